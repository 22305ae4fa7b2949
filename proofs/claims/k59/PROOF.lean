import PyProof.Rows.All
import Wide.All
import OpenK.AllK
import Wide.FinOn
import PyProof.EqAt
import PyProof.EqKinds
import PyProof.TupleCall
import HandS.ForMost
import HandS.ForExc
import HandS.Flow
import HandS.Wide
import HandS.TupAny
import HandS.AnyAll
import HandS.SetKeys
import HandS.Lambda
import HandS.IsInst
import HandS.Deep
import HandS.Text
import HandS.More
import HandS.SetFor
import HandS.GenList
import HandS.Defaults
import HandS.HeadHook4
import HandS.WordsExc
import HandS.ExcOwn
import HandS.SetBool
import HandS.Iter
import KE.GoesMore
import HandS.Sort
import KE.SortData
import PyProof.ReprRoads
import HandS.MakeKwOnly
import HandS.Dict
import HandS.DictComp
import HandS.Small
import HandS.Gcd
import HandS.SortKw
import KE.DataMinMax
import PyProof.Rows.SortWalkRead
import HandS.ExcIs
import HandS.HeadEnd
import PyProof.StrBlock2
import HandS.Style
import HandS.WideBits
import KE.SortKeyHeap
import KE.KLam
import KE.KSortKey
import HandS.Exc
import HandS.EndTab
import HandS.HeadWalk
import HandS.Rev
import KE.KDictZip
import KE.GoesZip
import HandS.Conv
import HandS.Zip
import HandS.List
import KE.KDictPairs
import PyProof.ListStr
import PyProof.ReprLen
import HandS.Strs
import PyProof.Rows.SortShellAny
import HandS.Nested
import HandS.Zip0
import HandS.TupMul
import PyProof.Rows.StrMeet
import PyProof.Rows.TmSorted
import KE.KStateDown
import HandS.Head0
import HandS.Head1
import HandS.Head2
import HandS.HeadHook1
import HandS.HeadHook2
import HandS.HeadHook3
import HandS.Head3
import PySem.Challenge.RW_slideback_k59_whole_rows_go_on_by_one_na
section
set_option Elab.async false
set_option linter.all false
set_option maxRecDepth 100000
namespace Sb
open PySem PySem.Spec PyProof.Rows L2

/-! ## data, store, outcome -/
inductive D where
  | non | bl (b : Bool) | int (i : Int) | str (x : Str) | tup (ds : List D) | loc (n : Nat) | scr (ns : List Int) | fl (ds : List D) | exn (c : Addr) | fd (ks : List Key) (ds : List D) | rgo (lo hi : Int) | ntu (ds : List D)
  deriving Inhabited
inductive Ob where
  | lst (ds : List D) | dct (kvs : List (Key × D)) | ks (s : Key → Bool) (n : Nat)
  deriving Inhabited
abbrev Sto := List Ob
structure Exn where
  cls : Addr
  fs : Option (List (Str × V))
inductive Rs (α : Type) where
  | ok (a : α) (S : Sto)
  | ex (x : Exn) (S : Sto)
abbrev M (α : Type) := Sto → Option (Rs α)
def M.ret {α : Type} (a : α) : M α := fun S => some (.ok a S)
def M.bnd {α β : Type} (m : M α) (k : α → M β) : M β := fun S => match m S with
  | none => none
  | some (.ex x S1) => some (.ex x S1)
  | some (.ok a S1) => k a S1

/-! ## how data lie in the heap -/
/-- the written part, the tables of code objects that may grow -/
structure Tb where
  P : Program
  w : World
  K : PySem.W.Frag
  tabs : List Addr
  lams : List (Addr × Str)
/-- the script, an object that stands -/
def Scr (T : Tb) (H : Hp) (a : Addr) (ns : List Int) : Prop := (∃ o, H a = some (.frz o (.lst (ns.map V.int)))) ∨
  ∃ (o : Obj) (its : Array Value) (n : Nat), T.K.lookup a = some o ∧ o.cls = .type "list" ∧ o.dict = none ∧ o.data = .seq its n ∧ its.size ≤ sizeLine ∧ Vals (ns.map V.int) its.toList
theorem Scr.seq {T : Tb} {H : Hp} {a : Addr} {ns : List Int} (h : Scr T H a ns) : SqL T.K H a (ns.map V.int) := by
  rcases h with ⟨o, h⟩ | h
  · exact .inl (.inr ⟨o, h⟩)
  · exact .inr h
mutual
def RD (T : Tb) (H : Hp) (φ : List Addr) : D → V → Prop
  | .non, v => v = .non
  | .bl b, v => v = .bl b
  | .int i, v => v = .int i
  | .str x, v => v = .str x
  | .tup ds, v => ∃ a vs, v = .ref a ∧ Rd H a (.tup vs) ∧ RDs T H φ ds vs
  | .loc n, v => ∃ a, v = .ref a ∧ φ[n]? = some a
  | .scr ns, v => ∃ a, v = .ref a ∧ Scr T H a ns
  | .fl ds, v => ∃ a vs, v = .ref a ∧ a ∉ φ ∧ H a = some (.lst vs) ∧ RDs T H φ ds vs
  | .exn c, v => ∃ (a : Addr) (oe : Obj) (vs : Array Value), v = .ref a ∧ H a = some (.frz oe (.own a)) ∧ oe.cls = .ref c ∧ oe.dict = none ∧ oe.data = .fields vs
  | .fd ks ds, v => ∃ a ws, v = .ref a ∧ a ∉ φ ∧ Rd H a (.dK ws) ∧ ws.map (·.1) = ks ∧ RDs T H φ ds (ws.map (·.2))
  | .rgo lo hi, v => ∃ (a : Addr) (o : Obj), v = .ref a ∧ H a = some (.frz o (.rng lo hi))
  | .ntu ds, v => ∃ (a : Addr) (vs : List V) (o : Obj), v = .ref a ∧ H a = some (.frz o (.tup vs)) ∧ o.dict = none ∧ RDs T H φ ds vs
def RDs (T : Tb) (H : Hp) (φ : List Addr) : List D → List V → Prop
  | [], vs => vs = []
  | d :: ds, vs => ∃ v r, vs = v :: r ∧ RD T H φ d v ∧ RDs T H φ ds r
end
def RO (T : Tb) (H : Hp) (φ : List Addr) (a : Addr) : Ob → Prop
  | .lst ds => ∃ vs, H a = some (.lst vs) ∧ RDs T H φ ds vs
  | .dct kvs => ∃ ws, H a = some (.dK ws) ∧ ws.map (·.1) = kvs.map (·.1) ∧ RDs T H φ (kvs.map (·.2)) (ws.map (·.2))
  | .ks s n => H a = some (SetK T.P T.w a s n)
/-- the table of a def whose lambda alone is in it: its code objects bear the name q -/
def LamT (H : Hp) (P : Addr) (q : Str) : Prop := ∃ ps : Array Value, H P = some (.tbl ps) ∧ TriplesOk ps.toList ∧
  ∀ (pos : Pos) (cv : Value), codeAmong pos ps.toList = some cv → ∃ (c : Addr) (oc : Obj) (vs : Array Value) (t : Tok), cv = .ref c ∧ H c = some (.frz oc (.own c)) ∧ oc.data = .fields vs ∧ vs[1]? = some (.str q t)
/-- the store lies in the heap at φ; the tables at T stand -/
structure Rel (T : Tb) (φ : List Addr) (S : Sto) (H : Hp) : Prop where
  len : φ.length = S.length
  nd : φ.Nodup
  obj : ∀ (n : Nat) o a, S[n]? = some o → φ[n]? = some a → RO T H φ a o
  tab : ∀ p ∈ T.tabs, GxR.TabG H p
  lam : ∀ p ∈ T.lams, p.1 ∉ T.tabs ∧ LamT H p.1 p.2
structure Ext (φ : List Addr) (H : Hp) (φ' : List Addr) (H' : Hp) : Prop where
  pre : ∃ ψ, φ' = φ ++ ψ
  tup : ∀ a vs, H a = some (.tup vs) → H' a = some (.tup vs)
  frz : ∀ a o u, H a = some (.frz o u) → H' a = some (.frz o u)
  lst : ∀ a vs, a ∉ φ → H a = some (.lst vs) → H' a = some (.lst vs)
  dic : ∀ a ws, a ∉ φ → H a = some (.dK ws) → Rd H' a (.dK ws)
  nw : ∀ a, a ∈ φ' → a ∈ φ ∨ H a = none
  ded : ∀ a, H' a = none → H a = none
theorem Ext.refl {φ : List Addr} {H : Hp} : Ext φ H φ H := ⟨⟨[], by simp⟩, fun _ _ h => h, fun _ _ _ h => h, fun _ _ _ h => h, fun _ _ _ h => .inl h, fun _ h => .inl h, fun _ h => h⟩
theorem Ext.out {φ : List Addr} {H : Hp} {φ' : List Addr} {H' : Hp} (e : Ext φ H φ' H') {a : Addr} {u : HO} (ha : a ∉ φ) (h : H a = some u) : a ∉ φ' := fun z => (e.nw a z).elim ha fun q => by rw [h] at q; cases q
theorem Ext.trans {φ φ1 φ2 : List Addr} {H H1 H2 : Hp} (a : Ext φ H φ1 H1) (b : Ext φ1 H1 φ2 H2) : Ext φ H φ2 H2 := by
  have a0 := a
  obtain ⟨⟨x, rfl⟩, t1, f1, l1, k1, n1, d1⟩ := a
  obtain ⟨⟨y, rfl⟩, t2, f2, l2, k2, n2, d2⟩ := b
  exact ⟨⟨x ++ y, by simp⟩, fun p vs h => t2 p vs (t1 p vs h), fun p o u h => f2 p o u (f1 p o u h), fun p vs ha h => l2 p vs (a0.out ha h) (l1 p vs ha h), fun p ws ha h => (k1 p ws ha h).elim (fun z => k2 p ws (fun y => (n1 p y).elim ha fun q => by rw [h] at q; cases q) z) fun ⟨o, z⟩ => .inr ⟨o, f2 _ _ _ z⟩,
    fun p h => (n2 p h).elim (n1 p) fun q => .inr (d1 p q), fun p h => d1 p (d2 p h)⟩
theorem Ext.get {φ φ1 : List Addr} {H H1 : Hp} (e : Ext φ H φ1 H1) {n : Nat} {a : Addr} (h : φ[n]? = some a) : φ1[n]? = some a := by
  obtain ⟨⟨x, rfl⟩, _⟩ := e
  rw [List.getElem?_append_left (List.getElem?_eq_some_iff.mp h).1]
  exact h
theorem Ext.rdT {φ φ1 : List Addr} {H H1 : Hp} (e : Ext φ H φ1 H1) {a : Addr} {vs : List V} (h : Rd H a (.tup vs)) : Rd H1 a (.tup vs) := h.elim (fun h => .inl (e.tup a vs h)) fun ⟨o, h⟩ => .inr ⟨o, e.frz _ _ _ h⟩
mutual
theorem RD.ext {T : Tb} {φ φ1 : List Addr} {H H1 : Hp} (e : Ext φ H φ1 H1) : ∀ (d : D) (v : V), RD T H φ d v → RD T H1 φ1 d v
  | .non, v, h => h
  | .bl b, v, h => h
  | .int i, v, h => h
  | .str x, v, h => h
  | .tup ds, v, h => by
    obtain ⟨a, vs, e1, e2, e3⟩ := h
    exact ⟨a, vs, e1, e.rdT e2, RDs.ext e ds vs e3⟩
  | .loc n, v, h => by
    obtain ⟨a, e1, e2⟩ := h
    exact ⟨a, e1, e.get e2⟩
  | .scr ns, v, h => by
    obtain ⟨a, e1, e2⟩ := h
    exact ⟨a, e1, e2.imp (fun ⟨o, z⟩ => ⟨o, e.frz _ _ _ z⟩) id⟩
  | .fl ds, v, h => by
    obtain ⟨a, vs, e1, e2, e3, e4⟩ := h
    exact ⟨a, vs, e1, e.out e2 e3, e.lst a vs e2 e3, RDs.ext e ds vs e4⟩
  | .exn c, v, h => by
    obtain ⟨a, oe, vs, e1, e2, e3⟩ := h
    exact ⟨a, oe, vs, e1, e.frz _ _ _ e2, e3⟩
  | .fd ks ds, v, h => by
    obtain ⟨a, ws, e1, e2, e3, e4, e5⟩ := h
    refine ⟨a, ws, e1, ?_, ?_, e4, RDs.ext e ds _ e5⟩
    · rcases e3 with e3 | ⟨o, e3⟩
      · exact e.out e2 e3
      · exact e.out e2 e3
    · rcases e3 with e3 | ⟨o, e3⟩
      · exact e.dic a ws e2 e3
      · exact .inr ⟨o, e.frz _ _ _ e3⟩
  | .rgo lo hi, v, h => by
    obtain ⟨a, o, e1, e2⟩ := h
    exact ⟨a, o, e1, e.frz _ _ _ e2⟩
  | .ntu ds, v, h => by
    obtain ⟨a, vs, o, e1, e2, e3, e4⟩ := h
    exact ⟨a, vs, o, e1, e.frz _ _ _ e2, e3, RDs.ext e ds vs e4⟩
theorem RDs.ext {T : Tb} {φ φ1 : List Addr} {H H1 : Hp} (e : Ext φ H φ1 H1) : ∀ (ds : List D) (vs : List V), RDs T H φ ds vs → RDs T H1 φ1 ds vs
  | [], vs, h => h
  | d :: ds, vs, h => by
    obtain ⟨v, r, e1, e2, e3⟩ := h
    exact ⟨v, r, e1, RD.ext e d v e2, RDs.ext e ds r e3⟩
end
section
variable {T : Tb} {H : Hp} {φ : List Addr}
theorem RDs.length : ∀ {ds : List D} {vs : List V}, RDs T H φ ds vs → ds.length = vs.length
  | [], _, h => by cases h; rfl
  | d :: ds, _, h => by
    obtain ⟨v, r, rfl, _, h3⟩ := h
    simp [RDs.length h3]
theorem RDs.get : ∀ {ds : List D} {vs : List V} {i : Nat} {d : D}, RDs T H φ ds vs → ds[i]? = some d → ∃ v, vs[i]? = some v ∧ RD T H φ d v
  | [], _, i, d, h, e => by simp at e
  | d0 :: ds, _, 0, d, h, e => by
    obtain ⟨v, r, rfl, h2, h3⟩ := h
    simp at e; subst e
    exact ⟨v, by simp, h2⟩
  | d0 :: ds, _, i + 1, d, h, e => by
    obtain ⟨v, r, rfl, h2, h3⟩ := h
    obtain ⟨w, e1, e2⟩ := RDs.get (i := i) (d := d) h3 (by simpa using e)
    exact ⟨w, by simpa using e1, e2⟩
theorem RDs.app : ∀ {ds es : List D} {vs ws : List V}, RDs T H φ ds vs → RDs T H φ es ws → RDs T H φ (ds ++ es) (vs ++ ws)
  | [], es, vs, ws, h, h2 => by cases h; exact h2
  | d :: ds, es, vs, ws, h, h2 => by
    obtain ⟨v, r, rfl, e2, e3⟩ := h
    exact ⟨v, r ++ ws, rfl, e2, RDs.app e3 h2⟩
theorem RDs.one {d : D} {v : V} (h : RD T H φ d v) : RDs T H φ [d] [v] := ⟨v, [], rfl, h, rfl⟩
theorem RDs.take : ∀ {ds : List D} {vs : List V} (n : Nat), RDs T H φ ds vs → RDs T H φ (ds.take n) (vs.take n)
  | _, _, 0, h => by simp; rfl
  | [], _, n + 1, h => by cases h; simp; rfl
  | d :: ds, _, n + 1, h => by
    obtain ⟨v, r, rfl, h2, h3⟩ := h
    exact ⟨v, r.take n, by simp, h2, RDs.take n h3⟩
theorem RDs.drop : ∀ {ds : List D} {vs : List V} (n : Nat), RDs T H φ ds vs → RDs T H φ (ds.drop n) (vs.drop n)
  | _, _, 0, h => h
  | [], _, n + 1, h => by cases h; simp; rfl
  | d :: ds, _, n + 1, h => by
    obtain ⟨v, r, rfl, h2, h3⟩ := h
    exact RDs.drop n h3
theorem RDs.set : ∀ {ds : List D} {vs : List V} {d : D} {v : V} (i : Nat), RDs T H φ ds vs → RD T H φ d v → RDs T H φ (ds.set i d) (vs.set i v)
  | [], _, _, _, _, h, _ => by cases h; simp; rfl
  | d0 :: ds, _, d, v, 0, h, hd => by
    obtain ⟨w, r, rfl, h2, h3⟩ := h
    exact ⟨v, r, rfl, hd, h3⟩
  | d0 :: ds, _, d, v, i + 1, h, hd => by
    obtain ⟨w, r, rfl, h2, h3⟩ := h
    exact ⟨w, r.set i v, rfl, h2, RDs.set i h3 hd⟩
theorem RDs.eraseIdx : ∀ {ds : List D} {vs : List V} (i : Nat), RDs T H φ ds vs → RDs T H φ (ds.eraseIdx i) (vs.eraseIdx i)
  | [], _, i, h => by cases h; simp; rfl
  | d0 :: ds, _, 0, h => by
    obtain ⟨w, r, rfl, h2, h3⟩ := h
    exact h3
  | d0 :: ds, _, i + 1, h => by
    obtain ⟨w, r, rfl, h2, h3⟩ := h
    exact ⟨w, r.eraseIdx i, rfl, h2, RDs.eraseIdx i h3⟩
end
theorem RO.ext {T : Tb} {φ φ1 : List Addr} {H H1 : Hp} (e : Ext φ H φ1 H1) {a : Addr} (k : H1 a = H a) : ∀ {o : Ob}, RO T H φ a o → RO T H1 φ1 a o
  | .lst ds, ⟨vs, h, r⟩ => ⟨vs, k.trans h, r.ext e _ _⟩
  | .dct kvs, ⟨ws, h, q, r⟩ => ⟨ws, k.trans h, q, r.ext e _ _⟩
  | .ks s n, h => k.trans h
theorem RO.some {T : Tb} {H : Hp} {φ : List Addr} {a : Addr} : ∀ {o : Ob}, RO T H φ a o → ∃ u, H a = some u ∧ (∀ vs, u ≠ .tup vs) ∧ (∀ ps, u ≠ .tbl ps) ∧ ∀ o w, u ≠ .frz o w
  | .lst ds, ⟨vs, h, _⟩ => ⟨_, h, (fun _ z => by cases z), (fun _ z => by cases z), fun _ _ z => by cases z⟩
  | .dct kvs, ⟨ws, h, _, _⟩ => ⟨_, h, (fun _ z => by cases z), (fun _ z => by cases z), fun _ _ z => by cases z⟩
  | .ks s n, h => ⟨_, h, (fun _ z => by cases z), (fun _ z => by cases z), fun _ _ z => by cases z⟩
theorem upd_dead {H : Hp} {p a : Addr} {u : HO} (h : upd H p u a = none) : H a = none := by
  by_cases q : a = p
  · subst q; rw [upd_same] at h; cases h
  · rw [upd_ne q] at h; exact h
theorem Ext.fresh {φ : List Addr} {H : Hp} {p : Addr} {u : HO} (n : H p = none) : Ext φ H φ (upd H p u) :=
  ⟨⟨[], by simp⟩, fun a vs h => by rw [upd_ne (ne_of_none h n)]; exact h, fun a o w h => by rw [upd_ne (ne_of_none h n)]; exact h, fun a vs _ h => by rw [upd_ne (ne_of_none h n)]; exact h, fun a vs _ h => .inl (by rw [upd_ne (ne_of_none h n)]; exact h), fun _ h => .inl h, fun _ h => upd_dead h⟩
theorem Ext.freshL {φ : List Addr} {H : Hp} {p : Addr} {u : HO} (n : H p = none) : Ext φ H (φ ++ [p]) (upd H p u) :=
  ⟨⟨[p], rfl⟩, fun a vs h => by rw [upd_ne (ne_of_none h n)]; exact h, fun a o w h => by rw [upd_ne (ne_of_none h n)]; exact h, fun a vs _ h => by rw [upd_ne (ne_of_none h n)]; exact h, fun a vs _ h => .inl (by rw [upd_ne (ne_of_none h n)]; exact h),
    fun a h => (List.mem_append.mp h).imp id fun q => by simp at q; subst q; exact n, fun _ h => upd_dead h⟩
theorem LamT.ext {φ φ1 : List Addr} {H H1 : Hp} (e : Ext φ H φ1 H1) {P : Addr} {q : Str} (t : LamT H P q) (k : ∀ ps, H P = some (.tbl ps) → H1 P = some (.tbl ps)) : LamT H1 P q := by
  obtain ⟨ps, h1, h2, h3⟩ := t
  refine ⟨ps, k ps h1, h2, fun pos cv hc => ?_⟩
  obtain ⟨c, oc, vs, t, e1, e2, e3⟩ := h3 pos cv hc
  exact ⟨c, oc, vs, t, e1, e.frz _ _ _ e2, e3⟩
/-- a new object that the store does not see -/
theorem Rel.garb {T : Tb} {φ : List Addr} {S : Sto} {H : Hp} {p : Addr} {u : HO} (R : Rel T φ S H) (n : H p = none) : Rel T φ S (upd H p u) ∧ Ext φ H φ (upd H p u) := by
  have e : Ext φ H φ (upd H p u) := Ext.fresh n
  refine ⟨⟨R.len, R.nd, fun i o a h1 h2 => ?_, fun q hq => ?_, fun q hq => ⟨(R.lam q hq).1, (R.lam q hq).2.ext e fun ps h => by rw [upd_ne (ne_of_none h n)]; exact h⟩⟩, e⟩
  · have r := R.obj i o a h1 h2
    obtain ⟨w, hw, _⟩ := r.some
    exact r.ext e (upd_ne (ne_of_none hw n))
  · obtain ⟨ps, h, t⟩ := R.tab q hq
    exact ⟨ps, by rw [upd_ne (ne_of_none h n)]; exact h, t⟩
theorem Rel.notin {T : Tb} {φ : List Addr} {S : Sto} {H : Hp} {p : Addr} (R : Rel T φ S H) (n : H p = none) : p ∉ φ := fun hm => by
  obtain ⟨i, hi, rfl⟩ := List.getElem_of_mem hm
  have hs : i < S.length := by rw [← R.len]; exact hi
  obtain ⟨w, hw, _⟩ := (R.obj i _ _ (List.getElem?_eq_getElem hs) (List.getElem?_eq_getElem hi)).some
  rw [n] at hw; cases hw
/-- a new object of the store -/
theorem Rel.new {T : Tb} {φ : List Addr} {S : Sto} {H : Hp} {p : Addr} {u : HO} {o : Ob} (R : Rel T φ S H) (n : H p = none) (ho : RO T (upd H p u) (φ ++ [p]) p o) : Rel T (φ ++ [p]) (S ++ [o]) (upd H p u) ∧ Ext φ H (φ ++ [p]) (upd H p u) := by
  have e : Ext φ H (φ ++ [p]) (upd H p u) := Ext.freshL n
  have hp : p ∉ φ := fun hm => by
    obtain ⟨i, hi, rfl⟩ := List.getElem_of_mem hm
    have hs : i < S.length := by rw [← R.len]; exact hi
    obtain ⟨w, hw, _⟩ := (R.obj i _ _ (List.getElem?_eq_getElem hs) (List.getElem?_eq_getElem hi)).some
    rw [n] at hw; cases hw
  refine ⟨⟨by simp [R.len], ?_, fun i q a h1 h2 => ?_, fun q hq => ?_, fun q hq => ⟨(R.lam q hq).1, (R.lam q hq).2.ext e fun ps h => by rw [upd_ne (ne_of_none h n)]; exact h⟩⟩, e⟩
  · rw [List.nodup_append]
    exact ⟨R.nd, by simp, fun a ha b hb => by simp at hb; subst hb; exact fun z => hp (z ▸ ha)⟩
  · by_cases hi : i < S.length
    · rw [List.getElem?_append_left hi] at h1
      rw [List.getElem?_append_left (by rw [R.len]; exact hi)] at h2
      have r := R.obj i q a h1 h2
      obtain ⟨w, hw, _⟩ := r.some
      exact r.ext e (upd_ne (ne_of_none hw n))
    · have hl : i < (S ++ [o]).length := (List.getElem?_eq_some_iff.mp h1).1
      simp at hl
      have : i = S.length := by omega
      subst this
      simp at h1
      rw [← R.len] at h2
      simp at h2
      subst h1 h2
      exact ho
  · obtain ⟨ps, h, t⟩ := R.tab q hq
    exact ⟨ps, by rw [upd_ne (ne_of_none h n)]; exact h, t⟩
/-- an object of the store is written -/
theorem Rel.put {T : Tb} {φ : List Addr} {S : Sto} {H : Hp} {i : Nat} {a : Addr} {u : HO} {o : Ob} (R : Rel T φ S H) (hi : φ[i]? = some a) (hs : i < S.length) (ho : RO T (upd H a u) φ a o) :
    Rel T φ (S.set i o) (upd H a u) ∧ Ext φ H φ (upd H a u) := by
  obtain ⟨z, hz, hz1, hz2, hz3⟩ := (R.obj i _ _ (List.getElem?_eq_getElem hs) hi).some
  have e : Ext φ H φ (upd H a u) := ⟨⟨[], by simp⟩, fun b vs h => by
    by_cases hb : b = a
    · subst hb; rw [hz] at h; cases h; exact absurd rfl (hz1 vs)
    · rw [upd_ne hb]; exact h, fun b o' w h => by
    by_cases hb : b = a
    · subst hb; rw [hz] at h; cases h; exact absurd rfl (hz3 _ _)
    · rw [upd_ne hb]; exact h, fun b vs nb h => by rw [upd_ne fun q : b = a => nb (q ▸ List.mem_of_getElem? hi)]; exact h, fun b vs nb h => .inl (by rw [upd_ne fun q : b = a => nb (q ▸ List.mem_of_getElem? hi)]; exact h), fun _ h => .inl h, fun _ h => upd_dead h⟩
  refine ⟨⟨by simp [R.len], R.nd, fun j q b h1 h2 => ?_, fun q hq => ?_, fun q hq => ⟨(R.lam q hq).1, (R.lam q hq).2.ext e fun ps h => by rw [upd_ne fun y : q.1 = a => by rw [y, hz] at h; cases h; exact hz2 ps rfl]; exact h⟩⟩, e⟩
  · by_cases hj : j = i
    · subst hj
      rw [List.getElem?_set_self hs] at h1
      cases h1
      rw [hi] at h2; cases h2
      exact ho
    · rw [List.getElem?_set_ne (Ne.symm hj)] at h1
      have r := R.obj j q b h1 h2
      refine r.ext e (upd_ne fun z => ?_)
      subst z
      obtain ⟨l1, e1⟩ := List.getElem?_eq_some_iff.mp hi
      obtain ⟨l2, e2⟩ := List.getElem?_eq_some_iff.mp h2
      exact hj ((List.getElem_inj R.nd).mp (e2.trans e1.symm))
  · obtain ⟨ps, h, t⟩ := R.tab q hq
    have : q ≠ a := fun z => by
      subst z
      rw [hz] at h; cases h
      exact hz2 ps rfl
    exact ⟨ps, by rw [upd_ne this]; exact h, t⟩

/-! ## slots -/
abbrev Sl := List (Option D)
structure RSl (T : Tb) (H : Hp) (φ : List Addr) (τ : Sl) (σ : L2.St) : Prop where
  len : τ.length = σ.length
  at_ : ∀ (i : Nat) (d : D), τ[i]? = some (some d) → ∃ v, σ[i]? = some (some v) ∧ RD T H φ d v
theorem RSl.ext {T : Tb} {φ φ1 : List Addr} {H H1 : Hp} (e : Ext φ H φ1 H1) {τ : Sl} {σ : L2.St} (r : RSl T H φ τ σ) : RSl T H1 φ1 τ σ := ⟨r.len, fun i d h => by
  obtain ⟨v, h1, h2⟩ := r.at_ i d h
  exact ⟨v, h1, h2.ext e _ _⟩⟩
theorem RSl.set {T : Tb} {φ : List Addr} {H : Hp} {τ : Sl} {σ : L2.St} {d : D} {v : V} (r : RSl T H φ τ σ) (i : Nat) (h : RD T H φ d v) : RSl T H φ (τ.set i (some d)) (σ.set i (some v)) := by
  refine ⟨by simp [r.len], fun j e hj => ?_⟩
  by_cases hij : i = j
  · subst hij
    have hl : i < τ.length := by
      have := (List.getElem?_eq_some_iff.mp hj).1
      simpa using this
    rw [List.getElem?_set_self hl] at hj
    cases hj
    exact ⟨v, by rw [List.getElem?_set_self (by rw [← r.len]; exact hl)], h⟩
  · rw [List.getElem?_set_ne hij] at hj
    obtain ⟨w, h1, h2⟩ := r.at_ j e hj
    exact ⟨w, by rw [List.getElem?_set_ne hij]; exact h1, h2⟩

/-! ## readings -/
def RX (x : Exn) (d : Option Addr) (H : Hp) : Prop := match x.fs with
  | none => d = none
  | some l => ∃ a, d = some a ∧ H a = some (.xd l)
/-- what is wanted of an outcome -/
def EndE (T : Tb) (φ : List Addr) (H : Hp) (o : Rs D) (Q : VK) (W : XK) : Prop := match o with
  | .ok d S' => ∀ φ' H' v, Ext φ H φ' H' → Rel T φ' S' H' → RD T H' φ' d v → Q v H'
  | .ex x S' => ∀ φ' H' d, Ext φ H φ' H' → Rel T φ' S' H' → RX x d H' → W (.ref x.cls) d H'
def EndEs (T : Tb) (φ : List Addr) (H : Hp) (o : Rs (List D)) (Q : List V → Hp → Prop) (W : XK) : Prop := match o with
  | .ok ds S' => ∀ φ' H' vs, Ext φ H φ' H' → Rel T φ' S' H' → RDs T H' φ' ds vs → Q vs H'
  | .ex x S' => ∀ φ' H' d, Ext φ H φ' H' → Rel T φ' S' H' → RX x d H' → W (.ref x.cls) d H'
def EndB (T : Tb) (φ : List Addr) (H : Hp) (o : Rs Bool) (Q : Bool → Hp → Prop) (W : XK) : Prop := match o with
  | .ok b S' => ∀ φ' H', Ext φ H φ' H' → Rel T φ' S' H' → Q b H'
  | .ex x S' => ∀ φ' H' d, Ext φ H φ' H' → Rel T φ' S' H' → RX x d H' → W (.ref x.cls) d H'
theorem EndE.mono {T : Tb} {φ φ1 : List Addr} {H H1 : Hp} {o : Rs D} {Q : VK} {W : XK} (h : EndE T φ H o Q W) (e : Ext φ H φ1 H1) : EndE T φ1 H1 o Q W := by
  cases o with
  | ok d S => exact fun φ' H' v e' => h φ' H' v (e.trans e')
  | ex x S => exact fun φ' H' v e' => h φ' H' v (e.trans e')
theorem EndEs.mono {T : Tb} {φ φ1 : List Addr} {H H1 : Hp} {o : Rs (List D)} {Q : List V → Hp → Prop} {W : XK} (h : EndEs T φ H o Q W) (e : Ext φ H φ1 H1) : EndEs T φ1 H1 o Q W := by
  cases o with
  | ok d S => exact fun φ' H' v e' => h φ' H' v (e.trans e')
  | ex x S => exact fun φ' H' v e' => h φ' H' v (e.trans e')
theorem EndB.mono {T : Tb} {φ φ1 : List Addr} {H H1 : Hp} {o : Rs Bool} {Q : Bool → Hp → Prop} {W : XK} (h : EndB T φ H o Q W) (e : Ext φ H φ1 H1) : EndB T φ1 H1 o Q W := by
  cases o with
  | ok d S => exact fun φ' H' e' => h φ' H' (e.trans e')
  | ex x S => exact fun φ' H' v e' => h φ' H' v (e.trans e')
abbrev EF := Sl → M D
abbrev AF := Sl → M (List D)
abbrev BF := Sl → M Bool
def rdE (T : Tb) (W : WX) (f : EF) : TE := fun σ H Q => ∃ φ S τ o, Rel T φ S H ∧ RSl T H φ τ σ ∧ f τ S = some o ∧ EndE T φ H o Q fun c d H' => W c d σ H'
def rdA (T : Tb) (W : WX) (f : AF) : TA := fun σ H Q => ∃ φ S τ o, Rel T φ S H ∧ RSl T H φ τ σ ∧ f τ S = some o ∧ EndEs T φ H o Q fun c d H' => W c d σ H'
def rdT (T : Tb) (W : WX) (f : BF) : TT := fun σ H Q => ∃ φ S τ o, Rel T φ S H ∧ RSl T H φ τ σ ∧ f τ S = some o ∧ EndB T φ H o Q fun c d H' => W c d σ H'
theorem _root_.L2.PE.imp {X : Cx} {e : Expr} {t t' : TE} (h : PE X e t) (i : ∀ σ H Q, t' σ H Q → t σ H Q) : PE X e t' := ⟨fun pins s σ H Q I hq => h.run pins s σ H Q I (i σ H Q hq)⟩
theorem _root_.L2.PT.imp {X : Cx} {e : Expr} {t t' : TT} (h : PT X e t) (i : ∀ σ H Q, t' σ H Q → t σ H Q) : PT X e t' := ⟨fun pins s σ H Q I hq => h.run pins s σ H Q I (i σ H Q hq)⟩
theorem _root_.L2.PW.imp {X : Cx} {e : Expr} {t t' : TT} (h : PW X e t) (i : ∀ σ H Q, t' σ H Q → t σ H Q) : PW X e t' := ⟨fun wh pins s σ H Q I hq => h.run wh pins s σ H Q I (i σ H Q hq)⟩
theorem _root_.L2.PA.imp {X : Cx} {e : List Expr} {t t' : TA} (h : PA X e t) (i : ∀ σ H Q, t' σ H Q → t σ H Q) : PA X e t' := ⟨fun p pins s σ H Q I hq => h.run p pins s σ H Q I (i σ H Q hq)⟩
theorem _root_.L2.PS.imp {X : Cx} {e : Stmt} {t t' : TS} (h : PS X e t) (i : ∀ D σ H, t' D σ H → t D σ H) : PS X e t' := ⟨fun pins s σ H D I hq => h.run pins s σ H D I (i D σ H hq)⟩
theorem _root_.L2.PSs.imp {X : Cx} {e : List Stmt} {t t' : TS} (h : PSs X e t) (i : ∀ D σ H, t' D σ H → t D σ H) : PSs X e t' := ⟨fun pins s σ H D I hq => h.run pins s σ H D I (i D σ H hq)⟩

/-- the state behind a part -/
def At (T : Tb) (φ : List Addr) (H : Hp) (d : D) (S : Sto) (v : V) (H1 : Hp) (φ1 : List Addr) : Prop := Ext φ H φ1 H1 ∧ Rel T φ1 S H1 ∧ RD T H1 φ1 d v
theorem rdE_bnd {T : Tb} {W : WX} {a : EF} {k : D → M D} {φ : List Addr} {S : Sto} {τ : Sl} {o : Rs D} {σ : L2.St} {H : Hp} {Q : VK} (R : Rel T φ S H) (r : RSl T H φ τ σ) (h : (a τ).bnd k S = some o) (q : EndE T φ H o Q fun c d H' => W c d σ H') {Q' : VK}
    (n : ∀ d S1 v H1 φ1, At T φ H d S1 v H1 φ1 → k d S1 = some o → EndE T φ1 H1 o Q (fun c d H' => W c d σ H') → Q' v H1) : rdE T W a σ H Q' := by
  unfold M.bnd at h
  cases e : a τ S with
  | none => rw [e] at h; cases h
  | some x =>
    rw [e] at h
    refine ⟨φ, S, τ, x, R, r, e, ?_⟩
    cases x with
    | ok d S1 => exact fun φ' H' v e1 e2 e3 => n d S1 v H' φ' ⟨e1, e2, e3⟩ h (q.mono e1)
    | ex x S1 =>
      cases h
      exact q
theorem rdA_bnd {T : Tb} {W : WX} {a : AF} {k : List D → M D} {φ : List Addr} {S : Sto} {τ : Sl} {o : Rs D} {σ : L2.St} {H : Hp} {Q : VK} (R : Rel T φ S H) (r : RSl T H φ τ σ) (h : (a τ).bnd k S = some o) (q : EndE T φ H o Q fun c d H' => W c d σ H') {Q' : List V → Hp → Prop}
    (n : ∀ d S1 v H1 φ1, Ext φ H φ1 H1 → Rel T φ1 S1 H1 → RDs T H1 φ1 d v → k d S1 = some o → EndE T φ1 H1 o Q (fun c d H' => W c d σ H') → Q' v H1) : rdA T W a σ H Q' := by
  unfold M.bnd at h
  cases e : a τ S with
  | none => rw [e] at h; cases h
  | some x =>
    rw [e] at h
    refine ⟨φ, S, τ, x, R, r, e, ?_⟩
    cases x with
    | ok d S1 => exact fun φ' H' v e1 e2 e3 => n d S1 v H' φ' e1 e2 e3 h (q.mono e1)
    | ex x S1 =>
      cases h
      exact q
end Sb
end
section
set_option Elab.async false
set_option linter.all false
set_option maxRecDepth 100000
namespace Sb
open PySem PySem.Spec PyProof.Rows L2
/-! ## what is told is kept apart from the store -/
mutual
/-- all places named lie below k -/
def bd (k : Nat) : D → Bool
  | .loc n => decide (n < k)
  | .tup ds => bds k ds
  | .fl ds => bds k ds
  | .fd _ ds => bds k ds
  | .ntu ds => bds k ds
  | _ => true
def bds (k : Nat) : List D → Bool
  | [] => true
  | d :: ds => bd k d && bds k ds
end
def bdO (k : Nat) : Ob → Bool
  | .lst ds => bds k ds
  | .dct kvs => bds k (kvs.map (·.2))
  | .ks _ _ => true
def wfk (k : Nat) (S : Sto) : Bool := S.all (bdO k)
/-- read out, lists and all -/
def rb (S : Sto) (k : Nat) : Nat → D → Option D
  | 0, d => if bd k d = true then some d else none
  | m + 1, d => if bd k d = true then some d else match d with
    | .tup ds => (ds.mapM (rb S k m)).map .tup
    | .fl ds => (ds.mapM (rb S k m)).map .fl
    | .fd ks ds => (ds.mapM (rb S k m)).map (.fd ks)
    | .ntu ds => (ds.mapM (rb S k m)).map .ntu
    | .loc n => match S[n]? with
      | some (.lst ds) => (ds.mapM (rb S k m)).map .fl
      | some (.dct kvs) => ((kvs.map (·.2)).mapM (rb S k m)).map (.fd (kvs.map (·.1)))
      | _ => none
    | _ => none
def fz (f : EF) : EF := fun τ S => match f τ S with
  | none => none
  | some (.ok d S1) => if wfk S.length (S1.take S.length) = true then (rb S1 S.length 8 d).map fun d' => .ok d' (S1.take S.length) else none
  | some (.ex x S1) => if wfk S.length (S1.take S.length) = true then some (.ex x (S1.take S.length)) else none
section
variable {T : Tb} {H : Hp} {φ ψ : List Addr}
mutual
theorem RD.cut : ∀ (d : D) (v : V), bd φ.length d = true → RD T H (φ ++ ψ) d v → RD T H φ d v
  | .non, v, _, h => h
  | .bl b, v, _, h => h
  | .int i, v, _, h => h
  | .str x, v, _, h => h
  | .tup ds, v, b, h => by
    obtain ⟨a, vs, e1, e2, e3⟩ := h
    exact ⟨a, vs, e1, e2, RDs.cut ds vs (by simpa [bd] using b) e3⟩
  | .loc n, v, b, h => by
    obtain ⟨a, e1, e2⟩ := h
    have hn : n < φ.length := by simpa [bd] using b
    exact ⟨a, e1, by rw [List.getElem?_append_left hn] at e2; exact e2⟩
  | .scr ns, v, _, h => h
  | .fl ds, v, b, h => by
    obtain ⟨a, vs, e1, e2, e3, e4⟩ := h
    exact ⟨a, vs, e1, fun z => e2 (List.mem_append_left _ z), e3, RDs.cut ds vs (by simpa [bd] using b) e4⟩
  | .exn c, v, _, h => h
  | .fd ks ds, v, b, h => by
    obtain ⟨a, ws, e1, e2, e3, e4, e5⟩ := h
    exact ⟨a, ws, e1, fun z => e2 (List.mem_append_left _ z), e3, e4, RDs.cut ds _ (by simpa [bd] using b) e5⟩
  | .rgo lo hi, v, _, h => h
  | .ntu ds, v, b, h => by
    obtain ⟨a, vs, o, e1, e2, e3, e4⟩ := h
    exact ⟨a, vs, o, e1, e2, e3, RDs.cut ds vs (by simpa [bd] using b) e4⟩
theorem RDs.cut : ∀ (ds : List D) (vs : List V), bds φ.length ds = true → RDs T H (φ ++ ψ) ds vs → RDs T H φ ds vs
  | [], vs, _, h => h
  | d :: ds, vs, b, h => by
    obtain ⟨v, r, e1, e2, e3⟩ := h
    simp only [bds, Bool.and_eq_true] at b
    exact ⟨v, r, e1, RD.cut d v b.1 e2, RDs.cut ds r b.2 e3⟩
end
theorem RO.cut {a : Addr} : ∀ {o : Ob}, bdO φ.length o = true → RO T H (φ ++ ψ) a o → RO T H φ a o
  | .lst ds, b, ⟨vs, h, r⟩ => ⟨vs, h, RDs.cut _ _ b r⟩
  | .dct kvs, b, ⟨ws, h, q, r⟩ => ⟨ws, h, q, RDs.cut _ _ b r⟩
  | .ks s n, _, h => h
theorem Rel.cut {S : Sto} (R : Rel T (φ ++ ψ) S H) (w : wfk φ.length (S.take φ.length) = true) : Rel T φ (S.take φ.length) H := by
  have l := R.len
  rw [List.length_append] at l
  refine ⟨by rw [List.length_take]; omega, (List.nodup_append.mp R.nd).1, fun n o a h1 h2 => ?_, R.tab, R.lam⟩
  have hn : n < φ.length := (List.getElem?_eq_some_iff.mp h2).1
  have hb : bdO φ.length o = true := List.all_eq_true.mp w o (List.mem_of_getElem? h1)
  rw [List.getElem?_take_of_lt hn] at h1
  exact RO.cut hb (R.obj n o a h1 (by rw [List.getElem?_append_left hn]; exact h2))
theorem rbs_ok {S : Sto} {m : Nat} {k : Nat} (ih : ∀ (d d' : D) (v : V), rb S k m d = some d' → RD T H (φ ++ ψ) d v → RD T H φ d' v) : ∀ (ds ds' : List D) (vs : List V), ds.mapM (rb S k m) = some ds' → RDs T H (φ ++ ψ) ds vs → RDs T H φ ds' vs
  | [], ds', vs, e, h => by
    simp at e; subst e
    exact h
  | d :: ds, ds', vs, e, h => by
    obtain ⟨v, r, rfl, h1, h2⟩ := h
    rw [List.mapM_cons] at e
    simp only [Option.bind_eq_bind, Option.bind_eq_some_iff, Option.pure_def, Option.some.injEq] at e
    obtain ⟨p, e1, qs, e2, rfl⟩ := e
    exact ⟨v, r, rfl, ih d p v e1 h1, rbs_ok ih ds qs r e2 h2⟩
theorem rb_ok {S : Sto} (R : Rel T (φ ++ ψ) S H) : ∀ (m : Nat) (d d' : D) (v : V), rb S φ.length m d = some d' → RD T H (φ ++ ψ) d v → RD T H φ d' v
  | 0, d, d', v, e, h => by
    simp only [rb] at e
    split at e
    · rename_i b; cases e; exact RD.cut d v b h
    · cases e
  | m + 1, d, d', v, e, h => by
    unfold rb at e
    split at e
    · rename_i b; cases e; exact RD.cut d v b h
    · rename_i nb
      cases d with
      | tup ds =>
        simp only [Option.map_eq_some_iff] at e
        obtain ⟨ds', e1, rfl⟩ := e
        obtain ⟨a, vs, h1, h2, h3⟩ := h
        exact ⟨a, vs, h1, h2, rbs_ok (rb_ok R m) ds ds' vs e1 h3⟩
      | fl ds =>
        simp only [Option.map_eq_some_iff] at e
        obtain ⟨ds', e1, rfl⟩ := e
        obtain ⟨a, vs, h1, h2, h3, h4⟩ := h
        exact ⟨a, vs, h1, fun z => h2 (List.mem_append_left _ z), h3, rbs_ok (rb_ok R m) ds ds' vs e1 h4⟩
      | fd ks ds =>
        simp only [Option.map_eq_some_iff] at e
        obtain ⟨ds', e1, rfl⟩ := e
        obtain ⟨a, ws, h1, h2, h3, h4, h5⟩ := h
        exact ⟨a, ws, h1, fun z => h2 (List.mem_append_left _ z), h3, h4, rbs_ok (rb_ok R m) ds ds' _ e1 h5⟩
      | ntu ds =>
        simp only [Option.map_eq_some_iff] at e
        obtain ⟨ds', e1, rfl⟩ := e
        obtain ⟨a, vs, o, h1, h2, h3, h4⟩ := h
        exact ⟨a, vs, o, h1, h2, h3, rbs_ok (rb_ok R m) ds ds' vs e1 h4⟩
      | loc n =>
        obtain ⟨a, h1, h2⟩ := h
        simp only at e
        split at e
        · rename_i ds q
          simp only [Option.map_eq_some_iff] at e
          obtain ⟨ds', e1, rfl⟩ := e
          obtain ⟨vs, h3, h4⟩ := R.obj n _ a q h2
          refine ⟨a, vs, h1, fun z => nb ?_, h3, rbs_ok (rb_ok R m) ds ds' vs e1 h4⟩
          obtain ⟨i, hi, ei⟩ := List.getElem_of_mem z
          obtain ⟨hn, en⟩ := List.getElem?_eq_some_iff.mp h2
          have hi' : i < (φ ++ ψ).length := by rw [List.length_append]; omega
          have ei' : (φ ++ ψ)[i] = a := by rw [List.getElem_append_left hi]; exact ei
          have : i = n := (List.getElem_inj R.nd).mp (ei'.trans en.symm)
          subst this
          simp only [bd, decide_eq_true_eq]; exact hi
        · rename_i kvs q
          simp only [Option.map_eq_some_iff] at e
          obtain ⟨ds', e1, rfl⟩ := e
          obtain ⟨ws, h3, hk, h4⟩ := R.obj n _ a q h2
          refine ⟨a, ws, h1, fun z => nb ?_, .inl h3, hk, rbs_ok (rb_ok R m) _ ds' _ e1 h4⟩
          obtain ⟨i, hi, ei⟩ := List.getElem_of_mem z
          obtain ⟨hn, en⟩ := List.getElem?_eq_some_iff.mp h2
          have hi' : i < (φ ++ ψ).length := by rw [List.length_append]; omega
          have ei' : (φ ++ ψ)[i] = a := by rw [List.getElem_append_left hi]; exact ei
          have : i = n := (List.getElem_inj R.nd).mp (ei'.trans en.symm)
          subst this
          simp only [bd, decide_eq_true_eq]; exact hi
        · cases e
      | _ => cases e
end
theorem Ext.cut {φ φ' : List Addr} {H H' : Hp} (e : Ext φ H φ' H') : Ext φ H φ H' := ⟨⟨[], by simp⟩, e.tup, e.frz, e.lst, e.dic, fun _ h => .inl h, e.ded⟩
theorem fz_imp {T : Tb} {W : WX} {f : EF} {σ : L2.St} {H : Hp} {Q : VK} (h : rdE T W (fz f) σ H Q) : rdE T W f σ H Q := by
  obtain ⟨φ, S, τ, o, R, r, e, q⟩ := h
  unfold fz at e
  cases e1 : f τ S with
  | none => rw [e1] at e; cases e
  | some x =>
    rw [e1] at e
    refine ⟨φ, S, τ, x, R, r, e1, ?_⟩
    cases x with
    | ok d S1 =>
      simp only at e
      split at e
      · rename_i w
        simp only [Option.map_eq_some_iff] at e
        obtain ⟨d', e2, rfl⟩ := e
        intro φ' H' v E R' r'
        have E' := E
        obtain ⟨⟨ψ, rfl⟩, _⟩ := E'
        rw [← R.len] at w e2
        have R2 := R'.cut w
        rw [R.len] at R2
        exact q φ H' v E.cut R2 (rb_ok R' 8 d d' v e2 r')
      · cases e
    | ex x S1 =>
      simp only at e
      split at e
      · rename_i w
        cases e
        intro φ' H' v E R' r'
        have E' := E
        obtain ⟨⟨ψ, rfl⟩, _⟩ := E'
        rw [← R.len] at w
        have R2 := R'.cut w
        rw [R.len] at R2
        exact q φ H' v E.cut R2 r'
      · cases e
theorem d_fz {X : Cx} {T : Tb} {W : WX} {e : Expr} {f : EF} (h : PE X e (rdE T W f)) : PE X e (rdE T W (fz f)) := h.imp fun _ _ _ h => fz_imp h
end Sb
end
section
set_option Elab.async false
set_option linter.all false
set_option maxRecDepth 100000
set_option maxHeartbeats 4000000
namespace Sb
open PySem PySem.Spec PyProof.Rows L2

abbrev G2 := D → D → Sto → Option (D × Sto)
abbrev GN := List D → Sto → Option (D × Sto)
def lft (o : Option (D × Sto)) : Option (Rs D) := match o with
  | some (d, S) => some (.ok d S)
  | none => none
/-- what a value's rule wants, by data -/
def Fin (T : Tb) (φ : List Addr) (H : Hp) (o : Option (D × Sto)) (Q : VK) : Prop := ∃ d S', o = some (d, S') ∧ ∀ φ' H' v, Ext φ H φ' H' → Rel T φ' S' H' → RD T H' φ' d v → Q v H'
theorem Fin.of {T : Tb} {φ : List Addr} {H : Hp} {o : Option (D × Sto)} {o' : Rs D} {Q : VK} {W : XK} (h : lft o = some o') (q : EndE T φ H o' Q W) : Fin T φ H o Q := by
  cases o with
  | none => cases h
  | some p =>
    obtain ⟨d, S⟩ := p
    cases h
    exact ⟨d, S, rfl, q⟩
theorem Fin.val {T : Tb} {φ : List Addr} {S : Sto} {H : Hp} {d : D} {v : V} {Q : VK} (f : Fin T φ H (some (d, S)) Q) (R : Rel T φ S H) (r : RD T H φ d v) : Q v H := by
  obtain ⟨d', S', e, q⟩ := f
  cases e
  exact q φ H v .refl R r
/-- a new tuple -/
theorem Fin.tup {T : Tb} {φ : List Addr} {S : Sto} {H : Hp} {ds : List D} {vs : List V} {Q : VK} (f : Fin T φ H (some (.tup ds, S)) Q) (R : Rel T φ S H) (r : RDs T H φ ds vs) (p : Addr) (hp : H p = none) : Q (.ref p) (upd H p (.tup vs)) := by
  obtain ⟨d', S', e, q⟩ := f
  cases e
  obtain ⟨R1, E1⟩ := R.garb (u := .tup vs) hp
  exact q φ _ _ E1 R1 ⟨p, vs, rfl, (.inl upd_same), r.ext E1 _ _⟩
/-- a new list -/
theorem Fin.lst {T : Tb} {φ : List Addr} {S : Sto} {H : Hp} {ds : List D} {vs : List V} {Q : VK} (f : Fin T φ H (some (.loc S.length, S ++ [.lst ds])) Q) (R : Rel T φ S H) (r : RDs T H φ ds vs) (p : Addr) (hp : H p = none) : Q (.ref p) (upd H p (.lst vs)) := by
  obtain ⟨d', S', e, q⟩ := f
  cases e
  obtain ⟨R1, E1⟩ := R.garb (u := .lst vs) hp
  have E2 : Ext φ H (φ ++ [p]) (upd H p (.lst vs)) := Ext.freshL hp
  obtain ⟨R2, _⟩ := R.new (o := .lst ds) hp ⟨vs, upd_same, r.ext E2 _ _⟩
  exact q _ _ _ E2 R2 ⟨p, rfl, by rw [← R.len]; simp⟩
theorem Fin.fl {T : Tb} {φ : List Addr} {S : Sto} {H : Hp} {ds : List D} {vs : List V} {Q : VK} (f : Fin T φ H (some (.fl ds, S)) Q) (R : Rel T φ S H) (r : RDs T H φ ds vs) (p : Addr) (hp : H p = none) : Q (.ref p) (upd H p (.lst vs)) := by
  obtain ⟨d', S', e, q⟩ := f
  cases e
  obtain ⟨R1, E1⟩ := R.garb (u := .lst vs) hp
  exact q φ _ _ E1 R1 ⟨p, vs, rfl, R.notin hp, upd_same, r.ext E1 _ _⟩
theorem Ext.put {φ : List Addr} {H : Hp} {a : Addr} {us : List V} {u : HO} (hm : a ∈ φ) (ha : H a = some (.lst us)) : Ext φ H φ (upd H a u) := ⟨⟨[], by simp⟩, fun b vs h => by
    by_cases hb : b = a
    · subst hb; rw [ha] at h; cases h
    · rw [upd_ne hb]; exact h, fun b o w h => by
    by_cases hb : b = a
    · subst hb; rw [ha] at h; cases h
    · rw [upd_ne hb]; exact h, fun b vs nb h => by rw [upd_ne fun q : b = a => nb (q ▸ hm)]; exact h, fun b vs nb h => .inl (by rw [upd_ne fun q : b = a => nb (q ▸ hm)]; exact h), fun _ h => .inl h, fun _ h => upd_dead h⟩
/-- a list written -/
theorem Fin.put {T : Tb} {φ : List Addr} {S : Sto} {H : Hp} {d : D} {n : Nat} {a : Addr} {ds : List D} {vs us : List V} {v : V} {Q : VK} (f : Fin T φ H (some (d, S.set n (.lst ds))) Q) (R : Rel T φ S H) (hn : φ[n]? = some a) (hs : n < S.length) (ha : H a = some (.lst us))
    (r : RDs T H φ ds vs) (rd : RD T H φ d v) : Q v (upd H a (.lst vs)) := by
  obtain ⟨d', S', e, q⟩ := f
  cases e
  have E1 := Ext.put (φ := φ) (u := .lst vs) (List.mem_of_getElem? hn) ha
  obtain ⟨R2, _⟩ := R.put (o := .lst ds) (u := .lst vs) hn hs ⟨vs, upd_same, r.ext E1 _ _⟩
  exact q _ _ _ E1 R2 (rd.ext E1 _ _)

/-! ## sequences -/
def seqD (S : Sto) : D → Option (List D)
  | .tup ds => some ds
  | .loc n => match S[n]? with
    | some (.lst ds) => some ds
    | _ => none
  | .scr ns => some (ns.map .int)
  | .fl ds => some ds
  | _ => none
theorem ints_rds {T : Tb} {H : Hp} {φ : List Addr} : ∀ ns : List Int, RDs T H φ (ns.map D.int) (ns.map V.int)
  | [] => rfl
  | n :: ns => ⟨.int n, ns.map V.int, rfl, rfl, ints_rds ns⟩
theorem seq_sq {T : Tb} {φ : List Addr} {S : Sto} {H : Hp} {d : D} {v : V} {ds : List D} (R : Rel T φ S H) (r : RD T H φ d v) (h : seqD S d = some ds) : ∃ a vs, v = .ref a ∧ (SqL T.K H a vs ∨ SqT T.K H a vs) ∧ RDs T H φ ds vs := by
  cases d with
  | tup es =>
    cases h
    obtain ⟨a, vs, e1, e2, e3⟩ := r
    exact ⟨a, vs, e1, .inr (.inl e2), e3⟩
  | loc n =>
    obtain ⟨a, e1, e2⟩ := r
    simp only [seqD] at h
    split at h
    · rename_i q
      cases h
      obtain ⟨vs, h1, h2⟩ := R.obj n _ a q e2
      exact ⟨a, vs, e1, .inl (.of h1), h2⟩
    · cases h
  | scr ns =>
    obtain ⟨a, e1, e2⟩ := r
    cases h
    exact ⟨a, _, e1, .inl e2.seq, ints_rds ns⟩
  | fl es =>
    cases h
    obtain ⟨a, vs, e1, e2, e3, e4⟩ := r
    exact ⟨a, vs, e1, .inl (.of e3), e4⟩
  | _ => cases h
def listD (S : Sto) : D → Option (List D)
  | .loc n => match S[n]? with
    | some (.lst ds) => some ds
    | _ => none
  | _ => none
theorem list_sq {T : Tb} {φ : List Addr} {S : Sto} {H : Hp} {d : D} {v : V} {ds : List D} (R : Rel T φ S H) (r : RD T H φ d v) (h : listD S d = some ds) : ∃ n a vs, d = .loc n ∧ v = .ref a ∧ S[n]? = some (.lst ds) ∧ φ[n]? = some a ∧ H a = some (.lst vs) ∧ RDs T H φ ds vs := by
  cases d with
  | loc n =>
    obtain ⟨a, e1, e2⟩ := r
    simp only [listD] at h
    split at h
    · rename_i q
      cases h
      obtain ⟨vs, h1, h2⟩ := R.obj n _ a q e2
      exact ⟨n, a, vs, rfl, e1, q, e2, h1, h2⟩
    · cases h
  | _ => cases h

/-! ## names, constants -/
section
variable {X : Cx} {T : Tb} {W : WX} {pos : Pos}
def eVar (i : Nat) : EF := fun τ S => match τ[i]? with
  | some (some d) => some (.ok d S)
  | _ => none
theorem d_var (i : Nat) {x : Str} (hN : X.N[i]? = some x := by rfl) (hv : Vis X.env.scope x := by first | exact Or.inl rfl | exact Or.inr (Or.inl rfl) | exact Or.inr (Or.inr rfl)) (hd : (x == ("__debug__" : Str)) = false := by decide)
    (hcd : (x == ("__classdict__" : Str)) = false := by decide) : PE X (.Name x pos) (rdE T W (eVar i)) :=
  (pe_var hN hv hd hcd).imp fun σ H Q h => by
    obtain ⟨φ, S, τ, o, R, r, e, q⟩ := h
    unfold eVar at e
    split at e
    · rename_i d hd
      cases e
      obtain ⟨v, h1, h2⟩ := r.at_ i d hd
      exact ⟨v, h1, q φ H v .refl R h2⟩
    · cases e
def eC (d : D) : EF := fun _ S => some (.ok d S)
theorem d_of_c {e : Expr} {v : V} (d : D) (h : PE X e (tC v)) (hd : ∀ H φ, RD T H φ d v) : PE X e (rdE T W (eC d)) := h.imp fun σ H Q h => by
  obtain ⟨φ, S, τ, o, R, r, e, q⟩ := h
  cases e
  exact q φ H v .refl R (hd H φ)
theorem d_int {i j} : PE X (.Constant (.int i) j pos) (rdE T W (eC (.int i))) := d_of_c _ pe_int fun _ _ => rfl
theorem d_bl {b j} : PE X (.Constant (.bool b) j pos) (rdE T W (eC (.bl b))) := d_of_c _ pe_bl fun _ _ => rfl
theorem d_str {x j} : PE X (.Constant (.str x) j pos) (rdE T W (eC (.str x))) := d_of_c _ pe_str fun _ _ => rfl
/-- a module's number -/
theorem d_num {x : Str} {i : Int} {t : Tok} (hg : Gl X x) (hm : X.mg x = some (.int i t)) (hd : (x == ("__debug__" : Str)) = false := by decide) : PE X (.Name x pos) (rdE T W (eC (.int i))) :=
  d_of_c _ (pe_glob (v := .int i) hg hm ⟨t, rfl⟩ hd) fun _ _ => rfl

/-! ## operators -/
variable {a b c : Expr} {fa fb fc : EF}
def eB (g : G2) (fa fb : EF) : EF := fun τ => (fa τ).bnd fun x => (fb τ).bnd fun y S => lft (g x y S)
def rG2 (T : Tb) (g : G2) : R2 := fun x y H Q => ∃ φ S d1 d2, Rel T φ S H ∧ RD T H φ d1 x ∧ RD T H φ d2 y ∧ Fin T φ H (g d1 d2 S) Q
theorem two_of {g : G2} {σ : L2.St} {H : Hp} {Q : VK} (h : rdE T W (eB g fa fb) σ H Q) : rdE T W fa σ H fun x H1 => rdE T W fb σ H1 fun y H2 => rG2 T g x y H2 Q := by
  obtain ⟨φ, S, τ, o, R, r, e, q⟩ := h
  refine rdE_bnd R r e q fun d1 S1 v1 H1 φ1 ⟨E1, R1, r1⟩ e1 q1 => ?_
  refine rdE_bnd R1 (r.ext E1) e1 q1 fun d2 S2 v2 H2 φ2 ⟨E2, R2, r2⟩ e2 q2 => ?_
  exact ⟨φ2, S2, d1, d2, R2, r1.ext E2 _ _, r2, Fin.of e2 q2⟩
theorem d_bin {op : Operator} {g : G2} (ho : OpR X (binaryOp op) (rG2 T g)) (ha : PE X a (rdE T W fa)) (hb : PE X b (rdE T W fb)) : PE X (.BinOp a op b pos) (rdE T W (eB g fa fb)) :=
  (pe_op ho ha hb).imp fun _ _ _ h => two_of h
theorem d_cmp {op : CmpOp} {g : G2} (ho : OpR X (compareOp op) (rG2 T g)) (ha : PE X a (rdE T W fa)) (hb : PE X b (rdE T W fb)) (hm : behindInMarks op b = false) : PE X (.Compare a [op] [b] pos) (rdE T W (eB g fa fb)) :=
  (pe_cmpR ho ha hb hm).imp fun _ _ _ h => two_of h
theorem OpR.imp {f : Value → Value → Sem Value} {r r' : R2} (h : OpR X f r) (i : ∀ x y H Q, r' x y H Q → r x y H Q) : OpR X f r' := fun pins s σ H x y v u Q I rx ry q => h pins s σ H x y v u Q I rx ry (i x y H Q q)

/-- the things of a list, kept or not -/
def flD (S : Sto) : D → Option (List D)
  | .fl ds => some ds
  | d => listD S d
theorem fl_sq {T : Tb} {φ : List Addr} {S : Sto} {H : Hp} {d : D} {v : V} {ds : List D} (R : Rel T φ S H) (r : RD T H φ d v) (h : flD S d = some ds) : ∃ a vs, v = .ref a ∧ H a = some (.lst vs) ∧ RDs T H φ ds vs := by
  unfold flD at h
  split at h
  · cases h
    obtain ⟨a, vs, e1, _, e2, e3⟩ := r
    exact ⟨a, vs, e1, e2, e3⟩
  · obtain ⟨n, a, vs, _, e1, _, _, e2, e3⟩ := list_sq R r h
    exact ⟨a, vs, e1, e2, e3⟩
def gAdd : G2 := fun x y S => match x, y with
  | .int i, .int j => some (.int (i + j), S)
  | .str s, .str t => if s.length + t.length ≤ sizeLine then some (.str (s ++ t), S) else none
  | .tup ds, .tup es => if ds.length + es.length ≤ sizeLine then some (.tup (ds ++ es), S) else none
  | .loc m, .loc n => match S[m]?, S[n]? with
    | some (.lst ds), some (.lst es) => if ds.length + es.length ≤ sizeLine then some (.loc S.length, S ++ [.lst (ds ++ es)]) else none
    | _, _ => none
  | .fl ds, y => (flD S y).bind fun es => if ds.length + es.length ≤ sizeLine then some (.fl (ds ++ es), S) else none
  | .loc m, .fl es => (flD S (.loc m)).bind fun ds => if ds.length + es.length ≤ sizeLine then some (.fl (ds ++ es), S) else none
  | _, _ => none
theorem o_add : OpR X (binaryOp .Add) (rG2 T gAdd) :=
  OpR.imp (OpR.or op_add (OpR.or op_add_str (OpR.or op_catA op_cat))) fun x y H Q h => by
    obtain ⟨φ, S, d1, d2, R, r1, r2, f⟩ := h
    cases d1 with
    | int i =>
      cases d2 with
      | int j => cases r1; cases r2; exact .inl ⟨i, j, rfl, rfl, f.val R rfl⟩
      | _ => obtain ⟨_, _, e, _⟩ := f; cases e
    | str s =>
      cases d2 with
      | str t =>
        cases r1; cases r2
        simp only [gAdd] at f
        split at f
        · rename_i hl
          exact .inr (.inl ⟨s, t, rfl, rfl, hl, f.val R rfl⟩)
        · obtain ⟨_, _, e, _⟩ := f; cases e
      | _ => obtain ⟨_, _, e, _⟩ := f; cases e
    | tup ds =>
      cases d2 with
      | tup es =>
        simp only [gAdd] at f
        split at f
        · rename_i hl
          have r1' := r1
          have r2' := r2
          obtain ⟨p, vs, rfl, h1, s1⟩ := r1
          obtain ⟨q, ws, rfl, h2, s2⟩ := r2
          have l1 := s1.length
          have l2 := s2.length
          refine .inr (.inr (.inl ⟨p, q, vs, ws, rfl, rfl, .inl h1, .inl h2, by omega, fun e => ?_, fun _ e => ?_, fun _ _ z hz => ?_⟩))
          · subst e
            have : ds = [] := List.eq_nil_of_length_eq_zero (by simpa using l1)
            subst this
            exact f.val R (by simpa using r2')
          · subst e
            have : es = [] := List.eq_nil_of_length_eq_zero (by simpa using l2)
            subst this
            exact f.val R (by simpa using r1')
          · exact f.tup R (s1.app s2) z hz
        · obtain ⟨_, _, e, _⟩ := f; cases e
      | _ => obtain ⟨_, _, e, _⟩ := f; cases e
    | loc m =>
      cases d2 with
      | loc n =>
        simp only [gAdd] at f
        split at f
        · rename_i ds es h1 h2
          split at f
          · rename_i hl
            obtain ⟨p, rfl, e1⟩ := r1
            obtain ⟨q, rfl, e2⟩ := r2
            obtain ⟨vs, k1, s1⟩ := R.obj m _ p h1 e1
            obtain ⟨ws, k2, s2⟩ := R.obj n _ q h2 e2
            have l1 := s1.length
            have l2 := s2.length
            exact .inr (.inr (.inr ⟨p, q, vs, ws, rfl, rfl, k1, k2, by omega, fun z hz => f.lst R (s1.app s2) z hz⟩))
          · obtain ⟨_, _, e, _⟩ := f; cases e
        · obtain ⟨_, _, e, _⟩ := f; cases e
      | fl es =>
        simp only [gAdd] at f
        cases e : flD S (.loc m) with
        | none => rw [e] at f; obtain ⟨_, _, e, _⟩ := f; cases e
        | some ds =>
          rw [e] at f
          simp only [Option.bind_some] at f
          split at f
          · obtain ⟨p, vs, rfl, k1, s1⟩ := fl_sq R r1 e
            obtain ⟨q, ws, rfl, _, k2, s2⟩ := r2
            have l1 := s1.length
            have l2 := s2.length
            exact .inr (.inr (.inr ⟨p, q, vs, ws, rfl, rfl, k1, k2, by omega, fun z hz => f.fl R (s1.app s2) z hz⟩))
          · obtain ⟨_, _, e, _⟩ := f; cases e
      | _ => obtain ⟨_, _, e, _⟩ := f; cases e
    | fl ds =>
      simp only [gAdd] at f
      cases e : flD S d2 with
      | none => rw [e] at f; obtain ⟨_, _, e, _⟩ := f; cases e
      | some es =>
        rw [e] at f
        simp only [Option.bind_some] at f
        split at f
        · obtain ⟨p, vs, rfl, _, k1, s1⟩ := r1
          obtain ⟨q, ws, rfl, k2, s2⟩ := fl_sq R r2 e
          have l1 := s1.length
          have l2 := s2.length
          exact .inr (.inr (.inr ⟨p, q, vs, ws, rfl, rfl, k1, k2, by omega, fun z hz => f.fl R (s1.app s2) z hz⟩))
        · obtain ⟨_, _, e, _⟩ := f; cases e
    | _ => obtain ⟨_, _, e, _⟩ := f; cases e
/-- two whole numbers under a condition -/
def gI (C : Int → Int → Bool) (g : Int → Int → D) : G2 := fun x y S => match x, y with
  | .int i, .int j => if C i j = true then some (g i j, S) else none
  | _, _ => none
theorem o_int {f : Value → Value → Sem Value} {C : Int → Int → Prop} {gv : Int → Int → V} (h : OpR X f (rI C gv)) {c : Int → Int → Bool} {g : Int → Int → D} (hc : ∀ i j, c i j = true → C i j) (hg : ∀ i j H φ, RD T H φ (g i j) (gv i j)) : OpR X f (rG2 T (gI c g)) :=
  OpR.imp h fun x y H Q h => by
    obtain ⟨φ, S, d1, d2, R, r1, r2, f⟩ := h
    cases d1 with
    | int i =>
      cases d2 with
      | int j =>
        cases r1; cases r2
        simp only [gI] at f
        split at f
        · rename_i k
          exact ⟨i, j, rfl, rfl, hc i j k, f.val R (hg _ _ _ _)⟩
        · obtain ⟨_, _, e, _⟩ := f; cases e
      | _ => obtain ⟨_, _, e, _⟩ := f; cases e
    | _ => obtain ⟨_, _, e, _⟩ := f; cases e
theorem o_int0 {f : Value → Value → Sem Value} {gv : Int → Int → V} (h : OpR X f (rI0 gv)) {g : Int → Int → D} (hg : ∀ i j H φ, RD T H φ (g i j) (gv i j)) : OpR X f (rG2 T (gI (fun _ _ => true) g)) :=
  OpR.imp h fun x y H Q h => by
    obtain ⟨φ, S, d1, d2, R, r1, r2, f⟩ := h
    cases d1 with
    | int i =>
      cases d2 with
      | int j => cases r1; cases r2; exact ⟨i, j, rfl, rfl, f.val R (hg _ _ _ _)⟩
      | _ => obtain ⟨_, _, e, _⟩ := f; cases e
    | _ => obtain ⟨_, _, e, _⟩ := f; cases e
def gSub : G2 := gI (fun _ _ => true) fun i j => .int (i - j)
theorem o_sub : OpR X (binaryOp .Sub) (rG2 T gSub) := o_int0 op_sub fun _ _ _ _ => rfl
def gMul : G2 := gI (fun i j => decide (i.natAbs.log2 + j.natAbs.log2 < 1000000)) fun i j => .int (i * j)
/-- a divisor above 0 -/
def gMod : G2 := gI (fun _ j => decide (0 < j)) fun i j => .int (i % j)
theorem o_mod : OpR X (binaryOp .Mod) (rG2 T gMod) := o_int op_mod (fun _ _ h => of_decide_eq_true h) fun _ _ _ _ => rfl
def gDiv : G2 := gI (fun _ j => decide (0 < j ∧ j.natAbs.log2 < 9000)) fun i j => .int (i / j)
theorem o_div : OpR X (binaryOp .FloorDiv) (rG2 T gDiv) := o_int op_fdivW (fun i j h => show 0 < j ∧ j.natAbs.log2 < 9000 from of_decide_eq_true h) fun _ _ _ _ => rfl
def gPow : G2 := gI (fun i j => decide (0 ≤ j ∧ j ≤ 1000000 ∧ i.natAbs < 2 ^ 64)) fun i j => .int (i ^ j.toNat)
theorem o_pow : OpR X (binaryOp .Pow) (rG2 T gPow) := o_int op_pow (fun i j h => show 0 ≤ j ∧ j ≤ 1000000 ∧ i.natAbs < 2 ^ 64 from of_decide_eq_true h) fun _ _ _ _ => rfl
def gLtI : G2 := gI (fun _ _ => true) fun i j => .bl (decide (i < j))
def gGtI : G2 := gI (fun _ _ => true) fun i j => .bl (decide (j < i))
def gGeI : G2 := gI (fun _ _ => true) fun i j => .bl (decide (j ≤ i))
theorem o_lt : OpR X (compareOp .Lt) (rG2 T gLtI) := o_int0 op_lt fun _ _ _ _ => rfl
theorem o_gt : OpR X (compareOp .Gt) (rG2 T gGtI) := o_int0 op_gt fun _ _ _ _ => rfl
theorem o_ge : OpR X (compareOp .GtE) (rG2 T gGeI) := o_int0 op_ge fun _ _ _ _ => rfl
/-- <= of whole numbers and of texts -/
def gLe : G2 := fun x y S => match x, y with
  | .int i, .int j => some (.bl (decide (i ≤ j)), S)
  | .str i, .str j => some (.bl (!decide (j.cps.toList < i.cps.toList)), S)
  | _, _ => none
theorem o_le : OpR X (compareOp .LtE) (rG2 T gLe) := OpR.imp (OpR.or op_le op_le_str) fun x y H Q h => by
  obtain ⟨φ, S, d1, d2, R, r1, r2, f⟩ := h
  cases d1 with
  | int i =>
    cases d2 with
    | int j => cases r1; cases r2; exact .inl ⟨i, j, rfl, rfl, f.val R rfl⟩
    | _ => obtain ⟨_, _, e, _⟩ := f; cases e
  | str i =>
    cases d2 with
    | str j => cases r1; cases r2; exact .inr ⟨i, j, rfl, rfl, f.val R rfl⟩
    | _ => obtain ⟨_, _, e, _⟩ := f; cases e
  | _ => obtain ⟨_, _, e, _⟩ := f; cases e

/-! ## equality of data -/
def toPy : Nat → Sto → D → Option PyData
  | 0, _, _ => none
  | n + 1, S, d => match d with
    | .non => some .none
    | .bl b => some (.bool b)
    | .int i => some (.int i)
    | .str x => some (.str x)
    | .tup ds => (ds.mapM (toPy n S)).map .tuple
    | .loc k => match S[k]? with
      | some (.lst ds) => (ds.mapM (toPy n S)).map .list
      | _ => none
    | .scr _ => none
    | .fl ds => (ds.mapM (toPy n S)).map .list
    | .exn _ => none
    | .fd _ _ => none
    | .rgo _ _ => none
    | .ntu _ => none
theorem all_dp {T : Tb} {K : PySem.W.Frag} {φ : List Addr} {S : Sto} {H : Hp} {n : Nat} (ih : ∀ d v p, RD T H φ d v → toPy n S d = some p → Dp K H v p) : ∀ (ds : List D) (vs : List V) (ps : List PyData), RDs T H φ ds vs → ds.mapM (toPy n S) = some ps → DpAll K H vs ps
  | [], vs, ps, h, e => by
    cases h
    simp at e
    subst e
    exact .nil
  | d :: ds, vs, ps, h, e => by
    obtain ⟨v, r, rfl, h1, h2⟩ := h
    rw [List.mapM_cons] at e
    simp only [Option.bind_eq_bind, Option.bind_eq_some_iff, Option.pure_def, Option.some.injEq] at e
    obtain ⟨p, e1, qs, e2, rfl⟩ := e
    exact .cons (ih d v p h1 e1) (all_dp ih ds r qs h2 e2)
theorem py_dp {K : PySem.W.Frag} {T : Tb} {φ : List Addr} {S : Sto} {H : Hp} (R : Rel T φ S H) : ∀ (n : Nat) (d : D) (v : V) (p : PyData), RD T H φ d v → toPy n S d = some p → Dp K H v p
  | 0, d, v, p, _, e => by cases e
  | n + 1, d, v, p, r, e => by
    cases d with
    | non => cases r; cases e; exact .non
    | bl b => cases r; cases e; exact .bl b
    | int i => cases r; cases e; exact .int i
    | str x => cases r; cases e; exact .str x
    | tup ds =>
      obtain ⟨a, vs, rfl, h1, h2⟩ := r
      simp only [toPy, Option.map_eq_some_iff] at e
      obtain ⟨ps, e1, rfl⟩ := e
      exact .tup (.inl h1) (all_dp (py_dp R n) ds vs ps h2 e1)
    | loc k =>
      simp only [toPy] at e
      obtain ⟨a, rfl, h1⟩ := r
      split at e
      · rename_i q
        simp only [Option.map_eq_some_iff] at e
        obtain ⟨ps, e1, rfl⟩ := e
        obtain ⟨vs, k1, k2⟩ := R.obj k _ a q h1
        exact .lst (.of k1) (all_dp (py_dp R n) _ vs ps k2 e1)
      · cases e
    | scr ns => cases e
    | exn c => cases e
    | fd ks ds => cases e
    | rgo lo hi => cases e
    | ntu ds => cases e
    | fl ds =>
      obtain ⟨a, vs, rfl, _, h1, h2⟩ := r
      simp only [toPy, Option.map_eq_some_iff] at e
      obtain ⟨ps, e1, rfl⟩ := e
      exact .lst (.of h1) (all_dp (py_dp R n) ds vs ps h2 e1)
def gEq (neg : Bool) : G2 := fun x y S => match toPy 8 S x, toPy 8 S y with
  | some d, some e => if SeqAt.shaped d = true ∧ SeqAt.shaped e = true then some (.bl (if neg then !PyData.eqv d e else PyData.eqv d e), S) else none
  | _, _ => none
theorem eq_of {K : PySem.W.Frag} {neg : Bool} {x y : V} {H : Hp} {Q : VK} (h : rG2 T (gEq neg) x y H Q) : ∃ d e, Dp K H x d ∧ Dp K H y e ∧ SeqAt.shaped d = true ∧ SeqAt.shaped e = true ∧ Q (.bl (if neg then !PyData.eqv d e else PyData.eqv d e)) H := by
  obtain ⟨φ, S, d1, d2, R, r1, r2, f⟩ := h
  simp only [gEq] at f
  split at f
  · rename_i d e h1 h2
    split at f
    · rename_i hs
      exact ⟨d, e, py_dp R _ _ _ _ r1 h1, py_dp R _ _ _ _ r2 h2, hs.1, hs.2, f.val R rfl⟩
    · obtain ⟨_, _, z, _⟩ := f; cases z
  · obtain ⟨_, _, z, _⟩ := f; cases z
theorem o_eq (hu : X.A.units + 64 < cLine) : OpR X (compareOp .Eq) (rG2 T (gEq false)) := OpR.imp (op_eqD hu) fun _ _ _ _ h => eq_of h
theorem o_ne (hu : X.A.units + 64 < cLine) : OpR X (compareOp .NotEq) (rG2 T (gEq true)) := OpR.imp (op_neD hu) fun _ _ _ _ h => eq_of h
/-- in, not in: over a list of data -/
def gIn (neg : Bool) : G2 := fun x y S => match toPy 8 S x, toPy 8 S y with
  | some d, some (.list es) => if SeqAt.shaped d = true ∧ SeqAt.shaped (.list es) = true then some (.bl (if neg then !es.any fun z => PyData.eqv z d else es.any fun z => PyData.eqv z d), S) else none
  | _, _ => none
theorem in_of {K : PySem.W.Frag} {neg : Bool} {x y : V} {H : Hp} {Q : VK} (h : rG2 T (gIn neg) x y H Q) : ∃ d es, Dp K H x d ∧ Dp K H y (.list es) ∧ SeqAt.shaped d = true ∧ SeqAt.shaped (.list es) = true ∧ Q (.bl (if neg then !es.any fun z => PyData.eqv z d else es.any fun z => PyData.eqv z d)) H := by
  obtain ⟨φ, S, d1, d2, R, r1, r2, f⟩ := h
  simp only [gIn] at f
  split at f
  · rename_i d e h1 h2
    split at f
    · rename_i hs
      exact ⟨d, e, py_dp R _ _ _ _ r1 h1, py_dp R _ _ _ _ r2 h2, hs.1, hs.2, f.val R rfl⟩
    · obtain ⟨_, _, z, _⟩ := f; cases z
  · obtain ⟨_, _, z, _⟩ := f; cases z
theorem o_in (hu : X.A.units + 65 < cLine) : OpR X (compareOp .In) (rG2 T (gIn false)) := OpR.imp (op_inD hu) fun _ _ _ _ h => in_of h
theorem o_notIn (hu : X.A.units + 65 < cLine) : OpR X (compareOp .NotIn) (rG2 T (gIn true)) := OpR.imp (op_notInD hu) fun _ _ _ _ h => in_of h
end
end Sb
end
section
set_option Elab.async false
set_option linter.all false
set_option maxRecDepth 100000
set_option maxHeartbeats 4000000
namespace Sb
open PySem PySem.Spec PyProof.Rows L2

section
variable {X : Cx} {T : Tb} {W : WX} {pos : Pos}
/-! ## arguments, displays -/
def aNil : AF := fun _ S => some (.ok [] S)
def aCons (f : EF) (r : AF) : AF := fun τ => (f τ).bnd fun d => (r τ).bnd fun ds S => some (.ok (d :: ds) S)
theorem rdA_bndA {a : AF} {k : List D → M (List D)} {φ : List Addr} {S : Sto} {τ : Sl} {o : Rs (List D)} {σ : L2.St} {H : Hp} {Q : List V → Hp → Prop} (R : Rel T φ S H) (r : RSl T H φ τ σ) (h : (a τ).bnd k S = some o) (q : EndEs T φ H o Q fun c d H' => W c d σ H') {Q' : List V → Hp → Prop}
    (n : ∀ d S1 v H1 φ1, Ext φ H φ1 H1 → Rel T φ1 S1 H1 → RDs T H1 φ1 d v → k d S1 = some o → EndEs T φ1 H1 o Q (fun c d H' => W c d σ H') → Q' v H1) : rdA T W a σ H Q' := by
  unfold M.bnd at h
  cases e : a τ S with
  | none => rw [e] at h; cases h
  | some x =>
    rw [e] at h
    refine ⟨φ, S, τ, x, R, r, e, ?_⟩
    cases x with
    | ok d S1 => exact fun φ' H' v e1 e2 e3 => n d S1 v H' φ' e1 e2 e3 h (q.mono e1)
    | ex x S1 => cases h; exact q
theorem rdE_bndA {a : EF} {k : D → M (List D)} {φ : List Addr} {S : Sto} {τ : Sl} {o : Rs (List D)} {σ : L2.St} {H : Hp} {Q : List V → Hp → Prop} (R : Rel T φ S H) (r : RSl T H φ τ σ) (h : (a τ).bnd k S = some o) (q : EndEs T φ H o Q fun c d H' => W c d σ H') {Q' : VK}
    (n : ∀ d S1 v H1 φ1, At T φ H d S1 v H1 φ1 → k d S1 = some o → EndEs T φ1 H1 o Q (fun c d H' => W c d σ H') → Q' v H1) : rdE T W a σ H Q' := by
  unfold M.bnd at h
  cases e : a τ S with
  | none => rw [e] at h; cases h
  | some x =>
    rw [e] at h
    refine ⟨φ, S, τ, x, R, r, e, ?_⟩
    cases x with
    | ok d S1 => exact fun φ' H' v e1 e2 e3 => n d S1 v H' φ' ⟨e1, e2, e3⟩ h (q.mono e1)
    | ex x S1 => cases h; exact q
variable {a b c e : Expr} {es : List Expr} {fa fb fc : EF} {ra : AF}
theorem d_nil : PA X [] (rdA T W aNil) := pa_nil.imp fun σ H Q h => by
  obtain ⟨φ, S, τ, o, R, r, e, q⟩ := h
  cases e
  exact q φ H [] .refl R rfl
theorem d_cons (ha : PE X e (rdE T W fa)) (hr : PA X es (rdA T W ra)) (hs : starEach (e :: es) X.env = (false, eval e X.env) :: starEach es X.env := by rfl) : PA X (e :: es) (rdA T W (aCons fa ra)) :=
  (pa_cons ha hr hs).imp fun σ H Q h => by
    obtain ⟨φ, S, τ, o, R, r, e, q⟩ := h
    refine rdE_bndA R r e q fun d1 S1 v1 H1 φ1 ⟨E1, R1, r1⟩ e1 q1 => ?_
    refine rdA_bndA R1 (r.ext E1) e1 q1 fun d2 S2 v2 H2 φ2 E2 R2 r2 e2 q2 => ?_
    cases e2
    exact q2 φ2 H2 _ .refl R2 ⟨v1, v2, rfl, r1.ext E2 _ _, r2⟩
def eTup (r : AF) : EF := fun τ => (r τ).bnd fun ds S => if ds.length ≤ sizeLine then some (.ok (.tup ds) S) else none
def eLst (r : AF) : EF := fun τ => (r τ).bnd fun ds S => if ds.length ≤ sizeLine then some (.ok (.loc S.length) (S ++ [.lst ds])) else none
theorem d_tup {x1} (h : PA X es (rdA T W ra)) : PE X (.Tuple es x1 pos) (rdE T W (eTup ra)) := (pe_tup h).imp fun σ H Q h => by
  obtain ⟨φ, S, τ, o, R, r, e, q⟩ := h
  refine rdA_bnd R r e q fun ds S1 vs H1 φ1 E1 R1 r1 e1 q1 => ?_
  split at e1
  · rename_i hl
    cases e1
    exact ⟨by rw [← r1.length]; exact hl, fun p hp => Fin.tup (S := S1) ⟨_, _, rfl, q1⟩ R1 r1 p hp⟩
  · cases e1
theorem d_lst (h : PA X es (rdA T W ra)) : PE X (.List es pos) (rdE T W (eLst ra)) := (pe_lst h).imp fun σ H Q h => by
  obtain ⟨φ, S, τ, o, R, r, e, q⟩ := h
  refine rdA_bnd R r e q fun ds S1 vs H1 φ1 E1 R1 r1 e1 q1 => ?_
  split at e1
  · rename_i hl
    cases e1
    exact ⟨by rw [← r1.length]; exact hl, fun p hp => Fin.lst (S := S1) ⟨_, _, rfl, q1⟩ R1 r1 p hp⟩
  · cases e1

/-! ## built-ins called -/
def rGN (T : Tb) (g : GN) : List V → Hp → VK → Prop := fun xs H Q => ∃ φ S ds, Rel T φ S H ∧ RDs T H φ ds xs ∧ Fin T φ H (g ds S) Q
def eCB (g : GN) (r : AF) : EF := fun τ => (r τ).bnd fun ds S => lft (g ds S)
theorem cb_of {g : GN} {σ : L2.St} {H : Hp} {Q : VK} (h : rdE T W (eCB g ra) σ H Q) : tCB (rGN T g) (rdA T W ra) σ H Q := by
  obtain ⟨φ, S, τ, o, R, r, e, q⟩ := h
  refine rdA_bnd R r e q fun ds S1 vs H1 φ1 E1 R1 r1 e1 q1 => ?_
  exact ⟨φ1, S1, ds, R1, r1, Fin.of e1 q1⟩
theorem d_callB {id : String} {x : Str} {p : Pos} {g : GN} (hc : CallR X (.builtin id) (rGN T g)) (hg : Gl X x) (hm : X.mg x = none) (hv : bootBuiltins x = some (.builtin id)) (ha : PA X (e :: es) (rdA T W ra)) (hn : x ≠ "__name__" := by decide) (hdb : (x == ("__debug__" : Str)) = false := by decide)
    (he : starEach (e :: es) X.env = (false, eval e X.env) :: starEach es X.env := by rfl) (hpl : (backTo pos (starEach es X.env)).any (·.1) = false := by rfl) : PE X (.Call (.Name x p) (e :: es) [] pos) (rdE T W (eCB g ra)) :=
  (pe_callB hc hg hm hv ha hn hdb he hpl).imp fun _ _ _ h => cb_of h
theorem d_callTy {n : String} {x : Str} {p : Pos} {g : GN} (hc : CallR X (.type n) (rGN T g)) (hg : Gl X x) (hm : X.mg x = none) (hv : bootBuiltins x = some (.type n)) (ha : PA X (e :: es) (rdA T W ra)) (hn : x ≠ "__name__" := by decide) (hdb : (x == ("__debug__" : Str)) = false := by decide)
    (he : starEach (e :: es) X.env = (false, eval e X.env) :: starEach es X.env := by rfl) (hpl : (backTo pos (starEach es X.env)).any (·.1) = false := by rfl) : PE X (.Call (.Name x p) (e :: es) [] pos) (rdE T W (eCB g ra)) :=
  (pe_callTy hc hg hm hv ha hn hdb he hpl).imp fun _ _ _ h => cb_of h
theorem CallR.imp {f : Value} {r r' : List V → Hp → VK → Prop} (h : CallR X f r) (i : ∀ xs H Q, r' xs H Q → r xs H Q) : CallR X f r' := fun pins s σ H xs us Q I rx q => h pins s σ H xs us Q I rx (i xs H Q q)
theorem MtR.imp {f : String} {r r' : V → List V → Hp → VK → Prop} (h : MtR X f r) (i : ∀ x xs H Q, r' x xs H Q → r x xs H Q) : MtR X f r' := fun pins s σ H x xs v us Q I rx rxs q => h pins s σ H x xs v us Q I rx rxs (i x xs H Q q)
theorem IxR.imp {r r' : R2} (h : IxR X r) (i : ∀ x y H Q, r' x y H Q → r x y H Q) : IxR X r' := fun va sl pins s σ H x y v u Q I rx ry q => h va sl pins s σ H x y v u Q I rx ry (i x y H Q q)
/-- one argument -/
theorem one_of {g : D → Sto → Option (D × Sto)} {xs : List V} {H : Hp} {Q : VK} (h : rGN T (fun ds S => match ds with | [d] => g d S | _ => none) xs H Q) : ∃ φ S d v, xs = [v] ∧ Rel T φ S H ∧ RD T H φ d v ∧ Fin T φ H (g d S) Q := by
  obtain ⟨φ, S, ds, R, r, f⟩ := h
  match ds, r, f with
  | [], _, f => obtain ⟨_, _, z, _⟩ := f; cases z
  | [d], r, f =>
    obtain ⟨v, l, rfl, r1, r2⟩ := r
    cases r2
    exact ⟨φ, S, d, v, rfl, R, r1, f⟩
  | _ :: _ :: _, _, f => obtain ⟨_, _, z, _⟩ := f; cases z
theorem two_args {g : D → D → Sto → Option (D × Sto)} {xs : List V} {H : Hp} {Q : VK} (h : rGN T (fun ds S => match ds with | [d, e] => g d e S | _ => none) xs H Q) : ∃ φ S d e v w, xs = [v, w] ∧ Rel T φ S H ∧ RD T H φ d v ∧ RD T H φ e w ∧ Fin T φ H (g d e S) Q := by
  obtain ⟨φ, S, ds, R, r, f⟩ := h
  match ds, r, f with
  | [], _, f => obtain ⟨_, _, z, _⟩ := f; cases z
  | [d], _, f => obtain ⟨_, _, z, _⟩ := f; cases z
  | [d, e], r, f =>
    obtain ⟨v, l, rfl, r1, w, l2, rfl, r2, r3⟩ := r
    cases r3
    exact ⟨φ, S, d, e, v, w, rfl, R, r1, r2, f⟩
  | _ :: _ :: _ :: _, _, f => obtain ⟨_, _, z, _⟩ := f; cases z
def gLen : GN := fun ds S => match ds with
  | [d] => (fun d S => match d with
    | .str x => if x.length ≤ sizeLine then some (.int x.length, S) else none
    | d => (seqD S d).bind fun es => some (.int es.length, S)) d S
  | _ => none
theorem c_len (hK : T.K = X.K) : CallR X (.builtin "len") (rGN T gLen) := CallR.imp call_len fun xs H Q h => by
  obtain ⟨φ, S, d, v, rfl, R, r, f⟩ := one_of h
  refine ⟨v, ?_⟩
  split at f
  · rename_i x
    cases r
    split at f
    · rename_i hl
      exact ⟨x.length, rfl, ⟨hl, rfl⟩, f.val R rfl⟩
    · obtain ⟨_, _, z, _⟩ := f; cases z
  · cases e : seqD S d with
    | none => rw [e] at f; obtain ⟨_, _, z, _⟩ := f; cases z
    | some es =>
      rw [e] at f
      obtain ⟨p, vs, rfl, k, s⟩ := seq_sq R r e
      rw [hK] at k
      have l := s.length
      refine ⟨vs.length, rfl, ?_, f.val R (by rw [← l]; rfl)⟩
      rcases k with k | k
      · exact .inl ⟨vs, k, rfl⟩
      · exact .inr ⟨vs, k, rfl⟩
def gAbs : GN := fun ds S => match ds with
  | [d] => (fun d S => match d with | .int i => some (.int (if i < 0 then -i else i), S) | _ => none) d S
  | _ => none
/-- int(n), int(truth) -/
def gInt : GN := fun ds S => match ds with
  | [d] => (fun d S => match d with | .int i => some (.int i, S) | .bl b => some (.int (if b then 1 else 0), S) | _ => none) d S
  | _ => none
def gMax2 : GN := fun ds S => match ds with
  | [d, e] => (fun d e S => match d, e with | .int i, .int j => some (.int (if j > i then j else i), S) | _, _ => none) d e S
  | _ => none
def gMin2 : GN := fun ds S => match ds with
  | [d, e] => (fun d e S => match d, e with | .int i, .int j => some (.int (if j < i then j else i), S) | _, _ => none) d e S
  | _ => none
theorem c_min2 (hc : X.calm = true) : CallR X (.builtin "min") (rGN T gMin2) := CallR.imp (call_min2 hc) fun xs H Q h => by
  obtain ⟨φ, S, d, e, v, w, rfl, R, r, r2, f⟩ := two_args h
  split at f
  · cases r; cases r2; exact ⟨_, _, rfl, f.val R rfl⟩
  · obtain ⟨_, _, z, _⟩ := f; cases z
def gTuple : GN := fun ds S => match ds with
  | [d] => (fun d S => (seqD S d).bind fun es => some (.tup es, S)) d S
  | _ => none
theorem c_tuple (hK : T.K = X.K) : CallR X (.type "tuple") (rGN T gTuple) := CallR.imp call_tuple_of fun xs H Q h => by
  obtain ⟨φ, S, d, v, rfl, R, r, f⟩ := one_of h
  cases d with
  | tup ds =>
    have r' := r
    obtain ⟨a, vs, rfl, k, s⟩ := r
    exact ⟨a, vs, rfl, .inr ⟨.inl k, f.val R r'⟩⟩
  | loc n =>
    cases e : seqD S (.loc n) with
    | none => rw [e] at f; obtain ⟨_, _, z, _⟩ := f; cases z
    | some es =>
      rw [e] at f
      simp only [seqD] at e
      obtain ⟨a, rfl, h1⟩ := r
      split at e
      · rename_i q
        cases e
        obtain ⟨vs, k1, k2⟩ := R.obj n _ a q h1
        exact ⟨a, vs, rfl, .inl ⟨.of k1, fun p hp => f.tup R k2 p hp⟩⟩
      · cases e
  | scr ns =>
    obtain ⟨a, rfl, h1⟩ := r
    have q := h1.seq
    rw [hK] at q
    exact ⟨a, _, rfl, .inl ⟨q, fun p hp => f.tup R (ints_rds ns) p hp⟩⟩
  | fl es =>
    obtain ⟨a, vs, rfl, _, k, s⟩ := r
    exact ⟨a, vs, rfl, .inl ⟨.of k, fun p hp => f.tup R s p hp⟩⟩
  | _ => obtain ⟨_, _, z, _⟩ := f; cases z
def gList : GN := fun ds S => match ds with
  | [d] => (fun d S => (seqD S d).bind fun es => some (.loc S.length, S ++ [.lst es])) d S
  | _ => none
theorem c_list (hK : T.K = X.K) : CallR X (.type "list") (rGN T gList) := CallR.imp call_list_of fun xs H Q h => by
  obtain ⟨φ, S, d, v, rfl, R, r, f⟩ := one_of h
  cases e : seqD S d with
  | none => rw [e] at f; obtain ⟨_, _, z, _⟩ := f; cases z
  | some es =>
    rw [e] at f
    obtain ⟨a, vs, rfl, k, s⟩ := seq_sq R r e
    rw [hK] at k
    exact ⟨a, vs, rfl, k, fun l hl => f.lst R s l hl⟩
def intsD : List D → Option (List Int)
  | [] => some []
  | .int i :: r => (intsD r).map (i :: ·)
  | _ => none
def maxI : List Int → Int
  | [] => 0
  | [i] => i
  | i :: r => max i (maxI r)
/-- max of a list of whole numbers -/
def gMax1 : GN := fun ds S => match ds with
  | [d] => (fun d S => match d with
    | .loc n => (seqD S (.loc n)).bind fun es => (intsD es).bind fun ns => if ns = [] then none else some (.int (maxI ns), S)
    | .fl es => (intsD es).bind fun ns => if ns = [] then none else some (.int (maxI ns), S)
    | _ => none) d S
  | _ => none
/-- of two numbers, or of a list -/
def gMax : GN := fun ds S => match ds with
  | [d] => gMax1 [d] S
  | ds => gMax2 ds S
/-! ## subscripts, slices -/
def gIx : G2 := fun x y S => match y with
  | .int i => match x with
    | .str z => if z.length ≤ sizeLine then (atI z.cps.toList i).bind fun c => some (.str ⟨#[c]⟩, S) else none
    | x => (seqD S x).bind fun ds => (atI ds i).bind fun d => some (d, S)
  | _ => none
theorem atI_rds {H : Hp} {φ : List Addr} {ds : List D} {vs : List V} {i : Int} {d : D} (r : RDs T H φ ds vs) (h : atI ds i = some d) : ∃ v, atI vs i = some v ∧ RD T H φ d v := by
  unfold atI at h ⊢
  rw [← r.length]
  cases e : ixN ds.length i with
  | none => rw [e] at h; cases h
  | some j =>
    rw [e] at h
    exact r.get (i := j) h
theorem x_ix (hK : T.K = X.K) : IxR X (rG2 T gIx) := IxR.imp ix_seq fun x y H Q h => by
  obtain ⟨φ, S, d1, d2, R, r1, r2, f⟩ := h
  simp only [gIx] at f
  split at f
  · rename_i i
    cases r2
    split at f
    · rename_i z
      cases r1
      split at f
      · rename_i hl
        cases e : atI z.cps.toList i with
        | none => rw [e] at f; obtain ⟨_, _, z, _⟩ := f; cases z
        | some c => rw [e] at f; exact .inr (.inr ⟨z, i, c, rfl, rfl, hl, e, f.val R rfl⟩)
      · obtain ⟨_, _, z, _⟩ := f; cases z
    · cases e : seqD S d1 with
      | none => rw [e] at f; obtain ⟨_, _, z, _⟩ := f; cases z
      | some ds =>
        rw [e] at f
        simp only [Option.bind_some] at f
        cases e2 : atI ds i with
        | none => rw [e2] at f; obtain ⟨_, _, z, _⟩ := f; cases z
        | some d =>
          rw [e2] at f
          obtain ⟨a, vs, rfl, k, s⟩ := seq_sq R r1 e
          rw [hK] at k
          obtain ⟨v, h1, h2⟩ := atI_rds s e2
          rcases k with k | k
          · exact .inl ⟨a, vs, i, v, rfl, rfl, k, h1, f.val R h2⟩
          · exact .inr (.inl ⟨a, vs, i, v, rfl, rfl, k, h1, f.val R h2⟩)
  · obtain ⟨_, _, z, _⟩ := f; cases z
theorem d_ix {g : G2} (hr : IxR X (rG2 T g)) (ha : PE X a (rdE T W fa)) (hb : PE X b (rdE T W fb)) (hs : PlainIx b := by exact fun _ _ => rfl) : PE X (.Subscript a b pos) (rdE T W (eB g fa fb)) :=
  (pe_ix hr ha hb hs).imp fun _ _ _ h => two_of h
/-- an end of a slice -/
abbrev OF := Sl → M (Option Int)
def EndO (T : Tb) (φ : List Addr) (H : Hp) (o : Rs (Option Int)) (Q : Option Int → Hp → Prop) (W : XK) : Prop := match o with
  | .ok b S' => ∀ φ' H', Ext φ H φ' H' → Rel T φ' S' H' → Q b H'
  | .ex x S' => ∀ φ' H' d, Ext φ H φ' H' → Rel T φ' S' H' → RX x d H' → W (.ref x.cls) d H'
def rdO (T : Tb) (W : WX) (f : OF) : TO := fun σ H Q => ∃ φ S τ o, Rel T φ S H ∧ RSl T H φ τ σ ∧ f τ S = some o ∧ EndO T φ H o Q fun c d H' => W c d σ H'
theorem _root_.L2.PO.imp {e : Option Expr} {t t' : TO} (h : PO X e t) (i : ∀ σ H Q, t' σ H Q → t σ H Q) : PO X e t' := ⟨fun pins s σ H Q I hq => h.run pins s σ H Q I (i σ H Q hq)⟩
def oNo : OF := fun _ S => some (.ok none S)
def oSo (f : EF) : OF := fun τ => (f τ).bnd fun d S => match d with | .int i => some (.ok (some i) S) | _ => none
theorem d_noPart : PO X none (rdO T W oNo) := po_none.imp fun σ H Q h => by
  obtain ⟨φ, S, τ, o, R, r, e, q⟩ := h
  cases e
  exact q φ H .refl R
theorem d_part (h : PE X e (rdE T W fa)) : PO X (some e) (rdO T W (oSo fa)) := (po_some h).imp fun σ H Q h => by
  obtain ⟨φ, S, τ, o, R, r, e, q⟩ := h
  unfold oSo M.bnd at e
  cases e1 : fa τ S with
  | none => rw [e1] at e; cases e
  | some x =>
    rw [e1] at e
    refine ⟨φ, S, τ, x, R, r, e1, ?_⟩
    cases x with
    | ex x S1 => cases e; exact q
    | ok d S1 =>
      simp only at e
      split at e
      · cases e
        rename_i i
        exact fun φ' H' v E R' r' => by cases r'; exact ⟨i, rfl, q φ' H' E R'⟩
      · cases e
def cutD (ds : List D) (lo hi : Option Int) : List D := (ds.drop (HT.sIx ds.length 0 lo)).take (HT.sIx ds.length ds.length hi - HT.sIx ds.length 0 lo)
theorem cut_rds {H : Hp} {φ : List Addr} {ds : List D} {vs : List V} (r : RDs T H φ ds vs) (lo hi : Option Int) : RDs T H φ (cutD ds lo hi) (cutV vs lo hi) := by
  unfold cutD cutV
  rw [r.length]
  exact (r.drop _).take _
abbrev GS := D → Option Int → Option Int → Sto → Option (D × Sto)
def gSl : GS := fun x lo hi S => match x with
  | .tup ds => some (.tup (cutD ds lo hi), S)
  | .fl ds => some (.fl (cutD ds lo hi), S)
  | x => (seqD S x).bind fun ds => some (.loc S.length, S ++ [.lst (cutD ds lo hi)])
def rGS (T : Tb) (g : GS) : V → Option Int → Option Int → Hp → VK → Prop := fun x lo hi H Q => ∃ φ S d, Rel T φ S H ∧ RD T H φ d x ∧ Fin T φ H (g d lo hi S) Q
theorem SlR.imp {r r' : V → Option Int → Option Int → Hp → VK → Prop} (h : SlR X r) (i : ∀ x lo hi H Q, r' x lo hi H Q → r x lo hi H Q) : SlR X r' := by
  intro pins s σ H x v vl vu lo hi sl Q I rx hs pl pu q
  exact h pins s σ H x v vl vu lo hi sl Q I rx hs pl pu (i x lo hi H Q q)
theorem cutD_whole {ds : List D} {lo hi : Option Int} (h : HT.sIx ds.length 0 lo = 0 ∧ HT.sIx ds.length ds.length hi = ds.length) : cutD ds lo hi = ds := by
  unfold cutD
  rw [h.1, h.2]; simp
theorem s_sl (hK : T.K = X.K) : SlR X (rGS T gSl) := SlR.imp (SlR.or sl_list sl_tupA) fun x lo hi H Q h => by
  obtain ⟨φ, S, d, R, r, f⟩ := h
  simp only [gSl] at f
  split at f
  · rename_i ds
    have r' := r
    obtain ⟨a, vs, rfl, k, s⟩ := r
    have l := s.length
    refine .inr ⟨a, vs, rfl, .inl k, fun hw => ?_, fun hw p hp => f.tup R (cut_rds s lo hi) p hp⟩
    rw [← l] at hw
    rw [cutD_whole hw] at f
    exact f.val R r'
  · rename_i ds
    obtain ⟨a, vs, rfl, _, k, s⟩ := r
    exact .inl ⟨a, vs, rfl, .of k, fun p hp => f.fl R (cut_rds s lo hi) p hp⟩
  · rename_i hn hn2
    cases e : seqD S d with
    | none => rw [e] at f; obtain ⟨_, _, z, _⟩ := f; cases z
    | some ds =>
      rw [e] at f
      cases d with
      | loc n =>
        obtain ⟨a, rfl, h1⟩ := r
        simp only [seqD] at e
        split at e
        · rename_i q
          cases e
          obtain ⟨vs, k1, k2⟩ := R.obj n _ a q h1
          exact .inl ⟨a, vs, rfl, .of k1, fun p hp => f.lst R (cut_rds k2 lo hi) p hp⟩
        · cases e
      | tup ds => exact absurd rfl (hn ds)
      | fl ds => exact absurd rfl (hn2 ds)
      | scr ns =>
        cases e
        obtain ⟨a, rfl, h1⟩ := r
        have q := h1.seq
        rw [hK] at q
        exact .inl ⟨a, _, rfl, q, fun p hp => f.lst R (cut_rds (ints_rds ns) lo hi) p hp⟩
      | _ => cases e
def eSl (fe : EF) (lo hi : OF) : EF := fun τ => (fe τ).bnd fun x => (lo τ).bnd fun l => (hi τ).bnd fun u S => lft (gSl x l u S)
theorem rdO_bnd {a : OF} {k : Option Int → M D} {φ : List Addr} {S : Sto} {τ : Sl} {o : Rs D} {σ : L2.St} {H : Hp} {Q : VK} (R : Rel T φ S H) (r : RSl T H φ τ σ) (h : (a τ).bnd k S = some o) (q : EndE T φ H o Q fun c d H' => W c d σ H') {Q' : Option Int → Hp → Prop}
    (n : ∀ d S1 H1 φ1, Ext φ H φ1 H1 → Rel T φ1 S1 H1 → k d S1 = some o → EndE T φ1 H1 o Q (fun c d H' => W c d σ H') → Q' d H1) : rdO T W a σ H Q' := by
  unfold M.bnd at h
  cases e : a τ S with
  | none => rw [e] at h; cases h
  | some x =>
    rw [e] at h
    refine ⟨φ, S, τ, x, R, r, e, ?_⟩
    cases x with
    | ok d S1 => exact fun φ' H' e1 e2 => n d S1 H' φ' e1 e2 h (q.mono e1)
    | ex x S1 => cases h; exact q
theorem d_sl (hK : T.K = X.K) {lo hi : Option Expr} {p2 : Pos} {fl fh : OF} (he : PE X e (rdE T W fa)) (hl : PO X lo (rdO T W fl)) (hu : PO X hi (rdO T W fh)) : PE X (.Subscript e (.Slice lo hi none p2) pos) (rdE T W (eSl fa fl fh)) :=
  (pe_slice (s_sl (T := T) hK) he hl hu).imp fun σ H Q h => by
    obtain ⟨φ, S, τ, o, R, r, e, q⟩ := h
    refine rdE_bnd R r e q fun d1 S1 v1 H1 φ1 ⟨E1, R1, r1⟩ e1 q1 => ?_
    refine rdO_bnd R1 (r.ext E1) e1 q1 fun l S2 H2 φ2 E2 R2 e2 q2 => ?_
    refine rdO_bnd R2 ((r.ext E1).ext E2) e2 q2 fun u S3 H3 φ3 E3 R3 e3 q3 => ?_
    exact ⟨φ3, S3, d1, R3, (r1.ext E2 _ _).ext E3 _ _, Fin.of e3 q3⟩

/-! ## methods of built-in types -/
abbrev GM := D → List D → Sto → Option (D × Sto)
def rGM (T : Tb) (g : GM) : V → List V → Hp → VK → Prop := fun x xs H Q => ∃ φ S d ds, Rel T φ S H ∧ RD T H φ d x ∧ RDs T H φ ds xs ∧ Fin T φ H (g d ds S) Q
/-- what has the type -/
def tyD (S : Sto) (n : String) : D → Bool
  | .str _ => decide (n = "str")
  | .loc k => match S[k]? with
    | some (.lst _) => decide (n = "list")
    | some (.dct _) => decide (n = "dict")
    | _ => false
  | .fl _ => decide (n = "list")
  | _ => false
theorem ty_ok {K : PySem.W.Frag} {φ : List Addr} {S : Sto} {H : Hp} {n : String} {d : D} {v : V} (R : Rel T φ S H) (r : RD T H φ d v) (h : tyD S n d = true) : tyV K n v H := by
  cases d with
  | str x => cases r; exact (of_decide_eq_true h : n = "str")
  | loc k =>
    obtain ⟨a, rfl, h1⟩ := r
    simp only [tyD] at h
    split at h
    · rename_i q
      obtain ⟨vs, k1, k2⟩ := R.obj k _ a q h1
      exact .inl ⟨of_decide_eq_true h, vs, .of k1⟩
    · rename_i q
      obtain ⟨ws, k1, _⟩ := R.obj k _ a q h1
      exact .inr (.inr (.inl ⟨of_decide_eq_true h, .inl ⟨ws, k1⟩⟩))
    · cases h
  | fl ds =>
    obtain ⟨a, vs, rfl, _, k1, k2⟩ := r
    exact .inl ⟨of_decide_eq_true h, vs, .of k1⟩
  | _ => cases h
def eBM (n : String) (g : GM) (fo : EF) (r : AF) : EF := fun τ => (fo τ).bnd fun x S => if tyD S n x = true then (r τ).bnd (fun ds S => lft (g x ds S)) S else none
variable {o : Expr} {fo : EF} {name : Str} {apos cpos : Pos} {n id : String} {g : GM}
theorem d_bm (pa : PlainAttrs n) (slot : Slot n name id) (hty : typeOf (.builtin id) = pure (.type "method_descriptor")) (hm : MtR X id (rGM T g)) (ho : PE X o (rdE T W fo)) (ha : PA X (e :: es) (rdA T W ra))
    (hbase : attributeBase o name X.env (eval o X.env) = eval o X.env := by rfl)
    (hfew : ((backTo cpos (starEach (e :: es) X.env)).all (fun x => !x.1) && (backToKw cpos (keywordEach [] X.env)).all (fun x => x.1.isSome)
      && decide ((e :: es).length + ([] : List Keyword).length + (if ([] : List Keyword).isEmpty then 0 else 1) < 30)) = true := by rfl)
    (hline : (apos.endLine == cpos.line) = true := by rfl) (hs : starEach (e :: es) X.env = (false, eval e X.env) :: starEach es X.env := by rfl) (hplain : (backTo cpos (starEach es X.env)).any (·.1) = false := by rfl) :
    PE X (.Call (.Attribute o name apos) (e :: es) [] cpos) (rdE T W (eBM n g fo ra)) :=
  (pe_bm pa slot hty hm ho ha hbase hfew hline hs hplain).imp fun σ H Q h => by
    obtain ⟨φ, S, τ, o, R, r, e, q⟩ := h
    refine rdE_bnd R r e q fun d1 S1 v1 H1 φ1 ⟨E1, R1, r1⟩ e1 q1 => ?_
    split at e1
    · rename_i ht
      refine ⟨ty_ok R1 r1 ht, rdA_bnd R1 (r.ext E1) e1 q1 fun ds S2 vs H2 φ2 E2 R2 r2 e2 q2 => ?_⟩
      exact ⟨φ2, S2, d1, ds, R2, r1.ext E2 _ _, r2, Fin.of e2 q2⟩
    · cases e1
theorem mem_lt {S : Sto} {n : Nat} {o : Ob} (h : S[n]? = some o) : n < S.length := (List.getElem?_eq_some_iff.mp h).1
def gAppend : GM := fun x ds S => match x, ds with
  | .loc n, [d] => (listD S (.loc n)).bind fun es => if es.length < sizeLine then some (.non, S.set n (.lst (es ++ [d]))) else none
  | _, _ => none
theorem m_append : MtR X "list.append" (rGM T gAppend) := MtR.imp mt_append fun x xs H Q h => by
  obtain ⟨φ, S, d, ds, R, r1, r2, f⟩ := h
  simp only [gAppend] at f
  split at f
  · rename_i k y
    cases e : listD S (.loc k) with
    | none => rw [e] at f; obtain ⟨_, _, z, _⟩ := f; cases z
    | some es =>
      rw [e] at f
      simp only [Option.bind_some] at f
      split at f
      · rename_i hl
        obtain ⟨m, a, vs, e1, rfl, hS, hφ, hH, s⟩ := list_sq R r1 e
        cases e1
        obtain ⟨v, l, rfl, r3, r4⟩ := r2
        cases r4
        refine ⟨a, vs, v, rfl, rfl, hH, by rw [← s.length]; exact hl, ?_⟩
        exact f.put R hφ (mem_lt hS) hH (s.app (RDs.one r3)) rfl
      · obtain ⟨_, _, z, _⟩ := f; cases z
  · obtain ⟨_, _, z, _⟩ := f; cases z
/-- xs.pop(i) -/
def gPopAt : GM := fun x ds S => match x, ds with
  | .loc n, [.int i] => (listD S (.loc n)).bind fun es => if -(2 ^ 63) ≤ i ∧ i < 2 ^ 63 then (seqIndex? i es.length).bind fun k => (es[k]?).bind fun d => some (d, S.set n (.lst (es.eraseIdx k))) else none
  | _, _ => none
theorem m_popAt : MtR X "list.pop" (rGM T gPopAt) := MtR.imp mt_popAt fun x xs H Q h => by
  obtain ⟨φ, S, d, ds, R, r1, r2, f⟩ := h
  simp only [gPopAt] at f
  split at f
  · rename_i k i
    cases e : listD S (.loc k) with
    | none => rw [e] at f; obtain ⟨_, _, z, _⟩ := f; cases z
    | some es =>
      rw [e] at f
      simp only [Option.bind_some] at f
      split at f
      · rename_i hi
        cases e2 : seqIndex? i es.length with
        | none => rw [e2] at f; obtain ⟨_, _, z, _⟩ := f; cases z
        | some j =>
          rw [e2] at f
          simp only [Option.bind_some] at f
          cases e3 : es[j]? with
          | none => rw [e3] at f; obtain ⟨_, _, z, _⟩ := f; cases z
          | some y =>
            rw [e3] at f
            obtain ⟨m, a, vs, e1, rfl, hS, hφ, hH, s⟩ := list_sq R r1 e
            cases e1
            obtain ⟨v, l, rfl, r3, r4⟩ := r2
            cases r3
            cases r4
            obtain ⟨w, h1, h2⟩ := s.get e3
            refine ⟨a, vs, i, j, w, rfl, rfl, hH, hi.1, hi.2, by rw [← s.length]; exact e2, h1, ?_⟩
            exact f.put R hφ (mem_lt hS) hH (s.eraseIdx j) h2
      · obtain ⟨_, _, z, _⟩ := f; cases z
  · obtain ⟨_, _, z, _⟩ := f; cases z
def gInsert : GM := fun x ds S => match x, ds with
  | .loc n, [.int i, d] => (listD S (.loc n)).bind fun es => if es.length < sizeLine ∧ 0 ≤ i ∧ i < 2 ^ 63 then some (.non, S.set n (.lst (es.take i.toNat ++ [d] ++ es.drop i.toNat))) else none
  | _, _ => none
def strsD : List D → Option (List Str)
  | [] => some []
  | .str x :: r => (strsD r).map (x :: ·)
  | _ => none
def gJoin : GM := fun x ds S => match x, ds with
  | .str a, [d] => (seqD S d).bind fun es => (strsD es).bind fun ys => if (ys.map (·.length)).sum + ys.length * a.length ≤ 16777216 then some (.str (Txt.join a ys), S) else none
  | _, _ => none
end
end Sb
end
section
set_option Elab.async false
set_option linter.all false
set_option maxRecDepth 100000
set_option maxHeartbeats 4000000
namespace Sb
open PySem PySem.Spec PyProof.Rows L2

section
variable {X : Cx} {T : Tb} {W : WX} {pos : Pos}
variable {a b c e : Expr} {es rest : List Expr} {fa fb fc : EF} {ra : AF} {ta tb : BF}
/-! ## truth, tests -/
def truD (S : Sto) : D → Option Bool
  | .non => some false
  | .bl b => some b
  | .int i => some (i != 0)
  | .str x => if x.length ≤ sizeLine then some ((x.length : Int) != 0) else none
  | .tup ds => some (!ds.isEmpty)
  | .loc n => match S[n]? with
    | some (.lst ds) => some (!ds.isEmpty)
    | some (.dct kvs) => some (!kvs.isEmpty)
    | _ => none
  | .scr _ => none
  | .fl ds => some (!ds.isEmpty)
  | .exn _ => none
  | .fd _ _ => none
  | .rgo _ _ => none
  | .ntu _ => none
theorem emp_rds {H : Hp} {φ : List Addr} {ds : List D} {vs : List V} (r : RDs T H φ ds vs) : ds.isEmpty = vs.isEmpty := by
  have l := r.length
  cases ds <;> cases vs <;> simp_all
theorem tru_of {K : PySem.W.Frag} {φ : List Addr} {S : Sto} {H : Hp} {d : D} {v : V} {k : Bool} (R : Rel T φ S H) (r : RD T H φ d v) (h : truD S d = some k) : TruV K v H k := by
  cases d with
  | non => cases r; cases h; exact rfl
  | bl b => cases r; cases h; exact rfl
  | int i => cases r; cases h; exact rfl
  | str x =>
    cases r
    simp only [truD] at h
    split at h
    · rename_i hl; cases h; exact ⟨hl, rfl⟩
    · cases h
  | tup ds =>
    obtain ⟨p, vs, rfl, k1, s⟩ := r
    cases h
    exact .inr (.inl ⟨vs, .inl k1, by rw [emp_rds s]⟩)
  | loc n =>
    obtain ⟨p, rfl, h1⟩ := r
    simp only [truD] at h
    split at h
    · rename_i q
      cases h
      obtain ⟨vs, k1, k2⟩ := R.obj n _ p q h1
      exact .inl ⟨vs, .of k1, by rw [emp_rds k2]⟩
    · rename_i q
      cases h
      rename_i kvs
      obtain ⟨ws, k1, k2, _⟩ := R.obj n _ p q h1
      refine .inr (.inr ⟨ws, k1, ?_⟩)
      cases ws <;> cases kvs <;> simp_all
    · cases h
  | scr ns => cases h
  | exn c => cases h
  | fd ks ds => cases h
  | rgo lo hi => cases h
  | ntu ds => cases h
  | fl ds =>
    obtain ⟨p, vs, rfl, _, k1, s⟩ := r
    cases h
    exact .inl ⟨vs, .of k1, by rw [emp_rds s]⟩
/-- a test by a truth -/
def tB (f : EF) : BF := fun τ => (f τ).bnd fun d S => match d with | .bl b => some (.ok b S) | _ => none
/-- a test by any value's truth -/
def tTr (f : EF) : BF := fun τ => (f τ).bnd fun d S => (truD S d).bind fun b => some (.ok b S)
theorem rdE_bndB {a : EF} {k : D → M Bool} {φ : List Addr} {S : Sto} {τ : Sl} {o : Rs Bool} {σ : L2.St} {H : Hp} {Q : Bool → Hp → Prop} (R : Rel T φ S H) (r : RSl T H φ τ σ) (h : (a τ).bnd k S = some o) (q : EndB T φ H o Q fun c d H' => W c d σ H') {Q' : VK}
    (n : ∀ d S1 v H1 φ1, At T φ H d S1 v H1 φ1 → k d S1 = some o → EndB T φ1 H1 o Q (fun c d H' => W c d σ H') → Q' v H1) : rdE T W a σ H Q' := by
  unfold M.bnd at h
  cases e : a τ S with
  | none => rw [e] at h; cases h
  | some x =>
    rw [e] at h
    refine ⟨φ, S, τ, x, R, r, e, ?_⟩
    cases x with
    | ok d S1 => exact fun φ' H' v e1 e2 e3 => n d S1 v H' φ' ⟨e1, e2, e3⟩ h (q.mono e1)
    | ex x S1 => cases h; exact q
theorem rdT_bndB {a : BF} {k : Bool → M Bool} {φ : List Addr} {S : Sto} {τ : Sl} {o : Rs Bool} {σ : L2.St} {H : Hp} {Q : Bool → Hp → Prop} (R : Rel T φ S H) (r : RSl T H φ τ σ) (h : (a τ).bnd k S = some o) (q : EndB T φ H o Q fun c d H' => W c d σ H') {Q' : Bool → Hp → Prop}
    (n : ∀ d S1 H1 φ1, Ext φ H φ1 H1 → Rel T φ1 S1 H1 → k d S1 = some o → EndB T φ1 H1 o Q (fun c d H' => W c d σ H') → Q' d H1) : rdT T W a σ H Q' := by
  unfold M.bnd at h
  cases e : a τ S with
  | none => rw [e] at h; cases h
  | some x =>
    rw [e] at h
    refine ⟨φ, S, τ, x, R, r, e, ?_⟩
    cases x with
    | ok d S1 => exact fun φ' H' e1 e2 => n d S1 H' φ' e1 e2 h (q.mono e1)
    | ex x S1 => cases h; exact q
theorem rdT_at {a : BF} {φ : List Addr} {S : Sto} {τ : Sl} {o : Rs Bool} {σ : L2.St} {H : Hp} {Q : Bool → Hp → Prop} (R : Rel T φ S H) (r : RSl T H φ τ σ) (h : a τ S = some o) (q : EndB T φ H o Q fun c d H' => W c d σ H') : rdT T W a σ H Q := ⟨φ, S, τ, o, R, r, h, q⟩
theorem rdE_at {a : EF} {φ : List Addr} {S : Sto} {τ : Sl} {o : Rs D} {σ : L2.St} {H : Hp} {Q : VK} (R : Rel T φ S H) (r : RSl T H φ τ σ) (h : a τ S = some o) (q : EndE T φ H o Q fun c d H' => W c d σ H') : rdE T W a σ H Q := ⟨φ, S, τ, o, R, r, h, q⟩
theorem tB_of {σ : L2.St} {H : Hp} {Q : Bool → Hp → Prop} (h : rdT T W (tB fa) σ H Q) : rdE T W fa σ H fun x H1 => ∃ c, x = .bl c ∧ Q c H1 := by
  obtain ⟨φ, S, τ, o, R, r, e, q⟩ := h
  refine rdE_bndB R r e q fun d1 S1 v1 H1 φ1 ⟨E1, R1, r1⟩ e1 q1 => ?_
  split at e1
  · cases e1; cases r1; exact ⟨_, rfl, q1 φ1 H1 .refl R1⟩
  · cases e1
theorem t_val (h : PE X e (rdE T W fa)) (he : ∀ whole, isTrue e X.env whole = (do let v ← whole; standAt e.pos; holding [v] (truthy v)) := by intro _; rfl) : PT X e (rdT T W (tB fa)) :=
  (pt_val h he).imp fun _ _ _ h => tB_of h
theorem t_tru (h : PE X e (rdE T W fa)) (he : ∀ whole, isTrue e X.env whole = (do let v ← whole; standAt e.pos; holding [v] (truthy v)) := by intro _; rfl) : PT X e (rdT T W (tTr fa)) :=
  (pt_truth h he).imp fun σ H Q h => by
    obtain ⟨φ, S, τ, o, R, r, e, q⟩ := h
    refine rdE_bndB R r e q fun d1 S1 v1 H1 φ1 ⟨E1, R1, r1⟩ e1 q1 => ?_
    simp only [Option.bind_eq_some_iff] at e1
    obtain ⟨k, e2, e3⟩ := e1
    cases e3
    exact ⟨k, tru_of R1 r1 e2, q1 φ1 H1 .refl R1⟩
theorem t_cmp {op : CmpOp} {g : G2} (ho : OpR X (compareOp op) (rG2 T g)) (ha : PE X a (rdE T W fa)) (hb : PE X b (rdE T W fb)) (hm : behindInMarks op b = false) : PT X (.Compare a [op] [b] pos) (rdT T W (tB (eB g fa fb))) :=
  (pt_cmpR ho ha hb hm).imp fun σ H Q h => two_of (tB_of h)
def tAn (t u : BF) : BF := fun τ => (t τ).bnd fun b => if b = true then u τ else fun S => some (.ok false S)
def tOr' (t u : BF) : BF := fun τ => (t τ).bnd fun b => if b = true then (fun S => some (.ok true S)) else u τ
def tNt (t : BF) : BF := fun τ => (t τ).bnd fun b S => some (.ok (!b) S)
theorem w_and1 (h : PT X a (rdT T W ta)) : PW X (.BoolOp .And [a] pos) (rdT T W ta) := pw_and1 h
theorem w_or1 (h : PT X a (rdT T W ta)) : PW X (.BoolOp .Or [a] pos) (rdT T W ta) := pw_or1 h
theorem w_and (h : PT X a (rdT T W ta)) (h2 : PW X (.BoolOp .And (b :: rest) pos) (rdT T W tb)) : PW X (.BoolOp .And (a :: b :: rest) pos) (rdT T W (tAn ta tb)) := (pw_and h h2).imp fun σ H Q h => by
  obtain ⟨φ, S, τ, o, R, r, e, q⟩ := h
  refine rdT_bndB R r e q fun k S1 H1 φ1 E1 R1 e1 q1 => ?_
  cases k with
  | true => exact rdT_at R1 (r.ext E1) e1 q1
  | false => cases e1; exact q1 φ1 H1 .refl R1
theorem w_or (h : PT X a (rdT T W ta)) (h2 : PW X (.BoolOp .Or (b :: rest) pos) (rdT T W tb)) : PW X (.BoolOp .Or (a :: b :: rest) pos) (rdT T W (tOr' ta tb)) := (pw_or h h2).imp fun σ H Q h => by
  obtain ⟨φ, S, τ, o, R, r, e, q⟩ := h
  refine rdT_bndB R r e q fun k S1 H1 φ1 E1 R1 e1 q1 => ?_
  cases k with
  | true => cases e1; exact q1 φ1 H1 .refl R1
  | false => exact rdT_at R1 (r.ext E1) e1 q1
theorem t_not (h : PT X a (rdT T W ta)) : PT X (.UnaryOp .Not a pos) (rdT T W (tNt ta)) := (pt_not h).imp fun σ H Q h => by
  obtain ⟨φ, S, τ, o, R, r, e, q⟩ := h
  refine rdT_bndB R r e q fun k S1 H1 φ1 E1 R1 e1 q1 => ?_
  cases e1
  exact q1 φ1 H1 .refl R1
/-! ## values by tests -/
def eIf (t : BF) (fa fb : EF) : EF := fun τ => (t τ).bnd fun b => if b = true then fa τ else fb τ
def eAnd (fa fb : EF) : EF := fun τ => (fa τ).bnd fun d S => (truD S d).bind fun b => if b = true then fb τ S else some (.ok d S)
def eOr (fa fb : EF) : EF := fun τ => (fa τ).bnd fun d S => (truD S d).bind fun b => if b = true then some (.ok d S) else fb τ S
def eNot (fa : EF) : EF := fun τ => (fa τ).bnd fun d S => (truD S d).bind fun b => some (.ok (.bl (!b)) S)
theorem d_one {op} (h : PE X a (rdE T W fa)) : PE X (.BoolOp op [a] pos) (rdE T W fa) := pe_one h
theorem d_and (ha : PE X a (rdE T W fa)) (hb : PE X (.BoolOp .And (b :: rest) pos) (rdE T W fb)) : PE X (.BoolOp .And (a :: b :: rest) pos) (rdE T W (eAnd fa fb)) := (pe_andT ha hb).imp fun σ H Q h => by
  obtain ⟨φ, S, τ, o, R, r, e, q⟩ := h
  refine rdE_bnd R r e q fun d S1 v H1 φ1 ⟨E1, R1, r1⟩ e1 q1 => ?_
  simp only [Option.bind_eq_some_iff] at e1
  obtain ⟨k, e2, e3⟩ := e1
  refine ⟨k, tru_of R1 r1 e2, ?_⟩
  cases k with
  | true => exact rdE_at R1 (r.ext E1) e3 q1
  | false => cases e3; exact q1 φ1 H1 v .refl R1 r1
theorem d_not (ha : PE X a (rdE T W fa)) : PE X (.UnaryOp .Not a pos) (rdE T W (eNot fa)) := (pe_notT ha).imp fun σ H Q h => by
  obtain ⟨φ, S, τ, o, R, r, e, q⟩ := h
  refine rdE_bnd R r e q fun d S1 v H1 φ1 ⟨E1, R1, r1⟩ e1 q1 => ?_
  simp only [Option.bind_eq_some_iff] at e1
  obtain ⟨k, e2, e3⟩ := e1
  cases e3
  exact ⟨k, tru_of R1 r1 e2, q1 φ1 H1 _ .refl R1 rfl⟩
/-- a < b < c -/
def eCh (g g' : G2) (fa fb fc : EF) : EF := fun τ => (fa τ).bnd fun x => (fb τ).bnd fun y S => match g x y S with
  | some (.bl true, S1) => (fc τ).bnd (fun z S => lft (g' y z S)) S1
  | some (.bl false, S1) => some (.ok (.bl false) S1)
  | _ => none
theorem d_chain {op op' : CmpOp} {g g' : G2} (ho : OpR X (compareOp op) (rG2 T g)) (ho' : OpR X (compareOp op') (rG2 T g')) (ha : PE X a (rdE T W fa)) (hb : PE X b (rdE T W fb)) (hc : PE X c (rdE T W fc)) (hlm : lastMarks [op, op'] [b, c] = false := by with_unfolding_all rfl) :
    PE X (.Compare a [op, op'] [b, c] pos) (rdE T W (eCh g g' fa fb fc)) := (pe_chain ho ho' ha hb hc hlm).imp fun σ H Q h => by
  obtain ⟨φ, S, τ, o, R, r, e, q⟩ := h
  refine rdE_bnd R r e q fun d1 S1 v1 H1 φ1 ⟨E1, R1, r1⟩ e1 q1 => ?_
  refine rdE_bnd R1 (r.ext E1) e1 q1 fun d2 S2 v2 H2 φ2 ⟨E2, R2, r2⟩ e2 q2 => ?_
  split at e2
  · rename_i S3 eg
    refine ⟨φ2, S2, d1, d2, R2, r1.ext E2 _ _, r2, _, _, eg, fun φ3 H3 v3 E3 R3 r3 => ?_⟩
    cases r3
    refine ⟨true, rfl, ?_⟩
    rw [if_pos rfl]
    refine rdE_bnd R3 (((r.ext E1).ext E2).ext E3) e2 (q2.mono E3) fun d4 S4 v4 H4 φ4 ⟨E4, R4, r4⟩ e4 q4 => ?_
    exact ⟨φ4, S4, d2, d4, R4, (r2.ext E3 _ _).ext E4 _ _, r4, Fin.of e4 q4⟩
  · rename_i S3 eg
    cases e2
    refine ⟨φ2, S2, d1, d2, R2, r1.ext E2 _ _, r2, _, _, eg, fun φ3 H3 v3 E3 R3 r3 => ?_⟩
    cases r3
    refine ⟨false, rfl, ?_⟩
    rw [if_neg (by decide)]
    exact q2 φ3 H3 _ E3 R3 rfl
  · cases e2

/-! ## isinstance -/
def kindD (S : Sto) : D → Option String
  | .non => some "NoneType"
  | .bl _ => some "bool"
  | .int _ => some "int"
  | .str _ => some "str"
  | .tup _ => some "tuple"
  | .loc n => match S[n]? with
    | some (.lst _) => some "list"
    | some (.dct _) => some "dict"
    | _ => none
  | .scr _ => none
  | .fl _ => some "list"
  | .exn _ => none
  | .fd _ _ => some "dict"
  | .rgo _ _ => none
  | .ntu _ => some "tuple"
theorem kind_ok {K : PySem.W.Frag} {φ : List Addr} {S : Sto} {H : Hp} {d : D} {v : V} {k : String} (R : Rel T φ S H) (r : RD T H φ d v) (h : kindD S d = some k) : TyX K H v (.type k) := by
  cases d with
  | non => cases r; cases h; exact .base .non
  | bl b => cases r; cases h; exact .base (.bl b)
  | int i => cases r; cases h; exact .base (.int i)
  | str x => cases r; cases h; exact .base (.str x)
  | tup ds =>
    obtain ⟨p, vs, rfl, k1, s⟩ := r
    cases h
    rcases k1 with k1 | ⟨o, k1⟩
    · exact .base (.tup k1)
    · exact .fTuple k1
  | rgo lo hi => cases h
  | ntu ds => obtain ⟨p, vs, o, rfl, k1, _⟩ := r; cases h; exact .fTuple k1
  | loc n =>
    obtain ⟨p, rfl, h1⟩ := r
    simp only [kindD] at h
    split at h
    · rename_i q; cases h; obtain ⟨vs, k1, k2⟩ := R.obj n _ p q h1; exact .base (.lst k1)
    · rename_i q; cases h; obtain ⟨ws, k1, _⟩ := R.obj n _ p q h1; exact .base (.dK k1)
    · cases h
  | scr ns => cases h
  | exn c => cases h
  | fd ks ds =>
    obtain ⟨p, ws, rfl, _, k1, _⟩ := r
    cases h
    rcases k1 with k1 | ⟨o, k1⟩
    · exact .base (.dK k1)
    · exact .fDict k1
  | fl ds => obtain ⟨p, vs, rfl, _, k1, s⟩ := r; cases h; exact .base (.lst k1)
def eIs (n : String) (f : EF) : EF := fun τ => (f τ).bnd fun d S => (kindD S d).bind fun k => (kitB k n).bind fun b => some (.ok (.bl b) S)
theorem d_is {n : String} {y : Str} {p p2 : Pos} (hg : Gl X "isinstance") (hm : X.mg "isinstance" = none) (hg2 : Gl X y) (hm2 : X.mg y = none) (hv2 : bootBuiltins y = some (.type n)) (he : PE X e (rdE T W fa))
    (hn : y ≠ "__name__" := by decide) (hd : (y == ("__debug__" : Str)) = false := by decide)
    (hs : starEach [e, .Name y p2] X.env = (false, eval e X.env) :: starEach [.Name y p2] X.env := by rfl) (hpl : (backTo pos (starEach [.Name y p2] X.env)).any (·.1) = false := by rfl) :
    PE X (.Call (.Name "isinstance" p) [e, .Name y p2] [] pos) (rdE T W (eIs n fa)) :=
  (pe_callB call_isi hg hm (by decide +kernel) (pa_cons he (pa_cons (pe_bltn (v := .ty n) hg2 hm2 hv2 rfl hn hd) pa_nil) hs) (by decide) (by decide) hs hpl).imp fun σ H Q h => by
    obtain ⟨φ, S, τ, o, R, r, e, q⟩ := h
    refine rdE_bnd R r e q fun d S1 v H1 φ1 ⟨E1, R1, r1⟩ e1 q1 => ?_
    simp only [Option.bind_eq_some_iff] at e1
    obtain ⟨k, e2, b, e3, e4⟩ := e1
    cases e4
    exact ⟨v, .ty n, .type k, .type n, b, rfl, .ty n, kind_ok R1 r1 e2, kit_ty e3, q1 φ1 H1 _ .refl R1 rfl⟩
def eIs2 (n m : String) (f : EF) : EF := fun τ => (f τ).bnd fun d S => (kindD S d).bind fun k => (kitB k n).bind fun b => (kitB k m).bind fun b2 => some (.ok (.bl (b || b2)) S)
theorem d_is2 {n m : String} {y z : Str} {p p2 p3 p4 : Pos} {x1} (hg : Gl X "isinstance") (hm : X.mg "isinstance" = none) (hg2 : Gl X y) (hm2 : X.mg y = none) (hv2 : bootBuiltins y = some (.type n)) (hg3 : Gl X z) (hm3 : X.mg z = none) (hv3 : bootBuiltins z = some (.type m)) (he : PE X e (rdE T W fa))
    (hn : y ≠ "__name__" := by decide) (hd : (y == ("__debug__" : Str)) = false := by decide) (hn3 : z ≠ "__name__" := by decide) (hd3 : (z == ("__debug__" : Str)) = false := by decide)
    (hs : starEach [e, .Tuple [.Name y p2, .Name z p3] x1 p4] X.env = (false, eval e X.env) :: starEach [.Tuple [.Name y p2, .Name z p3] x1 p4] X.env := by rfl) (hpl : (backTo pos (starEach [.Tuple [.Name y p2, .Name z p3] x1 p4] X.env)).any (·.1) = false := by rfl) :
    PE X (.Call (.Name "isinstance" p) [e, .Tuple [.Name y p2, .Name z p3] x1 p4] [] pos) (rdE T W (eIs2 n m fa)) :=
  (pe_callB call_isiT hg hm (by decide +kernel) (pa_cons he (pa_cons (pe_tup (pa_cons (pe_bltn (v := .ty n) hg2 hm2 hv2 rfl hn hd) (pa_cons (pe_bltn (v := .ty m) hg3 hm3 hv3 rfl hn3 hd3) pa_nil))) pa_nil) hs) (by decide) (by decide) hs hpl).imp fun σ H Q h => by
    obtain ⟨φ, S, τ, o, R, r, e, q⟩ := h
    refine rdE_bnd R r e q fun d S1 v H1 φ1 ⟨E1, R1, r1⟩ e1 q1 => ?_
    simp only [Option.bind_eq_some_iff] at e1
    obtain ⟨k, e2, b, e3, b2, e4, e5⟩ := e1
    cases e5
    refine ⟨by show 2 ≤ sizeLine; rw [sizeLine_eq]; decide, fun t ht => ?_⟩
    obtain ⟨R2, E2⟩ := R1.garb (u := .tup [.ty n, .ty m]) ht
    refine ⟨v, t, [.ty n, .ty m], .type k, [.type n, .type m], b || b2, rfl, upd_same, .cons (.ty n) (.cons (.ty m) .nil), kind_ok R2 (r1.ext E2 _ _) (by exact e2), ?_, q1 φ1 _ _ E2 R2 rfl⟩
    refine kitAny_cons (kit_ty e3) (fun hb => ?_) fun hb => by rw [hb]; rfl
    refine kitAny_cons (kit_ty e4) (fun hb2 => ?_) fun hb2 => by rw [hb2]; simp
    rw [hb, hb2]; rfl

/-! ## a def called -/
/-- what a def promises: its meaning's outcome -/
def spM (T : Tb) (m : List D → M D) (n : Nat) : Sp := fun vs H Q E => ∃ φ S ds o, Rel T φ S H ∧ RDs T H φ ds vs ∧ ds.length = n ∧ m ds S = some o ∧ EndE T φ H o Q E
def eCl (m : List D → M D) (n : Nat) (r : AF) : EF := fun τ => (r τ).bnd fun ds S => if ds.length = n then m ds S else none
/-! ## statements -/
inductive Fl where
  | nx (τ : Sl) | rt (d : D) | bk (τ : Sl) | ct (τ : Sl) | xx (x : Exn) (τ : Sl)
abbrev SF := Sl → Sto → Option (Fl × Sto)
def EndS (T : Tb) (φ : List Addr) (H : Hp) (fl : Fl) (S' : Sto) (De : Ends) (W : WX) : Prop := match fl with
  | .nx τ' => ∀ φ' H' σ', Ext φ H φ' H' → Rel T φ' S' H' → RSl T H' φ' τ' σ' → De.nx σ' H'
  | .bk τ' => ∀ φ' H' σ', Ext φ H φ' H' → Rel T φ' S' H' → RSl T H' φ' τ' σ' → De.bk σ' H'
  | .ct τ' => ∀ φ' H' σ', Ext φ H φ' H' → Rel T φ' S' H' → RSl T H' φ' τ' σ' → De.ct σ' H'
  | .rt d => ∀ φ' H' v, Ext φ H φ' H' → Rel T φ' S' H' → RD T H' φ' d v → De.rt v H'
  | .xx x τ' => ∀ φ' H' σ' d, Ext φ H φ' H' → Rel T φ' S' H' → RSl T H' φ' τ' σ' → RX x d H' → W (.ref x.cls) d σ' H'
theorem EndS.mono {φ φ1 : List Addr} {H H1 : Hp} {fl : Fl} {S' : Sto} {De : Ends} (h : EndS T φ H fl S' De W) (e : Ext φ H φ1 H1) : EndS T φ1 H1 fl S' De W := by
  cases fl with
  | nx τ => exact fun φ' H' v e' => h φ' H' v (e.trans e')
  | bk τ => exact fun φ' H' v e' => h φ' H' v (e.trans e')
  | ct τ => exact fun φ' H' v e' => h φ' H' v (e.trans e')
  | rt τ => exact fun φ' H' v e' => h φ' H' v (e.trans e')
  | xx x τ => exact fun φ' H' v d e' => h φ' H' v d (e.trans e')
def rdS (T : Tb) (W : WX) (f : SF) : TS := fun De σ H => ∃ φ S τ fl S', Rel T φ S H ∧ RSl T H φ τ σ ∧ f τ S = some (fl, S') ∧ EndS T φ H fl S' De W
/-- an expression within a statement -/
def sx (m : M D) (τ : Sl) (k : D → Sto → Option (Fl × Sto)) : Sto → Option (Fl × Sto) := fun S => match m S with
  | none => none
  | some (.ex x S1) => some (.xx x τ, S1)
  | some (.ok d S1) => k d S1
def st' (m : M Bool) (τ : Sl) (k : Bool → Sto → Option (Fl × Sto)) : Sto → Option (Fl × Sto) := fun S => match m S with
  | none => none
  | some (.ex x S1) => some (.xx x τ, S1)
  | some (.ok d S1) => k d S1
theorem rdE_sx {φ : List Addr} {S S' : Sto} {τ : Sl} {fl : Fl} {k : D → Sto → Option (Fl × Sto)} {σ : L2.St} {H : Hp} {De : Ends} (R : Rel T φ S H) (r : RSl T H φ τ σ) (h : sx (fa τ) τ k S = some (fl, S')) (q : EndS T φ H fl S' De W) {Q' : VK}
    (n : ∀ d S1 v H1 φ1, At T φ H d S1 v H1 φ1 → k d S1 = some (fl, S') → EndS T φ1 H1 fl S' De W → Q' v H1) : rdE T W fa σ H Q' := by
  unfold sx at h
  cases e : fa τ S with
  | none => rw [e] at h; cases h
  | some x =>
    rw [e] at h
    refine ⟨φ, S, τ, x, R, r, e, ?_⟩
    cases x with
    | ok d S1 => exact fun φ' H' v e1 e2 e3 => n d S1 v H' φ' ⟨e1, e2, e3⟩ h (q.mono e1)
    | ex x S1 =>
      cases h
      exact fun φ' H' d E1 R1 hx => q φ' H' σ d E1 R1 (r.ext E1) hx
theorem rdT_st {φ : List Addr} {S S' : Sto} {τ : Sl} {fl : Fl} {k : Bool → Sto → Option (Fl × Sto)} {σ : L2.St} {H : Hp} {De : Ends} (R : Rel T φ S H) (r : RSl T H φ τ σ) (h : st' (ta τ) τ k S = some (fl, S')) (q : EndS T φ H fl S' De W) {Q' : Bool → Hp → Prop}
    (n : ∀ d S1 H1 φ1, Ext φ H φ1 H1 → Rel T φ1 S1 H1 → k d S1 = some (fl, S') → EndS T φ1 H1 fl S' De W → Q' d H1) : rdT T W ta σ H Q' := by
  unfold st' at h
  cases e : ta τ S with
  | none => rw [e] at h; cases h
  | some x =>
    rw [e] at h
    refine ⟨φ, S, τ, x, R, r, e, ?_⟩
    cases x with
    | ok d S1 => exact fun φ' H' e1 e2 => n d S1 H' φ' e1 e2 h (q.mono e1)
    | ex x S1 =>
      cases h
      exact fun φ' H' d E1 R1 hx => q φ' H' σ d E1 R1 (r.ext E1) hx
theorem rdS_at {f : SF} {φ : List Addr} {S S' : Sto} {τ : Sl} {fl : Fl} {σ : L2.St} {H : Hp} {De : Ends} (R : Rel T φ S H) (r : RSl T H φ τ σ) (h : f τ S = some (fl, S')) (q : EndS T φ H fl S' De W) : rdS T W f De σ H := ⟨φ, S, τ, fl, S', R, r, h, q⟩
variable {st : Stmt} {sts : List Stmt} {f g : SF}
def sNop : SF := fun τ S => some (.nx τ, S)
def sSeq (f g : SF) : SF := fun τ S => match f τ S with
  | some (.nx τ1, S1) => g τ1 S1
  | x => x
theorem b_nil : PSs X [] (rdS T W sNop) := pss_nil.imp fun De σ H h => by
  obtain ⟨φ, S, τ, fl, S', R, r, e, q⟩ := h
  cases e
  exact q φ H σ .refl R r
theorem b_one (h : PS X st (rdS T W f)) : PSs X [st] (rdS T W f) := pss_one h
theorem b_cons (h : PS X st (rdS T W f)) (h2 : PSs X sts (rdS T W g)) : PSs X (st :: sts) (rdS T W (sSeq f g)) := (pss_cons h h2).imp fun De σ H h => by
  obtain ⟨φ, S, τ, fl, S', R, r, e, q⟩ := h
  unfold sSeq at e
  cases e1 : f τ S with
  | none => rw [e1] at e; cases e
  | some p =>
    obtain ⟨fl1, S1⟩ := p
    rw [e1] at e
    refine ⟨φ, S, τ, fl1, S1, R, r, e1, ?_⟩
    cases fl1 with
    | nx τ1 => exact fun φ' H' σ' E1 R1 r1 => rdS_at R1 r1 e (q.mono E1)
    | bk τ1 => cases e; exact q
    | ct τ1 => cases e; exact q
    | rt τ1 => cases e; exact q
    | xx x τ1 => cases e; exact q
def sEx (fe : EF) : SF := fun τ => sx (fe τ) τ fun _ S => some (.nx τ, S)
theorem s_expr (he : PE X e (rdE T W fa)) (hs : swapsWith e none pos.line X.env = pure false := by rfl) : PS X (.Expr e pos) (rdS T W (sEx fa)) := (ps_expr he hs).imp fun De σ H h => by
  obtain ⟨φ, S, τ, fl, S', R, r, e, q⟩ := h
  refine rdE_sx R r e q fun d S1 v H1 φ1 ⟨E1, R1, r1⟩ e1 q1 => ?_
  cases e1
  exact q1 φ1 H1 σ .refl R1 (r.ext E1)
def sRt (fe : EF) : SF := fun τ => sx (fe τ) τ fun d S => some (.rt d, S)
theorem s_ret (he : PE X e (rdE T W fa)) : PS X (.Return (some e) pos) (rdS T W (sRt fa)) := (ps_ret he).imp fun De σ H h => by
  obtain ⟨φ, S, τ, fl, S', R, r, e, q⟩ := h
  refine rdE_sx R r e q fun d S1 v H1 φ1 ⟨E1, R1, r1⟩ e1 q1 => ?_
  cases e1
  exact q1 φ1 H1 v .refl R1 r1
def sIf (t : BF) (f g : SF) : SF := fun τ => st' (t τ) τ fun b S => if b = true then f τ S else g τ S
theorem s_if {as bs : List Stmt} (h : PT X c (rdT T W ta)) (h1 : PSs X as (rdS T W f)) (h2 : PSs X bs (rdS T W g)) : PS X (.If c as bs pos) (rdS T W (sIf ta f g)) := (ps_if h h1 h2).imp fun De σ H h => by
  obtain ⟨φ, S, τ, fl, S', R, r, e, q⟩ := h
  refine rdT_st R r e q fun b S1 H1 φ1 E1 R1 e1 q1 => ?_
  cases b with
  | true => exact rdS_at R1 (r.ext E1) e1 q1
  | false => exact rdS_at R1 (r.ext E1) e1 q1
def sSet (i : Nat) (fe : EF) : SF := fun τ => sx (fe τ) τ fun d S => some (.nx (τ.set i (some d)), S)
theorem s_set {i : Nat} {x : Str} {pos' : Pos} (hN : X.N.Nodup) (hi : X.N[i]? = some x) (hx : Loc X.env.scope x) (he : PE X e (rdE T W fa)) (hs : swapsWith e (some (.Name x pos')) pos.line X.env = pure false := by rfl)
    (hf : X.fn x = true ∨ X.env.scope.names.lookup x = some .local := by first | exact .inl rfl | exact .inr rfl | assumption) : PS X (.Assign [.Name x pos'] e pos) (rdS T W (sSet i fa)) := (ps_set hN hi hx he hs hf).imp fun De σ H h => by
  obtain ⟨φ, S, τ, fl, S', R, r, e, q⟩ := h
  refine rdE_sx R r e q fun d S1 v H1 φ1 ⟨E1, R1, r1⟩ e1 q1 => ?_
  cases e1
  exact q1 φ1 H1 _ .refl R1 ((r.ext E1).set i r1)
/-- xs[i] = e -/
def putD (x y d : D) (S : Sto) : Option Sto := match x, y with
  | .loc n, .int k => (listD S (.loc n)).bind fun es => (ixN es.length k).bind fun j => some (S.set n (.lst (es.set j d)))
  | _, _ => none
def sPut (fe fo fi : EF) : SF := fun τ => sx (fe τ) τ fun d => sx (fo τ) τ fun x => sx (fi τ) τ fun y S => (putD x y d S).bind fun S1 => some (.nx τ, S1)
theorem s_put {o i : Expr} {p : Pos} {fo fi : EF} (he : PE X e (rdE T W fa)) (ho : PE X o (rdE T W fo)) (hi : PE X i (rdE T W fi))
    (hs : swapsWithSole [.Subscript o i p] e pos.line X.env = pure false := by rfl) (hw : swappedStores [.Subscript o i p] e X.env = pure none := by rfl) (h1 : (assignEach [.Subscript o i p] X.env).map (·.2) = [assign (.Subscript o i p) X.env] := by rfl)
    (ha : ∀ v, assign (.Subscript o i p) X.env v = (do
      let ov ← holding [v] (eval o X.env)
      let iv ← holding [v, ov] (eval i X.env)
      standAt p
      holding [v, ov, iv] (setItem ov iv v)
      release [v, ov, iv] []) := by intro _; rfl) : PS X (.Assign [.Subscript o i p] e pos) (rdS T W (sPut fa fo fi)) := (ps_asg he (pg_sub ho hi set_list ha) hs hw h1).imp fun De σ H h => by
  obtain ⟨φ, S, τ, fl, S', R, r, e, q⟩ := h
  refine rdE_sx R r e q fun d S1 v H1 φ1 ⟨E1, R1, r1⟩ e1 q1 => ?_
  refine rdE_sx R1 (r.ext E1) e1 q1 fun x S2 v2 H2 φ2 ⟨E2, R2, r2⟩ e2 q2 => ?_
  refine rdE_sx R2 ((r.ext E1).ext E2) e2 q2 fun y S3 v3 H3 φ3 ⟨E3, R3, r3⟩ e3 q3 => ?_
  simp only [Option.bind_eq_some_iff] at e3
  obtain ⟨S4, e4, e5⟩ := e3
  cases e5
  unfold putD at e4
  split at e4
  · rename_i n kk _ _
    simp only [Option.bind_eq_some_iff] at e4
    obtain ⟨es, e6, j, e7, e8⟩ := e4
    cases e8
    obtain ⟨m, p, vs, ee, rfl, hS, hφ, hH, s⟩ := list_sq R3 (r2.ext E3 _ _) e6
    cases ee
    cases r3
    refine ⟨p, vs, kk, j, rfl, rfl, hH, by rw [← s.length]; exact e7, ?_⟩
    have rv : RD T H3 φ3 d v := (r1.ext E2 _ _).ext E3 _ _
    have E4 := Ext.put (φ := φ3) (u := .lst (vs.set j v)) (List.mem_of_getElem? hφ) hH
    obtain ⟨R4, _⟩ := R3.put (o := .lst (es.set j d)) (u := .lst (vs.set j v)) hφ (mem_lt hS) ⟨_, upd_same, (s.set j rv).ext E4 _ _⟩
    exact q3 φ3 _ σ E4 R4 ((((r.ext E1).ext E2).ext E3).ext E4)
  · cases e4
end
end Sb
end
section
set_option Elab.async false
set_option linter.all false
set_option maxRecDepth 100000
set_option maxHeartbeats 4000000
namespace Sb
open PySem PySem.Spec PyProof.Rows L2

/-! ## what is walked -/
structure Wk where
  bound : Nat
  nxt : Nat → Sto → Option (Option D)
abbrev IF := Sl → M Wk
def Serves (T : Tb) (φ0 : List Addr) (H0 : Hp) (wk : Wk) (J : It) : Prop := ∀ φ S H i, Ext φ0 H0 φ H → Rel T φ S H →
  (∀ d, wk.nxt i S = some (some d) → J.go i H ∧ ∀ x H', J.yld i H x H' → Ext φ H φ H' ∧ Rel T φ S H' ∧ RD T H' φ d x) ∧ (wk.nxt i S = some none → J.stop i H)
def EndI (T : Tb) (φ : List Addr) (H : Hp) (o : Rs Wk) (R : It → Hp → Prop) (W : XK) : Prop := match o with
  | .ok wk S' => ∀ φ' H' J, Ext φ H φ' H' → Rel T φ' S' H' → Serves T φ' H' wk J → R J H'
  | .ex x S' => ∀ φ' H' d, Ext φ H φ' H' → Rel T φ' S' H' → RX x d H' → W (.ref x.cls) d H'
theorem EndI.mono {T : Tb} {φ φ1 : List Addr} {H H1 : Hp} {o : Rs Wk} {R : It → Hp → Prop} {W : XK} (h : EndI T φ H o R W) (e : Ext φ H φ1 H1) : EndI T φ1 H1 o R W := by
  cases o with
  | ok d S => exact fun φ' H' v e' => h φ' H' v (e.trans e')
  | ex x S => exact fun φ' H' v e' => h φ' H' v (e.trans e')
def rdI (T : Tb) (W : WX) (f : IF) : TI := fun σ H R => ∃ φ S τ o, Rel T φ S H ∧ RSl T H φ τ σ ∧ f τ S = some o ∧ EndI T φ H o R fun c d H' => W c d σ H'
theorem _root_.L2.PI.imp {X : Cx} {tg e : Expr} {t t' : TI} (h : PI X tg e t) (i : ∀ σ H R, t' σ H R → t σ H R) : PI X tg e t' := ⟨fun pins s σ H R I hq => h.run pins s σ H R I (i σ H R hq)⟩
theorem _root_.L2.PI.or {X : Cx} {tg e : Expr} {t t' : TI} (h : PI X tg e t) (h' : PI X tg e t') : PI X tg e (fun σ H R => t σ H R ∨ t' σ H R) := ⟨fun pins s σ H R I hq => hq.elim (h.run pins s σ H R I) (h'.run pins s σ H R I)⟩
theorem _root_.L2.PG.imp {X : Cx} {e : Expr} {t t' : TG} (h : PG X e t) (i : ∀ v σ H Q, t' v σ H Q → t v σ H Q) : PG X e t' := ⟨fun pins s σ H v u Q I r hq => h.run pins s σ H v u Q I r (i v σ H Q hq)⟩
theorem _root_.L2.PG.or {X : Cx} {e : Expr} {t t' : TG} (h : PG X e t) (h' : PG X e t') : PG X e (fun v σ H Q => t v σ H Q ∨ t' v σ H Q) := ⟨fun pins s σ H v u Q I r hq => hq.elim (h.run pins s σ H v u Q I r) (h'.run pins s σ H v u Q I r)⟩

section
variable {X : Cx} {T : Tb} {W : WX} {pos : Pos}
variable {a b c e tg : Expr} {es rest : List Expr} {fa fb fc : EF} {ra : AF} {ta tb : BF}
theorem rdA_bndI {a : AF} {k : List D → M Wk} {φ : List Addr} {S : Sto} {τ : Sl} {o : Rs Wk} {σ : L2.St} {H : Hp} {Q : It → Hp → Prop} (R : Rel T φ S H) (r : RSl T H φ τ σ) (h : (a τ).bnd k S = some o) (q : EndI T φ H o Q fun c d H' => W c d σ H') {Q' : List V → Hp → Prop}
    (n : ∀ d S1 v H1 φ1, Ext φ H φ1 H1 → Rel T φ1 S1 H1 → RDs T H1 φ1 d v → k d S1 = some o → EndI T φ1 H1 o Q (fun c d H' => W c d σ H') → Q' v H1) : rdA T W a σ H Q' := by
  unfold M.bnd at h
  cases e : a τ S with
  | none => rw [e] at h; cases h
  | some x =>
    rw [e] at h
    refine ⟨φ, S, τ, x, R, r, e, ?_⟩
    cases x with
    | ok d S1 => exact fun φ' H' v e1 e2 e3 => n d S1 v H' φ' e1 e2 e3 h (q.mono e1)
    | ex x S1 => cases h; exact q
/-- a list, a tuple, a text -/
def wkD (S : Sto) : D → Option Wk
  | .tup ds => some ⟨ds.length, fun i _ => some ds[i]?⟩
  | .str x => some ⟨x.cps.size, fun i _ => some ((x.cps[i]?).map fun c => .str ⟨#[c]⟩)⟩
  | .loc n => (seqD S (.loc n)).map fun ds => ⟨ds.length, fun i S => (seqD S (.loc n)).map fun es => es[i]?⟩
  | .fl ds => some ⟨ds.length, fun i _ => some ds[i]?⟩
  | _ => none
def iSeq (fe : EF) : IF := fun τ => (fe τ).bnd fun d S => (wkD S d).bind fun wk => some (.ok wk S)
theorem rds_at {H : Hp} {φ : List Addr} {ds : List D} {vs : List V} {i : Nat} {x : V} (r : RDs T H φ ds vs) (h : vs[i]? = some x) {d : D} (hd : ds[i]? = some d) : RD T H φ d x := by
  obtain ⟨v, h1, h2⟩ := r.get hd
  rw [h] at h1; cases h1
  exact h2
theorem rds_none {H : Hp} {φ : List Addr} {ds : List D} {vs : List V} {i : Nat} (r : RDs T H φ ds vs) (h : ds[i]? = none) : vs.length ≤ i := by
  rw [← r.length]; exact List.getElem?_eq_none_iff.mp h
theorem sv_tup {φ0 : List Addr} {H0 : Hp} {ds : List D} {vs : List V} {p : Addr} {n : Nat} (h : Rd H0 p (.tup vs)) (r : RDs T H0 φ0 ds vs) : Serves T φ0 H0 ⟨n, fun i _ => some ds[i]?⟩ (Itt X.K p) := by
  intro φ S H i E R
  have h' := E.rdT h
  have r' := r.ext E _ _
  refine ⟨fun d hd => ?_, fun hn => ?_⟩
  · have hd' : ds[i]? = some d := Option.some.inj hd
    obtain ⟨v, h1, h2⟩ := r'.get hd'
    refine ⟨⟨vs, v, .inl h', h1⟩, fun x H' y => ?_⟩
    obtain ⟨rfl, y⟩ := y
    have := y vs (.inl h')
    exact ⟨.refl, R, rds_at r' this hd'⟩
  · have hn' : ds[i]? = none := Option.some.inj hn
    exact ⟨vs, .inl h', rds_none r' hn'⟩
theorem sv_fl {φ0 : List Addr} {H0 : Hp} {ds : List D} {vs : List V} {p : Addr} {n : Nat} (hp : p ∉ φ0) (h : H0 p = some (.lst vs)) (r : RDs T H0 φ0 ds vs) : Serves T φ0 H0 ⟨n, fun i _ => some ds[i]?⟩ (Itl X.K p) := by
  intro φ S H i E R
  have h' := E.lst _ _ hp h
  have r' := r.ext E _ _
  refine ⟨fun d hd => ?_, fun hn => ?_⟩
  · have hd' : ds[i]? = some d := Option.some.inj hd
    obtain ⟨v, h1, h2⟩ := r'.get hd'
    refine ⟨⟨vs, v, .of h', h1⟩, fun x H' y => ?_⟩
    obtain ⟨rfl, y⟩ := y
    have := y vs (.of h')
    exact ⟨.refl, R, rds_at r' this hd'⟩
  · have hn' : ds[i]? = none := Option.some.inj hn
    exact ⟨vs, .of h', rds_none r' hn'⟩
theorem sv_list {φ0 : List Addr} {H0 : Hp} {k n : Nat} {p : Addr} (hp : φ0[k]? = some p) : Serves T φ0 H0 ⟨n, fun i S => (seqD S (.loc k)).map fun es => es[i]?⟩ (Itl X.K p) := by
  intro φ S H i E R
  have hp' := E.get hp
  have key : ∀ ds, seqD S (.loc k) = some ds → ∃ vs, SqL X.K H p vs ∧ RDs T H φ ds vs := fun ds e => by
    simp only [seqD] at e
    split at e
    · rename_i q
      cases e
      obtain ⟨vs, k1, k2⟩ := R.obj k _ p q hp'
      exact ⟨vs, .of k1, k2⟩
    · cases e
  refine ⟨fun d hd => ?_, fun hn => ?_⟩
  · simp only [Option.map_eq_some_iff] at hd
    obtain ⟨ds, e1, e2⟩ := hd
    obtain ⟨vs, k1, k2⟩ := key ds e1
    obtain ⟨v, h1, h2⟩ := k2.get e2
    refine ⟨⟨vs, v, k1, h1⟩, fun x H' y => ?_⟩
    obtain ⟨rfl, y⟩ := y
    exact ⟨.refl, R, rds_at k2 (y vs k1) e2⟩
  · simp only [Option.map_eq_some_iff] at hn
    obtain ⟨ds, e1, e2⟩ := hn
    obtain ⟨vs, k1, k2⟩ := key ds e1
    exact ⟨vs, k1, rds_none k2 e2⟩
theorem sv_str {φ0 : List Addr} {H0 : Hp} {n : Nat} {x : Str} : Serves T φ0 H0 ⟨n, fun i _ => some ((x.cps[i]?).map fun c => .str ⟨#[c]⟩)⟩ (Its x) := by
  intro φ S H i E R
  refine ⟨fun d hd => ?_, fun hn => ?_⟩
  · have hd' : (x.cps[i]?).map (fun c => D.str ⟨#[c]⟩) = some d := Option.some.inj hd
    simp only [Option.map_eq_some_iff] at hd'
    obtain ⟨c, e1, rfl⟩ := hd'
    refine ⟨(Array.getElem?_eq_some_iff.mp e1).1, fun y H' z => ?_⟩
    obtain ⟨rfl, c', e2, rfl⟩ := z
    rw [e1] at e2; cases e2
    exact ⟨.refl, R, rfl⟩
  · have hn' : (x.cps[i]?).map (fun c => D.str ⟨#[c]⟩) = none := Option.some.inj hn
    simp only [Option.map_eq_none_iff] at hn'
    exact Array.getElem?_eq_none_iff.mp hn'
theorem i_seq (he : PE X e (rdE T W fa)) : PI X tg e (rdI T W (iSeq fa)) :=
  ((pi_list he).or ((pi_tup he).or (pi_str he))).imp fun σ H Rr h => by
    obtain ⟨φ, S, τ, o, R, r, e, q⟩ := h
    have e0 := e
    unfold iSeq M.bnd at e0
    cases e1 : fa τ S with
    | none => rw [e1] at e0; cases e0
    | some x =>
      rw [e1] at e0
      cases x with
      | ex x S1 =>
        cases e0
        exact .inl ⟨φ, S, τ, _, R, r, e1, q⟩
      | ok d S1 =>
        simp only [Option.bind_eq_some_iff] at e0
        obtain ⟨wk, e2, e3⟩ := e0
        cases e3
        cases d with
        | tup ds =>
          cases e2
          refine .inr (.inl ⟨φ, S, τ, _, R, r, e1, fun φ1 H1 v E1 R1 r1 => ?_⟩)
          obtain ⟨p, vs, rfl, k1, s⟩ := r1
          exact ⟨p, rfl, ⟨vs, .inl k1⟩, q φ1 H1 _ E1 R1 (sv_tup k1 s)⟩
        | str x =>
          cases e2
          refine .inr (.inr ⟨φ, S, τ, _, R, r, e1, fun φ1 H1 v E1 R1 r1 => ?_⟩)
          cases r1
          exact ⟨x, rfl, q φ1 H1 _ E1 R1 sv_str⟩
        | loc n =>
          simp only [wkD, Option.map_eq_some_iff] at e2
          obtain ⟨ds, e4, rfl⟩ := e2
          refine .inl ⟨φ, S, τ, _, R, r, e1, fun φ1 H1 v E1 R1 r1 => ?_⟩
          have r1' := r1
          obtain ⟨p, rfl, hp⟩ := r1
          have key : ∃ vs, SqL X.K H1 p vs := by
            simp only [seqD] at e4
            split at e4
            · rename_i q
              obtain ⟨vs, k1, k2⟩ := R1.obj n _ p q hp
              exact ⟨vs, .of k1⟩
            · cases e4
          exact ⟨p, rfl, key, q φ1 H1 _ E1 R1 (sv_list hp)⟩
        | fl ds =>
          cases e2
          refine .inl ⟨φ, S, τ, _, R, r, e1, fun φ1 H1 v E1 R1 r1 => ?_⟩
          obtain ⟨p, vs, rfl, hp, k1, s⟩ := r1
          exact ⟨p, rfl, ⟨vs, .of k1⟩, q φ1 H1 _ E1 R1 (sv_fl hp k1 s)⟩
        | _ => cases e2
/-- range(n), range(a, b) -/
def wkR (lo : Int) (n : Nat) : Wk := ⟨n, fun i _ => if i < n then some (some (.int (lo + (i : Nat)))) else some none⟩
def iRg1 (ra : AF) : IF := fun τ => (ra τ).bnd fun ds S => match ds with
  | [.int j] => if -(2 ^ 62) ≤ j ∧ j < 2 ^ 62 then some (.ok (wkR 0 j.toNat) S) else none
  | _ => none
def iRg2 (ra : AF) : IF := fun τ => (ra τ).bnd fun ds S => match ds with
  | [.int i, .int j] => if -(2 ^ 62) ≤ i ∧ i < 2 ^ 62 ∧ -(2 ^ 62) ≤ j ∧ j < 2 ^ 62 then some (.ok (wkR i (j - i).toNat) S) else none
  | _ => none
theorem sv_rng {φ0 : List Addr} {H0 : Hp} {lo : Int} {n : Nat} : Serves T φ0 H0 (wkR lo n) (Itr lo n) := by
  intro φ S H i E R
  refine ⟨fun d hd => ?_, fun hn => ?_⟩
  · simp only [wkR] at hd
    split at hd
    · rename_i hi
      cases hd
      exact ⟨hi, fun x H' y => by obtain ⟨rfl, rfl⟩ := y; exact ⟨.refl, R, rfl⟩⟩
    · cases hd
  · simp only [wkR] at hn
    split at hn
    · cases hn
    · rename_i hi; exact Nat.le_of_not_lt hi
theorem i_rg1 {p pos : Pos} (hg : Gl X "range") (hm : X.mg "range" = none) (ha : PA X [a] (rdA T W ra)) (hs : starEach [a] X.env = [(false, eval a X.env)] := by rfl) : PI X tg (.Call (.Name "range" p) [a] [] pos) (rdI T W (iRg1 ra)) :=
  (pi_range1 hg hm ha hs).imp fun σ H Rr h => by
    obtain ⟨φ, S, τ, o, R, r, e, q⟩ := h
    refine rdA_bndI R r e q fun ds S1 vs H1 φ1 E1 R1 r1 e1 q1 => ?_
    split at e1
    · rename_i j
      split at e1
      · rename_i hj
        cases e1
        obtain ⟨v, l, rfl, r2, r3⟩ := r1
        cases r2; cases r3
        exact ⟨j, rfl, hj.1, hj.2, q1 φ1 H1 _ .refl R1 sv_rng⟩
      · cases e1
    · cases e1
theorem i_rg2 {p pos : Pos} (hg : Gl X "range") (hm : X.mg "range" = none) (ha : PA X [a, b] (rdA T W ra)) (hs : starEach [a, b] X.env = [(false, eval a X.env), (false, eval b X.env)] := by rfl) (hs2 : starEach [b] X.env = [(false, eval b X.env)] := by rfl) :
    PI X tg (.Call (.Name "range" p) [a, b] [] pos) (rdI T W (iRg2 ra)) :=
  (pi_range2 hg hm ha hs hs2).imp fun σ H Rr h => by
    obtain ⟨φ, S, τ, o, R, r, e, q⟩ := h
    refine rdA_bndI R r e q fun ds S1 vs H1 φ1 E1 R1 r1 e1 q1 => ?_
    split at e1
    · rename_i i j
      split at e1
      · rename_i hj
        cases e1
        obtain ⟨v, l, rfl, r2, w, l2, rfl, r3, r4⟩ := r1
        cases r2; cases r3; cases r4
        exact ⟨i, j, rfl, hj, q1 φ1 H1 _ .refl R1 sv_rng⟩
      · cases e1
    · cases e1

/-! ## targets of names -/
abbrev TF := D → Sto → Sl → Option Sl
def rdG (T : Tb) (vs : List Nat) (f : TF) : TG := fun v σ H Q => ∃ φ S τ d τ', Rel T φ S H ∧ RSl T H φ τ σ ∧ RD T H φ d v ∧ f d S τ = some τ' ∧ ∀ σ', RSl T H φ τ' σ' → (∀ k, k ∉ vs → σ'[k]? = σ[k]?) → σ'.length = σ.length → Q σ' H
def tN (i : Nat) : TF := fun d _ τ => some (τ.set i (some d))
theorem g_name {i : Nat} {x : Str} (hN : X.N.Nodup) (hi : X.N[i]? = some x) (hx : Loc X.env.scope x) (hf : X.fn x = true ∨ X.env.scope.names.lookup x = some .local := by first | exact .inl rfl | exact .inr rfl | assumption) : PG X (.Name x pos) (rdG T [i] (tN i)) :=
  (pg_name hN hi hx hf).imp fun v σ H Q h => by
    obtain ⟨φ, S, τ, d, τ', R, r, rd, e, q⟩ := h
    cases e
    exact q _ (r.set i rd) (fun k hk => List.getElem?_set_ne (by simpa using fun z => hk (by simp [z]))) (by simp)
/-- a, b -/
def tN2 (i j : Nat) : TF := fun d S τ => match seqD S d with
  | some [x, y] => some ((τ.set i (some x)).set j (some y))
  | _ => none
theorem g_two (hK : T.K = X.K) {i j : Nat} {x y : Str} {p1 p2 : Pos} {k : Nat} (hc : X.calm = true) (hN : X.N.Nodup) (hi : X.N[i]? = some x) (hx : Loc X.env.scope x) (hj : X.N[j]? = some y) (hy : Loc X.env.scope y)
    (hf : X.fn x = true ∨ X.env.scope.names.lookup x = some .local := by first | exact .inl rfl | exact .inr rfl | assumption) (hf2 : X.fn y = true ∨ X.env.scope.names.lookup y = some .local := by first | exact .inl rfl | exact .inr rfl | assumption) :
    PG X (.Tuple [.Name x p1, .Name y p2] k pos) (rdG T [i, j] (tN2 i j)) :=
  ((pg_lst (n := 2) hc (pgs_cons (pg_name hN hi hx hf) (pgs_cons (pg_name hN hj hy hf2) pgs_nil))).or (pg_tup (n := 2) hc (pgs_cons (pg_name hN hi hx hf) (pgs_cons (pg_name hN hj hy hf2) pgs_nil)))).imp fun v σ H Q h => by
    obtain ⟨φ, S, τ, d, τ', R, r, rd, e, q⟩ := h
    unfold tN2 at e
    split at e
    · rename_i d1 d2 es
      cases e
      obtain ⟨p, vs, rfl, kk, s⟩ := seq_sq R rd es
      rw [hK] at kk
      obtain ⟨v1, l1, rfl, s1, v2, l2, rfl, s2, s3⟩ := s
      cases s3
      have fin : Q ((σ.set i (some v1)).set j (some v2)) H := q _ ((r.set i s1).set j s2) (fun k hk => by
        simp only [List.mem_cons, not_or] at hk
        rw [List.getElem?_set_ne (Ne.symm hk.2.1), List.getElem?_set_ne (Ne.symm hk.1)]) (by simp)
      rcases kk with kk | kk
      · exact .inl ⟨p, _, rfl, kk, rfl, v1, _, rfl, v2, _, rfl, rfl, fin⟩
      · exact .inr ⟨p, _, rfl, kk, rfl, v1, _, rfl, v2, _, rfl, rfl, fin⟩
    · cases e
/-- a, b = e -/
def sAs (g : TF) (fe : EF) : SF := fun τ => sx (fe τ) τ fun d S => (g d S τ).bind fun τ1 => some (.nx τ1, S)
/-! ## for -/
def goF (nxt : Nat → Sto → Option (Option D)) (g : TF) (fb : SF) : Nat → Nat → SF
  | 0, _, _, _ => none
  | m + 1, i, τ, S => match nxt i S with
    | none => none
    | some none => some (.nx τ, S)
    | some (some d) => match g d S τ with
      | none => none
      | some τ1 => match fb τ1 S with
        | some (.nx τ2, S2) => goF nxt g fb m (i + 1) τ2 S2
        | some (.ct τ2, S2) => goF nxt g fb m (i + 1) τ2 S2
        | some (.bk τ2, S2) => some (.nx τ2, S2)
        | x => x
def sFor (fi : IF) (g : TF) (fb : SF) : SF := fun τ S => match fi τ S with
  | none => none
  | some (.ex x S1) => some (.xx x τ, S1)
  | some (.ok wk S1) => goF wk.nxt g fb (wk.bound + 1) 0 τ S1
variable {body : List Stmt} {fi : IF} {g : TF} {vs : List Nat} {fbd : SF}
theorem s_for (hp : PassesOwn (model X.prog X.w) X.A X.env X.xe) (hc : X.calm = true) (hi : PI X tg e (rdI T W fi)) (hg : PG X tg (rdG T vs g)) (hb : PSs X body (rdS T W fbd))
    (hs : ∀ x, foldedSetIterable e X.env x = pure x := by intro _; rfl) : PS X (.For tg e body [] pos) (rdS T W (sFor fi g fbd)) := (ps_for hp hc hi hg hb hs).imp fun De σ H h => by
  obtain ⟨φ, S, τ, fl, S', R, r, e, q⟩ := h
  unfold sFor at e
  cases e1 : fi τ S with
  | none => rw [e1] at e; cases e
  | some x =>
    rw [e1] at e
    refine ⟨φ, S, τ, x, R, r, e1, ?_⟩
    cases x with
    | ex x S1 =>
      cases e
      exact fun φ' H' d E1 R1 hx => q φ' H' σ d E1 R1 (r.ext E1) hx
    | ok wk S1 =>
      intro φ1 H1 J E1 R1 sv
      refine ⟨fun i m σ H => ∃ φ2 S2 τ2, Ext φ1 H1 φ2 H ∧ Rel T φ2 S2 H ∧ RSl T H φ2 τ2 σ ∧ goF wk.nxt g fbd m i τ2 S2 = some (fl, S') ∧ EndS T φ2 H fl S' De W, ⟨wk.bound + 1, φ1, S1, τ, .refl, R1, r.ext E1, e, q.mono E1⟩, ?_⟩
      rintro i m σ2 H2 ⟨φ2, S2, τ2, E2, R2, r2, e2, q2⟩
      cases m with
      | zero => cases e2
      | succ m =>
        unfold goF at e2
        obtain ⟨sgo, sst⟩ := sv φ2 S2 H2 i E2 R2
        cases hn : wk.nxt i S2 with
        | none => rw [hn] at e2; cases e2
        | some od =>
          rw [hn] at e2
          cases od with
          | none =>
            cases e2
            exact .inl ⟨sst hn, q2 φ2 H2 σ2 .refl R2 r2⟩
          | some d =>
            obtain ⟨go, yl⟩ := sgo d hn
            refine .inr ⟨go, fun σ' H' => ∃ φ3 S3 τ3, Ext φ1 H1 φ3 H' ∧ Rel T φ3 S3 H' ∧ RSl T H' φ3 τ3 σ' ∧ goF wk.nxt g fbd m (i + 1) τ3 S3 = some (fl, S') ∧ EndS T φ3 H' fl S' De W, fun σ' H' h => ⟨m, Nat.lt_succ_self m, h⟩, fun x H' y => ?_⟩
            obtain ⟨E3, R3, r3⟩ := yl x H' y
            simp only at e2
            cases hg1 : g d S2 τ2 with
            | none => rw [hg1] at e2; cases e2
            | some τ3 =>
              rw [hg1] at e2
              refine ⟨φ2, S2, τ2, d, τ3, R3, r2.ext E3, r3, hg1, fun σ' r' _ _ => ?_⟩
              simp only at e2
              cases hb1 : fbd τ3 S2 with
              | none => rw [hb1] at e2; cases e2
              | some p =>
                obtain ⟨fl1, S3⟩ := p
                rw [hb1] at e2
                refine ⟨φ2, S2, τ3, fl1, S3, R3, r', hb1, ?_⟩
                cases fl1 with
                | nx τ4 => exact fun φ' H'' σ'' E4 R4 r4 => ⟨φ', S3, τ4, (E2.trans E3).trans E4, R4, r4, e2, (q2.mono E3).mono E4⟩
                | ct τ4 => exact fun φ' H'' σ'' E4 R4 r4 => ⟨φ', S3, τ4, (E2.trans E3).trans E4, R4, r4, e2, (q2.mono E3).mono E4⟩
                | bk τ4 => cases e2; exact fun φ' H'' σ'' E4 R4 r4 => (q2.mono E3) φ' H'' σ'' E4 R4 r4
                | rt d4 => cases e2; exact fun φ' H'' v E4 R4 r4 => (q2.mono E3) φ' H'' v E4 R4 r4
                | xx x4 τ4 => cases e2; exact fun φ' H'' σ'' d4 E4 R4 r4 hx => (q2.mono E3) φ' H'' σ'' d4 E4 R4 r4 hx

/-! ## list comprehensions -/
def wipeD (τ : Sl) : List Nat → Sl
  | [] => τ
  | v :: vs => (wipeD τ vs).set v none
theorem RSl.wipe {φ : List Addr} {H : Hp} {τ : Sl} {σ : L2.St} (r : RSl T H φ τ σ) : ∀ vs, RSl T H φ (wipeD τ vs) (wipe σ vs)
  | [] => r
  | v :: vs => by
    have ih := RSl.wipe r vs
    refine ⟨by simp [wipeD, L2.wipe, ih.len], fun j d hj => ?_⟩
    unfold wipeD at hj
    unfold L2.wipe
    by_cases hv : v = j
    · subst hv
      have hl : v < (wipeD τ vs).length := by have := (List.getElem?_eq_some_iff.mp hj).1; simpa using this
      rw [List.getElem?_set_self hl] at hj; cases hj
    · rw [List.getElem?_set_ne hv] at hj
      rw [List.getElem?_set_ne hv]
      exact ih.at_ j d hj
theorem wipe_get {σ : L2.St} : ∀ {vs : List Nat} {i : Nat}, i ∈ vs → i < σ.length → (wipe σ vs)[i]? = some none
  | v :: vs, i, h, hl => by
    unfold L2.wipe
    by_cases hv : v = i
    · subst hv; rw [List.getElem?_set_self (by rw [wipe_length]; exact hl)]
    · rw [List.getElem?_set_ne hv]
      exact wipe_get ((List.mem_cons.mp h).resolve_left fun z => hv z.symm) hl
theorem wipe_eq {σ σ' : L2.St} {vs : List Nat} (h : ∀ k, k ∉ vs → σ'[k]? = σ[k]?) (hl : σ'.length = σ.length) : wipe σ' vs = wipe σ vs := by
  refine List.ext_getElem? fun i => ?_
  by_cases hi : i ∈ vs
  · by_cases hlt : i < σ.length
    · rw [wipe_get hi hlt, wipe_get hi (by omega)]
    · rw [List.getElem?_eq_none (by rw [wipe_length]; omega), List.getElem?_eq_none (by rw [wipe_length]; omega)]
  · rw [wipe_out hi, wipe_out hi]
    exact h i hi
theorem wipe_wipe {σ : L2.St} {vs : List Nat} : wipe (wipe σ vs) vs = wipe σ vs := wipe_eq (fun k hk => wipe_out hk) (wipe_length σ vs)
abbrev W0 : WX := fun _ _ _ _ => False
def goC (nxt : Nat → Sto → Option (Option D)) (g : TF) (t : BF) (fe : EF) (n : Nat) (τ0 : Sl) : Nat → Nat → Sto → Option Sto
  | 0, _, _ => none
  | m + 1, i, S => match nxt i S with
    | none => none
    | some none => some S
    | some (some d) => match g d S τ0 with
      | none => none
      | some τ1 => match t τ1 S with
        | some (.ok false S1) => goC nxt g t fe n τ0 m (i + 1) S1
        | some (.ok true S1) => match fe τ1 S1 with
          | some (.ok d S2) => match S2[n]? with
            | some (.lst acc) => if acc.length < sizeLine then goC nxt g t fe n τ0 m (i + 1) (S2.set n (.lst (acc ++ [d]))) else none
            | _ => none
          | _ => none
        | _ => none
def eLc (fi : IF) (g : TF) (t : BF) (fe : EF) (vs : List Nat) : EF := fun τ S => match fi τ S with
  | none => none
  | some (.ex x S1) => some (.ex x S1)
  | some (.ok wk S1) => (goC wk.nxt g t fe S1.length (wipeD τ vs) (wk.bound + 1) 0 (S1 ++ [.lst []])).bind fun S2 => some (.ok (.loc S1.length) S2)
def tAll : BF := fun _ S => some (.ok true S)
theorem ts_nil : PTs X [] (rdT T W0 tAll) := by
  refine ⟨fun pins s σ H Q I h => ?_⟩
  obtain ⟨φ, S, τ, o, R, r, e, q⟩ := h
  cases e
  exact pts_nil.run pins s σ H Q I (q φ H .refl R)
theorem ts_one (h : PT X c (rdT T W0 ta)) : PTs X [c] (rdT T W0 ta) := pts_one h
theorem lc_of {t : BF} {fe : EF} (hv : ∀ k ∈ vs, True) {us : List Nat} (hus : ∀ k ∈ us, k ∈ vs) {σ : L2.St} {H : Hp} {Q : VK} (h : rdE T W (eLc fi g t fe vs) σ H Q) : tLc (rdI T W fi) (rdG T us g) (rdT T W0 t) (rdE T W0 fe) vs σ H Q := by
  obtain ⟨φ, S, τ, o, R, r, e, q⟩ := h
  unfold eLc at e
  cases e1 : fi τ S with
  | none => rw [e1] at e; cases e
  | some x =>
    rw [e1] at e
    refine ⟨φ, S, τ, x, R, r, e1, ?_⟩
    cases x with
    | ex x S1 => cases e; exact q
    | ok wk S1 =>
      intro φ1 H1 J E1 R1 sv L hL
      simp only [Option.bind_eq_some_iff] at e
      obtain ⟨S9, e2, e3⟩ := e
      cases e3
      obtain ⟨R2, E2⟩ := R1.new (u := .lst []) (o := .lst []) hL ⟨[], upd_same, rfl⟩
      have hL2 : (φ1 ++ [L])[S1.length]? = some L := by rw [← R1.len]; simp
      have r0 := ((r.ext E1).ext E2).wipe vs
      refine ⟨fun i m H => ∃ φ3 S3, Ext (φ1 ++ [L]) (upd H1 L (.lst [])) φ3 H ∧ Rel T φ3 S3 H ∧ goC wk.nxt g t fe S1.length (wipeD τ vs) m i S3 = some S9, ⟨wk.bound + 1, _, _, .refl, R2, e2⟩, ?_⟩
      rintro i m H3 ⟨φ3, S3, E3, R3, e3⟩
      cases m with
      | zero => cases e3
      | succ m =>
        unfold goC at e3
        obtain ⟨sgo, sst⟩ := sv φ3 S3 H3 i (E2.trans E3) R3
        cases hn : wk.nxt i S3 with
        | none => rw [hn] at e3; cases e3
        | some od =>
          rw [hn] at e3
          cases od with
          | none =>
            cases e3
            exact .inl ⟨sst hn, q φ3 H3 _ ((E1.trans E2).trans E3) R3 ⟨L, rfl, E3.get hL2⟩⟩
          | some d =>
            obtain ⟨go, yl⟩ := sgo d hn
            refine .inr ⟨go, fun H' => ∃ φ4 S4, Ext (φ1 ++ [L]) (upd H1 L (.lst [])) φ4 H' ∧ Rel T φ4 S4 H' ∧ goC wk.nxt g t fe S1.length (wipeD τ vs) m (i + 1) S4 = some S9, fun H' h => ⟨m, Nat.lt_succ_self m, h⟩, fun x H' y => ?_⟩
            obtain ⟨E4, R4, r4⟩ := yl x H' y
            simp only at e3
            cases hg1 : g d S3 (wipeD τ vs) with
            | none => rw [hg1] at e3; cases e3
            | some τ4 =>
              rw [hg1] at e3
              refine ⟨φ3, S3, wipeD τ vs, d, τ4, R4, (r0.ext E3).ext E4, r4, hg1, fun σ' r' ks kl => ?_⟩
              refine ⟨(wipe_eq (fun k hk => ks k fun z => hk (hus k z)) kl).trans wipe_wipe, ?_⟩
              simp only at e3
              cases ht : t τ4 S3 with
              | none => rw [ht] at e3; cases e3
              | some ob =>
                rw [ht] at e3
                cases ob with
                | ex x S5 => cases e3
                | ok bb S5 =>
                  refine ⟨φ3, S3, τ4, _, R4, r', ht, fun φ5 H5 E5 R5 => ?_⟩
                  cases bb with
                  | false => exact ⟨φ5, S5, (E3.trans E4).trans E5, R5, e3⟩
                  | true =>
                    rw [if_pos rfl]
                    simp only at e3
                    cases hf : fe τ4 S5 with
                    | none => rw [hf] at e3; cases e3
                    | some od =>
                      rw [hf] at e3
                      cases od with
                      | ex x S6 => cases e3
                      | ok d6 S6 =>
                        refine ⟨φ5, S5, τ4, _, R5, r'.ext E5, hf, fun φ6 H6 v6 E6 R6 r6 => ?_⟩
                        simp only at e3
                        split at e3
                        · rename_i acc hacc
                          split at e3
                          · rename_i hl
                            have hL6 : φ6[S1.length]? = some L := E6.get (E5.get (E4.get (E3.get hL2)))
                            obtain ⟨vs6, k1, k2⟩ := R6.obj _ _ L hacc hL6
                            have E7 := Ext.put (φ := φ6) (u := .lst (vs6 ++ [v6])) (List.mem_of_getElem? hL6) k1
                            obtain ⟨R7, _⟩ := R6.put (o := .lst (acc ++ [d6])) (u := .lst (vs6 ++ [v6])) hL6 (mem_lt hacc) ⟨_, upd_same, (k2.app (RDs.one r6)).ext E7 _ _⟩
                            exact ⟨vs6, k1, by rw [← k2.length]; exact hl, φ6, _, (((E3.trans E4).trans E5).trans E6).trans E7, R7, e3⟩
                          · cases e3
                        · cases e3
variable {elt iter : Expr} {ifs : List Expr} {scope : Scope} {own : List (Str × Nat)} {us : List Nat} {t : BF} {fe : EF}
theorem d_lc (hc : X.calm = true) (hN : X.N.Nodup) (hi : PI X tg iter (rdI T W fi)) (ok : BlkOk X.N X.env.scope scope own)
    (hg : ∀ (s : Shared) (H : Hp) (C : Addr) (cl : List (Str × Addr)) (fp : List Addr), PG (X.blk s H scope (compEnvC scope cl C X.env) fp) tg (rdG T us g))
    (ht : ∀ (s : Shared) (H : Hp) (C : Addr) (cl : List (Str × Addr)) (fp : List Addr), PTs (X.blk s H scope (compEnvC scope cl C X.env) fp) ifs (rdT T W0 t))
    (he : ∀ (s : Shared) (H : Hp) (C : Addr) (cl : List (Str × Addr)) (fp : List Addr), PE (X.blk s H scope (compEnvC scope cl C X.env) fp) elt (rdE T W0 fe))
    (hus : ∀ k ∈ us, k ∈ own.map (·.2) := by decide) (hs : ∀ x, foldedSetIterable iter X.env x = pure x := by intro _; rfl) :
    PE X (.ListComp elt [⟨tg, iter, ifs, 0⟩] scope pos) (rdE T W (eLc fi g t fe (own.map (·.2)))) :=
  (pe_lc hc hN hi ok hg ht he hs).imp fun _ _ _ h => lc_of (fun _ _ => trivial) hus h
theorem s_setLcF {i : Nat} {y : Str} {py spos : Pos} (hc : X.calm = true) (hN : X.N.Nodup) (hy : X.N[i]? = some y) (hyl : X.env.scope.names.lookup y = some .local)
    (hsw : swapsWith (.ListComp elt [⟨tg, iter, ifs, 0⟩] scope pos) (some (.Name y py)) spos.line X.env = pure true) (hi : PI X tg iter (rdI T W fi)) (ok : BlkOk X.N X.env.scope scope own)
    (hg : ∀ (s : Shared) (H : Hp) (C : Addr) (cl : List (Str × Addr)) (fp : List Addr), PG (X.blk s H scope (compEnvC scope cl C X.env) fp) tg (rdG T us g))
    (ht : ∀ (s : Shared) (H : Hp) (C : Addr) (cl : List (Str × Addr)) (fp : List Addr), PTs (X.blk s H scope (compEnvC scope cl C X.env) fp) ifs (rdT T W0 t))
    (he : ∀ (s : Shared) (H : Hp) (C : Addr) (cl : List (Str × Addr)) (fp : List Addr), PE (X.blk s H scope (compEnvC scope cl C X.env) fp) elt (rdE T W0 fe))
    (hus : ∀ k ∈ us, k ∈ own.map (·.2) := by decide) (hs : ∀ x, foldedSetIterable iter X.env x = pure x := by intro _; rfl) :
    PS X (.Assign [.Name y py] (.ListComp elt [⟨tg, iter, ifs, 0⟩] scope pos) spos) (rdS T W (sSet i (fz (eLc fi g t fe (own.map (·.2)))))) :=
  (ps_setLc hc hN hy hyl hsw hi ok hg ht he hs).imp fun De σ H h => by
    obtain ⟨φ, S, τ, fl, S', R, r, e, q⟩ := h
    have h2 : rdE T W (fz (eLc fi g t fe (own.map (·.2)))) σ H (fun v H1 => De.nx (σ.set i (some v)) H1) := by
      refine rdE_sx R r e q fun d S1 v H1 φ1 ⟨E1, R1, r1⟩ e1 q1 => ?_
      cases e1
      exact q1 φ1 H1 _ .refl R1 ((r.ext E1).set i r1)
    exact lc_of (fun _ _ => trivial) hus (fz_imp h2)
end
end Sb
end
section
set_option Elab.async false
set_option linter.all false
set_option maxRecDepth 100000
set_option maxHeartbeats 4000000
namespace Sb
open PySem PySem.Spec PyProof.Rows L2

/-! ## all(e for x in xs): a generator over anything that is walked, its element any expression -/
/-- the generator's running code, walked as a body: its frame over the frames that run -/
def gcx (X : Cx) (s4 : Shared) (H4 : Hp) (cenv : Env) (fp : List Addr) (A3 : Around) (pn : List (Addr × Obj)) : Cx :=
  { X with A := A3, s_0 := s4, H_0 := H4, env := cenv, outer := X.stack, stack := cenv :: X.stack, ex := fp, fn := fun _ => true, calm := true, pn := pn, xe := fun _ _ => False }
def nones (n : Nat) : L2.St := List.replicate n none
def tGA (P : Addr) (n : Nat) (wi : TI) (g : TG) (te : TE) : TE := fun σ H Q => wi σ H fun J H1 => GxR.TabG H1 P ∧ ∀ H2, GxR.Tabbed P H1 H2 → ∃ W : Nat → Nat → Hp → Prop, (∃ m, W 0 m H2) ∧ ∀ i m H, W i m H →
  (J.stop i H ∧ Q (.bl true) H) ∨ (J.go i H ∧ ∃ Nx : Hp → Prop, (∀ H', Nx H' → ∃ m', m' < m ∧ W (i + 1) m' H') ∧ ∀ x H', J.yld i H x H' → g x (nones n) H' fun σ2 H2 => te σ2 H2 fun y H3 => ∃ b, y = .bl b ∧ if b = true then Nx H3 else Q (.bl false) H3)
/-- another state over the same heap -/
structure Sh (s s' : Shared) : Prop where
  heap : s'.heap = s.heap
  os : s'.os = s.os
  bare : AllBare s'.gens
theorem Sh.inv {X : Cx} {pins : List (Addr × Obj)} {σ : L2.St} {H : Hp} {s s' : Shared} (I : L2.Inv X pins σ H s) (h : Sh s s') : L2.Inv X pins σ H s' := by
  obtain ⟨hp, g, dr, tk, os⟩ := s'
  obtain ⟨e1, e2, e3⟩ := h
  have e1' : hp = s.heap := e1
  have e2' : os = s.os := e2
  subst e1' e2'
  exact ⟨I.ok, I.os, e3, I.base, I.loc, I.cell, I.free, I.freeC, I.pin, I.hok, I.len⟩
section
variable {X : Cx} {elt iter tg : Expr} {scope : Scope} {gpos : Pos}
abbrev GE (elt tg iter : Expr) (scope : Scope) (gpos : Pos) : Expr := .GeneratorExp elt [⟨tg, iter, [], 0⟩] scope gpos
/-- the end of the generator -/
def REx (Xg : Cx) (Q : VK) : GenEnd := fun _ _ r s1 => r = .ok .next ∧ ∃ σ H, L2.Inv Xg [] σ H s1 ∧ Q (.bl true) H
/-- a truth handed out -/
def YEx (Xg : Cx) (Q : VK) : Protocol := fun _ _ v s1 kap => ∃ b, v = Value.bool b ∧ ∃ σ H, L2.Inv Xg [] σ H s1 ∧ if b = true then ∀ s'', Sh s1 s'' → kap (.send .none) s'' else Q (.bl false) H
theorem seg_gen {A2 : Around} {Xg : Cx} {cenv : Env} {it : Addr} {fp : List Addr} {J : It} {tn : Nat → Heap → Prop} {g : TG} {te : TE} {Q : VK} {n0 : Nat} {W : Nat → Nat → Hp → Prop}
    (hA : Xg.A = A2.over (.compLoop (GE elt tg iter scope gpos) 0 (.ref it) .none cenv) []) (hE : Xg.env = cenv) (hcl : Xg.calm = true) (hxe : Xg.xe = fun _ _ => False) (hn0 : Xg.N.length = n0) (hco : cenv.scope.isCoroutine = false)
    (Tn : Turn Xg.prog Xg.w Xg.K tg J fp it tn) (hg : PG Xg tg g) (he : PE Xg elt te) (hfp : ∀ H, (∀ b ∈ fp, H b = none) → ∀ b ∈ fp, FpOk Xg [] H b)
    (turn : ∀ i m H, W i m H → (J.stop i H ∧ Q (.bl true) H) ∨ (J.go i H ∧ ∃ Nx : Hp → Prop, (∀ H', Nx H' → ∃ m', m' < m ∧ W (i + 1) m' H') ∧ ∀ x H', J.yld i H x H' → g x (nones n0) H' fun σ2 H2 => te σ2 H2 fun y H3 => ∃ b, y = .bl b ∧ if b = true then Nx H3 else Q (.bl false) H3)) :
    ∀ (n i m : Nat) (s₀ s : Shared) (σ : L2.St) (H : Hp), m < n → L2.Inv Xg [] σ H s → tn i s.heap → (∀ b ∈ fp, H b = none) → W i m H →
      Seg (model Xg.prog Xg.w) A2 (REx Xg Q) (YEx Xg Q) n s₀ (.compLoop (GE elt tg iter scope gpos) 0 (.ref it) .none cenv) ((model Xg.prog Xg.w).den (.compLoop (GE elt tg iter scope gpos) 0 (.ref it) .none cenv)) [] s := by
  intro n
  induction n with
  | zero => intro i m s₀ s σ H hm; exact absurd hm (Nat.not_lt_zero _)
  | succ n ih =>
    intro i m s₀ s σ H hm I st fr w
    show Seg _ A2 _ _ _ s₀ _ ((compTurn (GE elt tg iter scope gpos) 0 (.ref it) .none cenv).onRaise (leaving cenv)) [] s
    rw [compTurn_gen, Sem.onRaise_eq_wrap]
    refine seg_bind_wrap (wpAny_standAt ?_)
    rcases turn i m H w with ⟨stop, q⟩ | ⟨go, Nx, hN, step⟩
    · refine seg_bind_wrap ?_
      rw [← hA]
      refine thn (Tn.done Xg rfl rfl rfl hcl i [] s σ H _ I (hfp H fr) st stop) fun r s4 ⟨hr, I4⟩ => ?_
      subst hr
      exact seg_end (.ok .next) ⟨rfl, σ, H, I4, q⟩
    · refine seg_bind_wrap ?_
      rw [← hA]
      refine thn (Tn.item Xg rfl rfl rfl hcl i [] s σ H _ I (hfp H fr) st go) fun r s1 ⟨u, hr, h4⟩ => ?_
      subst hr
      refine seg_bind_wrap ?_
      rw [← hA]
      refine thn h4 fun _ s5 ⟨x, H5, I5, r5, y5, st5, fr5⟩ => ?_
      have I5' := (I5.pinned (hfp H5 fr5) (Tn.obj _ _ st5)).weak (σ' := nones n0) (by rw [I5.len, ← hn0]; simp [nones]) (fun j v hj => by
        unfold nones at hj
        rw [List.getElem?_replicate] at hj
        split at hj <;> cases hj)
      refine seg_bind_wrap ?_
      rw [← hA]
      have hgr := hg.run _ s5 (nones n0) H5 x u _ I5' r5 (step x H5 y5)
      rw [hE, hxe] at hgr
      refine wpAny_mono hgr (fun _ s6 ⟨σ6, H6, I6, q6⟩ => ?_) fun _ _ z => z.elim
      refine seg_bind_wrap (wpAny_tests_nil ?_)
      simp only [if_true]
      have hy : ∀ v, yieldOut cenv v = yieldValue v := fun v => by simp only [yieldOut, hco, Bool.false_eq_true, if_false]
      simp only [hy]
      rw [Sem.bind_eq_wrap', Sem.bind_eq_wrap', Sem.wrap_wrap, Sem.wrap_wrap]
      refine seg_wrap ?_
      rw [← hA]
      have her := he.run _ s6 σ6 H6 _ I6 q6
      rw [hE, hxe] at her
      refine wpAny_mono her (fun v s7 ⟨y, H7, I7, r7, b, hb, q7⟩ => ?_) fun _ _ z => z.elim
      subst hb
      obtain rfl : v = Value.bool b := r7
      refine seg_at (seg_yield rfl rfl rfl ⟨b, rfl, σ6, H7, I7.unpinned, ?_⟩)
      cases b with
      | false => exact q7
      | true =>
        intro s'' hs
        obtain ⟨m', hm', w'⟩ := hN H7 q7
        have keepIt : ∀ b ∈ fp, ∀ o, s5.heap.get? b = some o → s''.heap.get? b = some o := fun b hb o e => by
          rw [hs.heap]
          exact (I7.pin (b, o) (List.mem_append_right _ (List.mem_append_right _ (mem_pinsAt hb e)))).1
        refine seg_again rfl (ih (i + 1) m' _ s'' σ6 H7 (by omega) (hs.inv I7.unpinned) (Tn.keep _ _ _ st5 keepIt) (fun b hb => ?_) w')
        obtain ⟨o, e, d⟩ := Tn.obj _ _ st5 b hb
        exact (I7.pin (b, o) (List.mem_append_right _ (List.mem_append_right _ (mem_pinsAt hb e)))).2.1
theorem seg_gen0 {A2 : Around} {Xg : Cx} {cenv : Env} {it : Addr} {fp : List Addr} {J : It} {tn : Nat → Heap → Prop} {g : TG} {te : TE} {Q : VK} {n0 : Nat} {W : Nat → Nat → Hp → Prop}
    (hA : Xg.A = A2.over (.compLoop (GE elt tg iter scope gpos) 0 (.ref it) .none cenv) []) (hE : Xg.env = cenv) (hcl : Xg.calm = true) (hxe : Xg.xe = fun _ _ => False) (hn0 : Xg.N.length = n0) (hco : cenv.scope.isCoroutine = false)
    (Tn : Turn Xg.prog Xg.w Xg.K tg J fp it tn) (hg : PG Xg tg g) (he : PE Xg elt te) (hfp : ∀ H, (∀ b ∈ fp, H b = none) → ∀ b ∈ fp, FpOk Xg [] H b)
    (turn : ∀ i m H, W i m H → (J.stop i H ∧ Q (.bl true) H) ∨ (J.go i H ∧ ∃ Nx : Hp → Prop, (∀ H', Nx H' → ∃ m', m' < m ∧ W (i + 1) m' H') ∧ ∀ x H', J.yld i H x H' → g x (nones n0) H' fun σ2 H2 => te σ2 H2 fun y H3 => ∃ b, y = .bl b ∧ if b = true then Nx H3 else Q (.bl false) H3))
    {m : Nat} {s₀ s : Shared} {σ : L2.St} {H : Hp} (I : L2.Inv Xg [] σ H s) (st : tn 0 s.heap) (fr : ∀ b ∈ fp, H b = none) (w : W 0 m H) :
      Seg (model Xg.prog Xg.w) A2 (REx Xg Q) (YEx Xg Q) (m + 1) s₀ (.compStart (GE elt tg iter scope gpos) 0 (.ref it) .none cenv) ((model Xg.prog Xg.w).den (.compStart (GE elt tg iter scope gpos) 0 (.ref it) .none cenv)) [] s := by
  have loop := seg_gen hA hE hcl hxe hn0 hco Tn hg he hfp turn (m + 1) 0 m s₀ s σ H (Nat.lt_succ_self m) I st fr w
  show Seg _ A2 _ _ _ s₀ _ ((compStart (GE elt tg iter scope gpos) 0 (.ref it) .none cenv).onRaise (leaving cenv)) [] s
  unfold compStart
  rw [Sem.onRaise_eq_wrap]
  show Seg _ A2 _ _ _ s₀ _ ((ask >>= _).wrap _ _ _ _) [] s
  refine seg_bind_wrap (wpAny_askSetting ?_)
  split
  · exact seg_again rfl loop
  · refine seg_bind_wrap (wpAny_rule ?_)
    show Seg _ A2 _ _ _ s₀ _ ((standAt iter.pos >>= _).wrap _ _ _ _) [] s
    exact seg_bind_wrap (wpAny_standAt (seg_bind_wrap (Tn.self _ 0 s _ _ st (seg_again rfl loop))))

/-! ### the consumer -/
abbrev genObj (g : Nat) (nm qn : Str) (t1 t2 : Tok) : Obj := { cls := .type "generator", data := .fields #[.int g 0, .str nm t1, .str qn t2] }
theorem all_loop {P : Program} {w : World} {A : Around} {Xg : Cx} {a : Addr} {g : Nat} {nm qn : Str} {t1 t2 : Tok} {Q : VK} {Rz : Result → Shared → Prop} (hP : Xg.prog = P) (hw : Xg.w = w) (hh : A.handled = none) (hroom : A.depth < recursionLimit) (hpn : (a, genObj g nm qn t1 t2) ∈ Xg.pn)
    (hR : ∀ b σ H s' s'', L2.Inv Xg [] σ H s' → s''.os = s'.os → AllBare s''.gens → (∀ b o, s'.heap.get? b = some o → s''.heap.get? b = some o) → Q (.bl b) H → Rz (.ok (.ret (.bool b))) s'') :
    ∀ (n : Nat) (s : Shared) (gs : GenState), s.gens[g]? = some gs → (∃ σ H, L2.Inv Xg [] σ H s) → (∀ s'', Sh s s'' → gs.Goes (model P w) A.in1.in1 (REx Xg Q) (YEx Xg Q) n (.send .none) s'') →
      codeAny (model P w) A (.builtin "all.loop" ⟨[.ref a], []⟩) Rz s := by
  subst hP hw
  intro n
  induction n with
  | zero =>
    intro s gs hgs ⟨σ, H, I⟩ hgo
    have hlt : g < s.gens.size := by
      rcases Nat.lt_or_ge g s.gens.size with z | z
      · exact z
      · rw [Array.getElem?_eq_none z] at hgs; cases hgs
    have hpa := (I.pin _ (List.mem_append_left _ hpn)).1
    refine codeAny_builtin F.entry_all_loop ?_
    rw [Around.under_plainId F.plain_all_loop _]
    show wpAny _ A.in1 (pyNext (.ref a) >>= _) _ _ s
    refine wpAny_bind (wpAny_pyNext_genexpQ (A := A.in1) (P := fun _ s1 => fun s2 => ∃ σ H, L2.Inv Xg [] σ H s2 ∧ Q (.bl true) H) hh I.nolimit hroom ⟨_, _, _, hpa, rfl, rfl, rfl⟩ hgs
      (hgo _ ⟨rfl, rfl, allBare_setGen I.bare rfl⟩) (fun v s₁ gs' hb hy => ?_) fun s₁ ⟨σ1, H1, I1, q1⟩ h' kk => ?_)
    · obtain ⟨b, rfl, σ1, H1, I1, q1⟩ := hy
      refine wpAny_bind (wpAny_holding (wpAny_truthy_bool ?_))
      refine wpAny_bind (wpAny_letGo ?_)
      cases b with
      | true => exact (q1 s₁ ⟨rfl, rfl, I1.bare⟩).elim
      | false =>
        simp only [Bool.false_eq_true, if_false]
        exact wpAny_bind (wpAny_rule (wpAny_pure (hR false σ1 H1 s₁ _ I1 rfl (allBare_setGen I1.bare hb) (fun _ _ z => z) q1)))
    · exact wpAny_bind (wpAny_rule (wpAny_pure (hR true σ1 H1 s₁ _ I1 rfl (allBare_setGen I1.bare rfl) kk q1)))
  | succ n ih =>
    intro s gs hgs ⟨σ, H, I⟩ hgo
    have hlt : g < s.gens.size := by
      rcases Nat.lt_or_ge g s.gens.size with z | z
      · exact z
      · rw [Array.getElem?_eq_none z] at hgs; cases hgs
    have hpa := (I.pin _ (List.mem_append_left _ hpn)).1
    refine codeAny_builtin F.entry_all_loop ?_
    rw [Around.under_plainId F.plain_all_loop _]
    show wpAny _ A.in1 (pyNext (.ref a) >>= _) _ _ s
    refine wpAny_bind (GenW.wpAny_gsz (n := g + 1) hlt (wpAny_pyNext_genexpQ (A := A.in1) (P := fun _ s1 => fun s2 => ∃ σ H, L2.Inv Xg [] σ H s2 ∧ Q (.bl true) H) hh I.nolimit hroom ⟨_, _, _, hpa, rfl, rfl, rfl⟩ hgs
      (hgo _ ⟨rfl, rfl, allBare_setGen I.bare rfl⟩) (fun v s₁ gs' hb hy => ?_) fun s₁ ⟨σ1, H1, I1, q1⟩ h' kk => ?_))
    · intro hsz
      rw [GenW.setGen_size] at hsz
      obtain ⟨b, rfl, σ1, H1, I1, q1⟩ := hy
      refine wpAny_bind (wpAny_holding (wpAny_truthy_bool ?_))
      refine wpAny_bind (wpAny_letGo ?_)
      cases b with
      | true =>
        simp only [if_true] at q1 ⊢
        have sh : Sh s₁ (s₁.setGen g gs') := ⟨rfl, rfl, allBare_setGen I1.bare hb⟩
        refine wpAny_pure ⟨plainId_quiet F.plain_all_loop _, ih (s₁.setGen g gs') gs' (setGen_at hsz) ⟨σ1, H1, sh.inv I1⟩ fun s'' h2 => ?_⟩
        exact q1 s'' ⟨h2.heap, h2.os, h2.bare⟩
      | false =>
        simp only [Bool.false_eq_true, if_false] at q1 ⊢
        exact wpAny_bind (wpAny_rule (wpAny_pure (hR false σ1 H1 s₁ _ I1 rfl (allBare_setGen I1.bare hb) (fun _ _ z => z) q1)))
    · intro _
      exact wpAny_bind (wpAny_rule (wpAny_pure (hR true σ1 H1 s₁ _ I1 rfl (allBare_setGen I1.bare rfl) kk q1)))
end
end Sb
end
section
set_option Elab.async false
set_option linter.all false
set_option maxRecDepth 100000
set_option maxHeartbeats 4000000
namespace Sb
open PySem PySem.Spec PyProof.Rows L2

structure GenSc (scope : Scope) : Prop where
  kind : scope.kind = .function
  co : scope.isCoroutine = false
  cell : ∀ y ∈ scope.names, y.2 ≠ .cell
  free : ∀ y ∈ scope.names, y.2 ≠ .free
  dot : scope.names.lookup (".0" : Str) = some NameKind.local
theorem cloFrom_nil {cells : List (Str × Addr)} : ∀ {names : List (Str × NameKind)}, (∀ y ∈ names, y.2 ≠ .free) → cloFrom cells names [] = []
  | [], _ => rfl
  | (n, k) :: r, h => by
    unfold cloFrom
    have hk : (k == NameKind.free) = false := by
      have := h (n, k) List.mem_cons_self
      simpa using this
    rw [hk]
    exact cloFrom_nil fun y hy => h y (List.mem_cons_of_mem _ hy)
abbrev gEnv (scope : Scope) (C : Addr) (code : Value) (env : Env) : Env := genEnv scope [] C code builtinsNs env
section
variable {X : Cx} {elt iter tg : Expr} {scope : Scope} {gpos pos p : Pos} {k : Nat} {c P : Addr} {wi : TI} {g : TG} {te : TE}
/-- the contexts that the element may be asked in -/
def GenIn (X : Cx) (scope : Scope) (k : Nat) (Φ : Cx → Prop) : Prop := ∀ (s4 : Shared) (H4 : Hp) (C : Addr) (code : Value) (fp : List Addr) (A3 : Around) (pn : List (Addr × Obj)), Room k A3 → (X.A.guards = some [] → A3.guards = some []) → Φ (gcx X s4 H4 (gEnv scope C code X.env) fp A3 pn)
theorem lookup_kind {names : List (Str × NameKind)} {k : NameKind} (h : ∀ y ∈ names, y.2 ≠ k) (x : Str) : names.lookup x ≠ some k := fun e => h (x, k) (PySem.mem_of_lookup e) rfl

theorem gen_cont {pins : List (Addr × Obj)} {σ : L2.St} {H3 : Hp} {s3 : Shared} {Q : VK} {it : Addr} {fp : List Addr} {J : It} {tn : Nat → Heap → Prop} {code : Value} {W : Nat → Nat → Hp → Prop} (hcalm : X.calm = true) (hr : Room (k + 1) X.A) (S : GenSc scope)
    (hpg : GenIn X scope k fun Y => PG Y tg g) (hpe : GenIn X scope k fun Y => PE Y elt te) (I3 : L2.Inv X pins σ H3 s3) (Tn : Turn X.prog X.w X.K tg J fp it tn) (st3 : tn 0 s3.heap) (f3 : ∀ b ∈ fp, FpOk X pins H3 b) (hit : it ∈ fp)
    (hW : ∃ m, W 0 m H3)
    (turn : ∀ i m H, W i m H → (J.stop i H ∧ Q (.bl true) H) ∨ (J.go i H ∧ ∃ Nx : Hp → Prop, (∀ H', Nx H' → ∃ m', m' < m ∧ W (i + 1) m' H') ∧ ∀ x H', J.yld i H x H' → g x (nones X.N.length) H' fun σ2 H2 => te σ2 H2 fun y H3 => ∃ b, y = .bl b ∧ if b = true then Nx H3 else Q (.bl false) H3))
    {h' : Heap} (hn' : h'.Ns s3.heap.objs.size (fun y => if y = ".0" then some (.ref it) else none)) (hs' : Heap.SameBut s3.heap.objs.size (s3.heap.push { cls := .type "frame", data := .dict #[] }) h') {nm qn : Str} {t1 t2 : Tok} {tk : Nat} :
    wpAny (model X.prog X.w) X.A (call (.builtin "all") [.ref h'.objs.size]) (EP X pins σ Q) X.xe
      { s3 with gens := s3.gens.push (.fresh (.compStart (GE elt tg iter scope gpos) 0 (.ref it) .none (gEnv scope s3.heap.objs.size code X.env))), toks := tk, heap := h'.push (genObj s3.gens.size nm qn t1 t2) } := by
  obtain ⟨m, w0⟩ := hW
  have hsz : h'.objs.size = s3.heap.objs.size + 1 := by rw [hs'.1, Heap.size_push]
  have keep1 : ∀ b o, s3.heap.get? b = some o → h'.get? b = some o := fun b o e => hs'.extBut b o (Nat.ne_of_lt (Heap.lt_size e)) (Heap.get?_push_of_some _ e)
  have keep2 : ∀ b o, s3.heap.get? b = some o → (h'.push (genObj s3.gens.size nm qn t1 t2)).get? b = some o := fun b o e => Heap.get?_push_of_some _ (keep1 b o e)
  have hfpl : ∀ b ∈ fp, b < s3.heap.objs.size := fun b hb => by
    obtain ⟨o, e, _⟩ := Tn.obj _ _ st3 b hb
    exact Heap.lt_size e
  have hstk : ∀ b ∈ fp, b ∉ frs X.stack := fun b hb z => by
    rcases List.mem_cons.mp (I3.stkSub b z) with e | e
    · exact (f3 b hb).2.1 e
    · exact (f3 b hb).2.2.1 e
  let cenv : Env := gEnv scope s3.heap.objs.size code X.env
  let A3 : Around := X.A.in1.in1.over (.compLoop (GE elt tg iter scope gpos) 0 (.ref it) .none cenv) []
  have hA3 : Room k A3 := ⟨hr.hd, by
      have h1 := hr.dp
      have e : A3.depth = X.A.depth + 1 := rfl
      rw [e]; omega, by
      have h1 := hr.un
      have e : A3.units = X.A.units + 1 + 1 + 3 := rfl
      rw [e]; omega⟩
  have hgu : X.A.guards = some [] → A3.guards = some [] := fun z => by
    have e : A3.guards = pushGuards [] (pushGuards [] X.A.guards) := rfl
    rw [e, z]
    rfl
  have hfr : A3.frames = some (cenv :: X.stack) := by
    have e : A3.frames = pushEnvs [cenv] (pushEnvs [] X.A.frames) := rfl
    rw [e, I3.ok.frames]
    rfl
  let Xg : Cx := gcx X s3 H3 cenv fp A3 [(h'.objs.size, genObj s3.gens.size nm qn t1 t2)]
  have okG : Xg.Ok := by
    refine ⟨I3.ok.mod, S.kind, I3.ok.glob, rfl, Nat.le_refl _, fun x y c e => ?_, fun x hx => ?_, fun x c _ e => ?_, fun _ => hr.hd, hfr, .inr ⟨rfl, rfl⟩, fun b hb => ⟨Nat.ne_of_lt (hfpl b hb), fun x c e => ?_⟩, I3.bs, Nat.le_trans I3.ok.bsz I3.sz, fun b o e hb => ?_, hstk, I3.stack, I3.stkFree⟩
    · cases e
    · rcases hx with hx | hx
      · exact absurd hx (lookup_kind S.cell x)
      · exact absurd hx (lookup_kind S.free x)
    · cases e
    · cases e
    · rcases (f3 b hb).2.2.2.1 with z | z
      · exact I3.ok.noex b o e z
      · exact absurd (Nat.lt_of_lt_of_le (Heap.lt_size e) (Nat.le_trans I3.ok.bsz z)) (Nat.lt_irrefl _)
  have hCn : H3 s3.heap.objs.size = none := I3.hok.fresh (Nat.le_refl _)
  have han : H3 h'.objs.size = none := I3.hok.fresh (by rw [hsz]; exact Nat.le_succ _)
  have IG : L2.Inv Xg [] (nones X.N.length) H3 { s3 with gens := s3.gens.push (.fresh (.compStart (GE elt tg iter scope gpos) 0 (.ref it) .none cenv)), toks := tk, heap := h'.push (genObj s3.gens.size nm qn t1 t2) } := by
    refine ⟨okG, rfl, I3.bare.push rfl, Un.kept keep2, ⟨_, hn'.push _, fun i x v _ e _ => ?_⟩, fun x c e => ?_, hCn, fun x c e => ?_, fun q hq => ?_, I3.hok.kept keep2, ?_⟩
    · unfold nones at e
      rw [List.getElem?_replicate] at e
      split at e <;> cases e
    · cases e
    · cases e
    · have e : q = (h'.objs.size, genObj s3.gens.size nm qn t1 t2) := by simpa [Xg, gcx] using hq
      subst e
      refine ⟨Heap.get?_push_size _ rfl, han, ?_, fun z => ?_, fun v z => by cases z⟩
      · show h'.objs.size ≠ s3.heap.objs.size
        omega
      · have z' : h'.objs.size ∈ frs X.stack := z
        have h9 := I3.stkSub _ z'
        have h8 : h'.objs.size < s3.heap.objs.size := by
          rcases List.mem_cons.mp h9 with e | e
          · rw [e]; exact I3.lt
          · obtain ⟨_, o, ho, _⟩ := I3.ok.funs.mem e
            exact Nat.lt_of_lt_of_le (Heap.lt_size ho) I3.sz
        omega
    · show (nones X.N.length).length = X.N.length
      simp [nones]
  have hfpg : ∀ H, (∀ b ∈ fp, H b = none) → ∀ b ∈ fp, FpOk Xg [] H b := fun H hn b hb => by
    refine ⟨hn b hb, Nat.ne_of_lt (hfpl b hb), hstk b hb, .inl hb, fun x c e => ?_, fun q hq => ?_⟩
    · cases e
    · have e : q = (h'.objs.size, genObj s3.gens.size nm qn t1 t2) := by simpa [Xg, gcx] using hq
      subst e
      exact Nat.ne_of_gt (Nat.lt_of_lt_of_le (hfpl b hb) (by show s3.heap.objs.size ≤ h'.objs.size; rw [hsz]; exact Nat.le_succ _))
  have hpg' : PG Xg tg g := hpg s3 H3 _ code fp A3 _ hA3 hgu
  have hpe' : PE Xg elt te := hpe s3 H3 _ code fp A3 _ hA3 hgu
  refine call_function_tree F.kind_all F.plain_all F.entry_all (F.args_all1 _) ?_
  unfold Builtin.«all»
  refine wpAny_bind (m := oneArg "all" _) (wpAny_pure ?_)
  refine wpAny_bind (wpAny_pyIter_gen (g := s3.gens.size) ⟨_, _, _, Heap.get?_push_size _ rfl, rfl, rfl, rfl⟩ ?_)
  refine wpAny_pure ⟨plainId_quiet F.plain_all_loop _, ?_⟩
  refine all_loop (Xg := Xg) (g := s3.gens.size) (nm := nm) (qn := qn) (t1 := t1) (t2 := t2) (Q := Q) rfl rfl hr.hd (by have := hr.dp; show X.A.depth < _; omega) (by show _ ∈ [_]; exact List.mem_cons_self) (fun b σ' H' s' s'' J os bare kk q => ?_) (m + 1) _ _ (Array.getElem?_push_size ..) ⟨_, _, IG⟩ fun s'' sh => ?_
  · have U : Un (frs X.stack) fp H3 H' s3.heap s''.heap := Un.trans (show Un (frs X.stack) fp H3 H' s3.heap s'.heap from J.base) (Un.kept kk)
    have hc2 : ∀ b ∈ fp, (b ∈ X.ex ∨ X.s_0.heap.objs.size ≤ b) ∧ b ≠ X.env.locals ∧ (∀ x c, X.env.cells.lookup x = some c → c ≠ b) ∧ ∀ p ∈ X.pn ++ pins, p.1 ≠ b := fun b hb => by
      obtain ⟨_, f1, _, f4, f5, f6⟩ := f3 b hb
      exact ⟨f4, f1, f5, f6⟩
    exact ⟨.bl b, H', I3.call' (os.trans J.os) U (J.hok.kept kk) bare hc2, rfl, q⟩
  · exact ⟨rfl, seg_gen0 (Xg := Xg) (A2 := X.A.in1.in1) (cenv := cenv) rfl rfl rfl rfl rfl S.co Tn hpg' hpe' hfpg turn (sh.inv IG) (Tn.keep _ _ _ st3 fun b _ o e => by rw [sh.heap]; exact keep2 b o e) (fun b hb => (f3 b hb).1) w0⟩

theorem pe_allG (hcalm : X.calm = true) (hr : Room (k + 1) X.A) (hg : Gl X "all") (hm : X.mg "all" = none) (TB : GxR.TabB X.base X.mg c P) (hcode : X.env.code = .ref c) (S : GenSc scope) (hi : PI X tg iter wi)
    (hpg : GenIn X scope k fun Y => PG Y tg g) (hpe : GenIn X scope k fun Y => PE Y elt te) (hs : ∀ v, genFold iter X.env v = pure v)
    (he : starEach [GE elt tg iter scope gpos] X.env = (false, eval (GE elt tg iter scope gpos) X.env) :: starEach [] X.env := by rfl) :
    PE X (.Call (.Name "all" p) [GE elt tg iter scope gpos] [] pos) (tGA P X.N.length wi g te) := by
  refine ⟨fun pins s σ H Q I h => ?_⟩
  have hb : bootBuiltins "all" = some (.builtin "all") := by decide +kernel
  refine wpAny_Call_Name_kw (ld_blt I hg hm hb ?_)
  refine PyProof.Rows.callWith_builtin1 ?_ he (by rfl)
  rw [he]
  show wpAny _ _ (spliced ((false, eval (GE elt tg iter scope gpos) X.env) :: backTo pos (starEach [] X.env))) _ _ s
  refine Calls.spliced_cons ?_
  have hclo : closureFor scope X.env = pure [] := by
    rw [closure_ok fun y hy e => absurd e (S.free y hy), cloFrom_nil S.free]
  refine wpAny_GeneratorExp_make S.co hclo S.cell S.dot S.kind (by have := hr.dp; omega) ?_ hs
  refine thn (hi.run pins s σ H _ I h) fun xv s1 h1 => thn h1 fun itv s2 hp2 => ?_
  obtain ⟨it, fp, tn, J, H2, e2, I2, Tn, st2, f2, ⟨ps, hP, ht⟩, allT⟩ := hp2
  subst e2
  refine ⟨I2.nolimit, ?_⟩
  have hPs : s2.heap.get? P = some { cls := .none, data := .fields ps } := I2.hok P _ hP
  have cd : PySem.W.CodeHd s2.heap c P := TB.code.keeps fun b u e => I2.bk b u e
  have nfP : ∀ b ∈ fp, b ≠ P := fun b hb z => by
    have := (f2 b hb).1
    rw [z, hP] at this
    cases this
  have cont : ∀ (code : Value) (s3 : Shared) (H3 : Hp), L2.Inv X pins σ H3 s3 → GxR.Tabbed P H2 H3 → (∀ b o, b ≠ P → s2.heap.get? b = some o → s3.heap.get? b = some o) →
      wpAny (model X.prog X.w) X.A (builtinsFor X.env.globals X.env.builtins) (fun bi s₄ => ∀ h', h'.Ns s₄.heap.objs.size (fun y => if y = ".0" then some (.ref it) else none) → Heap.SameBut s₄.heap.objs.size (s₄.heap.push { cls := .type "frame", data := .dict #[] }) h' →
        wpAny (model X.prog X.w) X.A (spliced (backTo pos (starEach [] X.env))) (fun vs s' => wpAny (model X.prog X.w) X.A (call (.builtin "all") (.ref h'.objs.size :: vs)) (EP X pins σ Q) X.xe s') X.xe { s₄ with
            gens := s₄.gens.push (.fresh (.compStart (GE elt tg iter scope gpos) 0 (.ref it) .none (genEnv scope [] s₄.heap.objs.size code bi X.env))),
            toks := s₄.toks + 1 + 1 + 1,
            heap := h'.push { cls := .type "generator", data := .fields #[.int s₄.gens.size 0, .str "<genexpr>" (s₄.toks + 1), .str (X.env.qual ++ "<genexpr>") (s₄.toks + 1 + 1)] } }) X.xe s3 := by
    intro code s3 H3 I3 tb kp
    obtain ⟨bm, ob, e1, b2, b3, e4, e5, e6, e7, e8⟩ := TB.bm
    refine wpAny_builtinsFor (m := X.mg) (by rw [I3.ok.glob]; exact I3.mod.glob.keeps I3.bk) e1 b2 (I3.bk _ _ e5) e6 e7 e8 ?_
    intro h' hn' hs'
    refine Calls.spliced_nil ?_
    exact gen_cont hcalm hr S hpg hpe I3 Tn (Tn.keep _ _ _ st2 fun b hb o e => kp b o (nfP b hb) e) (fun b hb => by
      obtain ⟨f0, fr⟩ := f2 b hb
      exact ⟨by rw [tb.2 b (nfP b hb)]; exact f0, fr⟩) Tn.mem (allT H3 tb).choose_spec.1 (allT H3 tb).choose_spec.2 hn' hs'
  cases hf : codeAmong gpos ps.toList with
  | none =>
    refine wpAny_genexprCodeX hcode (cd.code hPs ht) (cd.tab hPs) hf fun c' h' tk hx hge hlt hco' _ htab' _ => ?_
    obtain ⟨o1, vs, f1, tf, fl, tgk, inF, tx, tt, op, _, _, _, _, _, _, _, _, _, htr, _⟩ := hco'
    have I3 := GxR.inv_tab (more := #[rawInt gpos.line, rawInt gpos.col, .ref c']) (h' := h') (g' := s2.gens) (d' := s2.drawn) (t' := tk) I2 hP (fun b o hb e => hx b o hb e) htab'.2 I2.bare
    exact cont _ _ _ I3 ⟨⟨_, upd_same, htr⟩, fun b hb => upd_ne hb⟩ fun b o hb e => hx b o hb e
  | some cv =>
    refine wpAny_genexprCode_hit hcode (cd.code hPs ht) hf ?_
    exact cont cv s2 H2 I2 ⟨⟨ps, hP, ht⟩, fun _ _ => rfl⟩ fun b o _ e => e
end
end Sb
end
section
set_option Elab.async false
set_option linter.all false
set_option maxRecDepth 100000
set_option maxHeartbeats 4000000
namespace Sb
open PySem PySem.Spec PyProof.Rows L2

/-! ## a def by its body -/
def ini (n : Nat) (ds : List D) : Sl := ds.map some ++ List.replicate (n - ds.length) none
def fnM (n : Nat) (f : SF) : List D → M D := fun ds S => match f (ini n ds) S with
  | some (.rt d, S1) => some (.ok d S1)
  | some (.nx _, S1) => some (.ok .non S1)
  | some (.xx x _, S1) => some (.ex x S1)
  | _ => none
theorem ini_rsl {T : Tb} {H : Hp} {φ : List Addr} {N : List Str} {ds : List D} {vs : List V} (r : RDs T H φ ds vs) : RSl T H φ (ini N.length ds) (L2.start N vs) := by
  have l := r.length
  refine ⟨by unfold ini L2.start; simp [l], fun i d h => ?_⟩
  unfold ini at h
  unfold L2.start
  by_cases hi : i < ds.length
  · rw [List.getElem?_append_left (by simpa using hi), List.getElem?_map] at h
    cases e : ds[i]? with
    | none => rw [e] at h; cases h
    | some d0 =>
      rw [e] at h
      cases h
      obtain ⟨v, h1, h2⟩ := r.get e
      exact ⟨v, by rw [List.getElem?_append_left (by simp; omega), List.getElem?_map, h1]; rfl, h2⟩
  · rw [List.getElem?_append_right (by simpa using hi), List.getElem?_replicate] at h
    split at h <;> cases h
section
variable {P : Program} {w : World} {mg : Str → Option Value} {base : Heap} {x qual : Str} {params : Arguments} {body : List Stmt} {scope : Scope} {f : Addr} {fd : FuncData} {T : Tb} {k : Nat}
/-- the wish of a def's body about what is raised -/
abbrev eW (E : XK) : WX := fun c d _ H => E c d H
abbrev bX (P : Program) (w : World) (K : PySem.W.Frag) (mg : Str → Option Value) (base : Heap) (N : List Str) (qual : Str) (scope : Scope) (f : Addr) (cdv : Value) (A : Around) (outer : List Env) (s : Shared) (H : Hp) (E : XK) : Cx := cxOf (L2.CX P w) P w K mg base N qual scope f cdv A outer s H E
theorem bX_takes {K : PySem.W.Frag} {N : List Str} {cdv : Value} {A : Around} {outer : List Env} {s : Shared} {H : Hp} {E : XK} : Takes (bX P w K mg base N qual scope f cdv A outer s H E) (eW E) := takes_of rfl rfl rfl rfl
theorem bX_passes {K : PySem.W.Frag} {N : List Str} {cdv : Value} {A : Around} {outer : List Env} {s : Shared} {H : Hp} {E : XK} : PassesOwn (model P w) (bX P w K mg base N qual scope f cdv A outer s H E).A (bX P w K mg base N qual scope f cdv A outer s H E).env (bX P w K mg base N qual scope f cdv A outer s H E).xe := passes_of rfl
end
section
variable {X : Cx} {T : Tb} {W : WX} {pos : Pos} {e : Expr} {es : List Expr} {ra : AF} {fa fb : EF}
/-! ## raise C('..') -/
def sRaise (C : Addr) : SF := fun τ S => some (.xx ⟨C, none⟩ τ, S)
theorem s_raise {C : Addr} {x m : Str} {j : Nat} {p p2 pos' : Pos} (hc : X.calm = true) (tk : Takes X W) (gC : X.mg x = some (.ref C)) (q : PySem.W.excIn X.K C He.veBase "ValueError.__new__" = true ∧ PySem.W.keepIn X.K (.ref C) = true ∧ PySem.W.subIn X.K (.ref C) (.type "BaseException") = some true ∧ PySem.W.typeIn X.K (.ref C) = some (.type "type"))
    (hg : Gl X x := by rfl) (hdb : (x == ("__debug__" : Str)) = false := by decide) : PS X (.Raise (some (.Call (.Name x p) [.Constant (.str m) j p2] [] pos')) none pos) (rdS T W (sRaise C)) :=
  (ps_raise hc tk (pmk_own PySem.F.excBase_ValueError q.1 gC q.2.1 (raises_own q.2.2.1 q.2.2.2) hg hdb)).imp fun De σ H h => by
    obtain ⟨φ, S, τ, fl, S', R, r, e, q⟩ := h
    cases e
    exact q φ H σ none .refl R r rfl
end
end Sb
end
section
set_option Elab.async false
set_option linter.all false
set_option maxRecDepth 100000
set_option maxHeartbeats 4000000
namespace Sb
open PySem PySem.Spec PyProof.Rows L2
section
variable {X : Cx} {T : Tb} {W : WX} {pos : Pos} {elt tg iter : Expr} {fi : IF} {g : TF} {fe : EF} {scope : Scope}
/-! ## all(..) over data -/
def goA (nxt : Nat → Sto → Option (Option D)) (g : TF) (fe : EF) (n : Nat) : Nat → Nat → Sto → Option (Bool × Sto)
  | 0, _, _ => none
  | m + 1, i, S => match nxt i S with
    | none => none
    | some none => some (true, S)
    | some (some d) => match g d S (List.replicate n none) with
      | none => none
      | some τ1 => match fe τ1 S with
        | some (.ok (.bl true) S1) => goA nxt g fe n m (i + 1) S1
        | some (.ok (.bl false) S1) => some (false, S1)
        | _ => none
def eAll (n : Nat) (fi : IF) (g : TF) (fe : EF) : EF := fun τ S => match fi τ S with
  | none => none
  | some (.ex x S1) => some (.ex x S1)
  | some (.ok wk S1) => (goA wk.nxt g fe n (wk.bound + 1) 0 S1).bind fun r => some (.ok (.bl r.1) r.2)
theorem tabbed_rel {φ : List Addr} {S : Sto} {H1 H2 : Hp} {P : Addr} (hP : P ∈ T.tabs) (R : Rel T φ S H1) (t : GxR.Tabbed P H1 H2) : Rel T φ S H2 ∧ Ext φ H1 φ H2 := by
  obtain ⟨tg2, keep⟩ := t
  obtain ⟨ps, h1, _⟩ := R.tab P hP
  have ne : ∀ {b : Addr} {u : HO}, H1 b = some u → (∀ qs, u ≠ .tbl qs) → b ≠ P := fun hb hu z => by
    rw [z, h1] at hb
    cases hb
    exact hu ps rfl
  have E : Ext φ H1 φ H2 := ⟨⟨[], by simp⟩, fun a vs h => by rw [keep a (ne h fun _ z => by cases z)]; exact h, fun a o u h => by rw [keep a (ne h fun _ z => by cases z)]; exact h, fun a vs _ h => by rw [keep a (ne h fun _ z => by cases z)]; exact h, fun a vs _ h => .inl (by rw [keep a (ne h fun _ z => by cases z)]; exact h), fun _ h => .inl h, fun a h => by
    by_cases q : a = P
    · subst q; obtain ⟨_, h2, _⟩ := tg2; rw [h2] at h; cases h
    · rw [keep a q] at h; exact h⟩
  refine ⟨⟨R.len, R.nd, fun n o a h2 h3 => ?_, fun p hp => ?_, fun p hp => ⟨(R.lam p hp).1, (R.lam p hp).2.ext E fun ps h => by rw [keep p.1 fun y => (R.lam p hp).1 (y ▸ hP)]; exact h⟩⟩, E⟩
  · have r := R.obj n o a h2 h3
    obtain ⟨u, hu, _, n2, _⟩ := r.some
    exact r.ext E (keep a (ne hu n2))
  · by_cases q : p = P
    · subst q; exact tg2
    · obtain ⟨qs, h4, h5⟩ := R.tab p hp
      exact ⟨qs, by rw [keep p q]; exact h4, h5⟩
theorem nones_rsl {H : Hp} {φ : List Addr} {n : Nat} : RSl T H φ (List.replicate n none) (nones n) := ⟨by simp [nones], fun i d h => by
  rw [List.getElem?_replicate] at h
  split at h <;> cases h⟩
theorem all_of {P : Addr} (hP : P ∈ T.tabs) {us : List Nat} {n : Nat} {σ : L2.St} {H : Hp} {Q : VK} (h : rdE T W (eAll n fi g fe) σ H Q) : tGA P n (rdI T W fi) (rdG T us g) (rdE T W0 fe) σ H Q := by
  obtain ⟨φ, S, τ, o, R, r, e, q⟩ := h
  unfold eAll at e
  cases e1 : fi τ S with
  | none => rw [e1] at e; cases e
  | some x =>
    rw [e1] at e
    refine ⟨φ, S, τ, x, R, r, e1, ?_⟩
    cases x with
    | ex x S1 => cases e; exact q
    | ok wk S1 =>
      intro φ1 H1 J E1 R1 sv
      refine ⟨R1.tab P hP, fun H2 t => ?_⟩
      obtain ⟨R2, E2⟩ := tabbed_rel hP R1 t
      simp only [Option.bind_eq_some_iff] at e
      obtain ⟨⟨rb, S9⟩, e2, e3⟩ := e
      cases e3
      refine ⟨fun i m H => ∃ φ3 S3, Ext φ1 H2 φ3 H ∧ Rel T φ3 S3 H ∧ goA wk.nxt g fe n m i S3 = some (rb, S9), ⟨wk.bound + 1, _, _, .refl, R2, e2⟩, ?_⟩
      rintro i m H3 ⟨φ3, S3, E3, R3, e3⟩
      cases m with
      | zero => cases e3
      | succ m =>
        unfold goA at e3
        obtain ⟨sgo, sst⟩ := sv φ3 S3 H3 i (E2.trans E3) R3
        cases hn : wk.nxt i S3 with
        | none => rw [hn] at e3; cases e3
        | some od =>
          rw [hn] at e3
          cases od with
          | none =>
            cases e3
            exact .inl ⟨sst hn, q φ3 H3 _ ((E1.trans E2).trans E3) R3 rfl⟩
          | some d =>
            obtain ⟨go, yl⟩ := sgo d hn
            refine .inr ⟨go, fun H' => ∃ φ4 S4, Ext φ1 H2 φ4 H' ∧ Rel T φ4 S4 H' ∧ goA wk.nxt g fe n m (i + 1) S4 = some (rb, S9), fun H' h => ⟨m, Nat.lt_succ_self m, h⟩, fun x H' y => ?_⟩
            obtain ⟨E4, R4, r4⟩ := yl x H' y
            simp only at e3
            cases hg1 : g d S3 (List.replicate n none) with
            | none => rw [hg1] at e3; cases e3
            | some τ4 =>
              rw [hg1] at e3
              refine ⟨φ3, S3, _, d, τ4, R4, nones_rsl, r4, hg1, fun σ' r' _ _ => ?_⟩
              simp only at e3
              split at e3
              · rename_i S5 hf
                refine ⟨φ3, S3, τ4, _, R4, r', hf, fun φ5 H5 v5 E5 R5 r5 => ?_⟩
                cases r5
                exact ⟨true, rfl, by rw [if_pos rfl]; exact ⟨φ5, S5, (E3.trans E4).trans E5, R5, e3⟩⟩
              · rename_i S5 hf
                cases e3
                refine ⟨φ3, S3, τ4, _, R4, r', hf, fun φ5 H5 v5 E5 R5 r5 => ?_⟩
                cases r5
                exact ⟨false, rfl, by rw [if_neg (by decide)]; exact q φ5 H5 _ ((((E1.trans E2).trans E3).trans E4).trans E5) R5 rfl⟩
              · cases e3
theorem d_all {k : Nat} {c P : Addr} {us : List Nat} {gpos p : Pos} (hcalm : X.calm = true) (hr : Room (k + 1) X.A) (hg : Gl X "all") (hm : X.mg "all" = none) (TB : GxR.TabB X.base X.mg c P) (hP : P ∈ T.tabs) (hcode : X.env.code = .ref c) (S : GenSc scope)
    (hi : PI X tg iter (rdI T W fi)) (hpg : GenIn X scope k fun Y => PG Y tg (rdG T us g)) (hpe : GenIn X scope k fun Y => PE Y elt (rdE T W0 fe)) (hs : ∀ v, genFold iter X.env v = pure v := by intro _; rfl)
    (he : starEach [GE elt tg iter scope gpos] X.env = (false, eval (GE elt tg iter scope gpos) X.env) :: starEach [] X.env := by rfl) :
    PE X (.Call (.Name "all" p) [GE elt tg iter scope gpos] [] pos) (rdE T W (eAll X.N.length fi g fe)) :=
  (pe_allG hcalm hr hg hm TB hcode S hi hpg hpe hs he).imp fun _ _ _ h => all_of hP h
end
end Sb
end
section
set_option Elab.async false
set_option linter.all false
set_option maxRecDepth 100000
set_option maxHeartbeats 4000000
namespace Sb
open PySem PySem.Spec PyProof.Rows L2 PpSet
section
variable {X : Cx} {T : Tb} {W : WX} {pos : Pos} {elt tg iter : Expr} {scope : Scope} {own : List (Str × Nat)}
/-! ## {e for x in xs}: texts and whole numbers -/
def tKs (P : Program) (w : World) (wi : TI) (g : TG) (te : TE) (vs : List Nat) : TE := fun σ H Q => wi σ H fun J H1 => ∀ B, H1 B = none → ∃ Z : Nat → Nat → Hp → Prop, (∃ m, Z 0 m (upd H1 B (SetK P w B (fun _ => false) 0))) ∧ ∀ i m H, Z i m H →
  (J.stop i H ∧ Q (.ref B) H) ∨ (J.go i H ∧ ∃ Nx : Hp → Prop, (∀ H', Nx H' → ∃ m', m' < m ∧ Z (i + 1) m' H') ∧ ∀ x H', J.yld i H x H' → g x (wipe σ vs) H' fun σ2 H2 => wipe σ2 vs = wipe σ vs ∧
    te σ2 H2 fun y H4 => ∃ (k : Key) (M : Key → Bool) (n : Nat), y = kV k ∧ H4 B = some (SetK P w B M n) ∧ n + 1 < scanBound ∧ Nx (upd H4 B (SetK P w B (fun j => M j || decide (j = k)) (if M k = true then n else n + 1))))
theorem pe_ks {wi : TI} {g : TG} {te : TE} (hcalm : X.calm = true) (hnd : X.N.Nodup) (hiter : PI X tg iter wi) (hblk : BlkOk X.N X.env.scope scope own)
    (htg : ∀ (s : Shared) (H : Hp) (C : Addr) (cl : List (Str × Addr)) (fp : List Addr), PG (X.blk s H scope (compEnvC scope cl C X.env) fp) tg g)
    (helt : ∀ (s : Shared) (H : Hp) (C : Addr) (cl : List (Str × Addr)) (fp : List Addr), PE (X.blk s H scope (compEnvC scope cl C X.env) fp) elt te)
    (hfold : ∀ x, foldedSetIterable iter X.env x = pure x := by intro _; rfl) : PE X (.SetComp elt [⟨tg, iter, [], 0⟩] scope pos) (tKs X.prog X.w wi g te (own.map (·.2))) := by
  refine ⟨fun pins s0 σ H0 Q I0 hq0 => ?_⟩
  rw [eval_SetComp]
  have cells : ∀ y ∈ scope.names, y.2 = .free → ∃ c, X.env.cells.lookup y.1 = some c := fun y hy e => (hblk.free y hy e).elim (fun k => I0.ok.has _ (.inl k)) fun k => I0.ok.has _ (.inr k)
  refine wpAny_comprehension_free (use := none) rfl hfold (closure_ok cells) hblk.kind (fun y hy e => by rw [hblk.uniq y hy, e]) ?_
  refine thn (hiter.run pins s0 σ H0 _ I0 hq0) fun xv sa hxa => thn hxa fun itv sb hsb => ?_
  obtain ⟨it, fp, tn, J, H2, eit, Ib, Tn, stb, fb, q⟩ := hsb
  subst eit
  refine newSet_ok (newEnv_comp ?_)
  generalize hB : sb.heap.objs.size = B
  have hBn : H2 B = none := Ib.hok.fresh (Nat.le_of_eq hB)
  obtain ⟨Z, ⟨mm, z0⟩, turn⟩ := q B hBn
  generalize hsc : ({ sb with heap := sb.heap.push { cls := .type "set", dict := none, data := .set #[] 0 (.fresh 0 0 (!X.w.params.followText "set-order")) } } : Shared) = sc
  have hpc : sc.heap = sb.heap.push { cls := .type "set", dict := none, data := .set #[] 0 (.fresh 0 0 (!X.w.params.followText "set-order")) } := by rw [← hsc]
  have isnew : sc.heap.SetOf (mixKind X.prog X.w) B (fun _ => false) 0 := by
    rw [hpc, ← hB]
    exact ⟨_, #[], 0, _, Heap.get?_push_size _ rfl, ⟨rfl, rfl, rfl⟩, rfl, (fun e he => by simp at he), (fun k => by simp), (by decide), (by rfl), rfl⟩
  have Ic : L2.Inv X pins σ (upd H2 B (SetK X.prog X.w B (fun _ => false) 0)) sc := by
    rw [← hsc]
    refine Ib.laid (t' := sb.toks) (fun b o e => Heap.get?_push_of_some _ e) (Nat.le_of_eq hB) ?_
    have z := setK_new (H := upd H2 B (SetK X.prog X.w B (fun _ => false) 0)) isnew
    rw [hpc] at z
    exact z
  have small : ∀ b ∈ fp, b < sb.heap.objs.size := fun b hb => by
    obtain ⟨o, e, _⟩ := Tn.obj _ _ stb b hb
    exact Heap.lt_size e
  have fc : ∀ b ∈ fp, FpOk X pins (upd H2 B (SetK X.prog X.w B (fun _ => false) 0)) b ∧ b < sc.heap.objs.size := fun b hb => by
    have lt := small b hb
    refine ⟨⟨?_, (fb b hb).2⟩, by rw [hpc, Heap.size_push]; exact Nat.lt_succ_of_lt lt⟩
    rw [upd_ne (by rw [← hB]; exact Nat.ne_of_lt lt)]
    exact (fb b hb).1
  have stc : tn 0 sc.heap := Tn.keep _ _ _ stb fun b _ o e => by
    rw [hpc]
    exact Heap.get?_push_of_some _ e
  have Id := block_start Ic hblk hnd fc
  generalize hHc : upd H2 B (SetK X.prog X.w B (fun _ => false) 0) = Hc at Ic Id fc z0
  have g1 := htg sc Hc sc.heap.objs.size (cellsFrom (sc.heap.objs.size + 1) scope.names (cloFrom X.env.cells scope.names [])) fp
  have g3 := helt sc Hc sc.heap.objs.size (cellsFrom (sc.heap.objs.size + 1) scope.names (cloFrom X.env.cells scope.names [])) fp
  show codeAny _ _ (.compStart (.SetComp elt [⟨tg, iter, [], 0⟩] scope pos) 0 (.ref it) (.ref B) (compEnvC scope (cellsFrom (sc.heap.objs.size + 1) scope.names (cloFrom X.env.cells scope.names [])) sc.heap.objs.size X.env)) (compPost (model X.prog X.w) X.A X.xe none _ (.ref B) sc.heap.objs.size) { sc with heap := pushCells (sc.heap.push { cls := .type "dict", data := .dict #[] }) scope.names }
  have free0 : ∀ b ∈ fp, Hc b = none := fun b hb => (fc b hb).1.1
  generalize hce : compEnvC scope (cellsFrom (sc.heap.objs.size + 1) scope.names (cloFrom X.env.cells scope.names [])) sc.heap.objs.size X.env = ce at Id g1 g3 ⊢
  have cL : ce.locals = sc.heap.objs.size := by subst hce; rfl
  generalize hsd : ({ sc with heap := pushCells (sc.heap.push { cls := .type "dict", data := .dict #[] }) scope.names } : Shared) = sd at Id ⊢
  have std : tn 0 sd.heap := Tn.keep _ _ _ stc fun b _ o e => by
    rw [← hsd]
    exact pushCells_keeps _ _ _ _ (Heap.get?_push_of_some _ e)
  have okfp : ∀ {σ' : L2.St} {H' : Hp} {s' : Shared}, L2.Inv (X.blk sc Hc scope ce fp) [] σ' H' s' → (∀ b ∈ fp, H' b = none) → ∀ b ∈ fp, FpOk (X.blk sc Hc scope ce fp) [] H' b := fun {σ' H' s'} I' hn b hb =>
    ⟨hn b hb, (I'.ok.exf b hb).1, I'.ok.exfs b hb, .inl hb, fun x c e => (I'.ok.exf b hb).2 x c e, fun p hp => absurd (show p ∈ ([] : List (Addr × Obj)) ++ [] from hp) (by simp)⟩
  let Stn : Nat → Shared → Prop := fun n s' => ∃ i H', L2.Inv (X.blk sc Hc scope ce fp) [] (wipe σ (own.map (·.2))) H' s' ∧ tn i s'.heap ∧ (∀ b ∈ fp, H' b = none) ∧ Z i n H'
  have loop : codeAny (model X.prog X.w) X.A (.compLoop (.SetComp elt [⟨tg, iter, [], 0⟩] scope pos) 0 (.ref it) (.ref B) ce) (compPost (model X.prog X.w) X.A X.xe none (fun v s' => ∃ (y : V) (H' : Hp), L2.Inv X pins σ H' s' ∧ RelV y v ∧ Q y H') (.ref B) sc.heap.objs.size) sd := by
    refine compLoopS_any Stn ?_ mm ⟨0, Hc, Id, std, free0, z0⟩
    rintro n s5 ⟨i, H5, I5, st5, n5, z5⟩
    rcases turn i n H5 z5 with ⟨stop, qq⟩ | ⟨go, Nx, hNx, step⟩
    · have fin := Tn.done (X.blk sc Hc scope ce fp) rfl rfl rfl hcalm i [] s5 _ H5 (fun _ _ => False) I5 (okfp I5 n5) st5 stop
      refine thnF fin fun r s6 ⟨hr, I6⟩ => ?_
      subst hr
      have I7 : L2.Inv X pins σ H5 s6 := Ic.call' (ch := fp) I6.os I6.base I6.hok I6.bare fun b hb => ⟨(fc b hb).1.2.2.2.1, (fc b hb).1.2.1, (fc b hb).1.2.2.2.2.1, (fc b hb).1.2.2.2.2.2⟩
      have nC : H5 sc.heap.objs.size = none := by
        have z : H5 ce.locals = none := I6.free
        rwa [cL] at z
      obtain ⟨m, hn, _⟩ := I6.loc
      have hn' : s6.heap.Ns ce.locals m := hn
      rw [cL] at hn'
      obtain ⟨f0, f1, f2, f3, f4, f5⟩ := Ic.fpOk (Nat.le_refl _) nC
      refine ⟨m, hn', fun h'' same => ?_⟩
      exact ⟨.ref B, H5, I7.turned (t' := s6.toks) (fun b o hb e => (same.2 b hb).trans e) f0 f1 f3 f4 f5, rfl, qq⟩
    · have nxt := Tn.item (X.blk sc Hc scope ce fp) rfl rfl rfl hcalm i [] s5 _ H5 (fun _ _ => False) I5 (okfp I5 n5) st5 go
      refine thnF nxt fun r s6 ⟨u, hr, h6⟩ => ?_
      subst hr
      refine thnF h6 fun _ s7 ⟨x, H7, I7, r7, y7, st7, n7⟩ => ?_
      have I7' := I7.pinned (okfp I7 n7) (Tn.obj _ _ st7)
      refine thnF (g1.run _ s7 _ H7 x u _ I7' r7 (step x H7 y7)) fun _ s8 ⟨σ8, H8, I8, hw8, q8⟩ => ?_
      refine wpAny_tests_nil ?_
      simp only [if_true]
      refine thnF (g3.run _ s8 σ8 H8 _ I8 q8) fun vv s9 ⟨yv, H9, I9, r9, k, M, num, ey, hB9, room, nx⟩ => ?_
      subst ey
      refine thnF (mt_saddK (X := X.blk sc Hc scope ce fp) _ s9 σ8 H9 (.ref B) [kV k] (.ref B) [vv] (fun _ H' => Nx H') I9 rfl (.cons r9 .nil) ⟨B, k, M, num, rfl, rfl, hB9, room, nx⟩) fun _ s10 ⟨_, H10, I10, _, nx10⟩ => ?_
      obtain ⟨m', hm', z'⟩ := hNx H10 nx10
      have kept : ∀ b ∈ fp, ∀ o, s7.heap.get? b = some o → s10.heap.get? b = some o ∧ H10 b = none := fun b hb o e => by
        have z := I10.pin (b, o) (List.mem_append_right _ (List.mem_append_right _ (mem_pinsAt hb e)))
        exact ⟨z.1, z.2.1⟩
      have len8 : (wipe σ (own.map (·.2))).length = σ8.length := by rw [← hw8, L2.wipe_length]
      refine ⟨m', hm', i + 1, H10, (I10.unpinned (pins := [])).weak len8 (fun j v e => ?_), Tn.keep _ _ _ st7 fun b hb o e => (kept b hb o e).1, fun b hb => ?_, z'⟩
      · rw [← hw8] at e
        exact (wipe_some e).1
      · obtain ⟨o, e, _⟩ := Tn.obj _ _ st7 b hb
        exact (kept b hb o e).2
  exact codeAny_compStart_set loop (Tn.self X.A 0 _ _ _ std loop)
end
end Sb
end
section
set_option Elab.async false
set_option linter.all false
set_option maxRecDepth 100000
set_option maxHeartbeats 4000000
namespace Sb
open PySem PySem.Spec PyProof.Rows L2 PpSet
section
variable {X : Cx} {T : Tb} {W : WX} {pos : Pos} {a b elt tg iter : Expr} {fi : IF} {g : TF} {fe fa fb : EF} {scope : Scope} {own : List (Str × Nat)}
def keyD : D → Option Key
  | .int i => some (.inl i)
  | .str x => some (.inr x)
  | _ => none
theorem keyD_ok {H : Hp} {φ : List Addr} {d : D} {v : V} {k : Key} (r : RD T H φ d v) (h : keyD d = some k) : v = kV k := by
  cases d with
  | int i => cases r; cases h; rfl
  | str x => cases r; cases h; rfl
  | _ => cases h
def goK (nxt : Nat → Sto → Option (Option D)) (g : TF) (fe : EF) (n : Nat) (τ0 : Sl) : Nat → Nat → Sto → Option Sto
  | 0, _, _ => none
  | m + 1, i, S => match nxt i S with
    | none => none
    | some none => some S
    | some (some d) => match g d S τ0 with
      | none => none
      | some τ1 => match fe τ1 S with
        | some (.ok y S2) => match keyD y, S2[n]? with
          | some k, some (.ks M num) => if num + 1 < scanBound then goK nxt g fe n τ0 m (i + 1) (S2.set n (.ks (fun j => M j || decide (j = k)) (if M k = true then num else num + 1))) else none
          | _, _ => none
        | _ => none
def eSc (fi : IF) (g : TF) (fe : EF) (vs : List Nat) : EF := fun τ S => match fi τ S with
  | none => none
  | some (.ex x S1) => some (.ex x S1)
  | some (.ok wk S1) => (goK wk.nxt g fe S1.length (wipeD τ vs) (wk.bound + 1) 0 (S1 ++ [.ks (fun _ => false) 0])).bind fun S2 => some (.ok (.loc S1.length) S2)
theorem Ext.putK {φ : List Addr} {H : Hp} {p : Addr} {u0 u : HO} (ha : H p = some u0) (h1 : ∀ vs, u0 ≠ .tup vs) (h2 : ∀ o w, u0 ≠ .frz o w) (h3 : ∀ vs, u0 ≠ .lst vs) (h4 : ∀ ws, u0 ≠ .dK ws) : Ext φ H φ (upd H p u) := ⟨⟨[], by simp⟩, fun c vs h => by
  by_cases hb : c = p
  · subst hb; rw [ha] at h; cases h; exact absurd rfl (h1 vs)
  · rw [upd_ne hb]; exact h, fun c o w h => by
  by_cases hb : c = p
  · subst hb; rw [ha] at h; cases h; exact absurd rfl (h2 o w)
  · rw [upd_ne hb]; exact h, fun c vs _ h => by
  by_cases hb : c = p
  · subst hb; rw [ha] at h; cases h; exact absurd rfl (h3 vs)
  · rw [upd_ne hb]; exact h, fun c vs _ h => .inl (by
  by_cases hb : c = p
  · subst hb; rw [ha] at h; cases h; exact absurd rfl (h4 vs)
  · rw [upd_ne hb]; exact h), fun _ h => .inl h, fun _ h => upd_dead h⟩
theorem sc_of {vs us : List Nat} (hus : ∀ k ∈ us, k ∈ vs) {σ : L2.St} {H : Hp} {Q : VK} (h : rdE T W (eSc fi g fe vs) σ H Q) : tKs T.P T.w (rdI T W fi) (rdG T us g) (rdE T W0 fe) vs σ H Q := by
  obtain ⟨φ, S, τ, o, R, r, e, q⟩ := h
  unfold eSc at e
  cases e1 : fi τ S with
  | none => rw [e1] at e; cases e
  | some x =>
    rw [e1] at e
    refine ⟨φ, S, τ, x, R, r, e1, ?_⟩
    cases x with
    | ex x S1 => cases e; exact q
    | ok wk S1 =>
      intro φ1 H1 J E1 R1 sv B hB
      simp only [Option.bind_eq_some_iff] at e
      obtain ⟨S9, e2, e3⟩ := e
      cases e3
      obtain ⟨R2, E2⟩ := R1.new (u := SetK T.P T.w B (fun _ => false) 0) (o := .ks (fun _ => false) 0) hB upd_same
      have hB2 : (φ1 ++ [B])[S1.length]? = some B := by rw [← R1.len]; simp
      have r0 := ((r.ext E1).ext E2).wipe vs
      refine ⟨fun i m H => ∃ φ3 S3, Ext (φ1 ++ [B]) (upd H1 B (SetK T.P T.w B (fun _ => false) 0)) φ3 H ∧ Rel T φ3 S3 H ∧ goK wk.nxt g fe S1.length (wipeD τ vs) m i S3 = some S9, ⟨wk.bound + 1, _, _, .refl, R2, e2⟩, ?_⟩
      rintro i m H3 ⟨φ3, S3, E3, R3, e3⟩
      cases m with
      | zero => cases e3
      | succ m =>
        unfold goK at e3
        obtain ⟨sgo, sst⟩ := sv φ3 S3 H3 i (E2.trans E3) R3
        cases hn : wk.nxt i S3 with
        | none => rw [hn] at e3; cases e3
        | some od =>
          rw [hn] at e3
          cases od with
          | none =>
            cases e3
            exact .inl ⟨sst hn, q φ3 H3 _ ((E1.trans E2).trans E3) R3 ⟨B, rfl, E3.get hB2⟩⟩
          | some d =>
            obtain ⟨go, yl⟩ := sgo d hn
            refine .inr ⟨go, fun H' => ∃ φ4 S4, Ext (φ1 ++ [B]) (upd H1 B (SetK T.P T.w B (fun _ => false) 0)) φ4 H' ∧ Rel T φ4 S4 H' ∧ goK wk.nxt g fe S1.length (wipeD τ vs) m (i + 1) S4 = some S9, fun H' h => ⟨m, Nat.lt_succ_self m, h⟩, fun x H' y => ?_⟩
            obtain ⟨E4, R4, r4⟩ := yl x H' y
            simp only at e3
            cases hg1 : g d S3 (wipeD τ vs) with
            | none => rw [hg1] at e3; cases e3
            | some τ4 =>
              rw [hg1] at e3
              refine ⟨φ3, S3, wipeD τ vs, d, τ4, R4, (r0.ext E3).ext E4, r4, hg1, fun σ' r' ks kl => ?_⟩
              refine ⟨(wipe_eq (fun k hk => ks k fun z => hk (hus k z)) kl).trans wipe_wipe, ?_⟩
              simp only at e3
              split at e3
              · rename_i y6 S6 hf
                refine ⟨φ3, S3, τ4, _, R4, r', hf, fun φ6 H6 v6 E6 R6 r6 => ?_⟩
                split at e3
                · rename_i k M num hk hacc
                  split at e3
                  · rename_i room
                    have hB6 : φ6[S1.length]? = some B := E6.get (E4.get (E3.get hB2))
                    have hH6 : H6 B = some (SetK T.P T.w B M num) := R6.obj _ _ B hacc hB6
                    have E7 := Ext.putK (φ := φ6) (u := SetK T.P T.w B (fun j => M j || decide (j = k)) (if M k = true then num else num + 1)) hH6 (fun _ z => by cases z) (fun _ _ z => by cases z) (fun _ z => by cases z) (fun _ z => by cases z)
                    obtain ⟨R7, _⟩ := R6.put (o := .ks (fun j => M j || decide (j = k)) (if M k = true then num else num + 1)) (u := SetK T.P T.w B (fun j => M j || decide (j = k)) (if M k = true then num else num + 1)) hB6 (mem_lt hacc) upd_same
                    exact ⟨k, M, num, keyD_ok r6 hk, hH6, room, φ6, _, ((E3.trans E4).trans E6).trans E7, R7, e3⟩
                  · cases e3
                · cases e3
              · cases e3
theorem d_sc {us : List Nat} (hP : T.P = X.prog) (hw : T.w = X.w) (hc : X.calm = true) (hN : X.N.Nodup) (hi : PI X tg iter (rdI T W fi)) (ok : BlkOk X.N X.env.scope scope own)
    (hg : ∀ (s : Shared) (H : Hp) (C : Addr) (cl : List (Str × Addr)) (fp : List Addr), PG (X.blk s H scope (compEnvC scope cl C X.env) fp) tg (rdG T us g))
    (he : ∀ (s : Shared) (H : Hp) (C : Addr) (cl : List (Str × Addr)) (fp : List Addr), PE (X.blk s H scope (compEnvC scope cl C X.env) fp) elt (rdE T W0 fe))
    (hus : ∀ k ∈ us, k ∈ own.map (·.2) := by decide) (hs : ∀ x, foldedSetIterable iter X.env x = pure x := by intro _; rfl) :
    PE X (.SetComp elt [⟨tg, iter, [], 0⟩] scope pos) (rdE T W (eSc fi g fe (own.map (·.2)))) :=
  (pe_ks hc hN hi ok hg he hs).imp fun _ _ _ h => by
    rw [← hP, ← hw]
    exact sc_of hus h
/-! ## len of a set too -/
def gLenX : GN := fun ds S => match ds with
  | [.loc n] => match S[n]? with
    | some (.ks _ m) => if (m : Int) < 2 ^ 63 then some (.int m, S) else none
    | _ => gLen ds S
  | _ => gLen ds S
theorem call_lenK : CallR X (.builtin "len") (fun xs H Q => ∃ p M n, xs = [.ref p] ∧ H p = some (SetK X.prog X.w p M n) ∧ (n : Int) < 2 ^ 63 ∧ Q (.int n) H) := by
  intro pins s σ H xs us Q I r ⟨p, M, n, ex, hp, hn, q⟩
  subst ex
  cases r with
  | cons r1 r2 =>
    cases r1; cases r2
    obtain ⟨o, es, ep, t, ho, hex, hd, _, _, _, hf, hl⟩ := setK_get I hp
    exact call_len_set ho hex hd hf (by rw [hl]; exact hn) ⟨.int n, H, I.tok _, ⟨_, by rw [← hl]⟩, q⟩
theorem c_lenX (hP : T.P = X.prog) (hw : T.w = X.w) (hK : T.K = X.K) : CallR X (.builtin "len") (rGN T gLenX) := CallR.imp (CallR.or (c_len (T := T) hK) call_lenK) fun xs H Q h => by
  obtain ⟨φ, S, ds, R, r, f⟩ := h
  unfold gLenX at f
  split at f
  · rename_i n
    split at f
    · rename_i M m hS
      split at f
      · rename_i hm
        obtain ⟨v, l, rfl, r1, r2⟩ := r
        cases r2
        obtain ⟨p, rfl, hφ⟩ := r1
        have := R.obj n _ p hS hφ
        exact .inr ⟨p, M, m, rfl, by rw [← hP, ← hw]; exact this, hm, f.val R rfl⟩
      · obtain ⟨_, _, z, _⟩ := f; cases z
    · exact .inl ⟨φ, S, _, R, r, f⟩
  · exact .inl ⟨φ, S, ds, R, r, f⟩
/-! ## dict(pairs), d[k] -/
def pairsD (S : Sto) : List D → Option (List (Key × D))
  | [] => some []
  | d :: ds => match d with
    | .tup [x, y] => (keyD x).bind fun k => (pairsD S ds).bind fun r => some ((k, y) :: r)
    | _ => none
def putD' (kvs : List (Key × D)) (k : Key) (v : D) : List (Key × D) := if (kvs.any fun kv => decide (kv.1 = k)) = true then kvs.map (fun kv => if kv.1 = k then (kv.1, v) else kv) else kvs ++ [(k, v)]
def mergeD (kvs more : List (Key × D)) : List (Key × D) := more.foldl (fun acc kv => putD' acc kv.1 kv.2) kvs
def gDict : GN := fun ds S => match ds with
  | [.loc n] => match S[n]? with
    | some (.lst es) => (pairsD S es).bind fun ps => some (.loc S.length, S ++ [.dct (mergeD [] ps)])
    | _ => none
  | _ => none
/-- the same keys, values that stand for them -/
def KVs (T : Tb) (H : Hp) (φ : List Addr) (kvs : List (Key × D)) (ws : List (Key × V)) : Prop := ws.map (·.1) = kvs.map (·.1) ∧ RDs T H φ (kvs.map (·.2)) (ws.map (·.2))
theorem KVs.cons {H : Hp} {φ : List Addr} {k : Key × D} {kvs : List (Key × D)} {w : List (Key × V)} : KVs T H φ (k :: kvs) w ↔ ∃ v r, w = (k.1, v) :: r ∧ RD T H φ k.2 v ∧ KVs T H φ kvs r := by
  constructor
  · rintro ⟨h1, h2⟩
    cases w with
    | nil => cases h1
    | cons p r =>
      obtain ⟨pk, pv⟩ := p
      simp only [List.map_cons, List.cons.injEq] at h1
      obtain ⟨v, l, h3, h4, h5⟩ := h2
      simp only [List.map_cons, List.cons.injEq] at h3
      obtain ⟨rfl, rfl⟩ := h3
      exact ⟨pv, r, by rw [← h1.1], h4, h1.2, h5⟩
  · rintro ⟨v, r, rfl, h1, h2, h3⟩
    exact ⟨by simp [h2], ⟨v, _, rfl, h1, h3⟩⟩
theorem KVs.any {H : Hp} {φ : List Addr} {k : Key} : ∀ {kvs : List (Key × D)} {w : List (Key × V)}, KVs T H φ kvs w → (w.any fun kv => decide (kv.1 = k)) = kvs.any fun kv => decide (kv.1 = k)
  | [], w, h => by
    obtain ⟨h1, _⟩ := h
    cases w with
    | nil => rfl
    | cons _ _ => cases h1
  | p :: kvs, w, h => by
    obtain ⟨v, r, rfl, h1, h2⟩ := KVs.cons.mp h
    simp only [List.any_cons, KVs.any h2]
theorem KVs.setv {H : Hp} {φ : List Addr} {k : Key} {d : D} {v : V} (rd : RD T H φ d v) : ∀ {kvs : List (Key × D)} {w : List (Key × V)}, KVs T H φ kvs w → KVs T H φ (kvs.map fun kv => if kv.1 = k then (kv.1, d) else kv) (w.map fun kv => if kv.1 = k then (kv.1, v) else kv)
  | [], w, h => by
    obtain ⟨h1, _⟩ := h
    cases w with
    | nil => exact ⟨rfl, rfl⟩
    | cons _ _ => cases h1
  | p :: kvs, w, h => by
    obtain ⟨v1, r, rfl, h1, h2⟩ := KVs.cons.mp h
    simp only [List.map_cons]
    by_cases e : p.1 = k
    · simp only [if_pos e]
      exact KVs.cons.mpr ⟨v, _, rfl, rd, KVs.setv rd h2⟩
    · simp only [if_neg e]
      exact KVs.cons.mpr ⟨v1, _, rfl, h1, KVs.setv rd h2⟩
theorem KVs.app {H : Hp} {φ : List Addr} {k : Key} {d : D} {v : V} (rd : RD T H φ d v) {kvs : List (Key × D)} {w : List (Key × V)} (h : KVs T H φ kvs w) : KVs T H φ (kvs ++ [(k, d)]) (w ++ [(k, v)]) := by
  obtain ⟨h1, h2⟩ := h
  exact ⟨by simp [h1], by simp only [List.map_append, List.map_cons, List.map_nil]; exact h2.app (RDs.one rd)⟩
theorem KVs.put {H : Hp} {φ : List Addr} {k : Key} {d : D} {v : V} (rd : RD T H φ d v) {kvs : List (Key × D)} {w : List (Key × V)} (h : KVs T H φ kvs w) : KVs T H φ (putD' kvs k d) (putK w k v) := by
  unfold putD' L2.putK
  rw [h.any]
  split
  · exact h.setv rd
  · exact h.app rd
theorem KVs.merge {H : Hp} {φ : List Addr} : ∀ {more : List (Key × D)} {ms : List (Key × V)} {kvs : List (Key × D)} {w : List (Key × V)}, KVs T H φ more ms → KVs T H φ kvs w → KVs T H φ (mergeD kvs more) (mergeK w ms)
  | [], ms, kvs, w, h, h0 => by
    obtain ⟨h1, _⟩ := h
    cases ms with
    | nil => exact h0
    | cons _ _ => cases h1
  | p :: more, ms, kvs, w, h, h0 => by
    obtain ⟨v, r, rfl, h1, h2⟩ := KVs.cons.mp h
    exact KVs.merge (ms := r) (kvs := putD' kvs p.1 p.2) (w := L2.putK w p.1 v) h2 (h0.put h1)
theorem pairs_ok {H : Hp} {φ : List Addr} {S : Sto} : ∀ {es : List D} {vs : List V} {ps : List (Key × D)}, RDs T H φ es vs → pairsD S es = some ps → ∃ (as : List Addr) (kvs : List (Key × V)), vs = as.map V.ref ∧ Paired (fun p kv => Rd H p (.tup [kV kv.1, kv.2])) as kvs ∧ KVs T H φ ps kvs
  | [], vs, ps, r, h => by
    cases r; cases h
    exact ⟨[], [], rfl, .nil, rfl, rfl⟩
  | d :: es, vs, ps, r, h => by
    obtain ⟨v, l, rfl, r1, r2⟩ := r
    unfold pairsD at h
    split at h
    · rename_i x y
      simp only [Option.bind_eq_some_iff] at h
      obtain ⟨k, hk, q, hq, e⟩ := h
      cases e
      obtain ⟨as, kvs, rfl, pp, kk⟩ := pairs_ok r2 hq
      obtain ⟨p, ws, rfl, hp, r3⟩ := r1
      obtain ⟨v1, l1, rfl, r4, v2, l2, rfl, r5, r6⟩ := r3
      cases r6
      cases keyD_ok r4 hk
      exact ⟨p :: as, (k, v2) :: kvs, rfl, .cons hp pp, KVs.cons.mpr ⟨v2, kvs, rfl, r5, kk⟩⟩
    · cases h
theorem paired_imp {α β : Type} {F G : α → β → Prop} (h : ∀ a b, F a b → G a b) : ∀ {l : List α} {m : List β}, Paired F l m → Paired G l m
  | _, _, .nil => .nil
  | _, _, .cons h1 h2 => .cons (h _ _ h1) (paired_imp h h2)
theorem c_dict (hc : X.calm = true) : CallR X (.type "dict") (rGN T gDict) := CallR.imp (call_dictP hc) fun xs H Q h => by
  obtain ⟨φ, S, ds, R, r, f⟩ := h
  unfold gDict at f
  split at f
  · rename_i n
    split at f
    · rename_i es hS
      cases e : pairsD S es with
      | none => rw [e] at f; obtain ⟨_, _, z, _⟩ := f; cases z
      | some ps =>
        rw [e] at f
        obtain ⟨v, l, rfl, r1, r2⟩ := r
        cases r2
        obtain ⟨p, rfl, hφ⟩ := r1
        obtain ⟨vs, hH, rv⟩ := R.obj n _ p hS hφ
        obtain ⟨as, kvs, rfl, pp, kk⟩ := pairs_ok rv e
        refine ⟨p, as, kvs, rfl, .of hH, paired_imp (fun _ _ h => .inl h) pp, fun t ht => ?_⟩
        obtain ⟨d, S', ed, q⟩ := f
        cases ed
        have kn : KVs T H φ (mergeD [] ps) (mergeK [] kvs) := KVs.merge kk ⟨rfl, rfl⟩
        have E0 := (R.garb (u := .dK (mergeK [] kvs)) ht).2
        obtain ⟨R2, E2⟩ := R.new (u := .dK (mergeK [] kvs)) (o := .dct (mergeD [] ps)) ht ⟨_, upd_same, kn.1, kn.2.ext (Ext.freshL ht) _ _⟩
        exact q _ _ _ E2 R2 ⟨t, rfl, by rw [← R.len]; simp⟩
    · obtain ⟨_, _, z, _⟩ := f; cases z
  · obtain ⟨_, _, z, _⟩ := f; cases z
/-- d[k] -/
def valD (kvs : List (Key × D)) (k : Key) : Option D := (kvs.find? fun kv => decide (kv.1 = k)).map (·.2)
theorem KVs.val {H : Hp} {φ : List Addr} {k : Key} {d : D} : ∀ {kvs : List (Key × D)} {w : List (Key × V)}, KVs T H φ kvs w → valD kvs k = some d → ∃ v, valV w k = some v ∧ RD T H φ d v
  | [], w, h, e => by cases e
  | p :: kvs, w, h, e => by
    obtain ⟨v, r, rfl, h1, h2⟩ := KVs.cons.mp h
    by_cases q : p.1 = k
    · rw [valV_pos (p := (p.1, v)) q]
      simp only [valD, List.find?_cons, q, decide_true, Option.map_some] at e
      cases e
      exact ⟨v, rfl, h1⟩
    · rw [valV_neg (p := (p.1, v)) q]
      have e' : valD kvs k = some d := by
        simpa [valD, List.find?_cons, q] using e
      exact KVs.val h2 e'
end
end Sb
namespace Sb
open PySem PySem.Spec PyProof.Rows L2
theorem t_chain {X : Cx} {T : Tb} {W : WX} {pos : Pos} {a b c : Expr} {fa fb fc : EF} {op op' : CmpOp} {g g' : G2} (ho : OpR X (compareOp op) (rG2 T g)) (ho' : OpR X (compareOp op') (rG2 T g')) (ha : PE X a (rdE T W fa)) (hb : PE X b (rdE T W fb)) (hc : PE X c (rdE T W fc)) (hlm : lastMarks [op, op'] [b, c] = false := by with_unfolding_all rfl) :
    PT X (.Compare a [op, op'] [b, c] pos) (rdT T W (tB (eCh g g' fa fb fc))) := (pt_chain ho ho' ha hb hc hlm).imp fun σ H Q h0 => by
  have h := tB_of h0
  obtain ⟨φ, S, τ, o, R, r, e, q⟩ := h
  refine rdE_bnd R r e q fun d1 S1 v1 H1 φ1 ⟨E1, R1, r1⟩ e1 q1 => ?_
  refine rdE_bnd R1 (r.ext E1) e1 q1 fun d2 S2 v2 H2 φ2 ⟨E2, R2, r2⟩ e2 q2 => ?_
  split at e2
  · rename_i S3 eg
    refine ⟨φ2, S2, d1, d2, R2, r1.ext E2 _ _, r2, _, _, eg, fun φ3 H3 v3 E3 R3 r3 => ?_⟩
    cases r3
    refine ⟨true, rfl, ?_⟩
    rw [if_pos rfl]
    refine rdE_bnd R3 (((r.ext E1).ext E2).ext E3) e2 (q2.mono E3) fun d4 S4 v4 H4 φ4 ⟨E4, R4, r4⟩ e4 q4 => ?_
    exact ⟨φ4, S4, d2, d4, R4, (r2.ext E3 _ _).ext E4 _ _, r4, Fin.of e4 q4⟩
  · rename_i S3 eg
    cases e2
    refine ⟨φ2, S2, d1, d2, R2, r1.ext E2 _ _, r2, _, _, eg, fun φ3 H3 v3 E3 R3 r3 => ?_⟩
    cases r3
    refine ⟨false, rfl, ?_⟩
    rw [if_neg (by decide)]
    exact q2 φ3 H3 _ E3 R3 rfl
  · cases e2
theorem _root_.L2.Room.u64 {k : Nat} {A : Around} (r : Room k A) : A.units + 64 < cLine := by have := r.un; omega
theorem _root_.L2.Room.u65 {k : Nat} {A : Around} (r : Room k A) : A.units + 65 < cLine := by have := r.un; omega
theorem _root_.L2.Room.u1 {k : Nat} {A : Around} (r : Room k A) : A.units + 1 < cLine := by have := r.un; omega
theorem ptw {X : Cx} {e : Expr} {t : TT} (h : PW X e t) : PT X e t := h.pt
end Sb
end
section
set_option Elab.async false
set_option linter.all false
set_option maxRecDepth 100000
set_option maxHeartbeats 4000000
namespace Sb
open PySem PySem.Spec PyProof.Rows L2
/-! ## enumerate of a tuple -/
theorem enum_new_tup (q : Addr) (xs : Array Value) (dc : Option Addr) (cnt : Nat) (sl : Array (Option Value)) :
    Meets (Builtin.«enumerate.__new__» ⟨[.type "enumerate", .ref q], []⟩) (fun _ R s => s.heap.get? q = some { cls := .type "tuple", dict := dc, data := .seq xs cnt, slots := sl } ∧
      R (.ok (.ret (.ref (s.heap.push { cls := .type "tuple_iterator", data := .fields #[.ref q, .int 0 0] }).objs.size)))
        { s with heap := (s.heap.push { cls := .type "tuple_iterator", data := .fields #[.ref q, .int 0 0] }).push { cls := .type "enumerate", data := .fields #[.none, .bool false, .ref s.heap.objs.size, rawInt 0, .none, .none] } }) :=
  .of_wp fun prog w A R s h => by
    obtain ⟨hp, gs, dr, tk, os⟩ := s
    obtain ⟨at_q, fin⟩ := h
    have subs := sub_enumerate
    have isT : Heap.IsTuple (Shared.heap ⟨hp, gs, dr, tk, os⟩) q xs := ⟨_, at_q, rfl, cnt, rfl⟩
    wp_walk using AutoSeq1.wpAny_loadPart' at_q
    refine wpAny_stack_any fun st => wpAny_pure ?_
    split
    · rename_i c _ _ _ _ _
      cases (c == Value.type "enumerate")
      · wp_walk using AutoSeq1.wpAny_loadPart' at_q, wpAny_pyIter_tuple isT
        exact ⟨_, rfl, fin⟩
      · wp_walk using AutoSeq1.wpAny_loadPart' at_q, wpAny_pyIter_tuple isT
        exact ⟨_, rfl, fin⟩
    · wp_walk using AutoSeq1.wpAny_loadPart' at_q, wpAny_pyIter_tuple isT
      exact ⟨_, rfl, fin⟩
theorem call_enum_tup {prog : Program} {w : World} {A : Around} {E : Value → Shared → Prop} {s : Shared} {q : Addr} {xs : Array Value} {Q : Value → Shared → Prop} (isT : s.heap.IsTuple q xs)
    (h : ∀ h', IsEnum h' (s.heap.objs.size + 1) s.heap.objs.size 0 .none → h'.IsTupleIter s.heap.objs.size q 0 → (∀ b o, s.heap.get? b = some o → h'.get? b = some o) → Q (.ref (s.heap.objs.size + 1)) { s with heap := h' }) :
    wpAny (model prog w) A (call (.type "enumerate") [.ref q]) Q E s := by
  obtain ⟨⟨c, dct, dt, sl⟩, at_q, hc, cnt, hd⟩ := isT
  replace hc : c = .type "tuple" := hc
  replace hd : dt = .seq xs cnt := hd
  subst hc hd
  refine callType_new F.called_enumerate (by decide) (F.typeCall_enumerate_1 _) (F.newCall_enumerate_1 _) (fun obj => F.args_object_init_2 obj _) F.entry_enumerate_new (enum_new_tup q xs dct cnt sl) ⟨at_q, ?_⟩
  have size1 : (s.heap.push { cls := .type "tuple_iterator", data := .fields #[.ref q, .int 0 0] }).objs.size = s.heap.objs.size + 1 := Heap.size_push ..
  show _ ∧ _
  rw [size1]
  have isE : IsEnum ((s.heap.push { cls := .type "tuple_iterator", data := .fields #[.ref q, .int 0 0] }).push
      { cls := .type "enumerate", data := .fields #[.none, .bool false, .ref s.heap.objs.size, rawInt 0, .none, .none] }) (s.heap.objs.size + 1) s.heap.objs.size 0 .none := by
    have z := Heap.get?_push_size (s.heap.push { cls := .type "tuple_iterator", data := .fields #[.ref q, .int 0 0] })
      (o := { cls := .type "enumerate", data := .fields #[.none, .bool false, .ref s.heap.objs.size, rawInt 0, .none, .none] }) rfl
    rw [size1] at z; exact z
  exact ⟨⟨_, isE, rfl⟩, h _ isE ⟨_, Heap.get?_push_of_some _ (Heap.get?_push_size _ rfl), rfl, rfl⟩ fun b o x => Heap.get?_push_of_some _ (Heap.get?_push_of_some _ x)⟩
/-- the tuple at a, each item in a new pair -/
def IteT (K : PySem.W.Frag) (a : Addr) : It :=
  ⟨fun i H => ∃ (xs : List V) (x : V), SqT K H a xs ∧ xs[i]? = some x, fun i H v H' => ∃ P x, v = .ref P ∧ H P = none ∧ H' = upd H P (.tup [.int (i : Nat), x]) ∧ ∀ xs, SqT K H a xs → xs[i]? = some x, fun i H => ∃ xs : List V, SqT K H a xs ∧ xs.length ≤ i⟩
theorem turn_enumT {P : Program} {w : World} {K : PySem.W.Frag} {elts : List Expr} {kk : Nat} {tpos : Pos} (a e it : Addr) :
    Turn P w K (.Tuple elts kk tpos) (IteT K a) [e, it] e (fun i h => (∃ old, IsEnum h e it ((i : Nat) : Int) old) ∧ h.IsTupleIter it a i ∧ e ≠ it) where
  mem := by simp
  obj := fun i h st b hb => by
    obtain ⟨⟨old, isE⟩, ⟨o, ho, hc, hd⟩, _⟩ := st
    have cases2 : b = e ∨ b = it := by simpa using hb
    rcases cases2 with z | z
    · rw [z]; exact ⟨_, isE, fun v q => nomatch q⟩
    · rw [z]; exact ⟨o, ho, fun v q => by rw [hd] at q; cases q⟩
  keep := fun i h h' st k => let ⟨⟨old, isE⟩, isI, ne⟩ := st; ⟨⟨old, k e (by simp) _ isE⟩, isI.at fun o q => k it (by simp) o q, ne⟩
  item := by
    intro X hP hw hK hc i pins s σ H E I hf st hg
    subst hP hw hK
    obtain ⟨⟨old, isE⟩, isI, ne⟩ := st
    obtain ⟨xs, x, hq, hx⟩ := hg
    obtain ⟨its, rv, isT, hz⟩ := I.tuple hq
    obtain ⟨u, hu, ru⟩ := rv.get hx
    have ltE : e < s.heap.objs.size := Heap.lt_size isE
    have ltI : it < s.heap.objs.size := by obtain ⟨_, q, _⟩ := isI; exact Heap.lt_size q
    have neA : a ≠ it := by
      rintro rfl
      obtain ⟨o1, h1, h2, _⟩ := isI
      obtain ⟨o2, h3, h4, _⟩ := isT
      rw [h1] at h3
      cases h3
      rw [h2] at h4
      exact absurd h4 (by decide)
    have neEA : e ∉ [it, a] := by
      intro z
      rcases List.mem_cons.mp z with z | z
      · exact ne z
      · have z' : e = a := by simpa using z
        rw [← z'] at isT
        obtain ⟨o2, h3, h4, _⟩ := isT
        rw [isE] at h3
        have h5 := Option.some.inj h3
        rw [← h5] at h4
        have h6 : Value.type "enumerate" = Value.type "tuple" := h4
        injection h6 with h7
        exact absurd h7 (by decide)
    have ltn : i < its.toArray.size := by
      have := (List.getElem?_eq_some_iff.mp hu).1
      simpa using this
    refine wpAny_pyNext_enum_itemD (Draws.tuple (A := X.A.in1) (I.ok.hd hc) it a neA its.toArray) isE ⟨isI, isT⟩ ltn ne neEA fun y h' tk hy hout hst hnew hsz hk => ?_
    obtain ⟨hit', _⟩ := hst
    have ey : y = u := by
      have : its[i]? = some y := by simpa using hy
      rw [hu] at this
      exact (Option.some.inj this).symm
    subst ey
    refine ⟨_, rfl, wpAny_letOwnedTupleGo_enum (s := { s with heap := h', toks := tk + 1 }) hout fun h'' isE' sb => ?_⟩
    have hnew2 : h''.get? s.heap.objs.size = some { cls := .type "tuple", data := .seq #[.int i tk, y] } := (sb.2 _ (Nat.ne_of_gt ltE)).trans hnew
    have okN : ObjOk X.prog X.w (upd H s.heap.objs.size (.tup [.int (i : Nat), x])) h'' s.heap.objs.size (.tup [.int (i : Nat), x]) :=
      ⟨by show 2 ≤ sizeLine; decide, [.int i tk, y], .cons ⟨_, rfl⟩ (.cons ru .nil), ⟨_, hnew2, rfl, _, rfl⟩⟩
    have I1 : L2.Inv X pins σ (upd H s.heap.objs.size (.tup [.int (i : Nat), x])) { s with heap := h'', toks := tk + 1 } :=
      I.turnedNew (ch := [e, it]) (fun b ob hb q => (sb.2 b (fun z => hb (by simp [z]))).trans (hk b ob (fun z => hb (by simp [z])) (fun z => hb (by simp [z])) q)) hf (Nat.le_refl _) okN
    refine ⟨.ref s.heap.objs.size, _, I1, rfl, ⟨_, x, rfl, I.hok.fresh (Nat.le_refl _), rfl, fun ys hy => by rw [I.tuple_inj hy hq]; exact hx⟩, ⟨⟨y, ?_⟩, hit'.at fun o q => (sb.2 it (Ne.symm ne)).trans q, ne⟩, fun b hb => ?_⟩
    · rw [show ((i + 1 : Nat) : Int) = (i : Int) + 1 by omega]
      exact isE'
    · have ltb : b < s.heap.objs.size := by
        have cases2 : b = e ∨ b = it := by simpa using hb
        rcases cases2 with z | z
        · rw [z]; exact ltE
        · rw [z]; exact ltI
      rw [upd_ne (Nat.ne_of_lt ltb)]
      exact (hf b hb).1
  done := by
    intro X hP hw hK hc i pins s σ H E I hf st hg
    subst hP hw hK
    obtain ⟨⟨old, isE⟩, isI, ne⟩ := st
    obtain ⟨xs, hq, hx⟩ := hg
    obtain ⟨its, rv, isT, hz⟩ := I.tuple hq
    obtain ⟨f0, f1, f2, f3, f4, f5⟩ := hf it (by simp)
    have len := rv.length
    have neA : a ≠ it := by
      rintro rfl
      obtain ⟨o1, h1, h2, _⟩ := isI
      obtain ⟨o2, h3, h4, _⟩ := isT
      rw [h1] at h3
      cases h3
      rw [h2] at h4
      exact absurd h4 (by decide)
    unfold pyNext
    have tyE : s.TypeIs (.ref e) "enumerate" := ⟨_, isE, rfl⟩
    refine wpAny_bind (wpAny_attempt (wpAny_callSpecial?_slot (name := Str.ofString "__next__") tyE F.slot_enumerate_next
      (wpAny_call_entry F.slot_enumerate_next tyE F.entry_enumerate_next ?_ (F.args_enumerate_next_1 _))))
    show wpAny _ _ (field (.ref e) 2 >>= _) _ _ _
    refine wpAny_bind (wpAny_field isE rfl (x := .ref it) rfl ?_)
    refine wpAny_bind (wpAny_nextOf_tuple_end (I.ok.hd hc) isI isT (by simp; omega) fun h' xv eb hxv => ?_)
    obtain ⟨ob, hob, hcl⟩ := hxv
    refine wpAny_bind (wpAny_isInstance (T := "StopIteration") (b := true) ⟨ob, hob, hcl⟩ isSubtype_stop ?_)
    exact wpAny_pure ⟨rfl, I.turned (t' := s.toks) (fun b o hb q => eb b o hb q) f0 f1 f3 f4 f5⟩
  self := fun A i s Q E st h => let ⟨⟨_, isE⟩, _⟩ := st; wpAny_pyIter_enum isE h
def iEnumT (K : PySem.W.Frag) (ta : TA) : TI := fun σ H R => ta σ H fun vs H1 => ∃ a xs, vs = [.ref a] ∧ SqT K H1 a xs ∧ R (IteT K a) H1
theorem pi_enumT {X : Cx} {e : Expr} {ta : TA} {p pos tpos : Pos} {elts : List Expr} {kk : Nat} (hg : Gl X "enumerate") (hm : X.mg "enumerate" = none) (ha : PA X [e] ta) (hs : starEach [e] X.env = [(false, eval e X.env)] := by rfl) :
    PI X (.Tuple elts kk tpos) (.Call (.Name "enumerate" p) [e] [] pos) (iEnumT X.K ta) := by
  refine ⟨fun pins s σ H Rr I hh => ?_⟩
  refine Call_ (ld_blt I hg hm boot_enumerate (PyProof.Rows.callWith_type1 (thn (ha.run pos pins s σ H _ I hh) fun us s1 ⟨vs, H1, I1, r1, q1⟩ => ?_) hs rfl))
  obtain ⟨a, xs, ex, hq, q⟩ := q1
  subst ex
  cases r1 with
  | cons r rr =>
    cases rr
    cases r
    obtain ⟨its, rv, isT, hz⟩ := I1.tuple hq
    refine call_enum_tup isT fun h' isE isI hk => wpAny_pyIter_enum isE ?_
    have I2 : L2.Inv X pins σ H1 { s1 with heap := h' } := I1.kept (t' := s1.toks) hk
    refine ⟨s1.heap.objs.size + 1, [s1.heap.objs.size + 1, s1.heap.objs.size], _, _, H1, rfl, I2, turn_enumT a (s1.heap.objs.size + 1) s1.heap.objs.size, ⟨⟨.none, isE⟩, isI, Nat.succ_ne_self _⟩, fun b hb => ?_, q⟩
    have above : s1.heap.objs.size ≤ b := by
      rcases (show b = s1.heap.objs.size + 1 ∨ b = s1.heap.objs.size by simpa using hb) with z | z
      · rw [z]; exact Nat.le_add_right _ _
      · rw [z]; exact Nat.le_refl _
    exact I1.fpOk above (I1.hok.fresh above)
end Sb
end
section
set_option Elab.async false
set_option linter.all false
set_option maxRecDepth 100000
set_option maxHeartbeats 4000000
namespace Sb
open PySem PySem.Spec PyProof.Rows L2 PySem.W
mutual
theorem reads_in {h : Heap} : ∀ (d : PyData) (v : Value) (as : List Addr), alike d d = true → Reads h v d as → ∀ x ∈ as, ∃ o, h.get? x = some o
  | .none, _, _, _, r, x, hx => by cases r; cases hx
  | .bool _, _, _, _, r, x, hx => by cases r; cases hx
  | .int _, _, _, _, r, x, hx => by cases r; cases hx
  | .str _, _, _, _, r, x, hx => by cases r; cases hx
  | .list xs, _, _, hal, r, x, hx => by
    cases r with
    | list h1 h2 h3 h4 =>
      rcases List.mem_cons.mp hx with e | e
      · rw [e]; exact ⟨_, h1⟩
      · exact reads_ins xs _ _ (by simpa [alike] using hal) h4 x e
  | .tuple xs, _, _, hal, r, x, hx => by
    cases r with
    | tuple h1 h2 h3 h4 => exact reads_ins xs _ _ (by simpa [alike] using hal) h4 x hx
  | .dict _, _, _, hal, _, _, _ => absurd hal (by simp [alike])
theorem reads_ins {h : Heap} : ∀ (ds : List PyData) (vs : List Value) (as : List Addr), alikeAll ds ds = true → ReadsAll h vs ds as → ∀ x ∈ as, ∃ o, h.get? x = some o
  | [], _, _, _, r, x, hx => by cases r; cases hx
  | d :: ds, _, _, hal, r, x, hx => by
    cases r with
    | cons h1 h2 =>
      rcases List.mem_append.mp hx with e | e
      · exact reads_in d _ _ (alike_all_cons hal).1 h1 x e
      · exact reads_ins ds _ _ (alike_all_cons hal).2 h2 x e
end
abbrev VP := V × D × PyData
theorem each_vals {bs : List VP} {its : List Value} (r : Vals (bs.map (·.1)) its) : EachIs (fun (v : Value) (b : VP) => RelV b.1 v) its bs := by
  induction bs generalizing its with
  | nil => cases r; exact .nil
  | cons b bs ih =>
    cases r with
    | cons h t => exact .cons h (ih t)
theorem vals_each {bs : List VP} {its : List Value} (e : EachIs (fun (v : Value) (b : VP) => RelV b.1 v) its bs) : Vals (bs.map (·.1)) its := by
  induction e with
  | nil => exact .nil
  | cons h t ih => exact .cons h ih
theorem each_imp {α β : Type} {R R' : α → β → Prop} : ∀ {as : List α} {bs : List β}, EachIs R as bs → (∀ a b, b ∈ bs → R a b → R' a b) → EachIs R' as bs
  | _, _, .nil, _ => .nil
  | _, _, .cons h t, f => .cons (f _ _ List.mem_cons_self h) (each_imp t fun a b hb => f a b (List.mem_cons_of_mem _ hb))
abbrev leP : VP → VP → Bool := dataLe false fun b => b.2.2
/-- the new list that collects the items, the heap told -/
theorem collect_told {prog : Program} {w : World} {A : Around} {E : Value → Shared → Prop} {s : Shared} {Q : List Value → Shared → Prop} (a : Addr) {T : String} {o : Obj} {its : Array Value} {n : Nat} (hT : T = "list" ∨ T = "tuple") (ho : s.heap.get? a = some o) (hc : o.cls = .type T) (hd : o.data = .seq its n)
    (hQ : Q its.toList { s with heap := (s.heap.push { cls := .type "list", data := .seq ([] : List Value).toArray }).update s.heap.objs.size (Obj.mapSeq (· ++ its)) }) (small : its.size ≤ sizeLine) : wpAny (model prog w) A (collect (.ref a)) Q E s := by
  have new1 : (s.heap.push { cls := .type "list", data := .seq ([] : List Value).toArray }).get? s.heap.objs.size = some { cls := .type "list", data := .seq #[] 0 } := Heap.get?_push_size _ rfl
  have new2 := Heap.get?_update_self (Obj.mapSeq (· ++ its)) new1 rfl
  unfold collect
  refine wpAny_bind (wpAny_runValue (codeAny_builtin F.entry_proto_collect ?_))
  rw [Around.under_plainId F.plain_proto_collect _]
  show wpAny _ A.in1 (newList [] >>= fun l => again (.builtin "list.__iadd__" ⟨[l, .ref a], []⟩)) _ _ s
  refine wpAny_bind (wpAny_newObj_type (wpAny_pure ⟨plainId_quiet F.plain_list_iadd _, codeAny_builtin F.entry_list_iadd ?_⟩))
  rw [Around.under_plainId F.plain_list_iadd _]
  show wpAny _ A.in1 (Builtin.List.listExtendWith (.ref s.heap.objs.size) (.ref a) (.ref s.heap.objs.size)) _ _ _
  have rest : wpAny (model prog w) A (match Value.ref s.heap.objs.size with
      | Value.ref b => do
        match (← load b).data with
          | Data.seq xs _ => pure xs.toList
          | _ => unsupported "internal:collect"
      | _ => unsupported "internal:collect") Q E { s with heap := (s.heap.push { cls := .type "list", data := .seq ([] : List Value).toArray }).update s.heap.objs.size (Obj.mapSeq (· ++ its)) } := by
    show wpAny _ A (load s.heap.objs.size >>= _) _ _ _
    refine wpAny_bind (wpAny_load new2 (wpAny_pure ?_))
    show Q ((#[] : Array Value) ++ its).toList _
    rw [show ((#[] : Array Value) ++ its).toList = its.toList from by simp]
    exact hQ
  refine wpAny_mono (wpAny_extend_seq (hsz := small) (A := A) (R := fun r s' => r = .ok (.ret (.ref s.heap.objs.size)) ∧ s' = { s with heap := (s.heap.push { cls := .type "list", data := .seq ([] : List Value).toArray }).update s.heap.objs.size (Obj.mapSeq (· ++ its)) })
    (s := { s with heap := s.heap.push { cls := .type "list", data := .seq ([] : List Value).toArray } }) _ a _ 0 hT new1 (Heap.get?_push_of_some _ ho) hc hd ⟨rfl, rfl⟩) (fun fin s' hh => ?_) (fun e s' hh => absurd hh.1 (by simp))
  cases fin with
  | done f =>
    obtain ⟨e, rfl⟩ := hh
    cases e
    exact rest
  | again c' => exact ⟨hh.1, codeAny_mono hh.2 fun r s'' hr => by obtain ⟨rfl, rfl⟩ := hr; exact rest⟩
theorem call_sortedQ {X : Cx} (hu : X.A.units + 64 < cLine) : CallR X (.builtin "sorted") (fun xs H Q => ∃ (a : Addr) (bs : List VP), xs = [.ref a] ∧ (SqL X.K H a (bs.map (·.1)) ∨ SqT X.K H a (bs.map (·.1))) ∧ (∀ b ∈ bs, Dp X.K H b.1 b.2.2) ∧
    AllAlike (bs.map (·.2.2)) ∧ Sortable (bs.map (·.2.2)) ∧ (∀ b ∈ bs, b.2.2.depth ≤ 8) ∧ ∀ p, H p = none → Q (.ref p) (upd H p (.lst ((bs.mergeSort leP).map (·.1))))) := by
  intro pins s σ H xs us Q I r ⟨a, bs, ex, hs, hd, hal, hso, hdep, q⟩
  subst ex
  obtain ⟨u, rfl, ru⟩ := vals1 r
  obtain rfl : u = Value.ref a := ru
  obtain ⟨its, rv, T, hT, o, n, ho, hc, hdt, hz⟩ : ∃ (its : List Value) (_ : Vals (bs.map (·.1)) its) (T : String) (_ : T = "list" ∨ T = "tuple") (o : Obj) (n : Nat), s.heap.get? a = some o ∧ o.cls = .type T ∧ o.data = .seq its.toArray n ∧ (bs.map (·.1)).length ≤ sizeLine := by
    rcases hs with hs | hs
    · obtain ⟨its, rv, hl, hz⟩ := I.list hs
      obtain ⟨o, ho, hc, n, hd⟩ := hl.isList
      exact ⟨its, rv, "list", .inl rfl, o, n, ho, hc, hd, hz⟩
    · obtain ⟨its, rv, hl, hz⟩ := I.tuple hs
      obtain ⟨o, ho, hc, n, hd⟩ := hl
      exact ⟨its, rv, "tuple", .inr rfl, o, n, ho, hc, hd, hz⟩
  have hlen : its.length = bs.length := by have := rv.length; simp at this; omega
  have hz' : its.length ≤ sizeLine := by rw [hlen]; simpa using hz
  refine call_function_entry_kw kind_sorted plain_sorted entry_sorted (args_sorted1 _) ?_
  unfold Builtin.«sorted»
  refine wpAny_bind (m := checkCount "sorted" 1 1 _) (wpAny_pure ?_)
  refine wpAny_bind (collect_told a hT ho hc hdt ?_ (by simpa using hz'))
  rw [show its.toArray.toList = its from List.toList_toArray ..]
  generalize hh1 : (s.heap.push { cls := .type "list", data := .seq ([] : List Value).toArray }).update s.heap.objs.size (Obj.mapSeq (· ++ its.toArray)) = h1
  have size1 : h1.objs.size = s.heap.objs.size + 1 := by rw [← hh1, Heap.size_update, Heap.size_push]
  have keep1 : ∀ b o, s.heap.get? b = some o → h1.get? b = some o := fun b o e => by
    rw [← hh1, Heap.get?_update_ne _ _ _ _ (Nat.ne_of_lt (Heap.lt_size e))]
    exact Heap.get?_push_of_some _ e
  refine wpAny_bind (wpAny_newList ?_ hz')
  generalize hs2 : ({ s with heap := h1.push { cls := .type "list", data := .seq its.toArray } } : Shared) = s2
  have e2 : s2.heap = h1.push { cls := .type "list", data := .seq its.toArray } := by rw [← hs2]
  have keep2 : ∀ b o, s.heap.get? b = some o → s2.heap.get? b = some o := fun b o e => by rw [e2]; exact Heap.get?_push_of_some _ (keep1 b o e)
  have at2 : s2.heap.get? h1.objs.size = some (seqObj "list" its.toArray 0) := by rw [e2]; exact Heap.get?_push_size _ rfl
  have big : s.heap.objs.size ≤ h1.objs.size := by omega
  have hold : EachIs (fun (v : Value) (b : VP) => ∃ as, Reads s2.heap v b.2.2 as ∧ h1.objs.size ∉ as) its bs := each_imp (each_vals rv) fun v b hb rb => by
    obtain ⟨as, hr⟩ := Dp.reads I b.2.2 b.1 v (hd b hb) rb
    refine ⟨as, PyProof.Rows.Reads.keeps keep2 hr, fun hm => ?_⟩
    have al : alike b.2.2 b.2.2 = true := hal _ (List.mem_map_of_mem (f := fun b : VP => b.2.2) hb) _ (List.mem_map_of_mem (f := fun b : VP => b.2.2) hb)
    obtain ⟨o', ho'⟩ := reads_in b.2.2 v as al hr _ hm
    have z : h1.objs.size < s.heap.objs.size := Heap.lt_size ho'
    exact Nat.lt_irrefl _ (Nat.lt_of_lt_of_le z big)
  have us2 : X.A.in1.units = X.A.units + 1 := rfl
  refine wpAny_bind (wpAny_holding (list_sort_data (enc := fun b : VP => b.2.2) at2 (each_vals rv) hold hal hso (by rw [← hlen]; exact hz') (fun b hb => ?_) fun out hol eo => ?_))
  · have := hdep b hb
    show X.A.in1.units + 1 + b.2.2.depth < cLine
    rw [us2]; omega
  · refine wpAny_pure ⟨_, rfl, ?_⟩
    obtain ⟨e, hat⟩ := sortedHeap_at (out := out.toArray) at2
    have keep3 : ∀ b o, s.heap.get? b = some o → (sortedHeap s2.heap h1.objs.size its out.toArray).get? b = some o := fun b o hb => by
      have lt0 : b < h1.objs.size := Nat.lt_of_lt_of_le (Heap.lt_size hb) big
      have ne1 : b ≠ h1.objs.size := Nat.ne_of_lt lt0
      have lt2 : b < s2.heap.objs.size := by rw [e2, Heap.size_push]; exact Nat.lt_succ_of_lt lt0
      rw [sortedHeap_old ne1 lt2]
      exact keep2 b o hb
    have hv := vals_each eo
    refine ⟨.ref h1.objs.size, upd H h1.objs.size (.lst ((bs.mergeSort leP).map (·.1))), ?_, rfl, q _ (I.hok.fresh big)⟩
    have z := I.laid (t' := s.toks) keep3 big (o := .lst ((bs.mergeSort leP).map (·.1))) ⟨by simpa using hz, out, e, hv, hat⟩
    rw [← hs2] at z ⊢
    exact z
end Sb
end
section
set_option Elab.async false
set_option linter.all false
set_option maxRecDepth 100000
set_option maxHeartbeats 4000000
namespace Sb
open PySem PySem.Spec PyProof.Rows L2 PySem.W
section
variable {X : Cx} {T : Tb} {W : WX} {pos : Pos} {e : Expr} {ra : AF}
/-! ## enumerate(tuple) -/
def wkE (es : List D) : Wk := ⟨es.length, fun i _ => some ((es[i]?).map fun d => .tup [.int (i : Nat), d])⟩
def iEn (ra : AF) : IF := fun τ => (ra τ).bnd fun ds S => match ds with
  | [.tup es] => some (.ok (wkE es) S)
  | _ => none
theorem i_enum {p tpos : Pos} {elts : List Expr} {kk : Nat} (hK : T.K = X.K) (hg : Gl X "enumerate") (hm : X.mg "enumerate" = none) (ha : PA X [e] (rdA T W ra)) (hs : starEach [e] X.env = [(false, eval e X.env)] := by rfl) :
    PI X (.Tuple elts kk tpos) (.Call (.Name "enumerate" p) [e] [] pos) (rdI T W (iEn ra)) :=
  (pi_enumT hg hm ha hs).imp fun σ H Rr h => by
    obtain ⟨φ, S, τ, o, R, r, e, q⟩ := h
    refine rdA_bndI R r e q fun ds S1 vs H1 φ1 E1 R1 r1 e1 q1 => ?_
    split at e1
    · rename_i es
      cases e1
      obtain ⟨v, l, rfl, r2, r3⟩ := r1
      cases r3
      obtain ⟨a, xs, rfl, hH, s⟩ := r2
      refine ⟨a, xs, rfl, .inl hH, q1 φ1 H1 _ .refl R1 ?_⟩
      intro φ S H i E2 R2
      have h' := E2.rdT hH
      have s' := s.ext E2 _ _
      refine ⟨fun d hd => ?_, fun hn => ?_⟩
      · have hd' : (es[i]?).map (fun d => D.tup [.int (i : Nat), d]) = some d := Option.some.inj hd
        simp only [Option.map_eq_some_iff] at hd'
        obtain ⟨y, hy, rfl⟩ := hd'
        obtain ⟨v, hv, rv⟩ := s'.get hy
        refine ⟨⟨xs, v, .inl h', hv⟩, fun x H' yl => ?_⟩
        obtain ⟨P, x2, rfl, hP, rfl, hx⟩ := yl
        have ev := hx xs (.inl h')
        rw [hv] at ev
        cases ev
        obtain ⟨R3, E3⟩ := R2.garb (u := .tup [.int (i : Nat), v]) hP
        exact ⟨E3, R3, P, _, rfl, (.inl upd_same), .int (i : Nat), _, rfl, rfl, v, _, rfl, rv.ext E3 _ _, rfl⟩
      · have hn' : (es[i]?).map (fun d => D.tup [.int (i : Nat), d]) = none := Option.some.inj hn
        simp only [Option.map_eq_none_iff] at hn'
        exact ⟨xs, .inl h', rds_none s' hn'⟩
    · cases e1
/-! ## sorted of data -/
def sortB (ps : List PyData) : Bool := (ps.all fun p => ps.all fun q => alike p q) && (ps.all fun p => match p with | .tuple (_ :: _) => true | _ => false) && ps.all fun p => decide (p.depth ≤ 8)
def gSorted : GN := fun ds S => match ds with
  | [d] => (seqD S d).bind fun es => (es.mapM (toPy 8 S)).bind fun ps => if sortB ps = true then some (.loc S.length, S ++ [.lst (((es.zip ps).mergeSort (dataLe false fun b => b.2)).map (·.1))]) else none
  | _ => none
def zipV : List V → List D → List PyData → List VP
  | v :: vs, d :: ds, p :: ps => (v, d, p) :: zipV vs ds ps
  | _, _, _ => []
theorem zipV_of {K : PySem.W.Frag} {φ : List Addr} {S : Sto} {H : Hp} (R : Rel T φ S H) : ∀ {ds : List D} {vs : List V} {ps : List PyData}, RDs T H φ ds vs → ds.mapM (toPy 8 S) = some ps →
    (zipV vs ds ps).map (·.1) = vs ∧ (zipV vs ds ps).map (·.2) = ds.zip ps ∧ (zipV vs ds ps).map (·.2.2) = ps ∧ (∀ b ∈ zipV vs ds ps, Dp K H b.1 b.2.2) ∧ ∀ b ∈ zipV vs ds ps, RD T H φ b.2.1 b.1
  | [], vs, ps, r, h => by
    cases r
    cases h
    exact ⟨rfl, rfl, rfl, (fun _ z => by cases z), fun _ z => by cases z⟩
  | d :: ds, vs, ps, r, h => by
    obtain ⟨v, l, rfl, r1, r2⟩ := r
    rw [List.mapM_cons] at h
    simp only [bind, Option.bind_eq_some_iff, pure] at h
    obtain ⟨p, hp, qs, hq, e⟩ := h
    cases e
    obtain ⟨h1, h2, h3, h4, h5⟩ := zipV_of (K := K) R r2 hq
    refine ⟨by show v :: _ = _; rw [h1], by show (d, p) :: _ = _; rw [h2]; rfl, by show p :: _ = _; rw [h3], fun b hb => ?_, fun b hb => ?_⟩
    · rcases List.mem_cons.mp hb with z | z
      · rw [z]; exact py_dp R _ _ _ _ r1 hp
      · exact h4 b z
    · rcases List.mem_cons.mp hb with z | z
      · rw [z]; exact r1
      · exact h5 b z
theorem rds_map {φ : List Addr} {H : Hp} : ∀ {bs : List VP}, (∀ b ∈ bs, RD T H φ b.2.1 b.1) → RDs T H φ (bs.map (·.2.1)) (bs.map (·.1))
  | [], _ => rfl
  | b :: bs, h => ⟨b.1, _, rfl, h b List.mem_cons_self, rds_map fun c hc => h c (List.mem_cons_of_mem _ hc)⟩
theorem c_sorted (hK : T.K = X.K) (hu : X.A.units + 64 < cLine) : CallR X (.builtin "sorted") (rGN T gSorted) := CallR.imp (call_sortedQ hu) fun xs H Q h => by
  obtain ⟨φ, S, d, v, rfl, R, r, f⟩ := one_of h
  cases e : seqD S d with
  | none => rw [e] at f; obtain ⟨_, _, z, _⟩ := f; cases z
  | some es =>
    rw [e] at f
    simp only [Option.bind_some] at f
    cases ep : es.mapM (toPy 8 S) with
    | none => rw [ep] at f; obtain ⟨_, _, z, _⟩ := f; cases z
    | some ps =>
      rw [ep] at f
      simp only [Option.bind_some] at f
      split at f
      · rename_i hb
        obtain ⟨p, vs, rfl, k, s⟩ := seq_sq R r e
        rw [hK] at k
        obtain ⟨h1, h2, h3, h4, h5⟩ := zipV_of (K := X.K) R s ep
        generalize zipV vs es ps = bs at h1 h2 h3 h4 h5
        simp only [sortB, Bool.and_eq_true, List.all_eq_true] at hb
        obtain ⟨⟨b1, b2⟩, b3⟩ := hb
        refine ⟨p, bs, rfl, by rw [h1]; exact k, h4, ?_, .inl ?_, fun b hb => ?_, fun t ht => ?_⟩
        · rw [h3]; exact fun a ha b hb => b1 a ha b hb
        · rw [h3]
          intro a ha
          have := b2 a ha
          split at this
          · exact ⟨_, _, rfl⟩
          · cases this
        · exact of_decide_eq_true (b3 _ (by rw [← h3]; exact List.mem_map_of_mem (f := fun b : VP => b.2.2) hb))
        · have em : ((es.zip ps).mergeSort (dataLe false fun b => b.2)).map (·.1) = (bs.mergeSort leP).map (·.2.1) := by
            rw [← h2, ← List.map_mergeSort (r := leP) (s := dataLe false fun b : D × PyData => b.2) (f := fun b : VP => b.2) (fun a _ b _ => rfl), List.map_map]
            rfl
          rw [em] at f
          exact f.lst R (rds_map fun b hb => h5 b ((List.mergeSort_perm bs leP).mem_iff.mp hb)) t ht
      · obtain ⟨_, _, z, _⟩ := f; cases z
end
end Sb
namespace Sb
open PySem PySem.Spec PyProof.Rows L2
def eNeg (fa : EF) : EF := fun τ => (fa τ).bnd fun d S => match d with | .int i => some (.ok (.int (-i)) S) | _ => none
theorem d_neg {X : Cx} {T : Tb} {W : WX} {pos : Pos} {a : Expr} {fa : EF} (ha : PE X a (rdE T W fa)) : PE X (.UnaryOp .USub a pos) (rdE T W (eNeg fa)) := (pe_un un_neg ha).imp fun σ H Q h => by
  obtain ⟨φ, S, τ, o, R, r, e, q⟩ := h
  refine rdE_bnd R r e q fun d S1 v H1 φ1 ⟨E1, R1, r1⟩ e1 q1 => ?_
  split at e1
  · cases e1
    cases r1
    exact ⟨_, rfl, q1 φ1 H1 _ .refl R1 rfl⟩
  · cases e1
end Sb
namespace Sb
open PySem PySem.Spec PyProof.Rows L2
end Sb
end
section
set_option Elab.async false
set_option linter.all false
set_option maxRecDepth 100000
namespace Sb
open PySem PySem.Spec PyProof.Rows L2
def m_is_whole : SF := sRt (eAnd (eIs "int" (eVar 0)) (eNot (eIs "bool" (eVar 0))))
abbrev M_is_whole : List D → M D := fnM 1 (m_is_whole)
def m_is_number : SF := sRt (eAnd (eCl (M_is_whole) 1 (aCons (eVar 0) (aNil))) (eCh gLe gLe (eC (.int 0)) (eVar 0) (eVar 1)))
abbrev M_is_number : List D → M D := fnM 2 (m_is_number)
def m_require_number (K : PySem.W.Frag) : SF := sIf (tNt (tB (eCl (M_is_number) 2 (aCons (eVar 0) (aCons (eVar 1) (aNil)))))) (sRaise (He.ga K "NoNumber")) (sNop)
abbrev M_require_number (K : PySem.W.Frag) : List D → M D := fnM 2 (m_require_number K)
def m_is_depth : SF := sRt (eAnd (eCl (M_is_whole) 1 (aCons (eVar 0) (aNil))) (eB gGeI (eVar 0) (eC (.int 0))))
abbrev M_is_depth : List D → M D := fnM 1 (m_is_depth)
def m_is_listed : SF := sRt (eIs2 "list" "tuple" (eVar 0))
abbrev M_is_listed : List D → M D := fnM 1 (m_is_listed)
def m_is_name : SF := sSeq (sIf (tOr' (tNt (tB (eIs "str" (eVar 0)))) (tNt (tB (eCh gLe gLe (eC (.int 1)) (eCB gLenX (aCons (eVar 0) (aNil))) (eC (.int 8)))))) (sRt (eC (.bl false))) (sNop)) (sRt (eAll 2 (iSeq (eVar 0)) (tN 1) (eCh gLe gLe (eC (.str "a")) (eVar 1) (eC (.str "z")))))
abbrev M_is_name : List D → M D := fnM 2 (m_is_name)
def m_is_card : SF := sSeq (sIf (tOr' (tNt (tB (eCl (M_is_listed) 1 (aCons (eVar 0) (aNil))))) (tB (eB (gEq true) (eCB gLenX (aCons (eVar 0) (aNil))) (eC (.int 2))))) (sRt (eC (.bl false))) (sNop)) (sRt (eAnd (eCl (M_is_name) 1 (aCons (eB gIx (eVar 0) (eC (.int 0))) (aNil))) (eCl (M_is_depth) 1 (aCons (eB gIx (eVar 0) (eC (.int 1))) (aNil)))))
abbrev M_is_card : List D → M D := fnM 1 (m_is_card)
def m_deck_of (K : PySem.W.Frag) : SF := sSeq (sIf (tOr' (tNt (tB (eCl (M_is_listed) 1 (aCons (eVar 0) (aNil))))) (tNt (tB (eCh gLe gLe (eC (.int 1)) (eCB gLenX (aCons (eVar 0) (aNil))) (eC (.int 40)))))) (sRaise (He.ga K "NoDeck")) (sNop)) (sSeq (sIf (tNt (tB (eAll 5 (iSeq (eVar 0)) (tN 1) (eCl (M_is_card) 1 (aCons (eVar 1) (aNil)))))) (sRaise (He.ga K "NoDeck")) (sNop)) (sSeq (sSet 2 (eCB gTuple (aCons (eLc (iSeq (eVar 0)) (tN2 3 4) (tAll) (eTup (aCons (eVar 3) (aCons (eVar 4) (aNil)))) [3, 4]) (aNil)))) (sSeq (sIf (tB (eB gLtI (eCB gLenX (aCons (eSc (iSeq (eVar 2)) (tN 1) (eB gIx (eVar 1) (eC (.int 0))) [1]) (aNil))) (eCB gLenX (aCons (eVar 2) (aNil))))) (sRaise (He.ga K "NoDeck")) (sNop)) (sRt (eVar 2)))))
abbrev M_deck_of (K : PySem.W.Frag) : List D → M D := fnM 5 (m_deck_of K)
def m_reach_of : SF := sRt (eCB gMin2 (aCons (eB gIx (eVar 0) (eC (.int 1))) (aCons (eB gSub (eVar 1) (eC (.int 1))) (aNil))))
abbrev M_reach_of : List D → M D := fnM 2 (m_reach_of)
def m_step_of : SF := sSeq (sSet 1 (eCl (M_reach_of) 2 (aCons (eB gIx (eVar 0) (eC (.int 0))) (aCons (eCB gLenX (aCons (eVar 0) (aNil))) (aNil))))) (sRt (eB gAdd (eB gAdd (eSl (eVar 0) (oSo (eC (.int 1))) (oSo (eB gAdd (eVar 1) (eC (.int 1))))) (eSl (eVar 0) (oNo) (oSo (eC (.int 1))))) (eSl (eVar 0) (oSo (eB gAdd (eVar 1) (eC (.int 1)))) (oNo))))
abbrev M_step_of : List D → M D := fnM 2 (m_step_of)
def m_row_seen (K : PySem.W.Frag) : SF := sSeq (sSet 2 (eCl (M_deck_of K) 1 (aCons (eVar 0) (aNil)))) (sSeq (sEx (eCl (M_require_number K) 2 (aCons (eVar 1) (aCons (eC (.int 2000)) (aNil))))) (sSeq (sSet 3 (eLst (aNil))) (sSeq (sFor (iRg1 (aCons (eVar 1) (aNil))) (tN 4) (sSeq (sEx (eBM "list" gAppend (eVar 3) (aCons (eB gIx (eB gIx (eVar 2) (eC (.int 0))) (eC (.int 0))) (aNil)))) (sSet 2 (eCl (M_step_of) 1 (aCons (eVar 2) (aNil)))))) (sRt (eVar 3)))))
abbrev M_row_seen (K : PySem.W.Frag) : List D → M D := fnM 5 (m_row_seen K)
def m_law_draw : SF := sSeq (sIf (tB (eB gGtI (eB gIx (eVar 0) (eC (.int 0))) (eC (.int 0)))) (sSeq (sSet 2 (eB gMod (eB gIx (eVar 0) (eC (.int 0))) (eVar 1))) (sSeq (sPut (eB gDiv (eB gIx (eVar 0) (eC (.int 0))) (eVar 1)) (eVar 0) (eC (.int 0))) (sRt (eVar 2)))) (sNop)) (sSeq (sPut (eB gAdd (eB gIx (eVar 0) (eC (.int 2))) (eC (.int 1))) (eVar 0) (eC (.int 2))) (sSeq (sSet 3 (eB gMod (eB gMul (eB gIx (eVar 0) (eC (.int 1))) (eB gIx (eVar 0) (eC (.int 1)))) (eC (.int 2305843009213693951)))) (sSeq (sPut (eB gMod (eB gAdd (eB gAdd (eVar 3) (eB gMul (eB gMul (eC (.int 7919)) (eB gIx (eVar 0) (eC (.int 2)))) (eB gIx (eVar 0) (eC (.int 1))))) (eC (.int 104729))) (eC (.int 2305843009213693951))) (eVar 0) (eC (.int 1))) (sRt (eB gMod (eB gDiv (eB gIx (eVar 0) (eC (.int 1))) (eC (.int 65537))) (eVar 1))))))
abbrev M_law_draw : List D → M D := fnM 4 (m_law_draw)
def m_law_names : SF := sSeq (sSet 2 (eLc (iRg1 (aCons (eC (.int 50)) (aNil))) (tN 3) (tAll) (eB gAdd (eB gAdd (eC (.str "q")) (eB gIx (eC (.str "abcdefghij")) (eB gDiv (eVar 3) (eC (.int 5))))) (eB gIx (eC (.str "vwxyz")) (eB gMod (eVar 3) (eC (.int 5))))) [3])) (sSeq (sSet 4 (eLst (aNil))) (sSeq (sFor (iRg1 (aCons (eVar 1) (aNil))) (tN 3) (sSeq (sSet 5 (eB gIx (eLst (aCons (eC (.str "ab")) (aCons (eC (.str "abcdefghijklmnopqrstuvwxyz")) (aNil)))) (eCl (M_law_draw) 2 (aCons (eVar 0) (aCons (eC (.int 2)) (aNil)))))) (sSeq (sSet 6 (eBM "str" gJoin (eC (.str "")) (aCons (eLc (iRg1 (aCons (eB gAdd (eC (.int 1)) (eCl (M_law_draw) 2 (aCons (eVar 0) (aCons (eC (.int 8)) (aNil))))) (aNil))) (tN 7) (tAll) (eB gIx (eVar 5) (eCl (M_law_draw) 2 (aCons (eVar 0) (aCons (eCB gLenX (aCons (eVar 5) (aNil))) (aNil))))) [7]) (aNil)))) (sEx (eBM "list" gAppend (eVar 4) (aCons (eB gIx (eLc (iSeq (eB gAdd (eLst (aCons (eVar 6) (aNil))) (eVar 2))) (tN 8) (tB (eB (gIn true) (eVar 8) (eVar 4))) (eVar 8) [8]) (eC (.int 0))) (aNil))))))) (sRt (eVar 4))))
abbrev M_law_names : List D → M D := fnM 9 (m_law_names)
end Sb
end
section
set_option Elab.async false
set_option linter.all false
set_option maxRecDepth 100000
set_option maxHeartbeats 4000000
namespace Sb
open PySem PySem.Spec PyProof.Rows L2
theorem kb_NoneType_int : kitB "NoneType" "int" = some false := by decide +kernel
theorem kb_NoneType_bool : kitB "NoneType" "bool" = some false := by decide +kernel
theorem kb_NoneType_str : kitB "NoneType" "str" = some false := by decide +kernel
theorem kb_NoneType_list : kitB "NoneType" "list" = some false := by decide +kernel
theorem kb_NoneType_tuple : kitB "NoneType" "tuple" = some false := by decide +kernel
theorem kb_bool_int : kitB "bool" "int" = some true := by decide +kernel
theorem kb_bool_bool : kitB "bool" "bool" = some true := by decide +kernel
theorem kb_bool_str : kitB "bool" "str" = some false := by decide +kernel
theorem kb_bool_list : kitB "bool" "list" = some false := by decide +kernel
theorem kb_bool_tuple : kitB "bool" "tuple" = some false := by decide +kernel
theorem kb_int_int : kitB "int" "int" = some true := by decide +kernel
theorem kb_int_bool : kitB "int" "bool" = some false := by decide +kernel
theorem kb_int_str : kitB "int" "str" = some false := by decide +kernel
theorem kb_int_list : kitB "int" "list" = some false := by decide +kernel
theorem kb_int_tuple : kitB "int" "tuple" = some false := by decide +kernel
theorem kb_str_int : kitB "str" "int" = some false := by decide +kernel
theorem kb_str_bool : kitB "str" "bool" = some false := by decide +kernel
theorem kb_str_str : kitB "str" "str" = some true := by decide +kernel
theorem kb_str_list : kitB "str" "list" = some false := by decide +kernel
theorem kb_str_tuple : kitB "str" "tuple" = some false := by decide +kernel
theorem kb_tuple_int : kitB "tuple" "int" = some false := by decide +kernel
theorem kb_tuple_bool : kitB "tuple" "bool" = some false := by decide +kernel
theorem kb_tuple_str : kitB "tuple" "str" = some false := by decide +kernel
theorem kb_tuple_list : kitB "tuple" "list" = some false := by decide +kernel
theorem kb_tuple_tuple : kitB "tuple" "tuple" = some true := by decide +kernel
theorem kb_list_int : kitB "list" "int" = some false := by decide +kernel
theorem kb_list_bool : kitB "list" "bool" = some false := by decide +kernel
theorem kb_list_str : kitB "list" "str" = some false := by decide +kernel
theorem kb_list_list : kitB "list" "list" = some true := by decide +kernel
theorem kb_list_tuple : kitB "list" "tuple" = some false := by decide +kernel
theorem kb_dict_int : kitB "dict" "int" = some false := by decide +kernel
theorem kb_dict_bool : kitB "dict" "bool" = some false := by decide +kernel
theorem kb_dict_str : kitB "dict" "str" = some false := by decide +kernel
theorem kb_dict_list : kitB "dict" "list" = some false := by decide +kernel
theorem kb_dict_tuple : kitB "dict" "tuple" = some false := by decide +kernel
theorem sSeq_nx {f g : SF} {τ τ1 : Sl} {S S1 : Sto} (h : f τ S = some (.nx τ1, S1)) : sSeq f g τ S = g τ1 S1 := by simp only [sSeq, h]
theorem sSeq_rt {f g : SF} {τ : Sl} {d : D} {S S1 : Sto} (h : f τ S = some (.rt d, S1)) : sSeq f g τ S = some (.rt d, S1) := by simp only [sSeq, h]
theorem sSet_ok {i : Nat} {fe : EF} {τ : Sl} {d : D} {S S1 : Sto} (h : fe τ S = some (.ok d S1)) : sSet i fe τ S = some (.nx (τ.set i (some d)), S1) := by simp only [sSet, sx, h]
theorem sEx_ok {fe : EF} {τ : Sl} {d : D} {S S1 : Sto} (h : fe τ S = some (.ok d S1)) : sEx fe τ S = some (.nx τ, S1) := by simp only [sEx, sx, h]
theorem sRt_ok {fe : EF} {τ : Sl} {d : D} {S S1 : Sto} (h : fe τ S = some (.ok d S1)) : sRt fe τ S = some (.rt d, S1) := by simp only [sRt, sx, h]
theorem sIf_t {t : BF} {f g : SF} {τ : Sl} {S S1 : Sto} (h : t τ S = some (.ok true S1)) : sIf t f g τ S = f τ S1 := by simp only [sIf, st', h, if_true]
theorem sIf_f {t : BF} {f g : SF} {τ : Sl} {S S1 : Sto} (h : t τ S = some (.ok false S1)) : sIf t f g τ S = g τ S1 := by simp [sIf, st', h]
theorem sFor_ok {fi : IF} {g : TF} {fb : SF} {τ : Sl} {S S1 : Sto} {wk : Wk} {r : Option (Fl × Sto)} (h : fi τ S = some (.ok wk S1)) (h2 : goF wk.nxt g fb (wk.bound + 1) 0 τ S1 = r) : sFor fi g fb τ S = r := by simp only [sFor, h, h2]
theorem eB_ok {g : G2} {fa fb : EF} {τ : Sl} {x y d : D} {S S1 S2 S3 : Sto} (h1 : fa τ S = some (.ok x S1)) (h2 : fb τ S1 = some (.ok y S2)) (h3 : g x y S2 = some (d, S3)) : eB g fa fb τ S = some (.ok d S3) := by simp only [eB, M.bnd, h1, h2, h3, lft]
theorem eCl_ok {m : List D → M D} {n : Nat} {r : AF} {τ : Sl} {ds : List D} {S S1 : Sto} {o : Option (Rs D)} (h1 : r τ S = some (.ok ds S1)) (hl : ds.length = n) (h2 : m ds S1 = o) : eCl m n r τ S = o := by simp only [eCl, M.bnd, h1, if_pos hl, h2]
theorem eCB_ok {g : GN} {r : AF} {τ : Sl} {ds : List D} {d : D} {S S1 S2 : Sto} (h1 : r τ S = some (.ok ds S1)) (h2 : g ds S1 = some (d, S2)) : eCB g r τ S = some (.ok d S2) := by simp only [eCB, M.bnd, h1, h2, lft]
theorem eBM_ok {ty : String} {g : GM} {fo : EF} {r : AF} {τ : Sl} {x : D} {ds : List D} {d : D} {S S1 S2 S3 : Sto} (h0 : fo τ S = some (.ok x S1)) (ht : tyD S1 ty x = true) (h1 : r τ S1 = some (.ok ds S2)) (h2 : g x ds S2 = some (d, S3)) : eBM ty g fo r τ S = some (.ok d S3) := by simp only [eBM, M.bnd, h0, ht, if_true, h1, h2, lft]
theorem aCons_ok {f : EF} {r : AF} {τ : Sl} {d : D} {ds : List D} {S S1 S2 : Sto} (h1 : f τ S = some (.ok d S1)) (h2 : r τ S1 = some (.ok ds S2)) : aCons f r τ S = some (.ok (d :: ds) S2) := by simp only [aCons, M.bnd, h1, h2]
theorem aNil_ok {τ : Sl} {S : Sto} : aNil τ S = some (.ok [] S) := rfl
theorem a1_ok {f : EF} {τ : Sl} {d : D} {S S1 : Sto} (h1 : f τ S = some (.ok d S1)) : aCons f aNil τ S = some (.ok [d] S1) := aCons_ok h1 aNil_ok
theorem a2_ok {f g : EF} {τ : Sl} {d e : D} {S S1 S2 : Sto} (h1 : f τ S = some (.ok d S1)) (h2 : g τ S1 = some (.ok e S2)) : aCons f (aCons g aNil) τ S = some (.ok [d, e] S2) := aCons_ok h1 (a1_ok h2)
theorem a3_ok {f g h : EF} {τ : Sl} {d e k : D} {S S1 S2 S3 : Sto} (h1 : f τ S = some (.ok d S1)) (h2 : g τ S1 = some (.ok e S2)) (h3 : h τ S2 = some (.ok k S3)) : aCons f (aCons g (aCons h aNil)) τ S = some (.ok [d, e, k] S3) := aCons_ok h1 (a2_ok h2 h3)
theorem eTup_ok {r : AF} {τ : Sl} {ds : List D} {S S1 : Sto} (h1 : r τ S = some (.ok ds S1)) (hl : ds.length ≤ 1000) : eTup r τ S = some (.ok (.tup ds) S1) := by
  have : ds.length ≤ sizeLine := by rw [sizeLine_eq]; omega
  simp only [eTup, M.bnd, h1, if_pos this]
theorem eLst_ok {r : AF} {τ : Sl} {ds : List D} {S S1 : Sto} (h1 : r τ S = some (.ok ds S1)) (hl : ds.length ≤ 1000) : eLst r τ S = some (.ok (.loc S1.length) (S1 ++ [.lst ds])) := by
  have : ds.length ≤ sizeLine := by rw [sizeLine_eq]; omega
  simp only [eLst, M.bnd, h1, if_pos this]
theorem iRg1_ok {r : AF} {τ : Sl} {n : Nat} {S S1 : Sto} (h1 : r τ S = some (.ok [.int n] S1)) (hn : n ≤ 1000000) : iRg1 r τ S = some (.ok (wkR 0 n) S1) := by
  have hr : -(2 ^ 62) ≤ (n : Int) ∧ (n : Int) < 2 ^ 62 := by constructor <;> omega
  simp only [iRg1, M.bnd, h1, if_pos hr, Int.toNat_natCast]
theorem iSeq_ok {fe : EF} {τ : Sl} {d : D} {S S1 : Sto} {wk : Wk} (h1 : fe τ S = some (.ok d S1)) (h2 : wkD S1 d = some wk) : iSeq fe τ S = some (.ok wk S1) := by
  simp only [iSeq, M.bnd, h1, h2, Option.bind_some]
theorem tB_ok {fe : EF} {τ : Sl} {b : Bool} {S S1 : Sto} (h1 : fe τ S = some (.ok (.bl b) S1)) : tB fe τ S = some (.ok b S1) := by simp only [tB, M.bnd, h1]
theorem tNt_ok {t : BF} {τ : Sl} {b : Bool} {S S1 : Sto} (h1 : t τ S = some (.ok b S1)) : tNt t τ S = some (.ok (!b) S1) := by simp only [tNt, M.bnd, h1]
theorem tOr_f {t u : BF} {τ : Sl} {S S1 : Sto} {o : Option (Rs Bool)} (h1 : t τ S = some (.ok false S1)) (h2 : u τ S1 = o) : tOr' t u τ S = o := by simp [tOr', M.bnd, h1, h2]
theorem eSl_ok {fe : EF} {lo hi : OF} {τ : Sl} {x d : D} {a b : Option Int} {S S1 S2 S3 S4 : Sto} (h1 : fe τ S = some (.ok x S1)) (h2 : lo τ S1 = some (.ok a S2)) (h3 : hi τ S2 = some (.ok b S3)) (h4 : gSl x a b S3 = some (d, S4)) : eSl fe lo hi τ S = some (.ok d S4) := by simp only [eSl, M.bnd, h1, h2, h3, h4, lft]
theorem oSo_ok {fe : EF} {τ : Sl} {i : Int} {S S1 : Sto} (h1 : fe τ S = some (.ok (.int i) S1)) : oSo fe τ S = some (.ok (some i) S1) := by simp only [oSo, M.bnd, h1]
theorem fnM_rt {n : Nat} {f : SF} {ds : List D} {S S' : Sto} {d : D} (h : f (ini n ds) S = some (.rt d, S')) : fnM n f ds S = some (.ok d S') := by
  simp only [fnM, h]
theorem fnM_nx {n : Nat} {f : SF} {ds : List D} {S S' : Sto} {τ : Sl} (h : f (ini n ds) S = some (.nx τ, S')) : fnM n f ds S = some (.ok .non S') := by
  simp only [fnM, h]
/-! ## the spring -/
abbrev spr (a b c : Int) : Ob := .lst [.int a, .int b, .int c]
theorem draw_of {S : Sto} {n : Nat} {a b c m : Int} (h : S[n]? = some (spr a b c)) (ha : 0 < a) (hm : 0 < m) (hl : m.natAbs.log2 < 9000) : M_law_draw [.loc n, .int m] S = some (.ok (.int (a % m)) (S.set n (spr (a / m) b c))) := by
  simp [fnM, ini, sSeq, sNop, sEx, sRt, sIf, sSet, sPut, putD, sAs, sRaise, sx, st', tB, tAn, tOr', tNt, tAll, eB, eVar, eC, eTup, eLst, eCB, eCl, eBM, eIf, eAnd, eOr, eNot, eCh, eSl, oNo, oSo, aNil, aCons, M.bnd, lft, eIs, eIs2, kindD, kb_NoneType_int, kb_NoneType_bool, kb_NoneType_str, kb_NoneType_list, kb_NoneType_tuple, kb_bool_int, kb_bool_bool, kb_bool_str, kb_bool_list, kb_bool_tuple, kb_int_int, kb_int_bool, kb_int_str, kb_int_list, kb_int_tuple, kb_str_int, kb_str_bool, kb_str_str, kb_str_list, kb_str_tuple, kb_tuple_int, kb_tuple_bool, kb_tuple_str, kb_tuple_list, kb_tuple_tuple, kb_list_int, kb_list_bool, kb_list_str, kb_list_list, kb_list_tuple, kb_dict_int, kb_dict_bool, kb_dict_str, kb_dict_list, kb_dict_tuple, truD, gI, gAdd, gSub, gMul, gMod, gDiv, gPow, gLtI, gLe, gGtI, gGeI, gIx, gLen, gLenX, gAbs, gInt, gMax, gMax2, gMin2, gTuple, gList, seqD, listD, atI, ixN, tyD, gAppend, gPopAt, gInsert, m_law_draw, h, ha, hm, hl]

theorem draw_of0 {S : Sto} {n : Nat} {b c m : Int} (h : S[n]? = some (spr 0 b c)) (hm : 0 < m) (hl : m.natAbs.log2 < 9000) (hb : b.natAbs.log2 < 1000) (hc : (7919 * (c + 1)).natAbs.log2 < 300000) :
    ∃ v b', M_law_draw [.loc n, .int m] S = some (.ok (.int (v % m)) (S.set n (spr 0 b' (c + 1)))) ∧ 0 ≤ b' ∧ b' < 2305843009213693951 := by
  have hn : n < S.length := (List.getElem?_eq_some_iff.mp h).1
  have h1 : b.natAbs.log2 + b.natAbs.log2 < 1000000 := by omega
  have h3 : (7919 : Int).natAbs.log2 + (c + 1).natAbs.log2 < 1000000 := by
    have e : (7919 : Int).natAbs.log2 ≤ 20 := by decide +kernel
    have : (c + 1).natAbs.log2 ≤ (7919 * (c + 1)).natAbs.log2 := by
      by_cases z : (c + 1).natAbs = 0
      · rw [z]; simp
      · rw [Nat.le_log2 (by omega)]
        exact Nat.le_trans (Nat.log2_self_le z) (by omega)
    omega
  have h4 : (7919 * (c + 1)).natAbs.log2 + b.natAbs.log2 < 1000000 := by omega
  have h2 : (65537 : Int).natAbs.log2 < 9000 := by decide +kernel
  refine ⟨((b * b % 2305843009213693951 + 7919 * (c + 1) * b + 104729) % 2305843009213693951) / 65537, (b * b % 2305843009213693951 + 7919 * (c + 1) * b + 104729) % 2305843009213693951, ?_, Int.emod_nonneg _ (by decide), Int.emod_lt_of_pos _ (by decide)⟩
  have g : ∀ x, (S.set n x)[n]? = some x := fun x => List.getElem?_set_self hn
  clear hn
  have q1 : Nat.log2 7919 = 12 := by decide +kernel
  have q2 : Nat.log2 65537 = 16 := by decide +kernel
  have h5 : 12 + (c + 1).natAbs.log2 < 1000000 := by
    have e : (7919 : Int).natAbs.log2 = 12 := q1
    omega
  simp [fnM, ini, sSeq, sNop, sEx, sRt, sIf, sSet, sPut, putD, sAs, sRaise, sx, st', tB, tAn, tOr', tNt, tAll, eB, eVar, eC, eTup, eLst, eCB, eCl, eBM, eIf, eAnd, eOr, eNot, eCh, eSl, oNo, oSo, aNil, aCons, M.bnd, lft, eIs, eIs2, kindD, kb_NoneType_int, kb_NoneType_bool, kb_NoneType_str, kb_NoneType_list, kb_NoneType_tuple, kb_bool_int, kb_bool_bool, kb_bool_str, kb_bool_list, kb_bool_tuple, kb_int_int, kb_int_bool, kb_int_str, kb_int_list, kb_int_tuple, kb_str_int, kb_str_bool, kb_str_str, kb_str_list, kb_str_tuple, kb_tuple_int, kb_tuple_bool, kb_tuple_str, kb_tuple_list, kb_tuple_tuple, kb_list_int, kb_list_bool, kb_list_str, kb_list_list, kb_list_tuple, kb_dict_int, kb_dict_bool, kb_dict_str, kb_dict_list, kb_dict_tuple, truD, gI, gAdd, gSub, gMul, gMod, gDiv, gPow, gLtI, gLe, gGtI, gGeI, gIx, gLen, gLenX, gAbs, gInt, gMax, gMax2, gMin2, gTuple, gList, seqD, listD, atI, ixN, tyD, gAppend, gPopAt, gInsert, m_law_draw, h, g, hm, hl, h1, h5, h4, q1, q2]
/-- the spring at n, at most k draws behind -/
def Spr (n k : Nat) (S : Sto) : Prop := ∃ a b c : Int, S[n]? = some (spr a b c) ∧ 0 ≤ a ∧ 0 ≤ b ∧ b < 2305843009213693951 ∧ 0 ≤ c ∧ c ≤ k
/-- all but the object at n stands -/
structure Fr (n : Nat) (S S' : Sto) : Prop where
  le : S.length ≤ S'.length
  at_ : ∀ i, i ≠ n → i < S.length → S'[i]? = S[i]?
theorem Fr.refl {n : Nat} {S : Sto} : Fr n S S := ⟨Nat.le_refl _, fun _ _ _ => rfl⟩
theorem Fr.trans {n : Nat} {S S1 S2 : Sto} (a : Fr n S S1) (b : Fr n S1 S2) : Fr n S S2 := ⟨Nat.le_trans a.le b.le, fun i h1 h2 => (b.at_ i h1 (Nat.lt_of_lt_of_le h2 a.le)).trans (a.at_ i h1 h2)⟩
theorem Fr.get {n i : Nat} {S S' : Sto} {o : Ob} (f : Fr n S S') (h : S[i]? = some o) (hi : i ≠ n) : S'[i]? = some o := (f.at_ i hi (List.getElem?_eq_some_iff.mp h).1).trans h
theorem Fr.app {n : Nat} {S X : Sto} : Fr n S (S ++ X) := ⟨by simp, fun i _ h => List.getElem?_append_left h⟩
theorem Spr.app {n k : Nat} {S X : Sto} (h : Spr n k S) : Spr n k (S ++ X) := by
  obtain ⟨a, b, c, e, r⟩ := h
  exact ⟨a, b, c, by rw [List.getElem?_append_left (List.getElem?_eq_some_iff.mp e).1]; exact e, r⟩
theorem Spr.lt {n k : Nat} {S : Sto} (h : Spr n k S) : n < S.length := by
  obtain ⟨a, b, c, e, r⟩ := h
  exact (List.getElem?_eq_some_iff.mp e).1
theorem Spr.mono {n k k' : Nat} {S : Sto} (h : Spr n k S) (hk : k ≤ k') : Spr n k' S := by
  obtain ⟨a, b, c, e, h1, h2, h3, h4, h5⟩ := h
  exact ⟨a, b, c, e, h1, h2, h3, h4, by omega⟩
theorem log2_lt {x : Int} {j : Nat} (hj : 0 < j) (h : x.natAbs < 2 ^ j) : x.natAbs.log2 < j := by
  by_cases z : x.natAbs = 0
  · rw [z]; simpa using hj
  · exact (Nat.log2_lt z).mpr h
theorem draw_ok {S : Sto} {n k : Nat} {m : Int} (h : Spr n k S) (hk : k < 2 ^ 64) (hm : 0 < m) (hm2 : m < 2 ^ 64) :
    ∃ v S', M_law_draw [.loc n, .int m] S = some (.ok (.int v) S') ∧ 0 ≤ v ∧ v < m ∧ Spr n (k + 1) S' ∧ Fr n S S' ∧ S'.length = S.length := by
  obtain ⟨a, b, c, e, ha, hb, hb2, hc, hc2⟩ := h
  have hn : n < S.length := (List.getElem?_eq_some_iff.mp e).1
  have hl : m.natAbs.log2 < 9000 := log2_lt (by decide) (Nat.lt_of_lt_of_le (show m.natAbs < 2 ^ 64 by omega) (Nat.pow_le_pow_right (by decide) (by decide)))
  have fr : ∀ o, Fr n S (S.set n o) := fun o => ⟨by simp, fun i h1 h2 => List.getElem?_set_ne (Ne.symm h1)⟩
  rcases Int.lt_or_eq_of_le ha with p | p
  · exact ⟨_, _, draw_of e p hm hl, Int.emod_nonneg _ (by omega), Int.emod_lt_of_pos _ hm, ⟨a / m, b, c, by rw [List.getElem?_set_self hn], Int.ediv_nonneg ha (by omega), hb, hb2, hc, by omega⟩, fr _, by simp⟩
  · subst p
    have l1 : b.natAbs.log2 < 1000 := log2_lt (by decide) (Nat.lt_of_lt_of_le (show b.natAbs < 2 ^ 64 by omega) (Nat.pow_le_pow_right (by decide) (by decide)))
    have l2 : (7919 * (c + 1)).natAbs.log2 < 300000 := log2_lt (by decide) (Nat.lt_of_lt_of_le (show (7919 * (c + 1)).natAbs < 2 ^ 128 by omega) (Nat.pow_le_pow_right (by decide) (by decide)))
    obtain ⟨v, b', e1, h1, h2⟩ := draw_of0 e hm hl l1 l2
    exact ⟨_, _, e1, Int.emod_nonneg _ (by omega), Int.emod_lt_of_pos _ hm, ⟨0, b', c + 1, by rw [List.getElem?_set_self hn], Int.le_refl 0, h1, h2, by omega, by omega⟩, fr _, by simp⟩
end Sb
end
section
set_option Elab.async false
set_option linter.all false
set_option maxRecDepth 100000
set_option maxHeartbeats 4000000
set_option exponentiation.threshold 100000
namespace Sb
open PySem PySem.Spec PyProof.Rows L2
/-! ## loops by an invariant -/
theorem goF_inv {nxt : Nat → Sto → Option (Option D)} {g : TF} {fb : SF} {n : Nat} (I : Nat → Sl → Sto → Prop) (item : Nat → D)
    (h : ∀ i τ S, i < n → I i τ S → nxt i S = some (some (item i)) ∧ ∃ τ1 τ2 S2, g (item i) S τ = some τ1 ∧ fb τ1 S = some (.nx τ2, S2) ∧ I (i + 1) τ2 S2)
    (he : ∀ τ S, I n τ S → nxt n S = some none) : ∀ (m i : Nat) (τ : Sl) (S : Sto), i ≤ n → n - i < m → I i τ S → ∃ τ' S', goF nxt g fb m i τ S = some (.nx τ', S') ∧ I n τ' S'
  | 0, i, τ, S, _, hm, _ => absurd hm (Nat.not_lt_zero _)
  | m + 1, i, τ, S, hi, hm, hI => by
    unfold goF
    by_cases e : i = n
    · subst e
      rw [he τ S hI]
      exact ⟨τ, S, rfl, hI⟩
    · obtain ⟨h1, τ1, τ2, S2, h2, h3, h4⟩ := h i τ S (by omega) hI
      rw [h1]
      simp only [h2, h3]
      exact goF_inv I item h he m (i + 1) τ2 S2 (by omega) (by omega) h4
theorem goC_inv {nxt : Nat → Sto → Option (Option D)} {g : TF} {t : BF} {fe : EF} {l : Nat} {τ0 : Sl} {n : Nat} (I : Nat → Sto → Prop) (item : Nat → D)
    (h : ∀ i S, i < n → I i S → nxt i S = some (some (item i)) ∧ ∃ τ1, g (item i) S τ0 = some τ1 ∧ ((∃ S1, t τ1 S = some (.ok false S1) ∧ I (i + 1) S1) ∨
      ∃ S1 y S2 acc, t τ1 S = some (.ok true S1) ∧ fe τ1 S1 = some (.ok y S2) ∧ S2[l]? = some (.lst acc) ∧ acc.length < sizeLine ∧ I (i + 1) (S2.set l (.lst (acc ++ [y])))))
    (he : ∀ S, I n S → nxt n S = some none) : ∀ (m i : Nat) (S : Sto), i ≤ n → n - i < m → I i S → ∃ S', goC nxt g t fe l τ0 m i S = some S' ∧ I n S'
  | 0, i, S, _, hm, _ => absurd hm (Nat.not_lt_zero _)
  | m + 1, i, S, hi, hm, hI => by
    unfold goC
    by_cases e : i = n
    · subst e
      rw [he S hI]
      exact ⟨S, rfl, hI⟩
    · obtain ⟨h1, τ1, h2, h3⟩ := h i S (by omega) hI
      rw [h1]
      rcases h3 with ⟨S1, h3, h4⟩ | ⟨S1, y, S2, acc, h3, h4, h5, h6, h7⟩
      · simp only [h2, h3]
        exact goC_inv I item h he m (i + 1) S1 (by omega) (by omega) h4
      · simp only [h2, h3, h4, h5, if_pos h6]
        exact goC_inv I item h he m (i + 1) _ (by omega) (by omega) h7
theorem goA_inv {nxt : Nat → Sto → Option (Option D)} {g : TF} {fe : EF} {k n : Nat} (I : Nat → Sto → Prop) (item : Nat → D)
    (h : ∀ i S, i < n → I i S → nxt i S = some (some (item i)) ∧ ∃ τ1 S1, g (item i) S (List.replicate k none) = some τ1 ∧ fe τ1 S = some (.ok (.bl true) S1) ∧ I (i + 1) S1)
    (he : ∀ S, I n S → nxt n S = some none) : ∀ (m i : Nat) (S : Sto), i ≤ n → n - i < m → I i S → ∃ S', goA nxt g fe k m i S = some (true, S') ∧ I n S'
  | 0, i, S, _, hm, _ => absurd hm (Nat.not_lt_zero _)
  | m + 1, i, S, hi, hm, hI => by
    unfold goA
    by_cases e : i = n
    · subst e
      rw [he S hI]
      exact ⟨S, rfl, hI⟩
    · obtain ⟨h1, τ1, S1, h2, h3, h4⟩ := h i S (by omega) hI
      rw [h1]
      simp only [h2, h3]
      exact goA_inv I item h he m (i + 1) S1 (by omega) (by omega) h4
theorem goK_inv {nxt : Nat → Sto → Option (Option D)} {g : TF} {fe : EF} {l : Nat} {τ0 : Sl} {n : Nat} (I : Nat → Sto → Prop) (item : Nat → D)
    (h : ∀ i S, i < n → I i S → nxt i S = some (some (item i)) ∧ ∃ τ1 y S2 k M num, g (item i) S τ0 = some τ1 ∧ fe τ1 S = some (.ok y S2) ∧ keyD y = some k ∧ S2[l]? = some (.ks M num) ∧ num + 1 < scanBound ∧
      I (i + 1) (S2.set l (.ks (fun j => M j || decide (j = k)) (if M k = true then num else num + 1))))
    (he : ∀ S, I n S → nxt n S = some none) : ∀ (m i : Nat) (S : Sto), i ≤ n → n - i < m → I i S → ∃ S', goK nxt g fe l τ0 m i S = some S' ∧ I n S'
  | 0, i, S, _, hm, _ => absurd hm (Nat.not_lt_zero _)
  | m + 1, i, S, hi, hm, hI => by
    unfold goK
    by_cases e : i = n
    · subst e
      rw [he S hI]
      exact ⟨S, rfl, hI⟩
    · obtain ⟨h1, τ1, y, S2, k, M, num, h2, h3, h4, h5, h6, h7⟩ := h i S (by omega) hI
      rw [h1]
      simp only [h2, h3, h4, h5, if_pos h6]
      exact goK_inv I item h he m (i + 1) _ (by omega) (by omega) h7
end Sb
end
section
set_option Elab.async false
set_option linter.all false
set_option maxRecDepth 100000
set_option maxHeartbeats 4000000
set_option exponentiation.threshold 100000
namespace Sb
open PySem PySem.Spec PyProof.Rows L2
theorem pre_get {S X : Sto} {i : Nat} {o : Ob} (h : S[i]? = some o) : (S ++ X)[i]? = some o := by
  rw [List.getElem?_append_left (List.getElem?_eq_some_iff.mp h).1]; exact h
end Sb
end
section
set_option Elab.async false
set_option linter.all false
set_option maxRecDepth 100000
set_option maxHeartbeats 4000000
namespace Sb
open PySem PySem.Spec PyProof.Rows L2
/-- a name: one to eight small letters -/
structure Nm (x : Str) : Prop where
  lo : 1 ≤ x.cps.size
  hi : x.cps.size ≤ 8
  let_ : ∀ c ∈ x.cps.toList, 97 ≤ c ∧ c ≤ 122
abbrev Card := Str × Int
abbrev dC (c : Card) : D := .tup [.str c.1, .int c.2]
abbrev dK (l : List Card) : D := .tup (l.map dC)
theorem toPy_str (n : Nat) (S : Sto) (x : Str) : toPy (n + 1) S (.str x) = some (.str x) := rfl
theorem toPy_int (n : Nat) (S : Sto) (x : Int) : toPy (n + 1) S (.int x) = some (.int x) := rfl
theorem mapM_some {α β : Type} {f : α → Option β} {g : α → β} : ∀ {l : List α}, (∀ x ∈ l, f x = some (g x)) → l.mapM f = some (l.map g)
  | [], _ => rfl
  | x :: l, h => by
    rw [List.mapM_cons, h x List.mem_cons_self, mapM_some fun y hy => h y (List.mem_cons_of_mem _ hy)]
    rfl
theorem toPy_names (n : Nat) (S : Sto) (k : Nat) (xs : List Str) (h : S[k]? = some (.lst (xs.map D.str))) : toPy (n + 2) S (.loc k) = some (.list (xs.map PyData.str)) := by
  show (match S[k]? with | some (.lst ds) => (ds.mapM (toPy (n + 1) S)).map PyData.list | _ => none) = _
  rw [h]
  show ((xs.map D.str).mapM (toPy (n + 1) S)).map PyData.list = _
  rw [List.mapM_map, mapM_some (f := toPy (n + 1) S ∘ D.str) (g := PyData.str) fun c _ => rfl]
  rfl
theorem eqv_all {α : Type} [DecidableEq α] {f : α → PyData} (h : ∀ a b, PyData.eqv (f a) (f b) = decide (a = b)) : ∀ l m : List α, PyData.eqvAll (l.map f) (m.map f) = decide (l = m)
  | [], [] => rfl
  | [], _ :: _ => rfl
  | _ :: _, [] => rfl
  | a :: l, b :: m => by
    show (PyData.eqv (f a) (f b) && PyData.eqvAll (l.map f) (m.map f)) = _
    rw [h, eqv_all h l m]
    by_cases e : a = b <;> by_cases e2 : l = m <;> simp [e, e2]
theorem eqv_str (a b : Str) : PyData.eqv (.str a) (.str b) = decide (a = b) := by
  show (a == b) = _
  by_cases h : a = b
  · simp [h]
  · simp [h]
theorem eqv_names (l m : List Str) : PyData.eqv (.list (l.map PyData.str)) (.list (m.map PyData.str)) = decide (l = m) := eqv_all eqv_str l m
theorem nm_ok {x : Str} (h : Nm x) : PyData.canLay0 (.str x) = true := by
  show x.cps.all (fun c => decide (c < 0x110000)) = true
  rw [Array.all_eq_true_iff_forall_mem]
  intro c hc
  have := h.let_ c (by simpa using hc)
  exact decide_eq_true (by omega)
theorem lay_all {α : Type} {f : α → PyData} : ∀ {l : List α}, (∀ x ∈ l, PyData.canLay0 (f x) = true) → PyData.canLayAll0 (l.map f) = true
  | [], _ => rfl
  | x :: l, h => by
    show (PyData.canLay0 (f x) && PyData.canLayAll0 (l.map f)) = true
    rw [h x List.mem_cons_self, lay_all fun y hy => h y (List.mem_cons_of_mem _ hy)]
    rfl
theorem depth_all {α : Type} {f : α → PyData} {k : Nat} : ∀ {l : List α}, (∀ x ∈ l, PyData.depth (f x) ≤ k) → PyData.depthAll (l.map f) ≤ k
  | [], _ => Nat.zero_le _
  | x :: l, h => by
    show max (PyData.depth (f x)) (PyData.depthAll (l.map f)) ≤ k
    exact Nat.max_le.mpr ⟨h x List.mem_cons_self, depth_all fun y hy => h y (List.mem_cons_of_mem _ hy)⟩
theorem shp_str {x : Str} (h : Nm x) : SeqAt.shaped (.str x) = true := by
  show (_ && decide ((0 : Nat) ≤ 64)) = true
  rw [nm_ok h]; rfl
theorem shp_names {l : List Str} (h : ∀ c ∈ l, Nm c) : SeqAt.shaped (.list (l.map PyData.str)) = true := by
  unfold SeqAt.shaped
  have e1 : PyData.canLay0 (.list (l.map PyData.str)) = true := lay_all fun c hc => nm_ok (h c hc)
  have e2 : PyData.depth (.list (l.map PyData.str)) ≤ 1 := Nat.succ_le_succ (depth_all (k := 0) fun c _ => Nat.le_refl 0)
  rw [e1, Bool.true_and]
  exact decide_eq_true (Nat.le_trans e2 (by decide))
theorem any_str (x : Str) : ∀ r : List Str, (r.any fun y => PyData.eqv (.str y) (.str x)) = decide (x ∈ r)
  | [] => by simp
  | b :: q => by
    rw [List.any_cons, eqv_str, any_str x q]
    by_cases z : b = x
    · simp [z]
    · have z' : x ≠ b := fun q => z q.symm
      simp [z, z']
theorem gIn_names {neg : Bool} {S : Sto} {j : Nat} {x : Str} {m : List Str} (h2 : S[j]? = some (.lst (m.map D.str))) (hl : Nm x) (hm : ∀ c ∈ m, Nm c) : gIn neg (.str x) (.loc j) S = some (.bl (if neg then !decide (x ∈ m) else decide (x ∈ m)), S) := by
  unfold gIn
  rw [toPy_str 7, toPy_names 6 S j m h2]
  have e : ((m.map PyData.str).any fun z => PyData.eqv z (.str x)) = decide (x ∈ m) := by
    rw [List.any_map]
    exact any_str x m
  simp only [shp_str hl, shp_names hm, and_self, if_true, e]
end Sb
end
section
set_option Elab.async false
set_option linter.all false
set_option maxRecDepth 100000
set_option maxHeartbeats 4000000
namespace Sb
open PySem PySem.Spec PyProof.Rows L2
variable {K : PySem.W.Frag} {S : Sto}
/-! ## what the program's defs do -/
def isCard (S : Sto) (e : D) (c : Card) : Prop := e = dC c ∨ e = .fl [.str c.1, .int c.2] ∨ ∃ n, e = .loc n ∧ S[n]? = some (.lst [.str c.1, .int c.2])
def isDeck (S : Sto) (d : D) (l : List Card) : Prop := ∃ es : List D, (d = .tup es ∨ d = .fl es ∨ ∃ n, d = .loc n ∧ S[n]? = some (.lst es)) ∧ es.length = l.length ∧ ∀ (i : Nat) (e : D) (c : Card), es[i]? = some e → l[i]? = some c → isCard S e c
theorem isCard.app {e : D} {c : Card} {X : Sto} (h : isCard S e c) : isCard (S ++ X) e c := h.imp id fun h => h.imp id fun ⟨n, h1, h2⟩ => ⟨n, h1, pre_get h2⟩
theorem isDeck.app {d : D} {l : List Card} {X : Sto} (h : isDeck S d l) : isDeck (S ++ X) d l := by
  obtain ⟨es, h1, h2, h3⟩ := h
  exact ⟨es, h1.imp id fun h => h.imp id fun ⟨n, a, b⟩ => ⟨n, a, pre_get b⟩, h2, fun i e c a b => (h3 i e c a b).app⟩
theorem isDeck_dK (l : List Card) : isDeck S (dK l) l := ⟨l.map dC, .inl rfl, by simp, fun i e c h1 h2 => by
  rw [List.getElem?_map, h2] at h1
  cases h1
  exact .inl rfl⟩
theorem isCard.seq {e : D} {c : Card} (h : isCard S e c) : seqD S e = some [.str c.1, .int c.2] := by
  rcases h with rfl | rfl | ⟨n, rfl, h⟩
  · rfl
  · rfl
  · simp [seqD, h]
structure DeckOk (l : List Card) : Prop where
  lo : 1 ≤ l.length
  hi : l.length ≤ 40
  nm : ∀ c ∈ l, Nm c.1
  dep : ∀ c ∈ l, 0 ≤ c.2
  nd : (l.map (·.1)).Nodup
theorem is_depth_ok {i : Int} (h : 0 ≤ i) : M_is_depth [.int i] S = some (.ok (.bl true) S) := by
  simp [fnM, ini, sSeq, sNop, sEx, sRt, sIf, sSet, sPut, putD, sAs, sRaise, sx, st', tB, tAn, tOr', tNt, tAll, eB, eVar, eC, eTup, eLst, eCB, eCl, eBM, eIf, eAnd, eOr, eNot, eCh, eSl, oNo, oSo, aNil, aCons, M.bnd, lft, eIs, eIs2, kindD, kb_NoneType_int, kb_NoneType_bool, kb_NoneType_str, kb_NoneType_list, kb_NoneType_tuple, kb_bool_int, kb_bool_bool, kb_bool_str, kb_bool_list, kb_bool_tuple, kb_int_int, kb_int_bool, kb_int_str, kb_int_list, kb_int_tuple, kb_str_int, kb_str_bool, kb_str_str, kb_str_list, kb_str_tuple, kb_tuple_int, kb_tuple_bool, kb_tuple_str, kb_tuple_list, kb_tuple_tuple, kb_list_int, kb_list_bool, kb_list_str, kb_list_list, kb_list_tuple, kb_dict_int, kb_dict_bool, kb_dict_str, kb_dict_list, kb_dict_tuple, truD, gI, gAdd, gSub, gMul, gMod, gDiv, gPow, gLtI, gLe, gGtI, gGeI, gIx, gLen, gLenX, gAbs, gInt, gMax, gMax2, gMin2, gTuple, gList, seqD, listD, atI, ixN, tyD, gAppend, gPopAt, gInsert, m_is_depth, m_is_whole, h]
theorem is_listed_ok {e : D} {c : Card} (h : isCard S e c) : M_is_listed [e] S = some (.ok (.bl true) S) := by
  rcases h with rfl | rfl | ⟨n, rfl, h⟩
  · simp [fnM, ini, sSeq, sNop, sEx, sRt, sIf, sSet, sPut, putD, sAs, sRaise, sx, st', tB, tAn, tOr', tNt, tAll, eB, eVar, eC, eTup, eLst, eCB, eCl, eBM, eIf, eAnd, eOr, eNot, eCh, eSl, oNo, oSo, aNil, aCons, M.bnd, lft, eIs, eIs2, kindD, kb_NoneType_int, kb_NoneType_bool, kb_NoneType_str, kb_NoneType_list, kb_NoneType_tuple, kb_bool_int, kb_bool_bool, kb_bool_str, kb_bool_list, kb_bool_tuple, kb_int_int, kb_int_bool, kb_int_str, kb_int_list, kb_int_tuple, kb_str_int, kb_str_bool, kb_str_str, kb_str_list, kb_str_tuple, kb_tuple_int, kb_tuple_bool, kb_tuple_str, kb_tuple_list, kb_tuple_tuple, kb_list_int, kb_list_bool, kb_list_str, kb_list_list, kb_list_tuple, kb_dict_int, kb_dict_bool, kb_dict_str, kb_dict_list, kb_dict_tuple, truD, gI, gAdd, gSub, gMul, gMod, gDiv, gPow, gLtI, gLe, gGtI, gGeI, gIx, gLen, gLenX, gAbs, gInt, gMax, gMax2, gMin2, gTuple, gList, seqD, listD, atI, ixN, tyD, gAppend, gPopAt, gInsert, m_is_listed]
  · simp [fnM, ini, sSeq, sNop, sEx, sRt, sIf, sSet, sPut, putD, sAs, sRaise, sx, st', tB, tAn, tOr', tNt, tAll, eB, eVar, eC, eTup, eLst, eCB, eCl, eBM, eIf, eAnd, eOr, eNot, eCh, eSl, oNo, oSo, aNil, aCons, M.bnd, lft, eIs, eIs2, kindD, kb_NoneType_int, kb_NoneType_bool, kb_NoneType_str, kb_NoneType_list, kb_NoneType_tuple, kb_bool_int, kb_bool_bool, kb_bool_str, kb_bool_list, kb_bool_tuple, kb_int_int, kb_int_bool, kb_int_str, kb_int_list, kb_int_tuple, kb_str_int, kb_str_bool, kb_str_str, kb_str_list, kb_str_tuple, kb_tuple_int, kb_tuple_bool, kb_tuple_str, kb_tuple_list, kb_tuple_tuple, kb_list_int, kb_list_bool, kb_list_str, kb_list_list, kb_list_tuple, kb_dict_int, kb_dict_bool, kb_dict_str, kb_dict_list, kb_dict_tuple, truD, gI, gAdd, gSub, gMul, gMod, gDiv, gPow, gLtI, gLe, gGtI, gGeI, gIx, gLen, gLenX, gAbs, gInt, gMax, gMax2, gMin2, gTuple, gList, seqD, listD, atI, ixN, tyD, gAppend, gPopAt, gInsert, m_is_listed]
  · simp [fnM, ini, sSeq, sNop, sEx, sRt, sIf, sSet, sPut, putD, sAs, sRaise, sx, st', tB, tAn, tOr', tNt, tAll, eB, eVar, eC, eTup, eLst, eCB, eCl, eBM, eIf, eAnd, eOr, eNot, eCh, eSl, oNo, oSo, aNil, aCons, M.bnd, lft, eIs, eIs2, kindD, kb_NoneType_int, kb_NoneType_bool, kb_NoneType_str, kb_NoneType_list, kb_NoneType_tuple, kb_bool_int, kb_bool_bool, kb_bool_str, kb_bool_list, kb_bool_tuple, kb_int_int, kb_int_bool, kb_int_str, kb_int_list, kb_int_tuple, kb_str_int, kb_str_bool, kb_str_str, kb_str_list, kb_str_tuple, kb_tuple_int, kb_tuple_bool, kb_tuple_str, kb_tuple_list, kb_tuple_tuple, kb_list_int, kb_list_bool, kb_list_str, kb_list_list, kb_list_tuple, kb_dict_int, kb_dict_bool, kb_dict_str, kb_dict_list, kb_dict_tuple, truD, gI, gAdd, gSub, gMul, gMod, gDiv, gPow, gLtI, gLe, gGtI, gGeI, gIx, gLen, gLenX, gAbs, gInt, gMax, gMax2, gMin2, gTuple, gList, seqD, listD, atI, ixN, tyD, gAppend, gPopAt, gInsert, m_is_listed, h]
theorem is_listed_deck {d : D} {l : List Card} (h : isDeck S d l) : M_is_listed [d] S = some (.ok (.bl true) S) := by
  obtain ⟨es, h1 | h1 | ⟨n, h1, h2⟩, _⟩ := h
  · subst h1; simp [fnM, ini, sSeq, sNop, sEx, sRt, sIf, sSet, sPut, putD, sAs, sRaise, sx, st', tB, tAn, tOr', tNt, tAll, eB, eVar, eC, eTup, eLst, eCB, eCl, eBM, eIf, eAnd, eOr, eNot, eCh, eSl, oNo, oSo, aNil, aCons, M.bnd, lft, eIs, eIs2, kindD, kb_NoneType_int, kb_NoneType_bool, kb_NoneType_str, kb_NoneType_list, kb_NoneType_tuple, kb_bool_int, kb_bool_bool, kb_bool_str, kb_bool_list, kb_bool_tuple, kb_int_int, kb_int_bool, kb_int_str, kb_int_list, kb_int_tuple, kb_str_int, kb_str_bool, kb_str_str, kb_str_list, kb_str_tuple, kb_tuple_int, kb_tuple_bool, kb_tuple_str, kb_tuple_list, kb_tuple_tuple, kb_list_int, kb_list_bool, kb_list_str, kb_list_list, kb_list_tuple, kb_dict_int, kb_dict_bool, kb_dict_str, kb_dict_list, kb_dict_tuple, truD, gI, gAdd, gSub, gMul, gMod, gDiv, gPow, gLtI, gLe, gGtI, gGeI, gIx, gLen, gLenX, gAbs, gInt, gMax, gMax2, gMin2, gTuple, gList, seqD, listD, atI, ixN, tyD, gAppend, gPopAt, gInsert, m_is_listed]
  · subst h1; simp [fnM, ini, sSeq, sNop, sEx, sRt, sIf, sSet, sPut, putD, sAs, sRaise, sx, st', tB, tAn, tOr', tNt, tAll, eB, eVar, eC, eTup, eLst, eCB, eCl, eBM, eIf, eAnd, eOr, eNot, eCh, eSl, oNo, oSo, aNil, aCons, M.bnd, lft, eIs, eIs2, kindD, kb_NoneType_int, kb_NoneType_bool, kb_NoneType_str, kb_NoneType_list, kb_NoneType_tuple, kb_bool_int, kb_bool_bool, kb_bool_str, kb_bool_list, kb_bool_tuple, kb_int_int, kb_int_bool, kb_int_str, kb_int_list, kb_int_tuple, kb_str_int, kb_str_bool, kb_str_str, kb_str_list, kb_str_tuple, kb_tuple_int, kb_tuple_bool, kb_tuple_str, kb_tuple_list, kb_tuple_tuple, kb_list_int, kb_list_bool, kb_list_str, kb_list_list, kb_list_tuple, kb_dict_int, kb_dict_bool, kb_dict_str, kb_dict_list, kb_dict_tuple, truD, gI, gAdd, gSub, gMul, gMod, gDiv, gPow, gLtI, gLe, gGtI, gGeI, gIx, gLen, gLenX, gAbs, gInt, gMax, gMax2, gMin2, gTuple, gList, seqD, listD, atI, ixN, tyD, gAppend, gPopAt, gInsert, m_is_listed]
  · subst h1; simp [fnM, ini, sSeq, sNop, sEx, sRt, sIf, sSet, sPut, putD, sAs, sRaise, sx, st', tB, tAn, tOr', tNt, tAll, eB, eVar, eC, eTup, eLst, eCB, eCl, eBM, eIf, eAnd, eOr, eNot, eCh, eSl, oNo, oSo, aNil, aCons, M.bnd, lft, eIs, eIs2, kindD, kb_NoneType_int, kb_NoneType_bool, kb_NoneType_str, kb_NoneType_list, kb_NoneType_tuple, kb_bool_int, kb_bool_bool, kb_bool_str, kb_bool_list, kb_bool_tuple, kb_int_int, kb_int_bool, kb_int_str, kb_int_list, kb_int_tuple, kb_str_int, kb_str_bool, kb_str_str, kb_str_list, kb_str_tuple, kb_tuple_int, kb_tuple_bool, kb_tuple_str, kb_tuple_list, kb_tuple_tuple, kb_list_int, kb_list_bool, kb_list_str, kb_list_list, kb_list_tuple, kb_dict_int, kb_dict_bool, kb_dict_str, kb_dict_list, kb_dict_tuple, truD, gI, gAdd, gSub, gMul, gMod, gDiv, gPow, gLtI, gLe, gGtI, gGeI, gIx, gLen, gLenX, gAbs, gInt, gMax, gMax2, gMin2, gTuple, gList, seqD, listD, atI, ixN, tyD, gAppend, gPopAt, gInsert, m_is_listed, h2]
theorem letter_lt {c : Nat} (h1 : 97 ≤ c) (h2 : c ≤ 122) : gLe (.str "a") (.str ⟨#[c]⟩) S = some (.bl true, S) ∧ gLe (.str ⟨#[c]⟩) (.str "z") S = some (.bl true, S) := by
  have ea : (("a" : Str)).cps.toList = [97] := by decide +kernel
  have ez : (("z" : Str)).cps.toList = [122] := by decide +kernel
  constructor
  · simp only [gLe, ea]
    have : ¬ ([c] < [97]) := by
      intro h
      rcases List.cons_lt_cons_iff.mp h with h | ⟨_, h⟩
      · omega
      · exact absurd h (by simp)
    simp [this]
  · simp only [gLe, ez]
    have : ¬ ([122] < [c]) := by
      intro h
      rcases List.cons_lt_cons_iff.mp h with h | ⟨_, h⟩
      · omega
      · exact absurd h (by simp)
    simp [this]
theorem is_name_ok {x : Str} (h : Nm x) : M_is_name [.str x] S = some (.ok (.bl true) S) := by
  have h1 := h.lo
  have h2 := h.hi
  have hs : x.length ≤ sizeLine := by rw [sizeLine_eq]; show x.cps.size ≤ _; omega
  have hl1 : (1 : Int) ≤ (x.length : Int) := by show (1 : Int) ≤ (x.cps.size : Int); omega
  have hl2 : (x.length : Int) ≤ 8 := by show (x.cps.size : Int) ≤ 8; omega
  have loop := goA_inv (g := tN 1) (k := 2) (fe := eCh gLe gLe (eC (.str "a")) (eVar 1) (eC (.str "z"))) (nxt := fun i _ => some ((x.cps[i]?).map fun c => .str ⟨#[c]⟩)) (n := x.cps.size)
    (fun _ S' => S' = S) (fun i => .str ⟨#[x.cps.getD i 0]⟩) (fun i S' hi e => ?_) (fun S' e => by simp) (x.cps.size + 1) 0 S (Nat.zero_le _) (by omega) rfl
  · obtain ⟨S', e1, rfl⟩ := loop
    simp [fnM, ini, sSeq, sNop, sEx, sRt, sIf, sSet, sPut, putD, sAs, sRaise, sx, st', tB, tAn, tOr', tNt, tAll, eB, eVar, eC, eTup, eLst, eCB, eCl, eBM, eIf, eAnd, eOr, eNot, eCh, eSl, oNo, oSo, aNil, aCons, M.bnd, lft, eIs, eIs2, kindD, kb_NoneType_int, kb_NoneType_bool, kb_NoneType_str, kb_NoneType_list, kb_NoneType_tuple, kb_bool_int, kb_bool_bool, kb_bool_str, kb_bool_list, kb_bool_tuple, kb_int_int, kb_int_bool, kb_int_str, kb_int_list, kb_int_tuple, kb_str_int, kb_str_bool, kb_str_str, kb_str_list, kb_str_tuple, kb_tuple_int, kb_tuple_bool, kb_tuple_str, kb_tuple_list, kb_tuple_tuple, kb_list_int, kb_list_bool, kb_list_str, kb_list_list, kb_list_tuple, kb_dict_int, kb_dict_bool, kb_dict_str, kb_dict_list, kb_dict_tuple, truD, gI, gAdd, gSub, gMul, gMod, gDiv, gPow, gLtI, gLe, gGtI, gGeI, gIx, gLen, gLenX, gAbs, gInt, gMax, gMax2, gMin2, gTuple, gList, seqD, listD, atI, ixN, tyD, gAppend, gPopAt, gInsert, m_is_name, hs, hl1, hl2, eAll, iSeq, wkD, e1]
  · subst e
    refine ⟨by simp [hi, Array.getD], _, S', rfl, ?_, rfl⟩
    have hm : x.cps.getD i 0 ∈ x.cps.toList := by simp [Array.getD, hi]
    obtain ⟨a, b⟩ := letter_lt (S := S') (h.let_ _ hm).1 (h.let_ _ hm).2
    generalize x.cps.getD i 0 = c at a b ⊢
    simp [eCh, eC, eVar, M.bnd, a, b, lft]
theorem is_card_ok {e : D} {c : Card} (h : isCard S e c) (hn : Nm c.1) (hd : 0 ≤ c.2) : M_is_card [e] S = some (.ok (.bl true) S) := by
  have hq := h.seq
  have e1 := is_listed_ok h
  have e2 := is_name_ok (S := S) hn
  have e3 := is_depth_ok (S := S) hd
  have g0 : gLenX [e] S = some (.int 2, S) := by
    rcases h with rfl | rfl | ⟨n, rfl, h⟩
    · rfl
    · rfl
    · simp [gLenX, gLen, seqD, h]
  have g1 : gIx e (.int 0) S = some (.str c.1, S) := by
    rcases h with rfl | rfl | ⟨n, rfl, h⟩
    · rfl
    · rfl
    · simp [gIx, seqD, h, atI, ixN]
  have g2 : gIx e (.int 1) S = some (.int c.2, S) := by
    rcases h with rfl | rfl | ⟨n, rfl, h⟩
    · rfl
    · rfl
    · simp [gIx, seqD, h, atI, ixN]
  have g3 : gEq true (.int 2) (.int 2) S = some (.bl false, S) := by
    have z : SeqAt.shaped (.int 2) = true := by decide +kernel
    have z2 : PyData.eqv (.int 2) (.int 2) = true := by decide +kernel
    simp [gEq, toPy, z, z2]
  simp [fnM, ini, m_is_card, sSeq, sIf, st', tOr', tNt, tB, eCl, aCons, aNil, M.bnd, eVar, e1, eB, eCB, g0, g1, g2, g3, lft, eC, sNop, sRt, sx, eAnd, e2, e3, truD]
theorem seq_deck {d : D} {l : List Card} (h : isDeck S d l) : ∃ (es : List D) (nn : Nat → Sto → Option (Option D)), seqD S d = some es ∧ es.length = l.length ∧ (∀ (i : Nat) (e : D) (c : Card), es[i]? = some e → l[i]? = some c → isCard S e c) ∧ gLenX [d] S = some (.int l.length, S) ∧
    (∀ X, wkD (S ++ X) d = some ⟨es.length, nn⟩) ∧ ∀ X i, nn i (S ++ X) = some es[i]? := by
  obtain ⟨es, h1 | h1 | ⟨n, h1, h2⟩, h3, h4⟩ := h
  · subst h1
    exact ⟨es, fun i _ => some es[i]?, rfl, h3, h4, by rw [← h3]; rfl, fun X => rfl, fun _ _ => rfl⟩
  · subst h1
    exact ⟨es, fun i _ => some es[i]?, rfl, h3, h4, by rw [← h3]; rfl, fun X => rfl, fun _ _ => rfl⟩
  · subst h1
    refine ⟨es, fun i S => (seqD S (.loc n)).map fun es => es[i]?, by simp [seqD, h2], h3, h4, by simp [gLenX, gLen, seqD, h2, h3], fun X => ?_, fun X i => ?_⟩
    · simp [wkD, seqD, pre_get h2]
    · simp [seqD, pre_get h2]
theorem set_last (S : Sto) (o o' : Ob) : List.set (S ++ [o]) (List.length S) o' = S ++ [o'] := by
  induction S with
  | nil => rfl
  | cons a r ih => simpa using ih
theorem set_last2 (S : Sto) (o1 o o' : Ob) : List.set (S ++ [o1] ++ [o]) (List.length S + 1) o' = S ++ [o1] ++ [o'] := by
  have := set_last (S ++ [o1]) o o'
  simpa using this
theorem get_last (S : Sto) (a : Ob) : (S ++ [a] : Sto)[List.length S]? = some a := by
  induction S with
  | nil => rfl
  | cons x r ih => simpa using ih
theorem get_last2 (S : Sto) (a b : Ob) : (S ++ [a] ++ [b] : Sto)[List.length S + 1]? = some b := by
  induction S with
  | nil => rfl
  | cons x r ih => simpa using ih
theorem app2 (S : Sto) (a b : Ob) : (S ++ [a, b] : Sto) = S ++ [a] ++ [b] := by
  induction S with
  | nil => rfl
  | cons x r ih => simpa using ih
theorem getElem_lt {α : Type} [Inhabited α] {l : List α} {i : Nat} (h : i < l.length) : l[i]? = some (l.getD i default) := by
  rw [List.getD_eq_getElem?_getD, List.getElem?_eq_getElem h]; rfl
theorem deck_of_okB {d : D} {l : List Card} (h : isDeck S d l) (ok : DeckOk l) : ∃ X, M_deck_of K [d] S = some (.ok (dK l) (S ++ X)) ∧ ∀ o ∈ X, bdO 0 o = true := by
  obtain ⟨es, nn, hq, hlen, hc, hL, hw, hnx⟩ := seq_deck h
  have hL2 := is_listed_deck h
  have lo := ok.lo
  have hi := ok.hi
  have a1 : (1 : Int) ≤ (l.length : Int) := by omega
  have a2 : (l.length : Int) ≤ 40 := by omega
  have hw0 := hw []
  rw [List.append_nil] at hw0
  have hnx0 := hnx []
  rw [List.append_nil] at hnx0
  -- all are cards
  have L1 := goA_inv (g := tN 1) (k := 5) (fe := eCl M_is_card 1 (aCons (eVar 1) aNil)) (nxt := nn) (n := es.length) (fun _ S' => S' = S) (fun i => es.getD i default)
    (fun i S' hi' e => by
      subst e
      have e1 := getElem_lt hi'
      refine ⟨(hnx0 i).trans (by rw [e1]), _, S', rfl, ?_, rfl⟩
      have hi2 : i < l.length := by omega
      have e2 := List.getElem?_eq_getElem hi2
      have ic := hc i _ _ e1 e2
      have mem := List.getElem_mem hi2
      have := is_card_ok ic (ok.nm _ mem) (ok.dep _ mem)
      generalize es.getD i default = ee at this ⊢
      simp [eCl, aCons, aNil, M.bnd, eVar, this]) (fun S' e => by subst e; rw [hnx0]; simp) (es.length + 1) 0 S (Nat.zero_le _) (by omega) rfl
  obtain ⟨S1, L1, rfl⟩ := L1
  -- the cards
  have L2 := goC_inv (g := tN2 3 4) (t := tAll) (fe := eTup (aCons (eVar 3) (aCons (eVar 4) aNil))) (l := S1.length) (τ0 := [some d, none, none, none, none]) (nxt := nn) (n := es.length)
    (fun i S' => S' = S1 ++ [.lst ((l.take i).map dC)]) (fun i => es.getD i default)
    (fun i S' hi' e => by
      subst e
      have e1 := getElem_lt hi'
      have hi2 : i < l.length := by omega
      have e2 := List.getElem?_eq_getElem hi2
      have ic := hc i _ _ e1 e2
      have mem := List.getElem_mem hi2
      refine ⟨(hnx _ i).trans (by rw [e1]), [some d, none, none, some (.str (l[i]).1), some (.int (l[i]).2)], ?_, .inr ⟨S1 ++ [.lst ((l.take i).map dC)], dC l[i], S1 ++ [.lst ((l.take i).map dC)], (l.take i).map dC, rfl, ?_, ?_, ?_, ?_⟩⟩
      · have iq := (ic.app (X := [.lst ((l.take i).map dC)])).seq
        generalize es.getD i default = ee at iq ⊢
        simp only [tN2, iq]
        rfl
      · have hz : 2 ≤ sizeLine := by rw [sizeLine_eq]; decide
        simp [eTup, aCons, aNil, M.bnd, eVar, hz]
      · simp
      · have hz := sizeLine_eq
        simp only [List.length_map, List.length_take]; omega
      · rw [set_last]
        rw [show (l.take (i + 1)) = l.take i ++ [l[i]] from by rw [List.take_append_getElem hi2], List.map_append]
        rfl) (fun S' e => by subst e; rw [hnx]; simp) (es.length + 1) 0 (S1 ++ [.lst []]) (Nat.zero_le _) (by omega) (by simp)
  obtain ⟨S2, L2, rfl⟩ := L2
  have htk : l.take es.length = l := by rw [hlen]; exact List.take_length
  rw [htk] at L2
  -- unlike names
  have L3 := goK_inv (g := tN 1) (fe := eB gIx (eVar 1) (eC (.int 0))) (l := S1.length + 1) (τ0 := [some d, none, some (dK l), none, none]) (nxt := fun i _ => some (l.map dC)[i]?) (n := l.length)
    (fun i S' => ∃ ms, S' = S1 ++ [.lst (l.map dC)] ++ [.ks ms i] ∧ ∀ k, ms k = true → ∃ c ∈ l.take i, k = .inr c.1) (fun i => (l.map dC).getD i default)
    (fun i S' hi' ⟨ms, e, hM⟩ => by
      subst e
      have e2 := List.getElem?_eq_getElem hi'
      have e3 : (l.map dC).getD i default = dC l[i] := by rw [List.getD_eq_getElem?_getD, List.getElem?_map, e2]; rfl
      rw [e3]
      have nM : ms (.inr l[i].1) = false := by
        cases q : ms (.inr l[i].1) with
        | false => rfl
        | true =>
          obtain ⟨c, hc1, hc2⟩ := hM _ q
          have e4 : c.1 = l[i].1 := (Sum.inr.inj hc2).symm
          obtain ⟨j, hj, ej⟩ := List.getElem_of_mem hc1
          rw [List.length_take] at hj
          rw [List.getElem_take] at ej
          have nd := ok.nd
          have := (List.getElem_inj (xs := l.map (·.1)) (i := j) (j := i) (h₀ := by simp; omega) (h₁ := by simp; omega) nd).mp (by simp [ej, e4])
          omega
      refine ⟨by simp [e2], [some d, some (dC l[i]), some (dK l), none, none], .str l[i].1, S1 ++ [.lst (l.map dC)] ++ [.ks ms i], .inr l[i].1, ms, i, rfl, ?_, rfl, ?_, ?_, ?_⟩
      · simp [eB, eVar, eC, M.bnd, gIx, seqD, atI, ixN, lft]
      · rw [List.getElem?_append_right (by simp)]; simp
      · have : 41 < scanBound := by decide
        omega
      · refine ⟨fun j => ms j || decide (j = .inr l[i].1), ?_, fun k hk => ?_⟩
        · rw [set_last2, nM]
          rfl
        · rw [show (l.take (i + 1)) = l.take i ++ [l[i]] from by rw [List.take_append_getElem hi']]
          rw [Bool.or_eq_true, decide_eq_true_eq] at hk
          rcases hk with hk | hk
          · obtain ⟨c, h1, h2⟩ := hM k hk
            exact ⟨c, List.mem_append_left _ h1, h2⟩
          · exact ⟨l[i], List.mem_append_right _ (by simp), hk⟩) (fun S' _ => by simp) (l.length + 1) 0 (S1 ++ [.lst (l.map dC)] ++ [.ks (fun _ => false) 0]) (Nat.zero_le _) (by omega) ⟨_, rfl, fun k hk => by cases hk⟩
  obtain ⟨S3, L3, ms, rfl, _⟩ := L3
  refine ⟨[.lst (l.map dC), .ks ms l.length], ?_, fun o ho => ?_⟩
  rotate_left
  · rcases List.mem_cons.mp ho with q | q
    · subst q
      have : ∀ l : List Card, bds 0 (l.map dC) = true := fun l => by
        induction l with
        | nil => rfl
        | cons c r ih => simp only [List.map_cons, bds, ih, Bool.and_true]; rfl
      exact this l
    · simp at q; subst q; rfl
  have g1 : gTuple [.loc S1.length] (S1 ++ [.lst (l.map dC)]) = some (dK l, S1 ++ [.lst (l.map dC)]) := by simp [gTuple, seqD]
  have g2 : gLenX [.loc (S1.length + 1)] (S1 ++ [.lst (l.map dC)] ++ [.ks ms l.length]) = some (.int l.length, S1 ++ [.lst (l.map dC)] ++ [.ks ms l.length]) := by
    have : ((l.length : Nat) : Int) < 2 ^ 63 := by omega
    unfold gLenX
    simp only [get_last2]
    rw [if_pos this]
  rw [← app2, ← app2] at L3
  rw [← app2] at g2
  simp only [List.getElem?_map] at L3
  have g3 : ∀ S : Sto, gLenX [dK l] S = some (.int l.length, S) := fun S => by simp [gLenX, gLen, seqD]
  have gl : ∀ S : Sto, gLtI (.int l.length) (.int l.length) S = some (.bl false, S) := fun S => by simp [gLtI, gI]
  have gc1 : ∀ S : Sto, gLe (.int 1) (.int l.length) S = some (.bl true, S) := fun S => by simp [gLe, a1]
  have gc2 : ∀ S : Sto, gLe (.int l.length) (.int 40) S = some (.bl true, S) := fun S => by simp [gLe, a2]
  have w3 : ∀ S : Sto, wkD S (dK l) = some ⟨l.length, fun i _ => some (l.map dC)[i]?⟩ := fun S => by simp [wkD]
  simp [fnM, ini, m_deck_of, sSeq, sIf, st', tOr', tNt, tB, eCl, aCons, aNil, M.bnd, eVar, hL2, eCh, eC, eCB, hL, gc1, gc2, lft, sNop, eAll, iSeq, hw0, L1, sSet, sx, eLc, wipeD, L2, g1, eB, eSc, w3, L3, g2, g3, gl, sRt]
end Sb
end
section
set_option Elab.async false
set_option linter.all false
set_option maxRecDepth 100000
set_option maxHeartbeats 4000000
namespace Sb
open PySem PySem.Spec PyProof.Rows L2
variable {K : PySem.W.Frag} {S : Sto}
def stp : List Card → List Card
  | [] => []
  | c :: r => r.take (min c.2.toNat r.length) ++ c :: r.drop (min c.2.toNat r.length)
theorem stp_perm : ∀ l, (stp l).Perm l
  | [] => .refl _
  | c :: r => by
    unfold stp
    refine List.perm_middle.trans (List.Perm.cons c ?_)
    rw [List.take_append_drop]
theorem stp_ok {l : List Card} (h : DeckOk l) : DeckOk (stp l) := by
  have p := stp_perm l
  refine ⟨by rw [p.length_eq]; exact h.lo, by rw [p.length_eq]; exact h.hi, fun c hc => h.nm c (p.mem_iff.mp hc), fun c hc => h.dep c (p.mem_iff.mp hc), ?_⟩
  exact (p.map (·.1)).nodup_iff.mpr h.nd
def stps : Nat → List Card → List Card
  | 0, l => l
  | n + 1, l => stp (stps n l)
theorem stps_ok {l : List Card} (h : DeckOk l) : ∀ n, DeckOk (stps n l)
  | 0 => h
  | n + 1 => stp_ok (stps_ok h n)
/-- the tops of the first n decks -/
def tops (l : List Card) (n : Nat) : List Str := (List.range n).map fun i => ((stps i l).headD ("", 0)).1
theorem tops_succ (l : List Card) (n : Nat) : tops l (n + 1) = tops l n ++ [((stps n l).headD ("", 0)).1] := by
  unfold tops; rw [List.range_succ, List.map_append]; rfl
theorem DeckOk.cons {l : List Card} (h : DeckOk l) : ∃ c r, l = c :: r ∧ r.length ≤ 39 ∧ 0 ≤ c.2 ∧ Nm c.1 := by
  cases l with
  | nil => exact absurd h.lo (by simp)
  | cons c r => exact ⟨c, r, rfl, by have := h.hi; simp at this; omega, h.dep c (by simp), h.nm c (by simp)⟩
theorem cut_nat {l : List Card} {a b : Nat} : cutD (l.map dC) (some (a : Int)) (some (b : Int)) = ((l.drop (min a l.length)).take (min b l.length - min a l.length)).map dC := by
  unfold cutD
  rw [HT.sIx_nat, HT.sIx_nat, List.length_map, ← List.map_drop, ← List.map_take]
theorem cut_from {l : List Card} {a : Nat} : cutD (l.map dC) (some (a : Int)) none = (l.drop a).map dC := by
  unfold cutD
  rw [HT.sIx_nat, HT.sIx_none, List.length_map, ← List.map_drop, ← List.map_take]
  congr 1
  by_cases h : a ≤ l.length
  · rw [Nat.min_eq_left h, List.take_of_length_le (by simp)]
  · rw [Nat.min_eq_right (by omega), List.drop_of_length_le (by omega), List.drop_of_length_le (by omega)]; simp
theorem cut_to {l : List Card} {b : Nat} : cutD (l.map dC) none (some (b : Int)) = (l.take b).map dC := by
  unfold cutD
  rw [HT.sIx_nat, HT.sIx_none, List.length_map, List.drop_zero, Nat.sub_zero, ← List.map_take]
  congr 1
  by_cases h : b ≤ l.length
  · rw [Nat.min_eq_left h]
  · rw [Nat.min_eq_right (by omega), List.take_of_length_le (by omega), List.take_of_length_le (by omega)]
theorem reach_ok {c : Card} {n : Int} : M_reach_of [dC c, .int n] S = some (.ok (.int (if n - 1 < c.2 then n - 1 else c.2)) S) := by
  simp [fnM, ini, sSeq, sNop, sEx, sRt, sIf, sSet, sPut, putD, sAs, sRaise, sx, st', tB, tAn, tOr', tNt, tAll, eB, eVar, eC, eTup, eLst, eCB, eCl, eBM, eIf, eAnd, eOr, eNot, eCh, eSl, oNo, oSo, aNil, aCons, M.bnd, lft, eIs, eIs2, kindD, kb_NoneType_int, kb_NoneType_bool, kb_NoneType_str, kb_NoneType_list, kb_NoneType_tuple, kb_bool_int, kb_bool_bool, kb_bool_str, kb_bool_list, kb_bool_tuple, kb_int_int, kb_int_bool, kb_int_str, kb_int_list, kb_int_tuple, kb_str_int, kb_str_bool, kb_str_str, kb_str_list, kb_str_tuple, kb_tuple_int, kb_tuple_bool, kb_tuple_str, kb_tuple_list, kb_tuple_tuple, kb_list_int, kb_list_bool, kb_list_str, kb_list_list, kb_list_tuple, kb_dict_int, kb_dict_bool, kb_dict_str, kb_dict_list, kb_dict_tuple, truD, gI, gAdd, gSub, gMul, gMod, gDiv, gPow, gLtI, gLe, gGtI, gGeI, gIx, gLen, gLenX, gAbs, gInt, gMax, gMax2, gMin2, gTuple, gList, seqD, listD, atI, ixN, tyD, gAppend, gPopAt, gInsert, m_reach_of]
theorem len_deck {l : List Card} : gLenX [dK l] S = some (.int l.length, S) := by simp [gLenX, gLen, seqD]
theorem tup_add {l m : List Card} (h : l.length + m.length ≤ 100) : gAdd (dK l) (dK m) S = some (dK (l ++ m), S) := by
  have : l.length + m.length ≤ sizeLine := by rw [sizeLine_eq]; omega
  simp [gAdd, this]
theorem sl_deck {l : List Card} {lo hi : Option Int} {m : List Card} (h : cutD (l.map dC) lo hi = m.map dC) : gSl (dK l) lo hi S = some (dK m, S) := by
  simp only [gSl, h]
theorem rch_eq {c : Card} {r : List Card} (h : 0 ≤ c.2) : (if ((r.length + 1 : Nat) : Int) - 1 < c.2 then ((r.length + 1 : Nat) : Int) - 1 else c.2) = ((min c.2.toNat r.length : Nat) : Int) := by
  split <;> omega
theorem step_ok {l : List Card} (h : DeckOk l) : M_step_of [dK l] S = some (.ok (dK (stp l)) S) := by
  obtain ⟨c, r, rfl, h1, h2, _⟩ := h.cons
  have e0 : gIx (dK (c :: r)) (.int 0) S = some (dC c, S) := by simp [gIx, seqD, atI, ixN]
  have e1 := reach_ok (S := S) (c := c) (n := ((r.length + 1 : Nat) : Int))
  rw [rch_eq h2] at e1
  have eL := len_deck (S := S) (l := c :: r)
  rw [List.length_cons] at eL
  generalize hk : min c.2.toNat r.length = k at e1
  have hkl : k ≤ r.length := by omega
  have a1 : gAdd (.int (k : Int)) (.int 1) S = some (.int ((k + 1 : Nat) : Int), S) := by simp [gAdd]
  have s1 : gSl (dK (c :: r)) (some 1) (some ((k + 1 : Nat) : Int)) S = some (dK (r.take k), S) := sl_deck (by
    have := cut_nat (l := c :: r) (a := 1) (b := k + 1)
    rw [show ((1 : Nat) : Int) = 1 from rfl] at this
    rw [this, List.length_cons, Nat.min_eq_left (by omega : 1 ≤ r.length + 1), Nat.min_eq_left (by omega : k + 1 ≤ r.length + 1)]
    simp)
  have s2 : gSl (dK (c :: r)) none (some 1) S = some (dK [c], S) := sl_deck (by
    have := cut_to (l := c :: r) (b := 1)
    rw [show ((1 : Nat) : Int) = 1 from rfl] at this
    rw [this]; simp)
  have s3 : gSl (dK (c :: r)) (some ((k + 1 : Nat) : Int)) none S = some (dK (r.drop k), S) := sl_deck (by rw [cut_from]; simp)
  have t1 : gAdd (dK (r.take k)) (dK [c]) S = some (dK (r.take k ++ [c]), S) := tup_add (by simp; omega)
  have t2 : gAdd (dK (r.take k ++ [c])) (dK (r.drop k)) S = some (dK (r.take k ++ [c] ++ r.drop k), S) := tup_add (by simp; omega)
  have e9 : stp (c :: r) = r.take k ++ [c] ++ r.drop k := by simp only [stp, hk, List.append_assoc, List.singleton_append]
  rw [e9]
  generalize dK (c :: r) = d at *
  generalize dC c = cc at *
  generalize dK (r.take k) = d1 at *
  generalize dK [c] = d2 at *
  generalize dK (r.drop k) = d3 at *
  generalize dK (r.take k ++ [c]) = d4 at *
  generalize dK (r.take k ++ [c] ++ r.drop k) = d5 at *
  generalize ((k + 1 : Nat) : Int) = kk at *
  generalize ((r.length + 1 : Nat) : Int) = nn at *
  refine fnM_rt ?_
  simp [ini, m_step_of, sSeq, sSet, sx, eCl, aCons, aNil, eB, eVar, eC, M.bnd, lft, e0, e1, eL, eCB, sRt, eSl, oSo, oNo, a1, s1, s2, s3, t1, t2]
end Sb
end
section
set_option Elab.async false
set_option linter.all false
set_option maxRecDepth 100000
set_option maxHeartbeats 4000000
namespace Sb
open PySem PySem.Spec PyProof.Rows L2
variable {K : PySem.W.Frag} {S : Sto}
theorem is_number_ok {i m : Int} (h0 : 0 ≤ i) (h1 : i ≤ m) : M_is_number [.int i, .int m] S = some (.ok (.bl true) S) := by
  simp [fnM, ini, sSeq, sNop, sEx, sRt, sIf, sSet, sPut, putD, sAs, sRaise, sx, st', tB, tAn, tOr', tNt, tAll, eB, eVar, eC, eTup, eLst, eCB, eCl, eBM, eIf, eAnd, eOr, eNot, eCh, eSl, oNo, oSo, aNil, aCons, M.bnd, lft, eIs, eIs2, kindD, kb_NoneType_int, kb_NoneType_bool, kb_NoneType_str, kb_NoneType_list, kb_NoneType_tuple, kb_bool_int, kb_bool_bool, kb_bool_str, kb_bool_list, kb_bool_tuple, kb_int_int, kb_int_bool, kb_int_str, kb_int_list, kb_int_tuple, kb_str_int, kb_str_bool, kb_str_str, kb_str_list, kb_str_tuple, kb_tuple_int, kb_tuple_bool, kb_tuple_str, kb_tuple_list, kb_tuple_tuple, kb_list_int, kb_list_bool, kb_list_str, kb_list_list, kb_list_tuple, kb_dict_int, kb_dict_bool, kb_dict_str, kb_dict_list, kb_dict_tuple, truD, gI, gAdd, gSub, gMul, gMod, gDiv, gPow, gLtI, gLe, gGtI, gGeI, gIx, gLen, gLenX, gAbs, gInt, gMax, gMax2, gMin2, gTuple, gList, seqD, listD, atI, ixN, tyD, gAppend, gPopAt, gInsert, m_is_number, m_is_whole, h0, h1]
theorem require_ok {i m : Int} (h0 : 0 ≤ i) (h1 : i ≤ m) : M_require_number K [.int i, .int m] S = some (.ok .non S) := by
  have e := is_number_ok (S := S) h0 h1
  refine fnM_nx (τ := [some (.int i), some (.int m)]) ?_
  simp [ini, sSeq, sNop, sEx, sRt, sIf, sSet, sPut, putD, sAs, sRaise, sx, st', tB, tAn, tOr', tNt, tAll, eB, eVar, eC, eTup, eLst, eCB, eCl, eBM, eIf, eAnd, eOr, eNot, eCh, eSl, oNo, oSo, aNil, aCons, M.bnd, lft, eIs, eIs2, kindD, kb_NoneType_int, kb_NoneType_bool, kb_NoneType_str, kb_NoneType_list, kb_NoneType_tuple, kb_bool_int, kb_bool_bool, kb_bool_str, kb_bool_list, kb_bool_tuple, kb_int_int, kb_int_bool, kb_int_str, kb_int_list, kb_int_tuple, kb_str_int, kb_str_bool, kb_str_str, kb_str_list, kb_str_tuple, kb_tuple_int, kb_tuple_bool, kb_tuple_str, kb_tuple_list, kb_tuple_tuple, kb_list_int, kb_list_bool, kb_list_str, kb_list_list, kb_list_tuple, kb_dict_int, kb_dict_bool, kb_dict_str, kb_dict_list, kb_dict_tuple, truD, gI, gAdd, gSub, gMul, gMod, gDiv, gPow, gLtI, gLe, gGtI, gGeI, gIx, gLen, gLenX, gAbs, gInt, gMax, gMax2, gMin2, gTuple, gList, seqD, listD, atI, ixN, tyD, gAppend, gPopAt, gInsert, m_require_number, e]
theorem rg_nxt {n i : Nat} {S : Sto} (h : i < n) : (wkR 0 n).nxt i S = some (some (.int (i : Nat))) := by
  simp only [wkR, if_pos h, Int.zero_add]
theorem rg_end {n : Nat} {S : Sto} : (wkR 0 n).nxt n S = some none := by simp [wkR]
theorem row_seen_okB {d : D} {l : List Card} {n : Nat} (h : isDeck S d l) (ok : DeckOk l) (hn : n ≤ 2000) : ∃ k X, M_row_seen K [d, .int n] S = some (.ok (.loc k) (S ++ X)) ∧ (S ++ X)[k]? = some (.lst ((tops l n).map D.str)) ∧ S.length ≤ k ∧ ∀ o ∈ X, bdO 0 o = true := by
  obtain ⟨X, e, bX⟩ := deck_of_okB (K := K) h ok
  have e2 := require_ok (K := K) (S := S ++ X) (i := n) (m := 2000) (by omega) (by omega)
  have hz : ∀ i, i < n → i < sizeLine := fun i hi => by rw [sizeLine_eq]; omega
  obtain ⟨τ', S', L, rfl, x, rfl⟩ := goF_inv (g := tN 4) (fb := sSeq (sEx (eBM "list" gAppend (eVar 3) (aCons (eB gIx (eB gIx (eVar 2) (eC (.int 0))) (eC (.int 0))) (aNil)))) (sSet 2 (eCl (M_step_of) 1 (aCons (eVar 2) (aNil))))) (nxt := (wkR 0 n).nxt) (n := n)
    (fun i τ S' => S' = S ++ X ++ [.lst ((tops l i).map D.str)] ∧ ∃ x, τ = [some d, some (.int n), some (dK (stps i l)), some (.loc (S ++ X).length), x]) (fun i => .int (i : Nat))
    (fun i τ S' hi ⟨e1, x, e2⟩ => by
      subst e1 e2
      obtain ⟨c, r, ec, _, _, _⟩ := (stps_ok ok i).cons
      refine ⟨rg_nxt hi, _, _, _, rfl, (sSeq_nx (S1 := S ++ X ++ [.lst ((tops l (i + 1)).map D.str)]) (sEx_ok (eBM_ok (d := .non) rfl ?_ (a1_ok (eB_ok (eB_ok rfl rfl (x := dK (stps i l)) (d := dC c) (S3 := S ++ X ++ [.lst ((tops l i).map D.str)]) ?_) rfl (d := .str c.1) (S3 := S ++ X ++ [.lst ((tops l i).map D.str)]) ?_)) ?_))).trans (sSet_ok (eCl_ok (a1_ok rfl) rfl (step_ok (stps_ok ok i)))), rfl, _, rfl⟩
      · simp [tyD]
      · rw [ec]; simp [gIx, seqD, atI, ixN]
      · simp [gIx, seqD, atI, ixN]
      · have e3 : tops l (i + 1) = tops l i ++ [c.1] := by rw [tops_succ, ec]; rfl
        have hz' : (tops l i).length < sizeLine := by unfold tops; simp; exact hz i hi
        rw [e3]
        have e4 := set_last (S ++ X) (.lst ((tops l i).map D.str)) (.lst ((tops l i).map D.str ++ [.str c.1]))
        simp only [gAppend, listD]
        have e5 : (S ++ X ++ [.lst ((tops l i).map D.str)] : Sto)[(S ++ X).length]? = some (.lst ((tops l i).map D.str)) := by simp
        simp only [e5, Option.bind_some, List.length_map, if_pos hz', e4, List.map_append, List.map_cons, List.map_nil]) (fun τ S' _ => rg_end) (n + 1) 0 [some d, some (.int n), some (dK l), some (.loc (S ++ X).length), none] (S ++ X ++ [.lst []]) (Nat.zero_le _) (by omega) ⟨rfl, none, rfl⟩
  have bn : ∀ l : List Str, bds 0 (l.map D.str) = true := fun l => by
    induction l with
    | nil => rfl
    | cons c r ih => simp only [List.map_cons, bds, ih, Bool.and_true]; rfl
  refine ⟨(S ++ X).length, X ++ [.lst ((tops l n).map D.str)], ?_, by simp, by simp, fun o ho => (List.mem_append.mp ho).elim (bX o) fun q => by simp at q; subst q; exact bn _⟩
  refine fnM_rt ?_
  refine (sSeq_nx (sSet_ok (eCl_ok (a1_ok rfl) rfl e))).trans ?_
  refine (sSeq_nx (sEx_ok (eCl_ok (a2_ok rfl rfl) rfl e2))).trans ?_
  refine (sSeq_nx (sSet_ok (eLst_ok aNil_ok (by simp)))).trans ?_
  rw [← List.append_assoc]
  exact (sSeq_nx (sFor_ok (iRg1_ok (a1_ok rfl) (by omega)) L)).trans (sRt_ok rfl)
theorem row_seen_ok {d : D} {l : List Card} {n : Nat} (h : isDeck S d l) (ok : DeckOk l) (hn : n ≤ 2000) : ∃ k X, M_row_seen K [d, .int n] S = some (.ok (.loc k) (S ++ X)) ∧ (S ++ X)[k]? = some (.lst ((tops l n).map D.str)) ∧ S.length ≤ k := by
  obtain ⟨k, X, a, b, c, _⟩ := row_seen_okB (K := K) h ok hn
  exact ⟨k, X, a, b, c⟩
end Sb
end
section
set_option Elab.async false
set_option linter.all false
set_option maxRecDepth 100000
set_option maxHeartbeats 4000000
namespace Sb
open PySem PySem.Spec PyProof.Rows L2
variable {K : PySem.W.Frag} {S : Sto}
end Sb
end
section
set_option Elab.async false
set_option linter.all false
set_option maxRecDepth 100000
set_option maxHeartbeats 4000000
namespace Sb
open PySem PySem.Spec PyProof.Rows L2
variable {K : PySem.W.Frag} {S : Sto}
theorem eLc_ok {fi : IF} {g : TF} {t : BF} {fe : EF} {vs : List Nat} {τ : Sl} {S S1 S2 : Sto} {wk : Wk} (h : fi τ S = some (.ok wk S1)) (h2 : goC wk.nxt g t fe S1.length (wipeD τ vs) (wk.bound + 1) 0 (S1 ++ [.lst []]) = some S2) : eLc fi g t fe vs τ S = some (.ok (.loc S1.length) S2) := by
  simp only [eLc, h, h2, Option.bind_some]
/-! ### letters, words -/
def nmB (x : Str) : Bool := decide (1 ≤ x.cps.size) && decide (x.cps.size ≤ 8) && x.cps.toList.all fun c => decide (97 ≤ c) && decide (c ≤ 122)
theorem nm_of {x : Str} (h : nmB x = true) : Nm x := by
  simp only [nmB, Bool.and_eq_true, decide_eq_true_eq, List.all_eq_true] at h
  exact ⟨h.1.1, h.1.2, h.2⟩
structure Lts (x : Str) : Prop where
  lo : 1 ≤ x.cps.size
  hi : x.cps.size ≤ 26
  let_ : ∀ c ∈ x.cps.toList, 97 ≤ c ∧ c ≤ 122
theorem lts_ab : Lts "ab" := ⟨by decide +kernel, by decide +kernel, by decide +kernel⟩
theorem lts_all : Lts "abcdefghijklmnopqrstuvwxyz" := ⟨by decide +kernel, by decide +kernel, by decide +kernel⟩
abbrev one (c : Nat) : Str := ⟨#[c]⟩
theorem join_ones : ∀ cs : List Nat, Str.join ("" : Str) (cs.map one) = ⟨cs.toArray⟩
  | [] => rfl
  | [c] => rfl
  | c :: c2 :: r => by
    have ih := join_ones (c2 :: r)
    have e0 : ("" : Str) = ⟨#[]⟩ := by decide +kernel
    show one c ++ ("" : Str) ++ Str.join ("" : Str) ((c2 :: r).map one) = _
    rw [ih, e0]
    show (⟨(#[c] ++ #[]) ++ (c2 :: r).toArray⟩ : Str) = _
    simp
theorem strs_ones : ∀ cs : List Nat, strsD (cs.map fun c => D.str (one c)) = some (cs.map one)
  | [] => rfl
  | c :: r => by
    show (strsD (r.map fun c => D.str (one c))).map (one c :: ·) = _
    rw [strs_ones r]; rfl
theorem sum_ones : ∀ cs : List Nat, ((cs.map one).map (·.length)).sum = cs.length
  | [] => rfl
  | c :: r => by
    simp only [List.map_cons, List.sum_cons, sum_ones r, List.length_cons]
    show 1 + _ = _
    omega
theorem ix_lts {x : Str} (h : Lts x) {v : Int} (h0 : 0 ≤ v) (h1 : v < x.cps.size) : ∃ c, gIx (.str x) (.int v) S = some (.str (one c), S) ∧ 97 ≤ c ∧ c ≤ 122 := by
  have hv : v.toNat < x.cps.toList.length := by simp; omega
  refine ⟨x.cps.toList[v.toNat], ?_, h.let_ _ (List.getElem_mem hv)⟩
  have hz : x.length ≤ sizeLine := by
    have := h.hi
    rw [sizeLine_eq]; show x.cps.size ≤ _; omega
  have e : atI x.cps.toList v = some x.cps.toList[v.toNat] := by
    have h1' : v < (x.cps.toList.length : Int) := by simpa using h1
    simp only [atI, ixN, if_pos h0, if_pos h1', Option.bind_some]
    exact List.getElem?_eq_getElem hv
  simp only [gIx, if_pos hz, e, Option.bind_some]
theorem len_lts {x : Str} (h : Lts x) : gLenX [.str x] S = some (.int x.cps.size, S) := by
  have hz : x.length ≤ sizeLine := by
    have := h.hi
    rw [sizeLine_eq]; show x.cps.size ≤ _; omega
  show gLen [.str x] S = _
  simp only [gLen, if_pos hz]
  rfl
/-- the state that a list is being filled in at l, draws of the spring at n -/
structure Fil (n k : Nat) (S1 S' : Sto) (l : Nat) (acc : List D) : Prop where
  fr : Fr n S1 S'
  sp : Spr n k S'
  at_ : S'[l]? = some (.lst acc)
theorem Fil.put {n k l : Nat} {S1 S2 S' : Sto} {acc : List D} {d : D} (f : Fil n k S1 S2 l acc) (hl : S1.length ≤ l) (hn : n ≠ l) : Fil n k S1 (S2.set l (.lst (acc ++ [d]))) l (acc ++ [d]) := by
  obtain ⟨fr, sp, a⟩ := f
  have hl2 := (List.getElem?_eq_some_iff.mp a).1
  refine ⟨⟨by simpa using fr.le, fun i h1 h2 => ?_⟩, ?_, List.getElem?_set_self hl2⟩
  · rw [List.getElem?_set_ne (by omega)]; exact fr.at_ i h1 h2
  · obtain ⟨x, y, z, e, r⟩ := sp
    exact ⟨x, y, z, by rw [List.getElem?_set_ne (Ne.symm hn)]; exact e, r⟩
theorem Spr.fr {n k : Nat} {S S' : Sto} (h : Spr n k S) (e : S'[n]? = S[n]?) : Spr n k S' := by
  obtain ⟨a, b, c, q, r⟩ := h
  exact ⟨a, b, c, e.trans q, r⟩
abbrev fLetter : EF := eB gIx (eVar 5) (eCl (M_law_draw) 2 (aCons (eVar 0) (aCons (eCB gLenX (aCons (eVar 5) (aNil))) (aNil))))
theorem word_ok {n k : Nat} {x : Str} {x1 x2 x3 x4 x6 x7 x8 : Option D} (hx : Lts x) (h : Spr n k S) (hk : k < 2 ^ 40) :
    ∃ w S', eBM "str" gJoin (eC (.str "")) (aCons (eLc (iRg1 (aCons (eB gAdd (eC (.int 1)) (eCl (M_law_draw) 2 (aCons (eVar 0) (aCons (eC (.int 8)) (aNil))))) (aNil))) (tN 7) (tAll) fLetter [7]) (aNil)) [some (.loc n), x1, x2, x3, x4, some (.str x), x6, x7, x8] S = some (.ok (.str w) S') ∧ Nm w ∧ Spr n (k + 9) S' ∧ Fr n S S' := by
  obtain ⟨v, S1, e1, v0, v1, sp1, fr1, len1⟩ := draw_ok (m := 8) h (by omega) (by decide) (by decide)
  obtain ⟨m, rfl⟩ := Int.eq_ofNat_of_zero_le v0
  have hm : m < 8 := by omega
  have hn1 : n < S1.length := sp1.lt
  have hz := sizeLine_eq
  obtain ⟨S2, L, cs, lcs, gcs, fl⟩ := goC_inv (nxt := (wkR 0 (1 + m)).nxt) (g := tN 7) (t := tAll) (fe := fLetter) (l := S1.length) (τ0 := [some (.loc n), x1, x2, x3, x4, some (.str x), x6, none, x8]) (n := 1 + m)
    (fun i S' => ∃ cs : List Nat, cs.length = i ∧ (∀ c ∈ cs, 97 ≤ c ∧ c ≤ 122) ∧ Fil n (k + 1 + i) S1 S' S1.length (cs.map fun c => D.str (one c))) (fun i => .int (i : Nat))
    (fun i S' hi ⟨cs, lcs, gcs, fl⟩ => by
      have hd := draw_ok (S := S') (m := x.cps.size) fl.sp (by omega) (by have := hx.lo; omega) (by have := hx.hi; omega)
      obtain ⟨u, S3, e3, u0, u1, sp3, fr3, len3⟩ := hd
      obtain ⟨c, e4, gc⟩ := ix_lts (S := S3) hx u0 u1
      have f3 : Fil n (k + 1 + (i + 1)) S1 S3 S1.length (cs.map fun c => D.str (one c)) := ⟨fl.fr.trans fr3, sp3, fr3.get fl.at_ (by omega)⟩
      refine ⟨rg_nxt hi, _, rfl, .inr ⟨S', .str (one c), S3, cs.map (fun c => D.str (one c)), rfl, eB_ok rfl (eCl_ok (a2_ok rfl (eCB_ok (a1_ok rfl) (len_lts hx))) rfl e3) e4, f3.at_, by simp; omega, cs ++ [c], by simp [lcs], ?_, ?_⟩⟩
      · intro c' hc'
        rcases List.mem_append.mp hc' with q | q
        · exact gcs c' q
        · simp at q; subst q; exact gc
      · have := f3.put (S' := S3) (d := .str (one c)) (Nat.le_refl _) (by omega)
        simpa using this) (fun S' _ => rg_end) (1 + m + 1) 0 (S1 ++ [.lst []]) (Nat.zero_le _) (by omega) ⟨[], rfl, (fun c hc => by cases hc), Fr.app, sp1.app, get_last _ _⟩
  have hw : Nm ⟨cs.toArray⟩ := ⟨by simp; omega, by simp; omega, fun c hc => gcs c (by simpa using hc)⟩
  refine ⟨⟨cs.toArray⟩, S2, eBM_ok rfl rfl (a1_ok (eLc_ok (wk := wkR 0 (1 + m)) (S1 := S1) (iRg1_ok (a1_ok (eB_ok rfl (eCl_ok (a2_ok rfl rfl) rfl e1) ?_)) (by omega)) L)) ?_, hw, fl.sp.mono (by omega), fr1.trans fl.fr⟩
  · simp [gAdd]
  · have e5 : seqD S2 (.loc S1.length) = some (cs.map fun c => D.str (one c)) := by simp [seqD, fl.at_]
    have e6 := strs_ones cs
    have e7 : ((cs.map one).map (·.length)).sum + (cs.map one).length * ("" : Str).length ≤ 16777216 := by
      have e8 : ("" : Str).length = 0 := by decide +kernel
      rw [sum_ones, e8]; omega
    simp only [gJoin, e5, Option.bind_some, e6, if_pos e7]
    have e9 : Txt.join ("" : Str) (cs.map one) = ⟨cs.toArray⟩ := by
      unfold Txt.join
      rw [StrLaws.glued_eq_join]; exact join_ones cs
    rw [e9]
end Sb
end
section
set_option Elab.async false
set_option linter.all false
set_option maxRecDepth 100000
set_option maxHeartbeats 4000000
namespace Sb
open PySem PySem.Spec PyProof.Rows L2
variable {K : PySem.W.Frag} {S : Sto}
/-! ### the spare names -/
def abc1 : List Nat := [97, 98, 99, 100, 101, 102, 103, 104, 105, 106]
def abc2 : List Nat := [118, 119, 120, 121, 122]
def spN (k : Nat) : Str := ("q" : Str) ++ one (abc1.getD (k / 5) 0) ++ one (abc2.getD (k % 5) 0)
def spare : List Str := (List.range 50).map spN
theorem spare_nm : ∀ x ∈ spare, Nm x := by
  have : (spare.all nmB) = true := by decide +kernel
  intro x hx
  exact nm_of (List.all_eq_true.mp this x hx)
theorem spare_nd : spare.Nodup := by decide +kernel
abbrev fSpare : EF := eB gAdd (eB gAdd (eC (.str "q")) (eB gIx (eC (.str "abcdefghij")) (eB gDiv (eVar 3) (eC (.int 5))))) (eB gIx (eC (.str "vwxyz")) (eB gMod (eVar 3) (eC (.int 5))))
theorem sp_el {x0 x1 x2 : Option D} {xs : List (Option D)} {k : Nat} (hk : k < 50) : fSpare (x0 :: x1 :: x2 :: some (.int (k : Nat)) :: xs) S = some (.ok (.str (spN k)) S) := by
  have hz := sizeLine_eq
  have q1 : ("abcdefghij" : Str).cps.toList = abc1 := by decide +kernel
  have q2 : ("vwxyz" : Str).cps.toList = abc2 := by decide +kernel
  have z1 : ("abcdefghij" : Str).length ≤ sizeLine := by rw [hz]; decide +kernel
  have z2 : ("vwxyz" : Str).length ≤ sizeLine := by rw [hz]; decide +kernel
  have zq : ("q" : Str).length = 1 := by decide +kernel
  have l5 : (5 : Int).natAbs.log2 < 9000 := by decide +kernel
  have a1 : atI abc1 ((k : Int) / 5) = some (abc1.getD (k / 5) 0) := by
    have h1 : (0 : Int) ≤ (k : Int) / 5 := by omega
    have h2 : (k : Int) / 5 < (abc1.length : Int) := by show _ < (10 : Int); omega
    have h3 : ((k : Int) / 5).toNat = k / 5 := by omega
    have h4 : k / 5 < abc1.length := by show _ < 10; omega
    simp only [atI, ixN, if_pos h1, if_pos h2, Option.bind_some, h3, List.getD_eq_getElem?_getD, List.getElem?_eq_getElem h4, Option.getD_some]
  have a2 : atI abc2 ((k : Int) % 5) = some (abc2.getD (k % 5) 0) := by
    have h1 : (0 : Int) ≤ (k : Int) % 5 := by omega
    have h2 : (k : Int) % 5 < (abc2.length : Int) := by show _ < (5 : Int); omega
    have h3 : ((k : Int) % 5).toNat = k % 5 := by omega
    have h4 : k % 5 < abc2.length := by show _ < 5; omega
    simp only [atI, ixN, if_pos h1, if_pos h2, Option.bind_some, h3, List.getD_eq_getElem?_getD, List.getElem?_eq_getElem h4, Option.getD_some]
  have h5 : (0 : Int) < 5 ∧ (5 : Int).natAbs.log2 < 9000 := ⟨by decide, l5⟩
  have h6 : (0 : Int) < 5 := by decide
  refine eB_ok (eB_ok rfl (eB_ok rfl (eB_ok (d := .int ((k : Int) / 5)) (S3 := S) rfl rfl ?_) (d := .str (one (abc1.getD (k / 5) 0))) (S3 := S) ?_) (d := .str (("q" : Str) ++ one (abc1.getD (k / 5) 0))) (S3 := S) ?_) (eB_ok rfl (eB_ok (d := .int ((k : Int) % 5)) (S3 := S) rfl rfl ?_) (d := .str (one (abc2.getD (k % 5) 0))) (S3 := S) ?_) ?_
  · simp only [gDiv, gI, decide_eq_true h5, if_true]
  · simp only [gIx, if_pos z1, q1, a1, Option.bind_some]
  · have : ("q" : Str).length + (one (abc1.getD (k / 5) 0)).length ≤ sizeLine := by rw [zq, hz]; show (1 + 1 : Nat) ≤ 16777216; decide
    simp only [gAdd, if_pos this]
  · simp only [gMod, gI, decide_eq_true h6, if_true]
  · simp only [gIx, if_pos z2, q2, a2, Option.bind_some]
  · have : (("q" : Str) ++ one (abc1.getD (k / 5) 0)).length + (one (abc2.getD (k % 5) 0)).length ≤ sizeLine := by
      rw [Str.length_append, zq, hz]; show (1 + 1 + 1 : Nat) ≤ 16777216; decide
    simp only [gAdd, if_pos this]
    rfl
theorem spare_ok {τ : Sl} {x0 x1 x2 x3 : Option D} {xs : List (Option D)} (hτ : τ = x0 :: x1 :: x2 :: x3 :: xs) : eLc (iRg1 (aCons (eC (.int 50)) (aNil))) (tN 3) (tAll) fSpare [3] τ S = some (.ok (.loc S.length) (S ++ [.lst (spare.map D.str)])) := by
  subst hτ
  have hz := sizeLine_eq
  obtain ⟨S', L, rfl⟩ := goC_inv (nxt := (wkR 0 50).nxt) (g := tN 3) (t := tAll) (fe := fSpare) (l := S.length) (τ0 := x0 :: x1 :: x2 :: none :: xs) (n := 50)
    (fun i S' => S' = S ++ [.lst (((List.range i).map spN).map D.str)]) (fun i => .int (i : Nat))
    (fun i S' hi e => by
      subst e
      refine ⟨rg_nxt hi, _, rfl, .inr ⟨_, .str (spN i), _, ((List.range i).map spN).map D.str, rfl, sp_el hi, get_last _ _, by simp; omega, ?_⟩⟩
      rw [set_last, List.range_succ, List.map_append, List.map_append]
      rfl) (fun S' _ => rg_end) 51 0 (S ++ [.lst []]) (by omega) (by omega) rfl
  exact eLc_ok (iRg1_ok (n := 50) (a1_ok rfl) (by omega)) L
/-! ### a name that is not there yet -/
theorem nodup_le {α : Type} [DecidableEq α] : ∀ {l m : List α}, l.Nodup → (∀ x ∈ l, x ∈ m) → l.length ≤ m.length
  | [], _, _, _ => Nat.zero_le _
  | x :: l, m, nd, h => by
    obtain ⟨h1, h2⟩ := List.nodup_cons.mp nd
    have hx := h x List.mem_cons_self
    have ih := nodup_le (l := l) (m := m.erase x) h2 fun y hy => (List.mem_erase_of_ne (fun e => h1 (by rw [← e]; exact hy))).mpr (h y (List.mem_cons_of_mem _ hy))
    rw [List.length_erase_of_mem hx] at ih
    have := List.length_pos_of_mem hx
    rw [List.length_cons]; omega
theorem first_new {w : Str} {xs : List Str} (hw : Nm w) (hx : xs.length < 50) : ∃ y r, ((w :: spare).filter fun z => !decide (z ∈ xs)) = y :: r ∧ y ∉ xs ∧ Nm y := by
  have hne : ((w :: spare).filter fun z => !decide (z ∈ xs)) ≠ [] := by
    intro e
    have hall : ∀ z ∈ spare, z ∈ xs := fun z hz => by
      have := List.filter_eq_nil_iff.mp e z (List.mem_cons_of_mem _ hz)
      simpa using this
    have h1 : spare.length ≤ xs.length := nodup_le spare_nd hall
    have h2 : spare.length = 50 := by decide +kernel
    omega
  cases q : ((w :: spare).filter fun z => !decide (z ∈ xs)) with
  | nil => exact absurd q hne
  | cons y r =>
    have hm : y ∈ ((w :: spare).filter fun z => !decide (z ∈ xs)) := by rw [q]; exact List.mem_cons_self
    obtain ⟨h1, h2⟩ := List.mem_filter.mp hm
    refine ⟨y, r, rfl, by simpa using h2, ?_⟩
    rcases List.mem_cons.mp h1 with rfl | h1
    · exact hw
    · exact spare_nm y h1
theorem new_ok {f p : Nat} {xs : List Str} {w : Str} {x0 x1 x3 x5 x7 x8 : Option D} (hf : S[f]? = some (.lst (xs.map D.str))) (hp : S[p]? = some (.lst (spare.map D.str))) (hxs : ∀ x ∈ xs, Nm x) (hw : Nm w) (hx : xs.length < 50) :
    ∃ y X, eB gIx (eLc (iSeq (eB gAdd (eLst (aCons (eVar 6) (aNil))) (eVar 2))) (tN 8) (tB (eB (gIn true) (eVar 8) (eVar 4))) (eVar 8) [8]) (eC (.int 0)) [x0, x1, some (.loc p), x3, some (.loc f), x5, some (.str w), x7, x8] S = some (.ok (.str y) (S ++ X)) ∧ y ∉ xs ∧ Nm y := by
  obtain ⟨y, r, e, hy, hny⟩ := first_new hw hx
  have hz := sizeLine_eq
  have hsl : spare.length = 50 := by decide +kernel
  let l : List Str := w :: spare
  have hnm : ∀ z ∈ l, Nm z := fun z hzz => by
    rcases List.mem_cons.mp hzz with rfl | q
    · exact hw
    · exact spare_nm z q
  have hll : l.length = 51 := by show spare.length + 1 = 51; omega
  let S1 : Sto := S ++ [.lst [.str w]] ++ [.lst (l.map D.str)]
  have eA : gAdd (.loc S.length) (.loc p) (S ++ [.lst [.str w]]) = some (.loc (S ++ [.lst [.str w]] : Sto).length, S1) := by
    have e1 : (S ++ [.lst [.str w]] : Sto)[S.length]? = some (.lst [.str w]) := get_last _ _
    have e2 : (S ++ [.lst [.str w]] : Sto)[p]? = some (.lst (spare.map D.str)) := pre_get hp
    have e3 : ([D.str w] : List D).length + (spare.map D.str).length ≤ sizeLine := by simp; omega
    simp only [gAdd, e1, e2, if_pos e3]
    rfl
  have e1 : S1[(S ++ [.lst [.str w]] : Sto).length]? = some (.lst (l.map D.str)) := get_last _ _
  have hf1 : S1[f]? = some (.lst (xs.map D.str)) := pre_get (pre_get hf)
  have eW : wkD S1 (.loc (S ++ [.lst [.str w]] : Sto).length) = some ⟨l.length, fun i S' => (seqD S' (.loc (S ++ [.lst [.str w]] : Sto).length)).map fun es => es[i]?⟩ := by
    simp only [wkD, seqD, e1, Option.map_some, List.length_map]
  obtain ⟨S2, L, rfl⟩ := goC_inv (nxt := fun i S' => (seqD S' (.loc (S ++ [.lst [.str w]] : Sto).length)).map fun es => es[i]?) (g := tN 8) (t := tB (eB (gIn true) (eVar 8) (eVar 4))) (fe := eVar 8) (l := S1.length) (τ0 := [x0, x1, some (.loc p), x3, some (.loc f), x5, some (.str w), x7, none]) (n := l.length)
    (fun i S' => S' = S1 ++ [.lst (((l.take i).filter fun z => !decide (z ∈ xs)).map D.str)]) (fun i => .str (l.getD i default))
    (fun i S' hi e => by
      subst e
      have e3 := List.getElem?_eq_getElem hi
      have e4 : l.getD i default = l[i] := by rw [List.getD_eq_getElem?_getD, e3]; rfl
      have e5 : (S1 ++ [.lst (((l.take i).filter fun z => !decide (z ∈ xs)).map D.str)] : Sto)[(S ++ [.lst [.str w]] : Sto).length]? = some (.lst (l.map D.str)) := pre_get e1
      rw [e4]
      refine ⟨by simp only [seqD, e5, Option.map_some, List.getElem?_map, e3], [x0, x1, some (.loc p), x3, some (.loc f), x5, some (.str w), x7, some (.str l[i])], rfl, ?_⟩
      have e6 := gIn_names (neg := true) (S := (S1 ++ [.lst (((l.take i).filter fun z => !decide (z ∈ xs)).map D.str)] : Sto)) (pre_get hf1) (hnm _ (List.getElem_mem hi)) hxs
      have e7 : l.take (i + 1) = l.take i ++ [l[i]] := by rw [List.take_append_getElem hi]
      by_cases q : l[i] ∈ xs
      · refine .inl ⟨(S1 ++ [.lst (((l.take i).filter fun z => !decide (z ∈ xs)).map D.str)] : Sto), tB_ok (eB_ok rfl rfl (e6.trans ?_)), ?_⟩
        · simp only [q, decide_true, Bool.not_true, if_true]
        · rw [e7, List.filter_append]
          simp [q]
      · refine .inr ⟨(S1 ++ [.lst (((l.take i).filter fun z => !decide (z ∈ xs)).map D.str)] : Sto), .str l[i], (S1 ++ [.lst (((l.take i).filter fun z => !decide (z ∈ xs)).map D.str)] : Sto), ((l.take i).filter fun z => !decide (z ∈ xs)).map D.str, tB_ok (eB_ok rfl rfl (e6.trans ?_)), rfl, get_last _ _, ?_, ?_⟩
        · simp only [q, decide_false, Bool.not_false, if_true]
        · have := List.length_filter_le (fun z => !decide (z ∈ xs)) (l.take i)
          rw [List.length_take] at this
          rw [List.length_map]; omega
        · rw [set_last, e7, List.filter_append, List.map_append]
          simp [q]) (fun S' e => by
            subst e
            have e5 : (S1 ++ [.lst (((l.take l.length).filter fun z => !decide (z ∈ xs)).map D.str)] : Sto)[(S ++ [.lst [.str w]] : Sto).length]? = some (.lst (l.map D.str)) := pre_get e1
            simp only [seqD, e5, Option.map_some]
            rw [List.getElem?_eq_none (by simp)]) (l.length + 1) 0 (S1 ++ [.lst []]) (Nat.zero_le _) (by omega) rfl
  rw [List.take_length, show (l.filter fun z => !decide (z ∈ xs)) = y :: r from e] at L
  refine ⟨y, [.lst [.str w], .lst (l.map D.str), .lst ((y :: r).map D.str)], ?_, hy, hny⟩
  have eX : S ++ [.lst [.str w], .lst (l.map D.str), .lst ((y :: r).map D.str)] = S1 ++ [.lst ((y :: r).map D.str)] := by
    show _ = S ++ [Ob.lst [.str w]] ++ [.lst (l.map D.str)] ++ [.lst ((y :: r).map D.str)]
    rw [← app2]
    simp
  rw [eX]
  refine eB_ok (eLc_ok (iSeq_ok (eB_ok (eLst_ok (a1_ok rfl) (by simp)) rfl eA) eW) L) rfl ?_
  have e8 : (S1 ++ [.lst ((y :: r).map D.str)] : Sto)[S1.length]? = some (.lst ((y :: r).map D.str)) := get_last _ _
  simp [gIx, seqD, e8, atI, ixN]
end Sb
end
section
set_option Elab.async false
set_option linter.all false
set_option maxRecDepth 100000
set_option maxHeartbeats 4000000
namespace Sb
open PySem PySem.Spec PyProof.Rows L2
variable {K : PySem.W.Frag} {S : Sto}
theorem Fr.set {n f : Nat} {S S' : Sto} {o : Ob} (h : Fr n S S') (hf : S.length ≤ f) : Fr n S (S'.set f o) := ⟨by simpa using h.le, fun i h1 h2 => by
  rw [List.getElem?_set_ne (by omega)]; exact h.at_ i h1 h2⟩
theorem Spr.set {n k f : Nat} {S : Sto} {o : Ob} (h : Spr n k S) (hf : f ≠ n) : Spr n k (S.set f o) := h.fr (List.getElem?_set_ne hf)
theorem append_ok {f : Nat} {acc : List D} {d : D} (hf : S[f]? = some (.lst acc)) (hl : acc.length ≤ 100000) : gAppend (.loc f) [d] S = some (.non, S.set f (.lst (acc ++ [d]))) := by
  have hz : acc.length < sizeLine := by rw [sizeLine_eq]; omega
  simp only [gAppend, listD, hf, Option.bind_some, if_pos hz]
theorem ty_list {f : Nat} {acc : List D} (hf : S[f]? = some (.lst acc)) : tyD S "list" (.loc f) = true := by simp [tyD, hf]
theorem Fr.lst {n f : Nat} {S S' : Sto} {acc : List D} (h : Fr n S S') (hf : S[f]? = some (.lst acc)) (hn : f ≠ n) : S'[f]? = some (.lst acc) := h.get hf hn
theorem names_ok {n k m : Nat} (h : Spr n k S) (hk : k < 2 ^ 32) (hm : m ≤ 40) :
    ∃ (f : Nat) (S' : Sto) (xs : List Str), M_law_names [.loc n, .int m] S = some (.ok (.loc f) S') ∧ S'[f]? = some (.lst (xs.map D.str)) ∧ xs.length = m ∧ xs.Nodup ∧ (∀ x ∈ xs, Nm x) ∧ Spr n (k + 10 * m) S' ∧ Fr n S S' ∧ S.length ≤ f := by
  have hn := h.lt
  let S1 : Sto := S ++ [.lst (spare.map D.str)]
  let S2 : Sto := S1 ++ [.lst []]
  have hl1 : S1.length = S.length + 1 := by show (S ++ _).length = _; simp
  obtain ⟨τ', S', L, xs, x3, x5, x6, x7, x8, rfl, lx, ndx, nmx, fl, hp⟩ := goF_inv (nxt := (wkR 0 m).nxt) (g := tN 3) (n := m)
    (fb := (sSeq (sSet 5 (eB gIx (eLst (aCons (eC (.str "ab")) (aCons (eC (.str "abcdefghijklmnopqrstuvwxyz")) (aNil)))) (eCl (M_law_draw) 2 (aCons (eVar 0) (aCons (eC (.int 2)) (aNil)))))) (sSeq (sSet 6 (eBM "str" gJoin (eC (.str "")) (aCons (eLc (iRg1 (aCons (eB gAdd (eC (.int 1)) (eCl (M_law_draw) 2 (aCons (eVar 0) (aCons (eC (.int 8)) (aNil))))) (aNil))) (tN 7) (tAll) (eB gIx (eVar 5) (eCl (M_law_draw) 2 (aCons (eVar 0) (aCons (eCB gLenX (aCons (eVar 5) (aNil))) (aNil))))) [7]) (aNil)))) (sEx (eBM "list" gAppend (eVar 4) (aCons (eB gIx (eLc (iSeq (eB gAdd (eLst (aCons (eVar 6) (aNil))) (eVar 2))) (tN 8) (tB (eB (gIn true) (eVar 8) (eVar 4))) (eVar 8) [8]) (eC (.int 0))) (aNil)))))))
    (fun i τ S' => ∃ (xs : List Str) (x3 x5 x6 x7 x8 : Option D), τ = [some (.loc n), some (.int m), some (.loc S.length), x3, some (.loc S1.length), x5, x6, x7, x8] ∧ xs.length = i ∧ xs.Nodup ∧ (∀ x ∈ xs, Nm x) ∧ Fil n (k + 10 * i) S S' S1.length (xs.map D.str) ∧ S'[S.length]? = some (.lst (spare.map D.str))) (fun i => .int (i : Nat))
    (fun i τ S' hi ⟨xs, x3, x5, x6, x7, x8, e, lx, ndx, nmx, fl, hp⟩ => by
      subst e
      have hpl := (List.getElem?_eq_some_iff.mp hp).1
      have hfl := (List.getElem?_eq_some_iff.mp fl.at_).1
      -- letters
      let S3 : Sto := S' ++ [.lst [.str "ab", .str "abcdefghijklmnopqrstuvwxyz"]]
      obtain ⟨v, S4, e4, v0, v1, sp4, fr4, len4⟩ := draw_ok (S := S3) (m := 2) (fl.sp.app) (by omega) (by decide) (by decide)
      have hs3 : S3[S'.length]? = some (.lst [.str "ab", .str "abcdefghijklmnopqrstuvwxyz"]) := get_last _ _
      have hs4 : S4[S'.length]? = some (.lst [.str "ab", .str "abcdefghijklmnopqrstuvwxyz"]) := fr4.get hs3 (by have := fl.sp.lt; omega)
      have eLt : ∃ x : Str, Lts x ∧ gIx (.loc S'.length) (.int v) S4 = some (.str x, S4) := by
        rcases (show v = 0 ∨ v = 1 by omega) with rfl | rfl
        · exact ⟨"ab", lts_ab, by simp [gIx, seqD, hs4, atI, ixN]⟩
        · exact ⟨"abcdefghijklmnopqrstuvwxyz", lts_all, by simp [gIx, seqD, hs4, atI, ixN]⟩
      obtain ⟨x, hx, e5⟩ := eLt
      have fA : Fr n S' S4 := Fr.app.trans fr4
      -- the word
      obtain ⟨w, S5, e6, nw, sp5, fr5⟩ := word_ok (x1 := some (.int m)) (x2 := some (.loc S.length)) (x3 := some (.int (i : Nat))) (x4 := some (.loc S1.length)) (x6 := x6) (x7 := x7) (x8 := x8) hx sp4 (by omega)
      have fB : Fr n S' S5 := fA.trans fr5
      have hp5 := fB.lst hp (by omega)
      have hf5 := fB.lst fl.at_ (by omega)
      -- the new name
      obtain ⟨y, X, e7, ny, nmy⟩ := new_ok (x0 := some (.loc n)) (x1 := some (.int m)) (x3 := some (.int (i : Nat))) (x5 := some (.str x)) (x7 := x7) (x8 := x8) hf5 hp5 nmx nw (by omega)
      refine ⟨rg_nxt hi, [some (.loc n), some (.int m), some (.loc S.length), some (.int (i : Nat)), some (.loc S1.length), x5, x6, x7, x8], _, _, rfl, (sSeq_nx (sSet_ok (eB_ok (eLst_ok (a2_ok rfl rfl) (by simp)) (eCl_ok (a2_ok rfl rfl) rfl e4) e5))).trans ((sSeq_nx (sSet_ok e6)).trans (sEx_ok (eBM_ok rfl (ty_list hf5) (a1_ok e7) (append_ok (S := S5 ++ X) (pre_get hf5) (by simp; omega))))), ?_⟩
      refine ⟨xs ++ [y], some (.int (i : Nat)), some (.str x), some (.str w), x7, x8, rfl, by simp [lx], ?_, ?_, ?_, ?_⟩
      · rw [List.nodup_append]
        exact ⟨ndx, by simp, fun a ha b hb => by simp at hb; subst hb; exact fun z => ny (z ▸ ha)⟩
      · intro z hz
        rcases List.mem_append.mp hz with q | q
        · exact nmx z q
        · simp at q; subst q; exact nmy
      · have fC : Fil n (k + 10 * (i + 1)) S (S5 ++ X) S1.length (xs.map D.str) := ⟨(fl.fr.trans fB).trans Fr.app, sp5.app.mono (by omega), pre_get hf5⟩
        have := fC.put (S' := S) (d := .str y) (by omega) (by omega)
        simpa using this
      · rw [List.getElem?_set_ne (by omega)]
        exact pre_get hp5) (fun τ S' _ => rg_end) (m + 1) 0 [some (.loc n), some (.int m), some (.loc S.length), none, some (.loc S1.length), none, none, none, none] S2 (Nat.zero_le _) (by omega)
    ⟨[], none, none, none, none, none, rfl, rfl, List.nodup_nil, (fun x hx => by cases hx), ⟨Fr.app.trans Fr.app, h.app.app, get_last _ _⟩, pre_get (get_last _ _)⟩
  refine ⟨S1.length, S', xs, ?_, fl.at_, lx, ndx, nmx, fl.sp, fl.fr, by omega⟩
  refine fnM_rt ?_
  refine (sSeq_nx (sSet_ok (spare_ok rfl))).trans ?_
  refine (sSeq_nx (sSet_ok (eLst_ok aNil_ok (by simp)))).trans ?_
  exact (sSeq_nx (sFor_ok (iRg1_ok (a1_ok rfl) (by omega)) L)).trans (sRt_ok rfl)
end Sb
end
section
set_option Elab.async false
set_option linter.all false
set_option maxRecDepth 100000
set_option maxHeartbeats 4000000
namespace Sb
open PySem PySem.Spec PyProof.Rows L2
variable {K : PySem.W.Frag} {S : Sto}
theorem gAdd_i {i j : Int} : gAdd (.int i) (.int j) S = some (.int (i + j), S) := rfl
theorem gSub_i {i j : Int} : gSub (.int i) (.int j) S = some (.int (i - j), S) := by simp [gSub, gI]
end Sb
end
section
set_option Elab.async false
set_option linter.all false
set_option maxRecDepth 100000
set_option maxHeartbeats 4000000
namespace Sb
open PySem PySem.Spec PyProof.Rows L2
variable {K : PySem.W.Frag} {S : Sto}
/-! ### decks alike but for what no step sees -/
theorem stp_len (l : List Card) : (stp l).length = l.length := (stp_perm l).length_eq
theorem stps_len (l : List Card) : ∀ n, (stps n l).length = l.length
  | 0 => rfl
  | n + 1 => (stp_len _).trans (stps_len l n)
/-! ### other names -/
def ren (f : Str → Str) (c : Card) : Card := (f c.1, c.2)
theorem stp_ren (f : Str → Str) : ∀ l : List Card, stp (l.map (ren f)) = (stp l).map (ren f)
  | [] => rfl
  | c :: r => by
    show (r.map (ren f)).take (min c.2.toNat (r.map (ren f)).length) ++ ren f c :: (r.map (ren f)).drop (min c.2.toNat (r.map (ren f)).length) = _
    rw [List.length_map, ← List.map_take, ← List.map_drop]
    unfold stp
    rw [List.map_append, List.map_cons]
theorem stps_ren (f : Str → Str) (l : List Card) : ∀ n, stps n (l.map (ren f)) = (stps n l).map (ren f)
  | 0 => rfl
  | n + 1 => by
    show stp (stps n (l.map (ren f))) = (stp (stps n l)).map (ren f)
    rw [stps_ren f l n, stp_ren]
theorem stps_ne {l : List Card} (h : l ≠ []) (n : Nat) : ∃ c r, stps n l = c :: r := by
  cases e : stps n l with
  | nil =>
    have := stps_len l n
    rw [e] at this
    exact absurd (List.length_eq_zero_iff.mp this.symm) h
  | cons c r => exact ⟨c, r, rfl⟩
theorem tops_ren (f : Str → Str) {l : List Card} (h : l ≠ []) (n : Nat) : tops (l.map (ren f)) n = (tops l n).map f := by
  unfold tops
  rw [List.map_map]
  refine List.map_congr_left fun i _ => ?_
  obtain ⟨c, r, e⟩ := stps_ne h i
  rw [stps_ren, e]
  simp [e, ren]
theorem stps_mem {l : List Card} (n : Nat) (c : Card) : c ∈ stps n l → c ∈ l := by
  induction n with
  | zero => exact id
  | succ n ih => exact fun h => ih ((stp_perm _).mem_iff.mp h)
theorem tops_len (l : List Card) (n : Nat) : (tops l n).length = n := by unfold tops; simp
/-! ### calls: a dict of names -/
theorem put_new {acc : List (Key × D)} {k : Key} {v : D} (h : k ∉ acc.map (·.1)) : putD' acc k v = acc ++ [(k, v)] := by
  unfold putD'
  rw [if_neg]
  intro e
  obtain ⟨p, hp, q⟩ := List.any_eq_true.mp e
  exact h (List.mem_map.mpr ⟨p, hp, of_decide_eq_true q⟩)
theorem merge_new : ∀ {more acc : List (Key × D)}, (acc.map (·.1) ++ more.map (·.1)).Nodup → mergeD acc more = acc ++ more
  | [], acc, _ => (List.append_nil acc).symm
  | p :: more, acc, h => by
    have hp : p.1 ∉ acc.map (·.1) := fun q => by
      exact (List.nodup_append.mp h).2.2 _ q p.1 (by simp) rfl
    show mergeD (putD' acc p.1 p.2) more = _
    rw [put_new hp, merge_new (by simpa using h)]
    simp
/-! ### the card laid in -/
theorem ix_deck {l : List Card} {i : Nat} {c : Card} (h : l[i]? = some c) : gIx (dK l) (.int i) S = some (dC c, S) := by
  have hi := (List.getElem?_eq_some_iff.mp h).1
  have h1 : (0 : Int) ≤ (i : Int) := by omega
  have h2 : (i : Int) < ((l.map dC).length : Int) := by simp; omega
  simp only [gIx, seqD, Option.bind_some, atI, ixN, if_pos h1, if_pos h2, Int.toNat_natCast, List.getElem?_map, h, Option.map_some]
theorem ix_name {c : Card} : gIx (dC c) (.int 0) S = some (.str c.1, S) := by simp [gIx, seqD, atI, ixN]
end Sb
namespace Sb
open PySem PySem.Spec PyProof.Rows L2
variable {K : PySem.W.Frag} {S : Sto}
end Sb
end
section
set_option Elab.async false
set_option linter.all false
set_option maxRecDepth 100000
set_option maxHeartbeats 4000000
namespace Sb
open PySem PySem.Spec PyProof.Rows L2 PySem.W
variable {K : PySem.W.Frag} {S : Sto}
/-! ### rows put together -/
theorem stps_add (l : List Card) (a : Nat) : ∀ b, stps b (stps a l) = stps (a + b) l
  | 0 => rfl
  | b + 1 => by
    show stp (stps b (stps a l)) = stp (stps (a + b) l)
    rw [stps_add l a b]
/-! ### a card beneath that nothing reaches -/
theorem stp_last {l : List Card} {z : Card} (hne : l ≠ []) (h : ∀ c ∈ l, c.2 ≤ (l.length : Int) - 1) : stp (l ++ [z]) = stp l ++ [z] := by
  cases l with
  | nil => exact absurd rfl hne
  | cons c r =>
    have hc := h c List.mem_cons_self
    rw [List.length_cons] at hc
    have k1 : min c.2.toNat (r ++ [z]).length = c.2.toNat := by rw [List.length_append, List.length_singleton]; omega
    have k2 : min c.2.toNat r.length = c.2.toNat := by omega
    have k3 : c.2.toNat ≤ r.length := by omega
    show (r ++ [z]).take (min c.2.toNat (r ++ [z]).length) ++ c :: (r ++ [z]).drop (min c.2.toNat (r ++ [z]).length) = (r.take (min c.2.toNat r.length) ++ c :: r.drop (min c.2.toNat r.length)) ++ [z]
    rw [k1, k2, List.take_append_of_le_length k3, List.drop_append_of_le_length k3]
    simp
theorem stps_last {l : List Card} {z : Card} (hne : l ≠ []) (h : ∀ c ∈ l, c.2 ≤ (l.length : Int) - 1) : ∀ n, stps n (l ++ [z]) = stps n l ++ [z]
  | 0 => rfl
  | n + 1 => by
    show stp (stps n (l ++ [z])) = stp (stps n l) ++ [z]
    rw [stps_last hne h n]
    obtain ⟨c, r, e⟩ := stps_ne hne n
    refine stp_last (by rw [e]; simp) fun c hc => ?_
    rw [stps_len]
    exact h c (stps_mem n c hc)
/-! ### sorted -/
/-! ### the greatest of a list -/
/-! ### find_place -/
theorem gEq_str {neg : Bool} {a b : Str} (ha : Nm a) (hb : Nm b) : gEq neg (.str a) (.str b) S = some (.bl (if neg then !decide (a = b) else decide (a = b)), S) := by
  unfold gEq
  rw [toPy_str 7, toPy_str 7]
  simp only [shp_str ha, shp_str hb, and_self, if_true, eqv_str]
theorem gEq_int {neg : Bool} {a b : Int} : gEq neg (.int a) (.int b) S = some (.bl (if neg then !decide (a = b) else decide (a = b)), S) := by
  unfold gEq
  rw [toPy_int 7, toPy_int 7]
  have s1 : ∀ a : Int, SeqAt.shaped (.int a) = true := fun _ => rfl
  have s3 : PyData.eqv (.int a) (.int b) = decide (a = b) := by
    show (a == b) = _
    rfl
  simp only [s1, and_self, if_true, s3]
theorem an_t {t u : BF} {τ : Sl} {S S1 : Sto} {o : Option (Rs Bool)} (h : t τ S = some (.ok true S1)) (h2 : u τ S1 = o) : tAn t u τ S = o := by simp only [tAn, M.bnd, h, if_true, h2]
theorem an_f {t u : BF} {τ : Sl} {S S1 : Sto} (h : t τ S = some (.ok false S1)) : tAn t u τ S = some (.ok false S1) := by simp [tAn, M.bnd, h]
end Sb
end
section
set_option Elab.async false
set_option linter.all false
set_option maxRecDepth 100000
set_option maxHeartbeats 4000000
namespace Sb
open PySem PySem.Spec PyProof.Rows L2
/-! ## stores whose places stand -/
abbrev Wf (S : Sto) : Prop := wfk S.length S = true
mutual
theorem bd_mono {j k : Nat} (h : j ≤ k) : ∀ d : D, bd j d = true → bd k d = true
  | .non, _ => rfl
  | .bl _, _ => rfl
  | .int _, _ => rfl
  | .str _, _ => rfl
  | .scr _, _ => rfl
  | .tup ds, b => by simp only [bd] at b ⊢; exact bds_mono h ds b
  | .fl ds, b => by simp only [bd] at b ⊢; exact bds_mono h ds b
  | .exn _, b => b
  | .rgo _ _, b => b
  | .ntu ds, b => by simp only [bd] at b ⊢; exact bds_mono h ds b
  | .fd _ ds, b => by simp only [bd] at b ⊢; exact bds_mono h ds b
  | .loc n, b => by simp only [bd, decide_eq_true_eq] at b ⊢; omega
theorem bds_mono {j k : Nat} (h : j ≤ k) : ∀ ds : List D, bds j ds = true → bds k ds = true
  | [], _ => rfl
  | d :: ds, b => by
    simp only [bds, Bool.and_eq_true] at b ⊢
    exact ⟨bd_mono h d b.1, bds_mono h ds b.2⟩
end
theorem bds_all {k : Nat} : ∀ {ds : List D}, bds k ds = true ↔ ∀ d ∈ ds, bd k d = true
  | [] => by simp [bds]
  | d :: ds => by simp only [bds, Bool.and_eq_true, List.mem_cons, forall_eq_or_imp, bds_all]
theorem bds_map {α : Type} {k : Nat} {f : α → D} {l : List α} (h : ∀ x ∈ l, bd k (f x) = true) : bds k (l.map f) = true := bds_all.mpr fun d hd => by
  obtain ⟨x, hx, rfl⟩ := List.mem_map.mp hd
  exact h x hx
theorem bdO_mono {j k : Nat} (h : j ≤ k) : ∀ o : Ob, bdO j o = true → bdO k o = true
  | .lst ds, b => bds_mono h ds b
  | .dct kvs, b => bds_mono h _ b
  | .ks _ _, _ => rfl
@[simp] theorem bd_dC {k : Nat} {c : Card} : bd k (dC c) = true := rfl
@[simp] theorem bds_dC {k : Nat} {l : List Card} : bds k (l.map dC) = true := bds_map fun _ _ => rfl
@[simp] theorem bd_dK {k : Nat} {l : List Card} : bd k (dK l) = true := by simp only [dK, bd, bds_dC]
@[simp] theorem bds_str {k : Nat} {l : List Str} : bds k (l.map D.str) = true := bds_map fun _ _ => rfl
@[simp] theorem bds_int {k : Nat} {l : List Int} : bds k (l.map D.int) = true := bds_map fun _ _ => rfl
theorem wf_get {S : Sto} {n : Nat} {o : Ob} (w : Wf S) (h : S[n]? = some o) : bdO S.length o = true := List.all_eq_true.mp w o (List.mem_of_getElem? h)
theorem wf_app {S : Sto} {o : Ob} (w : Wf S) (h : bdO (S.length + 1) o = true) : Wf (S ++ [o]) := by
  unfold Wf wfk
  rw [List.length_append, List.all_append, Bool.and_eq_true]
  refine ⟨List.all_eq_true.mpr fun x hx => bdO_mono (Nat.le_add_right _ _) x (List.all_eq_true.mp w x hx), ?_⟩
  simpa using h
theorem wf_set {S : Sto} {n : Nat} {o : Ob} (w : Wf S) (h : bdO S.length o = true) : Wf (S.set n o) := by
  unfold Wf wfk
  rw [List.length_set, List.all_eq_true]
  intro x hx
  rcases List.mem_or_eq_of_mem_set hx with q | q
  · exact List.all_eq_true.mp w x q
  · subst q; exact h
/-- all but the spring at n stands; nothing new -/
structure Sm (n : Nat) (S S' : Sto) : Prop where
  len : S'.length = S.length
  at_ : ∀ i, i ≠ n → S'[i]? = S[i]?
theorem Sm.refl {n : Nat} {S : Sto} : Sm n S S := ⟨rfl, fun _ _ => rfl⟩
theorem Sm.trans {n : Nat} {S S1 S2 : Sto} (a : Sm n S S1) (b : Sm n S1 S2) : Sm n S S2 := ⟨b.len.trans a.len, fun i h => (b.at_ i h).trans (a.at_ i h)⟩
theorem Sm.wf {n k : Nat} {S S' : Sto} (a : Sm n S S') (w : Wf S) (h : Spr n k S') : Wf S' := by
  unfold Wf wfk
  rw [List.all_eq_true]
  intro x hx
  obtain ⟨i, hi, rfl⟩ := List.getElem_of_mem hx
  rw [a.len]
  by_cases q : i = n
  · subst q
    obtain ⟨u, v, y, e, _⟩ := h
    have : S'[i] = spr u v y := by
      have := List.getElem?_eq_getElem hi
      rw [e] at this; exact (Option.some.inj this).symm
    rw [this]; rfl
  · have e := a.at_ i q
    rw [List.getElem?_eq_getElem hi] at e
    exact wf_get w e.symm
/-! ## fz read -/
def fzR (k : Nat) (o : Option (Rs D)) : Option (Rs D) := match o with
  | none => none
  | some (.ok d S1) => if wfk k (S1.take k) = true then (rb S1 k 8 d).map fun d' => .ok d' (S1.take k) else none
  | some (.ex x S1) => if wfk k (S1.take k) = true then some (.ex x (S1.take k)) else none
theorem fz_eq {f : EF} {τ : Sl} {S : Sto} : fz f τ S = fzR S.length (f τ S) := rfl
theorem rb_bd {S : Sto} {k m : Nat} {d : D} (h : bd k d = true) : rb S k m d = some d := by
  cases m <;> simp only [rb, if_pos h]
theorem fzR_app {S X : Sto} {d : D} (w : Wf S) (h : bd S.length d = true) : fzR S.length (some (.ok d (S ++ X))) = some (.ok d S) := by
  simp only [fzR, List.take_left, if_pos w, rb_bd h, Option.map_some]
theorem fzR_same {S : Sto} {d : D} (w : Wf S) (h : bd S.length d = true) : fzR S.length (some (.ok d S)) = some (.ok d S) := by
  have := fzR_app (X := []) w h
  rwa [List.append_nil] at this
theorem rb_loc {S : Sto} {k m n : Nat} {ds : List D} (h : ¬ (bd k (.loc n) = true)) (e : S[n]? = some (.lst ds)) : rb S k (m + 1) (.loc n) = (ds.mapM (rb S k m)).map .fl := by
  conv => lhs; unfold rb
  simp only [if_neg h, e]
theorem fzR_lst {S X : Sto} {n : Nat} {ds : List D} (w : Wf S) (e : (S ++ X)[n]? = some (.lst ds)) (hn : S.length ≤ n) (h : bds S.length ds = true) : fzR S.length (some (.ok (.loc n) (S ++ X))) = some (.ok (.fl ds) S) := by
  have nb : ¬ (bd S.length (.loc n) = true) := by simp only [bd, decide_eq_true_eq]; omega
  have hm : ds.mapM (rb (S ++ X) S.length 7) = some ds := by
    have := mapM_some (f := rb (S ++ X) S.length 7) (g := fun d => d) (l := ds) fun d hd => rb_bd (bds_all.mp h d hd)
    rwa [List.map_id'] at this
  simp only [fzR, List.take_left, if_pos w, rb_loc nb e, hm, Option.map_some]
theorem fz_same {f : EF} {τ : Sl} {S : Sto} {d : D} (w : Wf S) (e : f τ S = some (.ok d S)) (h : bd S.length d = true) : fz f τ S = some (.ok d S) := by
  rw [fz_eq, e, fzR_same w h]
theorem fz_lst {f : EF} {τ : Sl} {S X : Sto} {n : Nat} {ds : List D} (w : Wf S) (e : f τ S = some (.ok (.loc n) (S ++ X))) (e2 : (S ++ X)[n]? = some (.lst ds)) (hn : S.length ≤ n) (h : bds S.length ds = true) : fz f τ S = some (.ok (.fl ds) S) := by
  rw [fz_eq, e, fzR_lst w e2 hn h]
/-- a list that is told -/
theorem fz_list {r : AF} {τ : Sl} {S S1 : Sto} {ds : List D} (h1 : r τ S = some (.ok ds S1)) (l : S1.length = S.length) (w : Wf S1) (hl : ds.length ≤ 1000) (h : bds S.length ds = true) : fz (eLst r) τ S = some (.ok (.fl ds) S1) := by
  rw [fz_eq, eLst_ok h1 hl, ← l]
  exact fzR_lst w (get_last _ _) (Nat.le_refl _) (by rw [l]; exact h)
/-! ## the spring, all else the same -/
theorem take_app {S X : Sto} : (S ++ X).take S.length = S := List.take_left
/-! ## comprehensions over told things -/
/-- what walks over ds -/
structure Wks (wk : Wk) (ds : List D) (P : Sto → Prop) : Prop where
  nxt : ∀ i S, P S → wk.nxt i S = some ds[i]?
  bound : ds.length ≤ wk.bound
theorem lc_pu {fi : IF} {g : TF} {t : BF} {fe : EF} {vs : List Nat} {τ : Sl} {S : Sto} {wk : Wk} {ds : List D} (p : D → Bool) (q : D → D) (w : Wf S) (hi : fi τ S = some (.ok wk S)) (hw : Wks wk ds fun S' => ∃ X, S' = S ++ X)
    (hl : ds.length ≤ 100000) (hb : ∀ d ∈ ds, p d = true → bd S.length (q d) = true)
    (h : ∀ d ∈ ds, ∀ S', Wf S' → (∃ X, S' = S ++ X) → ∃ τ1, g d S' (wipeD τ vs) = some τ1 ∧ t τ1 S' = some (.ok (p d) S') ∧ (p d = true → fe τ1 S' = some (.ok (q d) S'))) :
    fz (eLc fi g t fe vs) τ S = some (.ok (.fl ((ds.filter p).map q)) S) := by
  have bdq : ∀ i, bds S.length (((ds.take i).filter p).map q) = true := fun i => bds_map fun x hx => by
    obtain ⟨h1, h2⟩ := List.mem_filter.mp hx
    exact hb x (List.mem_of_mem_take h1) h2
  obtain ⟨S', L, rfl⟩ := goC_inv (nxt := wk.nxt) (g := g) (t := t) (fe := fe) (l := S.length) (τ0 := wipeD τ vs) (n := ds.length)
    (fun i S' => S' = S ++ [.lst (((ds.take i).filter p).map q)]) (fun i => ds.getD i default)
    (fun i S' hi e => by
      subst e
      have e3 := List.getElem?_eq_getElem hi
      have e4 : ds.getD i default = ds[i] := by rw [List.getD_eq_getElem?_getD, e3]; rfl
      have hw' : Wf (S ++ [.lst (((ds.take i).filter p).map q)]) := wf_app w (bds_mono (Nat.le_add_right _ _) _ (bdq i))
      obtain ⟨τ1, h1, h2, h3⟩ := h ds[i] (List.getElem_mem hi) _ hw' ⟨_, rfl⟩
      refine ⟨by rw [hw.nxt i _ ⟨_, rfl⟩, e4, e3], τ1, by rw [e4]; exact h1, ?_⟩
      have et : ds.take (i + 1) = ds.take i ++ [ds[i]] := by rw [List.take_append_getElem hi]
      cases hp : p ds[i] with
      | false =>
        refine .inl ⟨_, by rw [h2, hp], ?_⟩
        rw [et, List.filter_append]; simp [hp]
      | true =>
        refine .inr ⟨_, q ds[i], _, _, by rw [h2, hp], h3 hp, get_last _ _, ?_, ?_⟩
        · have : (((ds.take i).filter p).map q).length ≤ i := by
            rw [List.length_map]; exact Nat.le_trans (List.length_filter_le _ _) (by rw [List.length_take]; omega)
          have := sizeLine_eq
          omega
        · rw [set_last, et, List.filter_append]; simp [hp])
    (fun S' e => by subst e; rw [hw.nxt _ _ ⟨_, rfl⟩, List.getElem?_eq_none (Nat.le_refl _)]) (wk.bound + 1) 0 (S ++ [.lst []]) (Nat.zero_le _) (by have := hw.bound; omega) (by simp)
  rw [List.take_length] at L
  refine fz_lst (n := S.length) (X := [.lst ((ds.filter p).map q)]) w ?_ (get_last _ _) (Nat.le_refl _) (by have := bdq ds.length; rwa [List.take_length] at this)
  simp only [eLc, hi, L, Option.bind_some]
theorem wk_tup {S : Sto} {ds : List D} : wkD S (.tup ds) = some ⟨ds.length, fun i _ => some ds[i]?⟩ := rfl
theorem wk_fl {S : Sto} {ds : List D} : wkD S (.fl ds) = some ⟨ds.length, fun i _ => some ds[i]?⟩ := rfl
theorem wks_ds {ds : List D} {P : Sto → Prop} : Wks ⟨ds.length, fun i _ => some ds[i]?⟩ ds P := ⟨fun _ _ _ => rfl, Nat.le_refl _⟩
theorem wks_rg {n : Nat} {P : Sto → Prop} : Wks (wkR 0 n) ((List.range n).map fun i : Nat => D.int i) P := ⟨fun i S _ => by
  by_cases h : i < n
  · rw [rg_nxt h, List.getElem?_map, List.getElem?_range h]; rfl
  · rw [List.getElem?_eq_none (by simp; omega)]; simp [wkR, h], by simp [wkR]⟩
/-! ## loops that may end by a return -/
/-! ## equality of told lists -/
theorem toPy_fnames (n : Nat) (S : Sto) (xs : List Str) : toPy (n + 2) S (.fl (xs.map D.str)) = some (.list (xs.map PyData.str)) := by
  show ((xs.map D.str).mapM (toPy (n + 1) S)).map PyData.list = _
  rw [List.mapM_map, mapM_some (f := toPy (n + 1) S ∘ D.str) (g := PyData.str) fun x _ => rfl]
  rfl
theorem gEq_fl {neg : Bool} {S : Sto} {l m : List Str} (hl : ∀ c ∈ l, Nm c) (hm : ∀ c ∈ m, Nm c) : gEq neg (.fl (l.map D.str)) (.fl (m.map D.str)) S = some (.bl (if neg then !decide (l = m) else decide (l = m)), S) := by
  simp only [gEq, toPy_fnames, shp_names hl, shp_names hm, and_self, if_true, eqv_names]
theorem gIn_fl {neg : Bool} {S : Sto} {x : Str} {m : List Str} (hl : Nm x) (hm : ∀ c ∈ m, Nm c) : gIn neg (.str x) (.fl (m.map D.str)) S = some (.bl (if neg then !decide (x ∈ m) else decide (x ∈ m)), S) := by
  have e := any_str x m
  simp only [gIn, toPy_fnames, shp_names hm, shp_str hl, and_self, if_true, toPy_str, List.any_map]
  have e2 : (m.any ((fun z => PyData.eqv z (.str x)) ∘ PyData.str)) = decide (x ∈ m) := e
  rw [e2]
end Sb
end
section
set_option Elab.async false
set_option linter.all false
set_option maxRecDepth 100000
set_option maxHeartbeats 4000000
namespace Sb
open PySem PySem.Spec PyProof.Rows L2
/-! ## defs that may print: the same promise where no print is under way -/
structure FnOkG (P : Program) (w : World) (K : PySem.W.Frag) (mg : Str → Option Value) (base : Heap) (CX : CXT) (k : Nat) (f : Addr) (fd : FuncData) (ps : List Str) (sp : Sp) : Prop where
  len : ∀ vs H Q E, sp vs H Q E → vs.length = ps.length
  run : ∀ (A : Around) (outer : List Env) (s : Shared) (H : Hp) (args : Args) (us : List Value) (vs : List V) (Q : VK) (E : XK), Room k A → A.guards = some [] → Env0 P w K mg base A outer s H → BindsTo s fd args (ps.zip us) → Vals vs us → sp vs H Q E →
    codeAny (model P w) A (.call (.ref f) args) (CR CX outer P w H s Q E) s
theorem FnOk.guarded {P : Program} {w : World} {K : PySem.W.Frag} {mg : Str → Option Value} {base : Heap} {CX : CXT} {k : Nat} {f : Addr} {fd : FuncData} {ps : List Str} {sp : Sp} (F : FnOk P w K mg base CX k f fd ps sp) : FnOkG P w K mg base CX k f fd ps sp :=
  ⟨F.len, fun A outer s H args us vs Q E hr _ => F.run A outer s H args us vs Q E hr⟩
section
variable {P : Program} {w : World} {mg : Str → Option Value} {base : Heap} {x qual : Str} {params : Arguments} {body : List Stmt} {scope : Scope} {f : Addr} {fd : FuncData} {T : Tb} {k : Nat}
theorem fn_sbG {p : He.Defn} {N ps : List Str} {g : SF} (F : FunD T.K x qual params body scope [] [] (He.fAd T.K p) fd) (S : FnScope N ps scope)
    (hb : ∀ (A : Around) (outer : List Env) (s : Shared) (H : Hp) (E : XK), Room k (A.deeper (envOfC qual scope s.heap.objs.size (He.fAd T.K p) (.ref (He.codeOf T.K p)))) → (A.deeper (envOfC qual scope s.heap.objs.size (He.fAd T.K p) (.ref (He.codeOf T.K p)))).guards = some [] →
      PSs (bX P w T.K mg base N qual scope (He.fAd T.K p) (.ref (He.codeOf T.K p)) A outer s H E) body (rdS T (eW E) g)) :
    FnOkG P w T.K mg base (L2.CX P w) (k + 1) (He.fAd T.K p) fd ps (spM T (fnM N.length g) ps.length) := by
  obtain ⟨oc, od, dV, kV, doc, pm, an, cdv, ct, osl, rfl, lk, hcd, _, _⟩ := F.ex
  obtain ⟨c, rfl⟩ := He.codeIn_ref hcd
  have ec := He.codeOf_eq (p := p) lk rfl
  refine ⟨fun vs H Q E ⟨φ, S0, ds, o, _, r, l, _⟩ => by rw [← r.length, l], fun A outer s H args us vs Q E room quiet e0 bind rel wish => ?_⟩
  obtain ⟨φ, S0, ds, o, R, r, l, eM, q⟩ := wish
  have many : vs.length = ps.length := by rw [← r.length, l]
  have inK : T.K.In s.heap := e0.mod.kin.keeps fun b o e => (e0.bs b o e).1
  have noLim : s.heap.NoLimit := e0.mod.nolimit.keeps fun b o e => (e0.bs b o e).1
  have kinds : ∀ y ∈ ps.zip us, scope.names.lookup y.1 = some .local ∨ (scope.names.lookup y.1 = some .cell ∧ ((cellsFrom (s.heap.objs.size + 1) scope.names []).lookup y.1).isSome = true) := fun ⟨n, v⟩ hy =>
    (S.par n (List.of_mem_zip hy).1).imp id fun z => ⟨z, PySem.W.cellsFrom_some _ _ _ (.inl z)⟩
  subst ec
  refine codeAny_call_function room.depth (inK _ _ lk) rfl S.co S.gen rfl (PySem.W.codeRec_of inK hcd) (bind _ _ _ _ ?_)
  refine wpAny_newFunctionEnv_cells S.kind kinds fun env he s1 started => ?_
  subst he
  refine ⟨noLim.keeps started.toInCall.keep, codeAny_func ?_⟩
  have start1 : L2.Inv (bX P w T.K mg base N qual scope (He.fAd T.K p) (.ref (He.codeOf T.K p)) A outer s H E) [] (L2.start N vs) H s1 := inv_start S room.hd e0 many rel started
  have wish1 : rdS T (eW E) g { nx := fun _ H' => Q .non H', rt := Q } (L2.start N vs) H := by
    unfold fnM at eM
    cases e1 : g (ini N.length ds) S0 with
    | none => rw [e1] at eM; cases eM
    | some z =>
      obtain ⟨fl, S1⟩ := z
      rw [e1] at eM
      refine ⟨φ, S0, ini N.length ds, fl, S1, R, ini_rsl r, e1, ?_⟩
      cases fl with
      | rt d => cases eM; exact q
      | nx τ => cases eM; exact fun φ' H' σ' E1 R1 _ => q φ' H' .non E1 R1 rfl
      | xx xn τ => cases eM; exact fun φ' H' σ' d E1 R1 _ hx => q φ' H' d E1 R1 hx
      | bk τ => cases eM
      | ct τ => cases eM
  refine wpAny_mono ((hb A outer s H E (room.deeper _) quiet).run [] s1 (L2.start N vs) H _ start1 wish1) (fun fl s' done => ?_) fun e s' done => done
  have close : ∀ {σ' : L2.St} {H' : Hp} {v : V} {u : Value}, L2.Inv (bX P w T.K mg base N qual scope (He.fAd T.K p) (.ref (He.codeOf T.K p)) A outer s H E) [] σ' H' s' → RelV v u → Q v H' → CE outer P w H s Q u s' := fun {σ' H' v u} J rv qv => ⟨v, H', J.os, J.bare, J.base, J.hok, rv, qv⟩
  cases fl with
  | ret u =>
    obtain ⟨v, σ', H', J, rv, qv⟩ := done
    exact close J rv qv
  | next =>
    obtain ⟨σ', H', J, qv⟩ := done
    exact close (v := V.non) (u := Value.none) J rfl qv
  | brk =>
    obtain ⟨_, _, _, qv⟩ := done
    exact False.elim qv
  | cont =>
    obtain ⟨_, _, _, qv⟩ := done
    exact False.elim qv
end
section
variable {X : Cx} {T : Tb} {W : WX} {pos : Pos} {e : Expr} {es : List Expr} {ra : AF}
theorem d_callG {k n : Nat} {f : Addr} {fd : FuncData} {ps : List Str} {m : List D → M D} {x : Str} {p : Pos} (F : FnOkG X.prog X.w X.K X.mg X.base (L2.CX X.prog X.w) k f fd ps (spM T m n)) (hr : Room k X.A) (quiet : X.A.guards = some []) (hm : X.mg x = some (.ref f)) (hk : PySem.W.keepIn X.K (.ref f) = true) (hb : Binds X.K fd ps [])
    (tk : Takes X W) (ha : PA X (e :: es) (rdA T W ra)) (hg : Gl X x := by rfl) (hdb : (x == ("__debug__" : Str)) = false := by decide) (he : starEach (e :: es) X.env = (false, eval e X.env) :: starEach es X.env := by rfl) (hpl : (backTo pos (starEach es X.env)).any (·.1) = false := by rfl) :
    PE X (.Call (.Name x p) (e :: es) [] pos) (rdE T W (eCl m n ra)) := by
  refine ⟨fun pins s σ H Q I h => ?_⟩
  obtain ⟨φ, S, τ, o, R, r, eq, q⟩ := h
  have args : rdA T W ra σ H fun vs H1 => spM T m n vs H1 Q (fun c d H' => W c d σ H') := by
    refine rdA_bnd R r eq q fun ds S1 vs H1 φ1 E1 R1 r1 e1 q1 => ?_
    split at e1
    · rename_i hl
      exact ⟨φ1, S1, ds, o, R1, r1, hl, e1, q1⟩
    · cases e1
  refine wpAny_Call_Name_kw (ld_glob I hg hm ?_ hdb)
  refine PySem.W.callWith_K (h₀ := X.base) I.ok.mod.kin hk (thn (ha.run pos pins s σ H _ I args) fun us s1 ⟨vs, H1, I1, rv, wish⟩ => ⟨I1.kIn, ?_⟩) he hpl
  have hl : us.length = ps.length := by rw [← rv.length]; exact F.len _ _ _ _ wish
  have b := hb s1 us I1.kIn (by rw [List.append_nil]; exact hl)
  rw [List.append_nil] at b
  refine wpAny_call (codeAny_mono (F.run X.A X.stack s1 H1 ⟨us, []⟩ us vs Q _ hr quiet I1.env0 b rv wish) fun r2 s' hq => ?_)
  cases r2 with
  | error e2 => exact passAt tk σ pins H1 s1 e2 s' I1 hq
  | ok fl =>
    cases fl with
    | ret u => exact I1.after hq
    | next => exact False.elim hq
    | brk => exact False.elim hq
    | cont => exact False.elim hq
end
/-- a def that may be called by its name where no print is under way -/
def CalG (P : Program) (w : World) (mg : Str → Option Value) (base : Heap) (T : Tb) (k n : Nat) (x : Str) (m : List D → M D) : Prop :=
  ∃ f fd ps, mg x = some (.ref f) ∧ PySem.W.keepIn T.K (.ref f) = true ∧ Binds T.K fd ps [] ∧ FnOkG P w T.K mg base (L2.CX P w) k f fd ps (spM T m n)
theorem cal_ofG {P : Program} {w : World} {mg : Str → Option Value} {base : Heap} {x qual : Str} {params : Arguments} {body : List Stmt} {scope : Scope} {fd : FuncData} {T : Tb} {k : Nat} {p : He.Defn} {N ps : List Str} {g : SF}
    (F : FunD T.K x qual params body scope [] [] (He.fAd T.K p) fd) (S : FnScope N ps scope) {y : Str} (hm : mg y = some (.ref (He.fAd T.K p)))
    (bnd : ∀ (kV doc pm : Value) (an : Option Addr) (cdv ct : Value) (us : List Value), us.length = ps.length → bindArgs (PySem.W.fnOf x qual params body scope .none kV doc pm an cdv ct) ⟨us, []⟩ = pure (ps.zip us))
    (hb : ∀ (A : Around) (outer : List Env) (s : Shared) (H : Hp) (E : XK), Room k (A.deeper (envOfC qual scope s.heap.objs.size (He.fAd T.K p) (.ref (He.codeOf T.K p)))) → (A.deeper (envOfC qual scope s.heap.objs.size (He.fAd T.K p) (.ref (He.codeOf T.K p)))).guards = some [] →
      PSs (bX P w T.K mg base N qual scope (He.fAd T.K p) (.ref (He.codeOf T.K p)) A outer s H E) body (rdS T (eW E) g)) : CalG P w mg base T (k + 1) ps.length y (fnM N.length g) :=
  ⟨_, fd, ps, hm, F.kp, F.bindsN bnd, fn_sbG F S hb⟩
theorem d_callCG {X : Cx} {T : Tb} {W : WX} {pos : Pos} {e : Expr} {es : List Expr} {ra : AF} {k n : Nat} {m : List D → M D} {x : Str} {p : Pos} (C : CalG X.prog X.w X.mg X.base T k n x m) (hK : T.K = X.K) (hr : Room k X.A) (quiet : X.A.guards = some []) (tk : Takes X W) (ha : PA X (e :: es) (rdA T W ra)) (hg : Gl X x := by rfl)
    (hdb : (x == ("__debug__" : Str)) = false := by decide) (he : starEach (e :: es) X.env = (false, eval e X.env) :: starEach es X.env := by rfl) (hpl : (backTo pos (starEach es X.env)).any (·.1) = false := by rfl) :
    PE X (.Call (.Name x p) (e :: es) [] pos) (rdE T W (eCl m n ra)) := by
  obtain ⟨f, fd, ps, hm, hk, hb, F⟩ := C
  rw [hK] at hk hb F
  exact d_callG F hr quiet hm hk hb tk ha hg hdb he hpl
end Sb
end
section
set_option Elab.async false
set_option linter.all false
set_option maxRecDepth 100000
set_option maxHeartbeats 4000000
namespace Sb
open PySem PySem.Spec PyProof.Rows L2
end Sb
end
section
set_option Elab.async false
set_option linter.all false
set_option maxRecDepth 100000
set_option maxHeartbeats 4000000
namespace Sb
open PySem PySem.Spec PyProof.Rows L2
section
variable {X : Cx} {T : Tb}
/-! ## all(a list of truths) -/
/-! ## clear, reverse, extend -/
def gExtend : GM := fun x ds S => match x, ds with
  | .loc n, [.loc m] => (listD S (.loc n)).bind fun es => (listD S (.loc m)).bind fun fs => if es.length + fs.length ≤ sizeLine then some (.non, S.set n (.lst (es ++ fs))) else none
  | _, _ => none
theorem fin_put {φ : List Addr} {S : Sto} {H : Hp} {n : Nat} {a : Addr} {es : List D} {vs us : List V} {Q : VK} (f : Fin T φ H (some (.non, S.set n (.lst es))) Q) (R : Rel T φ S H) (hn : φ[n]? = some a) (hs : n < S.length) (ha : H a = some (.lst us)) (r : RDs T H φ es vs) : Q .non (upd H a (.lst vs)) := by
  obtain ⟨d, S', ed, q⟩ := f
  cases ed
  have E := Ext.put (φ := φ) (u := .lst vs) (List.mem_of_getElem? hn) ha
  obtain ⟨R2, _⟩ := R.put (o := .lst es) (u := .lst vs) hn hs ⟨_, upd_same, r.ext E _ _⟩
  exact q φ _ _ E R2 rfl
theorem m_extend : MtR X "list.extend" (rGM T gExtend) := MtR.imp mt_extend fun x xs H Q h => by
  obtain ⟨φ, S, d, ds, R, r, rs, f⟩ := h
  unfold gExtend at f
  split at f
  · rename_i n m
    cases e : listD S (.loc n) with
    | none => rw [e] at f; obtain ⟨_, _, z, _⟩ := f; cases z
    | some es =>
      rw [e] at f
      simp only [Option.bind_some] at f
      cases e2 : listD S (.loc m) with
      | none => rw [e2] at f; obtain ⟨_, _, z, _⟩ := f; cases z
      | some fs =>
        rw [e2] at f
        simp only [Option.bind_some] at f
        split at f
        · rename_i hz
          obtain ⟨m1, p, vs, ee, rfl, hS, hφ, hH, s⟩ := list_sq R r e
          cases ee
          obtain ⟨v, l, rfl, r1, r2⟩ := rs
          cases r2
          obtain ⟨m2, p2, vs2, ee2, rfl, hS2, hφ2, hH2, s2⟩ := list_sq R r1 e2
          exact ⟨p, p2, vs, vs2, rfl, rfl, hH, hH2, by rw [← s.length, ← s2.length]; exact hz, fin_put f R hφ (mem_lt hS) hH (s.app s2)⟩
        · obtain ⟨_, _, z, _⟩ := f; cases z
  · obtain ⟨_, _, z, _⟩ := f; cases z
end
end Sb
end
section
set_option Elab.async false
set_option linter.all false
set_option maxRecDepth 100000
set_option maxHeartbeats 4000000
namespace Sb
open PySem PySem.Spec PyProof.Rows L2
/-! ## l.count(x) of data -/
end Sb
end
section
set_option Elab.async false
set_option linter.all false
set_option maxRecDepth 100000
namespace Sb
open PySem PySem.Spec PyProof.Rows L2
end Sb
end
section
set_option Elab.async false
set_option linter.all false
set_option maxRecDepth 100000
set_option maxHeartbeats 4000000
namespace Sb
open PySem PySem.Spec PyProof.Rows L2
section
variable {X : Cx} {T : Tb} {W : WX} {pos : Pos} {e : Expr} {fa : EF}
/-! ## xs[i], ys[j] = a, b -/
end
end Sb
end
section
set_option Elab.async false
set_option linter.all false
set_option maxRecDepth 100000
set_option maxHeartbeats 4000000
namespace Sb
open PySem PySem.Spec PyProof.Rows L2
/-! ## texts alike, whatever signs they have -/
end Sb
end
section
set_option Elab.async false
set_option linter.all false
set_option maxRecDepth 100000
namespace Sb
open PySem PySem.Spec PyProof.Rows L2
end Sb
end
section
set_option Elab.async false
set_option linter.all false
set_option maxRecDepth 100000
namespace Sb
open PySem PySem.Spec PyProof.Rows L2
end Sb
end
section
set_option Elab.async false
set_option linter.all false
set_option maxRecDepth 100000
set_option maxHeartbeats 4000000
namespace Sb
open PySem PySem.Spec PyProof.Rows L2
/-! ## a def with a keyword-only parameter that has a default: def f(a, *, b=c) -/
section
variable {P : Program} {w : World} {mg : Str → Option Value} {base : Heap} {x qual : Str} {params : Arguments} {body : List Stmt} {scope : Scope} {f : Addr} {fd : FuncData} {T : Tb} {k : Nat} {dvs : List V} {kwv : List (Str × V)}
end
section
variable {X : Cx} {T : Tb} {W : WX} {pos : Pos} {e e2 : Expr} {ra rb : AF}
end
end Sb
end
section
set_option Elab.async false
set_option linter.all false
set_option maxRecDepth 100000
set_option maxHeartbeats 4000000
namespace Sb
open PySem PySem.Spec PyProof.Rows L2
/-! ## dicts as values: {}, dict(pairs); what repr shows of them -/
section
variable {X : Cx} {T : Tb} {W : WX} {pos : Pos}
end
def kP : Key → PyData
  | .inl i => .int i
  | .inr x => .str x
def toPyR : Nat → Sto → D → Option PyData
  | 0, _, _ => none
  | n + 1, S, d => match d with
    | .non => some .none
    | .bl b => some (.bool b)
    | .int i => some (.int i)
    | .str x => some (.str x)
    | .tup ds => (ds.mapM (toPyR n S)).map .tuple
    | .loc k => match S[k]? with
      | some (.lst ds) => (ds.mapM (toPyR n S)).map .list
      | some (.dct kvs) => ((kvs.map (·.2)).mapM (toPyR n S)).map fun ps => .dict ((kvs.map fun kv => kP kv.1).zip ps)
      | _ => none
    | .scr _ => none
    | .fl ds => (ds.mapM (toPyR n S)).map .list
    | .exn _ => none
    | .rgo _ _ => none
    | .ntu _ => none
    | .fd ks ds => if ks.length = ds.length then (ds.mapM (toPyR n S)).map fun ps => .dict ((ks.map kP).zip ps) else none
section
variable {X : Cx} {T : Tb} {pins : List (Addr × Obj)} {σ : L2.St} {H : Hp} {s : Shared} {φ : List Addr} {S : Sto}
end
section
variable {X : Cx} {T : Tb}
end
end Sb
end
section
set_option Elab.async false
set_option linter.all false
set_option maxRecDepth 100000
set_option maxHeartbeats 4000000
namespace Sb
open PySem PySem.Spec PyProof.Rows L2
section
variable {X : Cx} {T : Tb} {W : WX} {pos : Pos} {kx vx tg iter : Expr} {fi : IF} {g : TF} {t : BF} {fk fv : EF} {scope : Scope} {own : List (Str × Nat)} {ifs : List Expr}
/-! ## {k: v for x in xs} -/
theorem KVs.ext {φ φ1 : List Addr} {H H1 : Hp} (e : Ext φ H φ1 H1) {kvs : List (Key × D)} {w : List (Key × V)} (h : KVs T H φ kvs w) : KVs T H1 φ1 kvs w := ⟨h.1, h.2.ext e _ _⟩
theorem KVs.len {φ : List Addr} {H : Hp} {kvs : List (Key × D)} {w : List (Key × V)} (h : KVs T H φ kvs w) : w.length = kvs.length := by
  have := congrArg List.length h.1
  simpa using this
variable {us : List Nat}
end
end Sb
end
section
set_option Elab.async false
set_option linter.all false
set_option maxRecDepth 100000
set_option maxHeartbeats 4000000
namespace Sb
open PySem PySem.Spec PyProof.Rows L2
/-! ## dicts: read, asked and written; told ones too -/
section
variable {X : Cx} {T : Tb} {W : WX} {pos : Pos} {a b e : Expr} {fe fa fb : EF}
def dctD (S : Sto) : D → Option (List (Key × D))
  | .loc n => match S[n]? with
    | some (.dct kvs) => some kvs
    | _ => none
  | .fd ks ds => if ks.length = ds.length then some (ks.zip ds) else none
  | _ => none
theorem dct_sq {φ : List Addr} {S : Sto} {H : Hp} {d : D} {v : V} {kvs : List (Key × D)} (R : Rel T φ S H) (r : RD T H φ d v) (h : dctD S d = some kvs) : ∃ a w, v = .ref a ∧ Rd H a (.dK w) ∧ KVs T H φ kvs w := by
  cases d with
  | loc n =>
    simp only [dctD] at h
    split at h
    · rename_i q hS
      cases h
      obtain ⟨p, rfl, hφ⟩ := r
      obtain ⟨ws, h1, h2, h3⟩ := R.obj _ _ p hS hφ
      exact ⟨p, ws, rfl, .inl h1, h2, h3⟩
    · cases h
  | fd ks ds =>
    simp only [dctD] at h
    split at h
    · rename_i hl
      cases h
      obtain ⟨p, ws, rfl, _, h1, h2, h3⟩ := r
      refine ⟨p, ws, rfl, h1, ?_, ?_⟩
      · rw [h2, List.map_fst_zip (by omega)]
      · rw [List.map_snd_zip (by omega)]; exact h3
    · cases h
  | _ => cases h
def gGetX : G2 := fun x y S => (dctD S x).bind fun kvs => (keyD y).bind fun k => (valD kvs k).bind fun d => some (d, S)
theorem d_dgetX (hu : X.A.units + 1 < cLine) (ha : PE X a (rdE T W fa)) (hb : PE X b (rdE T W fb)) (hs : ∀ ov iv, subscripted b false ov iv = operate [ov, iv] (getItem ov iv) := by intro _ _; rfl) : PE X (.Subscript a b pos) (rdE T W (eB gGetX fa fb)) :=
  (pe_dget hu ha hb hs).imp fun σ H Q h => by
    have h2 := two_of h
    obtain ⟨φ, S, τ, o, R, r, e, q⟩ := h
    refine rdE_bnd R r e q fun d1 S1 v1 H1 φ1 ⟨E1, R1, r1⟩ e1 q1 => ?_
    refine rdE_bnd R1 (r.ext E1) e1 q1 fun d2 S2 v2 H2 φ2 ⟨E2, R2, r2⟩ e2 q2 => ?_
    have f := Fin.of e2 q2
    simp only [gGetX] at f
    cases hS : dctD S2 d1 with
    | none => rw [hS] at f; obtain ⟨_, _, z, _⟩ := f; cases z
    | some kvs =>
      cases hk : keyD d2 with
      | none => rw [hS, hk] at f; obtain ⟨_, _, z, _⟩ := f; cases z
      | some k =>
        cases hv : valD kvs k with
        | none => rw [hS, hk] at f; simp only [Option.bind_some, hv] at f; obtain ⟨_, _, z, _⟩ := f; cases z
        | some d =>
          rw [hS, hk] at f
          simp only [Option.bind_some, hv] at f
          obtain ⟨p, ws, rfl, h1, kk⟩ := dct_sq R2 (r1.ext E2 _ _) hS
          obtain ⟨v, h4, h5⟩ := KVs.val kk hv
          exact ⟨p, v, rfl, .inl ⟨ws, k, h1, keyD_ok r2 hk, h4.symm⟩, f.val R2 h5⟩
/-! ## sum(xs), gcd -/
end
end Sb
end
section
set_option Elab.async false
set_option linter.all false
set_option maxRecDepth 100000
set_option maxHeartbeats 4000000
/-! min(xs, default=d) of a list of whole numbers. -/
namespace Sb
open PySem PySem.Spec PyProof.Rows L2
section
variable {X : Cx} {T : Tb} {W : WX} {pos kp : Pos} {e : Expr} {ra : AF}
end
end Sb
end
section
set_option Elab.async false
set_option linter.all false
set_option maxRecDepth 100000
set_option maxHeartbeats 4000000
/-! What a law's head observes: the defs, the facts, sys.modules, the classes of errors, gcd, the tables of lambdas. -/
namespace Sb
open PySem PySem.Spec PyProof.Rows L2
def excB (K : PySem.W.Frag) (D : Addr) : Bool := decide (PySem.W.findIn K (.ref D) "__getattribute__" = some (some (.builtin "BaseException.__getattribute__"))) && (decide (PySem.W.findIn K (.ref D) "__getattr__" = some none) && (decide (PySem.W.subIn K (.ref D) (.type "BaseException") = some true) && (PySem.W.hasDictIn K D &&
  (decide (PySem.W.findIn K (.ref D) "__class__" = some (some (.builtin "object.__class__"))) && (decide (PySem.W.specialIn K (.builtin "object.__class__") "__get__" = some (some (.builtin "getset_descriptor.__get__"))) && (decide (PySem.W.takesIn K (.builtin "object.__class__") = some true) && decide (PySem.W.mroIn K D (.type "object") = some true)))))))
/-! ## what the head tells besides: where sys.modules stands, how the classes of errors lie -/
def sysB (g : Addr → Option Obj) : Bool := match g sysModules with
  | some ⟨_, _, .dict _ _, _⟩ => true
  | _ => false
theorem sysB_of {g : Addr → Option Obj} (h : sysB g = true) : ∃ o es ep, g sysModules = some o ∧ o.data = .dict es ep := by
  unfold sysB at h
  split at h
  · rename_i es ep sl q
    exact ⟨_, es, ep, q, rfl⟩
  · cases h
def hookS (n : Nat) (fa : List He.Fa) (fn : List He.DefD) (tf : List He.Defn) (ex : PySem.W.Frag → Bool) : PySem.W.Hook where
  α := He.AlX × Bool
  obs := fun s => ((He.hookX n fa fn [] tf ex).obs s, sysB s.heap.get?)
  val := fun w => ((He.hookX n fa fn [] tf ex).val w, true)
  says := fun w h => (He.hookX n fa fn [] tf ex).says w h ∧ ∃ o es ep, h.get? sysModules = some o ∧ o.data = .dict es ep
  of := fun w s e => ⟨(He.hookX n fa fn [] tf ex).of w s (congrArg Prod.fst e), sysB_of (congrArg Prod.snd e)⟩
  keeps := fun w h h' ⟨a, o, es, ep, b, c⟩ k => ⟨(He.hookX n fa fn [] tf ex).keeps w h h' a k, o, es, ep, k _ _ b, c⟩
def obsS (n : Nat) (fa : List He.Fa) (fn : List He.DefD) (tf : List He.Defn) (ex : PySem.W.Frag → Bool) (g : Addr → Option Obj) : He.AlX × Bool := (He.obsX n fa fn [] tf ex g, sysB g)
theorem obsS_eq {n : Nat} {fa : List He.Fa} {fn : List He.DefD} {tf : List He.Defn} {ex : PySem.W.Frag → Bool} {g : Addr → Option Obj} {s : Shared} (h : ∀ a, g a = s.heap.get? a) : obsS n fa fn tf ex g = (hookS n fa fn tf ex).obs s := by
  have e : g = s.heap.get? := funext h
  rw [e] <;> rfl
/-! ### the classes of errors -/
def errN : List Str := ["NoDeck", "NoCard", "NoName", "NoDepth", "NoPlace", "Twice", "Full", "Last", "NoNumber", "NoStep", "NoLevel", "NotSettled", "NotLasting", "NoOrder", "NoNames", "NoRow", "NoDepths", "TooMany", "NoText", "NoForm", "NoneYet"]
/-- of the classes xs: each is an exception under DeckError and ValueError, and under no other one -/
def clsB (xs : List Str) (K : PySem.W.Frag) : Bool := xs.all fun x => excB K (He.ga K x) && (decide (PySem.W.kitOne K (.ref (He.ga K x)) (.ref (He.ga K "DeckError")) = some true) && (decide (PySem.W.kitOne K (.ref (He.ga K x)) (.type "ValueError") = some true) &&
  (decide (PySem.W.exmOne K (.ref (He.ga K x)) (.ref (He.ga K "DeckError")) = some true) && errN.all fun y => decide (PySem.W.kitOne K (.ref (He.ga K x)) (.ref (He.ga K y)) = some (decide (y = x))))))
end Sb
end
section
set_option Elab.async false
set_option linter.all false
set_option maxRecDepth 100000
set_option maxHeartbeats 4000000
namespace Sb
open PySem PySem.Spec PyProof.Rows L2
section
variable {X : Cx} {T : Tb} {W : WX} {pos : Pos}
variable {a b c e : Expr} {es : List Expr} {fa fb : EF} {ra : AF}
/-! ## products: numbers, a text so many times -/
def gMulX : G2 := fun x y S => match x, y with
  | .int i, .int j => if i.natAbs.log2 + j.natAbs.log2 < 1000000 then some (.int (i * j), S) else none
  | .str z, .int n => if 1 ≤ n ∧ n ≤ 1000 ∧ z.length ≤ 1000 then some (.str (Txt.mul z n), S) else none
  | _, _ => none
theorem mul_fits {z : Str} {n : Int} (h1 : 1 ≤ n) (h2 : n ≤ 1000) (h3 : z.length ≤ 1000) : MulOk z n := by
  refine ⟨?_, fun _ _ h => ?_, fun _ _ => ?_⟩
  · rw [Bool.or_eq_false_iff, decide_eq_false_iff_not, decide_eq_false_iff_not]
    constructor <;> omega
  · have h5 : (9223372036854775807 : Int) / 1000 ≤ (2 ^ 63 - 1) / n := by
      rw [Int.le_ediv_iff_mul_le (by omega)]
      have : (9223372036854775807 : Int) / 1000 = 9223372036854775 := by decide
      rw [this]
      have : (9223372036854775 : Int) * n ≤ 9223372036854775 * 1000 := Int.mul_le_mul_of_nonneg_left h2 (by decide)
      omega
    have : (9223372036854775807 : Int) / 1000 = 9223372036854775 := by decide
    omega
  · have h6 : z.length * n.toNat ≤ 1000 * 1000 := Nat.mul_le_mul h3 (by omega)
    have hz := sizeLine_eq
    show decide (z.length * n.toNat > sizeLine) = false
    rw [decide_eq_false_iff_not]
    omega
theorem o_mulX : OpR X (binaryOp .Mult) (rG2 T gMulX) := by
  intro pins s σ H x y v u Q I rx ry h
  obtain ⟨φ, S, d1, d2, R, r1, r2, f⟩ := h
  unfold gMulX at f
  split at f
  · rename_i i j
    split at f
    · rename_i hc
      refine op_mulW pins s σ H x y v u Q I rx ry ?_
      cases r1; cases r2
      exact ⟨i, j, rfl, rfl, hc, f.val R rfl⟩
    · obtain ⟨_, _, z, _⟩ := f; cases z
  · rename_i z n
    split at f
    · rename_i hc
      cases r1; cases r2
      obtain ⟨t, rfl⟩ := rx
      obtain ⟨t2, rfl⟩ := ry
      exact SB.mul (mul_fits hc.1 hc.2.1 hc.2.2) fun t' k => ⟨.str (Txt.mul z n), H, I.tok k, ⟨t', rfl⟩, f.val R rfl⟩
    · obtain ⟨_, _, z, _⟩ := f; cases z
  · obtain ⟨_, _, z, _⟩ := f; cases z
/-! ## divmod -/
/-! ## is True, is not True -/
/-! ## slices of texts too -/
def gSlX : GS := fun x lo hi S => match x with
  | .str z => if z.length ≤ sizeLine then some (.str (cutS z lo hi), S) else none
  | x => gSl x lo hi S
theorem s_slX (hK : T.K = X.K) : SlR X (rGS T gSlX) := SlR.imp (SlR.or (s_sl (T := T) hK) sl_str) fun x lo hi H Q h => by
  obtain ⟨φ, S, d, R, r, f⟩ := h
  cases d with
  | str z =>
    cases r
    simp only [gSlX] at f
    split at f
    · rename_i hl
      exact .inr ⟨z, rfl, hl, f.val R rfl⟩
    · obtain ⟨_, _, z, _⟩ := f; cases z
  | _ => exact .inl ⟨φ, S, _, R, r, f⟩
def eSlX (fe : EF) (lo hi : OF) : EF := fun τ => (fe τ).bnd fun x => (lo τ).bnd fun l => (hi τ).bnd fun u S => lft (gSlX x l u S)
theorem d_slX (hK : T.K = X.K) {lo hi : Option Expr} {p2 : Pos} {fl fh : OF} (he : PE X e (rdE T W fa)) (hl : PO X lo (rdO T W fl)) (hu : PO X hi (rdO T W fh)) : PE X (.Subscript e (.Slice lo hi none p2) pos) (rdE T W (eSlX fa fl fh)) :=
  (pe_slice (s_slX (T := T) hK) he hl hu).imp fun σ H Q h => by
    obtain ⟨φ, S, τ, o, R, r, e, q⟩ := h
    refine rdE_bnd R r e q fun d1 S1 v1 H1 φ1 ⟨E1, R1, r1⟩ e1 q1 => ?_
    refine rdO_bnd R1 (r.ext E1) e1 q1 fun l S2 H2 φ2 E2 R2 e2 q2 => ?_
    refine rdO_bnd R2 ((r.ext E1).ext E2) e2 q2 fun u S3 H3 φ3 E3 R3 e3 q3 => ?_
    exact ⟨φ3, S3, d1, R3, (r1.ext E2 _ _).ext E3 _ _, Fin.of e3 q3⟩
theorem eSlX_ok {fe : EF} {lo hi : OF} {τ : Sl} {x d : D} {a b : Option Int} {S S1 S2 S3 S4 : Sto} (h1 : fe τ S = some (.ok x S1)) (h2 : lo τ S1 = some (.ok a S2)) (h3 : hi τ S2 = some (.ok b S3)) (h4 : gSlX x a b S3 = some (d, S4)) : eSlX fe lo hi τ S = some (.ok d S4) := by
  simp only [eSlX, M.bnd, h1, h2, h3, h4, lft]
end
section
variable {X : Cx} {T : Tb} {W : WX} {pos : Pos}
/-! ## break, continue -/
end
/-! ## a walk over the script -/
section
variable {X : Cx} {T : Tb} {W : WX} {pos : Pos} {e tg : Expr} {fa : EF}
def iScr (fe : EF) : IF := fun τ => (fe τ).bnd fun d S => match d with
  | .scr ns => some (.ok ⟨ns.length, fun i _ => some ((ns.map D.int)[i]?)⟩ S)
  | d => (wkD S d).bind fun wk => some (.ok wk S)
theorem sv_scr (hK : T.K = X.K) {φ0 : List Addr} {H0 : Hp} {ns : List Int} {p : Addr} {n : Nat} (h : RD T H0 φ0 (.scr ns) (.ref p)) : Serves T φ0 H0 ⟨n, fun i _ => some ((ns.map D.int)[i]?)⟩ (Itl X.K p) := by
  intro φ S H i E R
  have h' := h.ext E _ _
  obtain ⟨a, e, s⟩ := h'
  cases e
  have k := s.seq
  rw [hK] at k
  have r : RDs T H φ (ns.map D.int) (ns.map V.int) := ints_rds ns
  refine ⟨fun d hd => ?_, fun hn => ?_⟩
  · have hd' : (ns.map D.int)[i]? = some d := Option.some.inj hd
    obtain ⟨v, h1, h2⟩ := r.get hd'
    refine ⟨⟨_, v, k, h1⟩, fun x H' y => ?_⟩
    obtain ⟨rfl, y⟩ := y
    exact ⟨.refl, R, rds_at r (y _ k) hd'⟩
  · have hn' : (ns.map D.int)[i]? = none := Option.some.inj hn
    exact ⟨_, k, rds_none r hn'⟩
theorem i_scr (hK : T.K = X.K) (he : PE X e (rdE T W fa)) : PI X tg e (rdI T W (iScr fa)) :=
  ((pi_list he).or (i_seq (tg := tg) he)).imp fun σ H Rr h => by
    obtain ⟨φ, S, τ, o, R, r, e, q⟩ := h
    have e0 := e
    unfold iScr M.bnd at e0
    cases e1 : fa τ S with
    | none => rw [e1] at e0; cases e0
    | some x =>
      rw [e1] at e0
      cases x with
      | ex x S1 =>
        cases e0
        exact .inl ⟨φ, S, τ, _, R, r, e1, q⟩
      | ok d S1 =>
        have go : (∀ ns, d ≠ .scr ns) → iSeq fa τ S = some o := fun hd => by
          have e2 := e0
          unfold iSeq M.bnd
          rw [e1]
          cases d <;> first | exact absurd rfl (hd _) | exact e2
        cases d with
        | scr ns =>
          cases e0
          refine .inl ⟨φ, S, τ, _, R, r, e1, fun φ1 H1 v E1 R1 r1 => ?_⟩
          have r1' := r1
          obtain ⟨p, rfl, s⟩ := r1
          have k := s.seq
          rw [hK] at k
          exact ⟨p, rfl, ⟨_, k⟩, q φ1 H1 _ E1 R1 (sv_scr hK r1')⟩
        | _ => exact .inr ⟨φ, S, τ, o, R, r, go (fun ns z => by cases z), q⟩
theorem iScr_scr {fe : EF} {τ : Sl} {ns : List Int} {S S1 : Sto} (h : fe τ S = some (.ok (.scr ns) S1)) : iScr fe τ S = some (.ok ⟨ns.length, fun i _ => some ((ns.map D.int)[i]?)⟩ S1) := by simp only [iScr, M.bnd, h]
theorem iScr_loc {fe : EF} {τ : Sl} {n : Nat} {ds : List D} {S S1 : Sto} (h : fe τ S = some (.ok (.loc n) S1)) (e : S1[n]? = some (.lst ds)) : iScr fe τ S = some (.ok ⟨ds.length, fun i S => (seqD S (.loc n)).map fun es => es[i]?⟩ S1) := by simp only [iScr, M.bnd, h, wkD, seqD, e, Option.map_some, Option.bind_some]
end
/-! ## str of a whole number -/
section
variable {X : Cx} {T : Tb}
end
end Sb
end
section
set_option Elab.async false
set_option linter.all false
set_option maxRecDepth 100000
set_option maxHeartbeats 4000000
/-! sorted(deck, key=lambda card: card[1]): the cards by a whole number at their second place. -/
namespace Sb
open PySem PySem.Spec PyProof.Rows L2 PySem.W
section
variable {X : Cx} {pins : List (Addr × Obj)} {σ : L2.St} {H : Hp} {s : Shared}
end
section
variable {T : Tb} {φ : List Addr} {S : Sto} {H : Hp}
end
/-! ## the law of the sort -/
section
variable {X : Cx} {T : Tb} {W : WX}
end
/-! ## the tables of a law's lambdas -/
end Sb
end
section
set_option Elab.async false
set_option linter.all false
set_option maxRecDepth 100000
set_option maxHeartbeats 4000000
/-! a def called with no arguments -/
namespace Sb
open PySem PySem.Spec PyProof.Rows L2
section
variable {X : Cx} {T : Tb} {W : WX} {pos : Pos}
end
end Sb
end
section
set_option Elab.async false
set_option linter.all false
set_option maxRecDepth 100000
set_option maxHeartbeats 4000000
/-! min(t) of a tuple of whole numbers. -/
namespace Sb
open PySem PySem.Spec PyProof.Rows L2
section
variable {X : Cx} {T : Tb}
end
end Sb
end
section
set_option Elab.async false
set_option linter.all false
set_option maxRecDepth 100000
set_option maxHeartbeats 4000000
namespace Sb
open PySem PySem.Spec PyProof.Rows L2
section
variable {X : Cx} {T : Tb} {W : WX}
/-! ## sorted of a list of whole numbers -/
end
end Sb
end
section
set_option Elab.async false
set_option linter.all false
set_option maxRecDepth 100000
set_option maxHeartbeats 4000000
/-! sorted of a list of whole numbers, of any length -/
namespace Sb
open PySem PySem.Spec PyProof.Rows L2 PySem.W
section
variable {X : Cx} {T : Tb} {W : WX}
end
end Sb
end
section
set_option Elab.async false
set_option linter.all false
set_option maxRecDepth 100000
set_option maxHeartbeats 4000000
namespace Sb
open PySem PySem.Spec PyProof.Rows L2
/-! ## list comprehensions of two clauses -/
section
variable {X : Cx} {T : Tb} {W : WX} {pos : Pos} {fi fi1 : IF} {g g1 : TF} {t t1 : BF} {fe : EF} {vs vs1 us us1 : List Nat}
theorem goC_serve {wk : Wk} {n m0 : Nat} {τ0 : Sl} {S0 S9 : Sto} {φ0 : List Addr} {H0 : Hp} {L : Addr} {σ : L2.St} {J : It} {done : Hp → Prop} (hus : ∀ k ∈ us, k ∈ vs) (R : Rel T φ0 S0 H0) (hL2 : φ0[n]? = some L) (r0 : RSl T H0 φ0 τ0 (wipe σ vs)) (sv : Serves T φ0 H0 wk J)
    (e : goC wk.nxt g t fe n τ0 m0 0 S0 = some S9) (hd : ∀ φ H, Ext φ0 H0 φ H → Rel T φ S9 H → done H) :
    ∃ W : Nat → Nat → Hp → Prop, (∃ m, W 0 m H0) ∧ ∀ i m H, W i m H → (J.stop i H ∧ done H) ∨ (J.go i H ∧ ∃ Nx : Hp → Prop, (∀ H', Nx H' → ∃ m', m' < m ∧ W (i + 1) m' H') ∧ ∀ x H', J.yld i H x H' → rdG T us g x (wipe σ vs) H' fun σ2 H2 => wipe σ2 vs = wipe σ vs ∧ rdT T W0 t σ2 H2 fun b H3 =>
      if b = true then rdE T W0 fe σ2 H3 fun y H4 => ∃ acc, H4 L = some (.lst acc) ∧ acc.length < sizeLine ∧ Nx (upd H4 L (.lst (acc ++ [y]))) else Nx H3) := by
  refine ⟨fun i m H => ∃ φ3 S3, Ext φ0 H0 φ3 H ∧ Rel T φ3 S3 H ∧ goC wk.nxt g t fe n τ0 m i S3 = some S9, ⟨m0, _, _, .refl, R, e⟩, ?_⟩
  rintro i m H3 ⟨φ3, S3, E3, R3, e3⟩
  cases m with
  | zero => cases e3
  | succ m =>
    unfold goC at e3
    obtain ⟨sgo, sst⟩ := sv φ3 S3 H3 i E3 R3
    cases hn : wk.nxt i S3 with
    | none => rw [hn] at e3; cases e3
    | some od =>
      rw [hn] at e3
      cases od with
      | none =>
        cases e3
        exact .inl ⟨sst hn, hd φ3 H3 E3 R3⟩
      | some d =>
        obtain ⟨go, yl⟩ := sgo d hn
        refine .inr ⟨go, fun H' => ∃ φ4 S4, Ext φ0 H0 φ4 H' ∧ Rel T φ4 S4 H' ∧ goC wk.nxt g t fe n τ0 m (i + 1) S4 = some S9, fun H' h => ⟨m, Nat.lt_succ_self m, h⟩, fun x H' y => ?_⟩
        obtain ⟨E4, R4, r4⟩ := yl x H' y
        simp only at e3
        cases hg1 : g d S3 τ0 with
        | none => rw [hg1] at e3; cases e3
        | some τ4 =>
          rw [hg1] at e3
          refine ⟨φ3, S3, τ0, d, τ4, R4, (r0.ext E3).ext E4, r4, hg1, fun σ' r' ks kl => ?_⟩
          refine ⟨(wipe_eq (fun k hk => ks k fun z => hk (hus k z)) kl).trans wipe_wipe, ?_⟩
          simp only at e3
          cases ht : t τ4 S3 with
          | none => rw [ht] at e3; cases e3
          | some ob =>
            rw [ht] at e3
            cases ob with
            | ex x S5 => cases e3
            | ok bb S5 =>
              refine ⟨φ3, S3, τ4, _, R4, r', ht, fun φ5 H5 E5 R5 => ?_⟩
              cases bb with
              | false => exact ⟨φ5, S5, (E3.trans E4).trans E5, R5, e3⟩
              | true =>
                rw [if_pos rfl]
                simp only at e3
                cases hf : fe τ4 S5 with
                | none => rw [hf] at e3; cases e3
                | some od =>
                  rw [hf] at e3
                  cases od with
                  | ex x S6 => cases e3
                  | ok d6 S6 =>
                    refine ⟨φ5, S5, τ4, _, R5, r'.ext E5, hf, fun φ6 H6 v6 E6 R6 r6 => ?_⟩
                    simp only at e3
                    split at e3
                    · rename_i acc hacc
                      split at e3
                      · rename_i hl
                        have hL6 : φ6[n]? = some L := E6.get (E5.get (E4.get (E3.get hL2)))
                        obtain ⟨vs6, k1, k2⟩ := R6.obj _ _ L hacc hL6
                        have E7 := Ext.put (φ := φ6) (u := .lst (vs6 ++ [v6])) (List.mem_of_getElem? hL6) k1
                        obtain ⟨R7, _⟩ := R6.put (o := .lst (acc ++ [d6])) (u := .lst (vs6 ++ [v6])) hL6 (mem_lt hacc) ⟨_, upd_same, (k2.app (RDs.one r6)).ext E7 _ _⟩
                        exact ⟨vs6, k1, by rw [← k2.length]; exact hl, φ6, _, (((E3.trans E4).trans E5).trans E6).trans E7, R7, e3⟩
                      · cases e3
                    · cases e3
def goC2 (nxt : Nat → Sto → Option (Option D)) (g : TF) (t : BF) (fi1 : IF) (g1 : TF) (t1 : BF) (fe : EF) (vs1 : List Nat) (n : Nat) (τ0 : Sl) : Nat → Nat → Sto → Option Sto
  | 0, _, _ => none
  | m + 1, i, S => match nxt i S with
    | none => none
    | some none => some S
    | some (some d) => match g d S τ0 with
      | none => none
      | some τ1 => match t τ1 S with
        | some (.ok false S1) => goC2 nxt g t fi1 g1 t1 fe vs1 n τ0 m (i + 1) S1
        | some (.ok true S1) => match fi1 τ1 S1 with
          | some (.ok wk1 S2) => match goC wk1.nxt g1 t1 fe n (wipeD τ1 vs1) (wk1.bound + 1) 0 S2 with
            | some S3 => goC2 nxt g t fi1 g1 t1 fe vs1 n τ0 m (i + 1) S3
            | none => none
          | _ => none
        | _ => none
def eLc2 (fi : IF) (g : TF) (t : BF) (fi1 : IF) (g1 : TF) (t1 : BF) (fe : EF) (vs vs1 : List Nat) : EF := fun τ S => match fi τ S with
  | none => none
  | some (.ex x S1) => some (.ex x S1)
  | some (.ok wk S1) => (goC2 wk.nxt g t fi1 g1 t1 fe vs1 S1.length (wipeD τ vs) (wk.bound + 1) 0 (S1 ++ [.lst []])).bind fun S2 => some (.ok (.loc S1.length) S2)
theorem lc2_of (hus : ∀ k ∈ us, k ∈ vs) (hus1 : ∀ k ∈ us1, k ∈ vs1) {σ : L2.St} {H : Hp} {Q : VK} (h : rdE T W (eLc2 fi g t fi1 g1 t1 fe vs vs1) σ H Q) : tLc2 (rdI T W fi) (rdG T us g) (rdT T W0 t) (rdI T W0 fi1) (rdG T us1 g1) (rdT T W0 t1) (rdE T W0 fe) vs vs1 σ H Q := by
  obtain ⟨φ, S, τ, o, R, r, e, q⟩ := h
  unfold eLc2 at e
  cases e1 : fi τ S with
  | none => rw [e1] at e; cases e
  | some x =>
    rw [e1] at e
    refine ⟨φ, S, τ, x, R, r, e1, ?_⟩
    cases x with
    | ex x S1 => cases e; exact q
    | ok wk S1 =>
      intro φ1 H1 J E1 R1 sv L hL
      simp only [Option.bind_eq_some_iff] at e
      obtain ⟨S9, e2, e3⟩ := e
      cases e3
      obtain ⟨R2, E2⟩ := R1.new (u := .lst []) (o := .lst []) hL ⟨[], upd_same, rfl⟩
      have hL2 : (φ1 ++ [L])[S1.length]? = some L := by rw [← R1.len]; simp
      have r0 := ((r.ext E1).ext E2).wipe vs
      refine ⟨fun i m H => ∃ φ3 S3, Ext (φ1 ++ [L]) (upd H1 L (.lst [])) φ3 H ∧ Rel T φ3 S3 H ∧ goC2 wk.nxt g t fi1 g1 t1 fe vs1 S1.length (wipeD τ vs) m i S3 = some S9, ⟨wk.bound + 1, _, _, .refl, R2, e2⟩, ?_⟩
      rintro i m H3 ⟨φ3, S3, E3, R3, e3⟩
      cases m with
      | zero => cases e3
      | succ m =>
        unfold goC2 at e3
        obtain ⟨sgo, sst⟩ := sv φ3 S3 H3 i (E2.trans E3) R3
        cases hn : wk.nxt i S3 with
        | none => rw [hn] at e3; cases e3
        | some od =>
          rw [hn] at e3
          cases od with
          | none =>
            cases e3
            exact .inl ⟨sst hn, q φ3 H3 _ ((E1.trans E2).trans E3) R3 ⟨L, rfl, E3.get hL2⟩⟩
          | some d =>
            obtain ⟨go, yl⟩ := sgo d hn
            refine .inr ⟨go, fun H' => ∃ φ4 S4, Ext (φ1 ++ [L]) (upd H1 L (.lst [])) φ4 H' ∧ Rel T φ4 S4 H' ∧ goC2 wk.nxt g t fi1 g1 t1 fe vs1 S1.length (wipeD τ vs) m (i + 1) S4 = some S9, fun H' h => ⟨m, Nat.lt_succ_self m, h⟩, fun x H' y => ?_⟩
            obtain ⟨E4, R4, r4⟩ := yl x H' y
            simp only at e3
            cases hg1 : g d S3 (wipeD τ vs) with
            | none => rw [hg1] at e3; cases e3
            | some τ4 =>
              rw [hg1] at e3
              refine ⟨φ3, S3, wipeD τ vs, d, τ4, R4, (r0.ext E3).ext E4, r4, hg1, fun σ' r' ks kl => ?_⟩
              refine ⟨(wipe_eq (fun k hk => ks k fun z => hk (hus k z)) kl).trans wipe_wipe, ?_⟩
              simp only at e3
              cases ht : t τ4 S3 with
              | none => rw [ht] at e3; cases e3
              | some ob =>
                rw [ht] at e3
                cases ob with
                | ex x S5 => cases e3
                | ok bb S5 =>
                  refine ⟨φ3, S3, τ4, _, R4, r', ht, fun φ5 H5 E5 R5 => ?_⟩
                  cases bb with
                  | false => exact ⟨φ5, S5, (E3.trans E4).trans E5, R5, e3⟩
                  | true =>
                    rw [if_pos rfl]
                    simp only at e3
                    cases hf : fi1 τ4 S5 with
                    | none => rw [hf] at e3; cases e3
                    | some od =>
                      rw [hf] at e3
                      cases od with
                      | ex x S6 => cases e3
                      | ok wk1 S6 =>
                        simp only at e3
                        cases hgo : goC wk1.nxt g1 t1 fe S1.length (wipeD τ4 vs1) (wk1.bound + 1) 0 S6 with
                        | none => rw [hgo] at e3; cases e3
                        | some S7 =>
                          rw [hgo] at e3
                          refine ⟨φ5, S5, τ4, _, R5, r'.ext E5, hf, fun φ6 H6 J1 E6 R6 sv1 => ?_⟩
                          exact goC_serve hus1 R6 (E6.get (E5.get (E4.get (E3.get hL2)))) (((r'.ext E5).ext E6).wipe vs1) sv1 hgo fun φ7 H7 E7 R7 => ⟨φ7, S7, (((E3.trans E4).trans E5).trans E6).trans E7, R7, e3⟩
variable {elt tg iter tg1 iter1 : Expr} {ifs ifs1 : List Expr} {scope : Scope} {own : List (Str × Nat)}
theorem s_setLc2F {i : Nat} {y : Str} {py spos : Pos} (hc : X.calm = true) (hN : X.N.Nodup) (hy : X.N[i]? = some y) (hyl : X.env.scope.names.lookup y = some .local)
    (hsw : swapsWith (.ListComp elt [⟨tg, iter, ifs, 0⟩, ⟨tg1, iter1, ifs1, 0⟩] scope pos) (some (.Name y py)) spos.line X.env = pure true) (hi : PI X tg iter (rdI T W fi)) (ok : BlkOk X.N X.env.scope scope own) (hv : ∀ i ∈ vs1, i ∈ own.map (·.2))
    (hg : ∀ (s : Shared) (H : Hp) (C : Addr) (cl : List (Str × Addr)) (fp : List Addr), PG (X.blk s H scope (compEnvC scope cl C X.env) fp) tg (rdG T us g))
    (ht : ∀ (s : Shared) (H : Hp) (C : Addr) (cl : List (Str × Addr)) (fp : List Addr), PTs (X.blk s H scope (compEnvC scope cl C X.env) fp) ifs (rdT T W0 t))
    (hi1 : ∀ (s : Shared) (H : Hp) (C : Addr) (cl : List (Str × Addr)) (fp : List Addr), PI (X.blk s H scope (compEnvC scope cl C X.env) fp) tg1 iter1 (rdI T W0 fi1))
    (hg1 : ∀ (s : Shared) (H : Hp) (C : Addr) (cl : List (Str × Addr)) (fp : List Addr), PG (X.blk s H scope (compEnvC scope cl C X.env) fp) tg1 (rdG T us1 g1))
    (ht1 : ∀ (s : Shared) (H : Hp) (C : Addr) (cl : List (Str × Addr)) (fp : List Addr), PTs (X.blk s H scope (compEnvC scope cl C X.env) fp) ifs1 (rdT T W0 t1))
    (he : ∀ (s : Shared) (H : Hp) (C : Addr) (cl : List (Str × Addr)) (fp : List Addr), PE (X.blk s H scope (compEnvC scope cl C X.env) fp) elt (rdE T W0 fe))
    (hus : ∀ k ∈ us, k ∈ own.map (·.2) := by decide) (hus1 : ∀ k ∈ us1, k ∈ vs1 := by decide) (hs : ∀ x, foldedSetIterable iter X.env x = pure x := by intro _; rfl) (hs1 : ∀ env x, foldedSetIterable iter1 env x = pure x := by intro _ _; rfl) :
    PS X (.Assign [.Name y py] (.ListComp elt [⟨tg, iter, ifs, 0⟩, ⟨tg1, iter1, ifs1, 0⟩] scope pos) spos) (rdS T W (sSet i (fz (eLc2 fi g t fi1 g1 t1 fe (own.map (·.2)) vs1)))) :=
  (ps_setLc2 hc hN hy hyl hsw hi ok hv hg ht hi1 hg1 ht1 he hs hs1).imp fun De σ H h => by
    obtain ⟨φ, S, τ, fl, S', R, r, e, q⟩ := h
    have h2 : rdE T W (fz (eLc2 fi g t fi1 g1 t1 fe (own.map (·.2)) vs1)) σ H (fun v H1 => De.nx (σ.set i (some v)) H1) := by
      refine rdE_sx R r e q fun d S1 v H1 φ1 ⟨E1, R1, r1⟩ e1 q1 => ?_
      cases e1
      exact q1 φ1 H1 _ .refl R1 ((r.ext E1).set i r1)
    exact lc2_of hus hus1 (fz_imp h2)
end
end Sb
end
section
set_option Elab.async false
set_option linter.all false
set_option maxRecDepth 100000
set_option maxHeartbeats 4000000
namespace Sb
open PySem PySem.Spec PyProof.Rows L2
/-! ## an exception that is caught and kept -/
/-- the object of a caught exception -/
abbrev kept (a : Addr) (oe : Obj) : HO := .frz oe (.own a)
section
variable {X : Cx} {x n y : Str} {c : Value} {i j : Nat} {body : List Stmt} {np pos pos' p1 p2 p3 : Pos} {tb : WX → TS} {Wout : WX}
end
end Sb
end
section
set_option Elab.async false
set_option linter.all false
set_option maxRecDepth 100000
set_option maxHeartbeats 4000000
namespace Sb
open PySem PySem.Spec PyProof.Rows L2
/-! ## the kept exception as a value -/
section
variable {X : Cx}
end
section
variable {X : Cx} {T : Tb} {W : WX} {pos : Pos} {e : Expr} {fa : EF}
/-! ### a tuple of classes -/
/-! ### try: .. except C as e: caught = e -/
end
end Sb
end
section
set_option Elab.async false
set_option linter.all false
set_option maxRecDepth 100000
set_option maxHeartbeats 4000000
namespace Sb
open PySem PySem.Spec PyProof.Rows L2
/-! ## l.index(x) of data, where x is there -/
end Sb
end
section
set_option Elab.async false
set_option linter.all false
set_option maxRecDepth 100000
namespace Sb
open PySem PySem.Spec PyProof.Rows L2
end Sb
end
section
set_option Elab.async false
set_option linter.all false
set_option maxRecDepth 100000
namespace Sb
open PySem PySem.Spec PyProof.Rows L2
end Sb
end
section
set_option Elab.async false
set_option linter.all false
set_option maxRecDepth 100000
set_option maxHeartbeats 4000000
namespace Sb
open PySem PySem.Spec PyProof.Rows L2
/-! ## enumerate of a list -/
/-- the list at a, each item in a new pair -/
def IteL (K : PySem.W.Frag) (a : Addr) : It :=
  ⟨fun i H => ∃ (xs : List V) (x : V), SqL K H a xs ∧ xs[i]? = some x, fun i H v H' => ∃ P x, v = .ref P ∧ H P = none ∧ H' = upd H P (.tup [.int (i : Nat), x]) ∧ ∀ xs, SqL K H a xs → xs[i]? = some x, fun i H => ∃ xs : List V, SqL K H a xs ∧ xs.length ≤ i⟩
theorem turn_enumL {P : Program} {w : World} {K : PySem.W.Frag} {elts : List Expr} {kk : Nat} {tpos : Pos} (a e it : Addr) :
    Turn P w K (.Tuple elts kk tpos) (IteL K a) [e, it] e (fun i h => (∃ old, IsEnum h e it ((i : Nat) : Int) old) ∧ h.IsListIter it a i ∧ e ≠ it) where
  mem := by simp
  obj := fun i h st b hb => by
    obtain ⟨⟨old, isE⟩, ⟨o, ho, hc, hd⟩, _⟩ := st
    have cases2 : b = e ∨ b = it := by simpa using hb
    rcases cases2 with z | z
    · rw [z]; exact ⟨_, isE, fun v q => nomatch q⟩
    · rw [z]; exact ⟨o, ho, fun v q => by rw [hd] at q; cases q⟩
  keep := fun i h h' st k => let ⟨⟨old, isE⟩, isI, ne⟩ := st; ⟨⟨old, k e (by simp) _ isE⟩, isI.at fun o q => k it (by simp) o q, ne⟩
  item := by
    intro X hP hw hK hc i pins s σ H E I hf st hg
    subst hP hw hK
    obtain ⟨⟨old, isE⟩, isI, ne⟩ := st
    obtain ⟨xs, x, hq, hx⟩ := hg
    obtain ⟨its, rv, isP, hz⟩ := I.list hq
    have isT := isP.isList
    obtain ⟨u, hu, ru⟩ := rv.get hx
    have ltE : e < s.heap.objs.size := Heap.lt_size isE
    have ltI : it < s.heap.objs.size := by obtain ⟨_, q, _⟩ := isI; exact Heap.lt_size q
    have neA : a ≠ it := by
      rintro rfl
      obtain ⟨o1, h1, h2, _⟩ := isI
      obtain ⟨o2, h3, h4, _⟩ := isT
      rw [h1] at h3
      cases h3
      rw [h2] at h4
      exact absurd h4 (by decide)
    have neEA : e ∉ [it, a] := by
      intro z
      rcases List.mem_cons.mp z with z | z
      · exact ne z
      · have z' : e = a := by simpa using z
        rw [← z'] at isT
        obtain ⟨o2, h3, h4, _⟩ := isT
        rw [isE] at h3
        have h5 := Option.some.inj h3
        rw [← h5] at h4
        have h6 : Value.type "enumerate" = Value.type "list" := h4
        injection h6 with h7
        exact absurd h7 (by decide)
    have ltn : i < its.toArray.size := by
      have := (List.getElem?_eq_some_iff.mp hu).1
      simpa using this
    refine wpAny_pyNext_enum_itemD (Draws.list (A := X.A.in1) (I.ok.hd hc) it a neA its.toArray) isE ⟨isI, isT⟩ ltn ne neEA fun y h' tk hy hout hst hnew hsz hk => ?_
    obtain ⟨hit', _⟩ := hst
    have ey : y = u := by
      have : its[i]? = some y := by simpa using hy
      rw [hu] at this
      exact (Option.some.inj this).symm
    subst ey
    refine ⟨_, rfl, wpAny_letOwnedTupleGo_enum (s := { s with heap := h', toks := tk + 1 }) hout fun h'' isE' sb => ?_⟩
    have hnew2 : h''.get? s.heap.objs.size = some { cls := .type "tuple", data := .seq #[.int i tk, y] } := (sb.2 _ (Nat.ne_of_gt ltE)).trans hnew
    have okN : ObjOk X.prog X.w (upd H s.heap.objs.size (.tup [.int (i : Nat), x])) h'' s.heap.objs.size (.tup [.int (i : Nat), x]) :=
      ⟨by show 2 ≤ sizeLine; decide, [.int i tk, y], .cons ⟨_, rfl⟩ (.cons ru .nil), ⟨_, hnew2, rfl, _, rfl⟩⟩
    have I1 : L2.Inv X pins σ (upd H s.heap.objs.size (.tup [.int (i : Nat), x])) { s with heap := h'', toks := tk + 1 } :=
      I.turnedNew (ch := [e, it]) (fun b ob hb q => (sb.2 b (fun z => hb (by simp [z]))).trans (hk b ob (fun z => hb (by simp [z])) (fun z => hb (by simp [z])) q)) hf (Nat.le_refl _) okN
    refine ⟨.ref s.heap.objs.size, _, I1, rfl, ⟨_, x, rfl, I.hok.fresh (Nat.le_refl _), rfl, fun ys hy => by rw [I.list_inj hy hq]; exact hx⟩, ⟨⟨y, ?_⟩, hit'.at fun o q => (sb.2 it (Ne.symm ne)).trans q, ne⟩, fun b hb => ?_⟩
    · rw [show ((i + 1 : Nat) : Int) = (i : Int) + 1 by omega]
      exact isE'
    · have ltb : b < s.heap.objs.size := by
        have cases2 : b = e ∨ b = it := by simpa using hb
        rcases cases2 with z | z
        · rw [z]; exact ltE
        · rw [z]; exact ltI
      rw [upd_ne (Nat.ne_of_lt ltb)]
      exact (hf b hb).1
  done := by
    intro X hP hw hK hc i pins s σ H E I hf st hg
    subst hP hw hK
    obtain ⟨⟨old, isE⟩, isI, ne⟩ := st
    obtain ⟨xs, hq, hx⟩ := hg
    obtain ⟨its, rv, isP, hz⟩ := I.list hq
    have isT := isP.isList
    obtain ⟨f0, f1, f2, f3, f4, f5⟩ := hf it (by simp)
    have len := rv.length
    have neA : a ≠ it := by
      rintro rfl
      obtain ⟨o1, h1, h2, _⟩ := isI
      obtain ⟨o2, h3, h4, _⟩ := isT
      rw [h1] at h3
      cases h3
      rw [h2] at h4
      exact absurd h4 (by decide)
    unfold pyNext
    have tyE : s.TypeIs (.ref e) "enumerate" := ⟨_, isE, rfl⟩
    refine wpAny_bind (wpAny_attempt (wpAny_callSpecial?_slot (name := Str.ofString "__next__") tyE F.slot_enumerate_next
      (wpAny_call_entry F.slot_enumerate_next tyE F.entry_enumerate_next ?_ (F.args_enumerate_next_1 _))))
    show wpAny _ _ (field (.ref e) 2 >>= _) _ _ _
    refine wpAny_bind (wpAny_field isE rfl (x := .ref it) rfl ?_)
    refine wpAny_bind (wpAny_nextOf_list_end (I.ok.hd hc) isI isT (by simp; omega) fun h' xv eb hxv => ?_)
    obtain ⟨ob, hob, hcl⟩ := hxv
    refine wpAny_bind (wpAny_isInstance (T := "StopIteration") (b := true) ⟨ob, hob, hcl⟩ isSubtype_stop ?_)
    exact wpAny_pure ⟨rfl, I.turned (t' := s.toks) (fun b o hb q => eb b o hb q) f0 f1 f3 f4 f5⟩
  self := fun A i s Q E st h => let ⟨⟨_, isE⟩, _⟩ := st; wpAny_pyIter_enum isE h
def iEnumL (K : PySem.W.Frag) (ta : TA) : TI := fun σ H R => ta σ H fun vs H1 => ∃ a xs, vs = [.ref a] ∧ SqL K H1 a xs ∧ R (IteL K a) H1
theorem pi_enumL {X : Cx} {e : Expr} {ta : TA} {p pos tpos : Pos} {elts : List Expr} {kk : Nat} (hg : Gl X "enumerate") (hm : X.mg "enumerate" = none) (ha : PA X [e] ta) (hs : starEach [e] X.env = [(false, eval e X.env)] := by rfl) :
    PI X (.Tuple elts kk tpos) (.Call (.Name "enumerate" p) [e] [] pos) (iEnumL X.K ta) := by
  refine ⟨fun pins s σ H Rr I hh => ?_⟩
  refine Call_ (ld_blt I hg hm boot_enumerate (PyProof.Rows.callWith_type1 (thn (ha.run pos pins s σ H _ I hh) fun us s1 ⟨vs, H1, I1, r1, q1⟩ => ?_) hs rfl))
  obtain ⟨a, xs, ex, hq, q⟩ := q1
  subst ex
  cases r1 with
  | cons r rr =>
    cases rr
    cases r
    obtain ⟨its, rv, isP, hz⟩ := I1.list hq
    have isT := isP.isList
    refine call_enumerate_list isT fun h' isE isI _ hk => wpAny_pyIter_enum isE ?_
    have I2 : L2.Inv X pins σ H1 { s1 with heap := h' } := I1.kept (t' := s1.toks) hk
    refine ⟨s1.heap.objs.size + 1, [s1.heap.objs.size + 1, s1.heap.objs.size], _, _, H1, rfl, I2, turn_enumL a (s1.heap.objs.size + 1) s1.heap.objs.size, ⟨⟨.none, isE⟩, isI, Nat.succ_ne_self _⟩, fun b hb => ?_, q⟩
    have above : s1.heap.objs.size ≤ b := by
      rcases (show b = s1.heap.objs.size + 1 ∨ b = s1.heap.objs.size by simpa using hb) with z | z
      · rw [z]; exact Nat.le_add_right _ _
      · rw [z]; exact Nat.le_refl _
    exact I1.fpOk above (I1.hok.fresh above)
end Sb
end
section
set_option Elab.async false
set_option linter.all false
set_option maxRecDepth 100000
set_option maxHeartbeats 4000000
namespace Sb
open PySem PySem.Spec PyProof.Rows L2 PySem.W
section
variable {X : Cx} {T : Tb} {W : WX} {pos : Pos} {e : Expr} {ra : AF}
/-! ## enumerate of a tuple or of a told list -/
def iEnX (ra : AF) : IF := fun τ => (ra τ).bnd fun ds S => match ds with
  | [.tup es] => some (.ok (wkE es) S)
  | [.fl es] => some (.ok (wkE es) S)
  | _ => none
theorem i_enumX {p tpos : Pos} {elts : List Expr} {kk : Nat} (hK : T.K = X.K) (hg : Gl X "enumerate") (hm : X.mg "enumerate" = none) (ha : PA X [e] (rdA T W ra)) (hs : starEach [e] X.env = [(false, eval e X.env)] := by rfl) :
    PI X (.Tuple elts kk tpos) (.Call (.Name "enumerate" p) [e] [] pos) (rdI T W (iEnX ra)) :=
  ((i_enum (tpos := tpos) (elts := elts) (kk := kk) (p := p) hK hg hm ha hs).or (pi_enumL hg hm ha hs)).imp fun σ H Rr h => by
    obtain ⟨φ, S, τ, o, R, r, e, q⟩ := h
    have e0 := e
    unfold iEnX M.bnd at e0
    cases e1 : ra τ S with
    | none => rw [e1] at e0; cases e0
    | some x =>
      rw [e1] at e0
      have left : (∀ es S1, x ≠ .ok [.fl es] S1) → iEn ra τ S = some o := fun hx => by
        unfold iEn M.bnd
        rw [e1]
        cases x with
        | ex x S1 => exact e0
        | ok ds S1 =>
          revert e0 hx
          cases ds with
          | nil => exact fun z _ => z
          | cons d l =>
            cases l with
            | nil => cases d <;> first | exact fun z _ => z | exact fun _ hx => absurd rfl (hx _ _)
            | cons d2 l2 => exact fun z _ => by cases d <;> exact z
      by_cases hx : ∃ es S1, x = .ok [.fl es] S1
      · obtain ⟨es, S1, rfl⟩ := hx
        cases e0
        refine .inr ⟨φ, S, τ, _, R, r, e1, fun φ1 H1 vs E1 R1 r1 => ?_⟩
        obtain ⟨v, l, rfl, r2, r3⟩ := r1
        cases r3
        obtain ⟨a, xs, rfl, hn, hH, s⟩ := r2
        refine ⟨a, xs, rfl, .inl (.inl hH), q φ1 H1 _ E1 R1 ?_⟩
        intro φ S H i E2 R2
        have h' := E2.lst _ _ hn hH
        have s' := s.ext E2 _ _
        refine ⟨fun d hd => ?_, fun hn => ?_⟩
        · have hd' : (es[i]?).map (fun d => D.tup [.int (i : Nat), d]) = some d := Option.some.inj hd
          simp only [Option.map_eq_some_iff] at hd'
          obtain ⟨y, hy, rfl⟩ := hd'
          obtain ⟨v, hv, rv⟩ := s'.get hy
          refine ⟨⟨xs, v, .inl (.inl h'), hv⟩, fun x H' yl => ?_⟩
          obtain ⟨P, x2, rfl, hP, rfl, hx⟩ := yl
          have ev := hx xs (.inl (.inl h'))
          rw [hv] at ev
          cases ev
          obtain ⟨R3, E3⟩ := R2.garb (u := .tup [.int (i : Nat), v]) hP
          exact ⟨E3, R3, P, _, rfl, (.inl upd_same), .int (i : Nat), _, rfl, rfl, v, _, rfl, rv.ext E3 _ _, rfl⟩
        · have hn' : (es[i]?).map (fun d => D.tup [.int (i : Nat), d]) = none := Option.some.inj hn
          simp only [Option.map_eq_none_iff] at hn'
          exact ⟨xs, .inl (.inl h'), rds_none s' hn'⟩
      · exact .inl ⟨φ, S, τ, o, R, r, left fun es S1 z => hx ⟨es, S1, z⟩, q⟩
end
theorem iEnX_fl {ra : AF} {τ : Sl} {es : List D} {S S1 : Sto} (h : ra τ S = some (.ok [.fl es] S1)) : iEnX ra τ S = some (.ok (wkE es) S1) := by simp only [iEnX, M.bnd, h]
end Sb
end
section
set_option Elab.async false
set_option linter.all false
set_option maxRecDepth 100000
namespace Sb
open PySem PySem.Spec PyProof.Rows L2
def m_x_bag_bag : SF := sSeq (sSet 1 (eC (.int 1))) (sSeq (sFor (iScr (eVar 0)) (tN 2) (sSet 1 (eB gMod (eB gAdd (eB gAdd (eB gMulX (eVar 1) (eC (.int 1000003))) (eB gMod (eVar 2) (eC (.int 2305843009213693951)))) (eC (.int 1))) (eC (.int 2305843009213693951))))) (sRt (eLst (aCons (fz (eCB gList (aCons (eVar 0) (aNil)))) (aCons (eC (.int 0)) (aCons (eC (.int 0)) (aCons (eC (.int 0)) (aCons (eVar 1) (aNil)))))))))
abbrev M_x_bag_bag : List D → M D := fnM 3 (m_x_bag_bag)
def m_bag_stir : SF := sSeq (sSet 2 (eB gMod (eB gAdd (eB gAdd (eB gMulX (eVar 0) (eC (.int 998244353))) (eB gMulX (eVar 1) (eC (.int 1000000007)))) (eC (.int 5))) (eC (.int 2305843009213693951)))) (sSeq (sSet 3 (eB gMod (eB gMulX (eVar 2) (eVar 2)) (eC (.int 2305843009213693951)))) (sRt (eB gDiv (eB gMod (eB gAdd (eB gAdd (eB gMulX (eVar 3) (eC (.int 2860486313))) (eB gMulX (eB gMulX (eVar 1) (eVar 1)) (eC (.int 48271)))) (eB gDiv (eVar 2) (eC (.int 3)))) (eC (.int 2305843009213693921))) (eC (.int 1024)))))
abbrev M_bag_stir : List D → M D := fnM 4 (m_bag_stir)
def m_bag_draw : SF := sSeq (sIf (tB (eB (gEq false) (eVar 1) (eC (.int 1)))) (sRt (eC (.int 0))) (sNop)) (sSeq (sPut (eB gAdd (eB gIx (eVar 0) (eC (.int 3))) (eC (.int 1))) (eVar 0) (eC (.int 3))) (sSeq (sIf (tAn (tB (eB gLtI (eB gIx (eVar 0) (eC (.int 2))) (eC (.int 2)))) (tB (eB (gEq false) (eB gIx (eVar 0) (eC (.int 1))) (eCB gLenX (aCons (eB gIx (eVar 0) (eC (.int 0))) (aNil)))))) (sRt (eB gMod (eCl (M_bag_stir) 2 (aCons (eB gIx (eVar 0) (eC (.int 4))) (aCons (eB gIx (eVar 0) (eC (.int 3))) (aNil)))) (eVar 1))) (sNop)) (sSeq (sIf (tB (eB gLtI (eB gIx (eVar 0) (eC (.int 2))) (eC (.int 2)))) (sSeq (sSet 2 (eB gIx (eB gIx (eVar 0) (eC (.int 0))) (eB gIx (eVar 0) (eC (.int 1))))) (sSeq (sPut (eB gAdd (eB gIx (eVar 0) (eC (.int 1))) (eC (.int 1))) (eVar 0) (eC (.int 1))) (sSeq (sIf (tB (eB gLtI (eVar 2) (eB gPow (eC (.int 10)) (eC (.int 18))))) (sRt (eB gMod (eCl (M_bag_stir) 2 (aCons (eB gMod (eVar 2) (eC (.int 2305843009213693951))) (aCons (eB gIx (eVar 0) (eC (.int 3))) (aNil)))) (eVar 1))) (sNop)) (sPut (eB gSub (eVar 2) (eB gPow (eC (.int 10)) (eC (.int 18)))) (eVar 0) (eC (.int 2)))))) (sNop)) (sSeq (sSet 3 (eB gMod (eB gIx (eVar 0) (eC (.int 2))) (eVar 1))) (sSeq (sPut (eB gDiv (eB gIx (eVar 0) (eC (.int 2))) (eVar 1)) (eVar 0) (eC (.int 2))) (sRt (eVar 3)))))))
abbrev M_bag_draw : List D → M D := fnM 4 (m_bag_draw)
def m_bag_mixed : SF := sSeq (sSet 2 (eCB gList (aCons (eVar 1) (aNil)))) (sRt (fz (eLc (iRg1 (aCons (eCB gLenX (aCons (eVar 1) (aNil))) (aNil))) (tN 3) (tAll) (eBM "list" gPopAt (eVar 2) (aCons (eCl (M_bag_draw) 2 (aCons (eVar 0) (aCons (eCB gLenX (aCons (eVar 2) (aNil))) (aNil)))) (aNil))) [3])))
abbrev M_bag_mixed : List D → M D := fnM 4 (m_bag_mixed)
def m_bag_names : SF := sSeq (sSet 2 (eC (.str "abcdefghijklmnopqrstuvwxyz"))) (sSeq (sSet 3 (eB gAdd (fz (eLc (iRg1 (aCons (eC (.int 38)) (aNil))) (tN 4) (tAll) (eB gMulX (eB gIx (eVar 2) (eB gMod (eVar 4) (eC (.int 26)))) (eB gAdd (eC (.int 1)) (eB gDiv (eVar 4) (eC (.int 26))))) [4])) (fz (eLst (aCons (eC (.str "zyxwvuts")) (aCons (eC (.str "abcdefgh")) (aNil))))))) (sSeq (sIf (tAn (tB (eB gLtI (eVar 1) (eC (.int 27)))) (tB (eB (gEq false) (eCl (M_bag_draw) 2 (aCons (eVar 0) (aCons (eC (.int 2)) (aNil)))) (eC (.int 0))))) (sSeq (sSet 5 (eCl (M_bag_draw) 2 (aCons (eVar 0) (aCons (eC (.int 8)) (aNil))))) (sSeq (sSet 3 (fz (eLc (iSeq (eVar 2)) (tN 6) (tAll) (eB gAdd (eB gAdd (eSlX (eC (.str "mnopqrm")) (oNo) (oSo (eVar 5))) (eVar 6)) (eSlX (eC (.str "mnopqrm")) (oSo (eVar 5)) (oNo))) [6]))) (sIf (tAn (tB (eB gLtI (eVar 1) (eC (.int 16)))) (tB (eB (gEq false) (eCl (M_bag_draw) 2 (aCons (eVar 0) (aCons (eC (.int 2)) (aNil)))) (eC (.int 0))))) (sSet 3 (eB gAdd (fz (eLc (iRg1 (aCons (eC (.int 8)) (aNil))) (tN 4) (tAll) (eB gAdd (eSlX (eC (.str "abcdefgh")) (oSo (eVar 4)) (oNo)) (eSlX (eC (.str "abcdefgh")) (oNo) (oSo (eVar 4)))) [4])) (fz (eLc (iRg2 (aCons (eC (.int 1)) (aCons (eC (.int 8)) (aNil)))) (tN 4) (tAll) (eSlX (eC (.str "abcdefgh")) (oNo) (oSo (eVar 4))) [4])))) (sNop)))) (sNop)) (sRt (eSlX (fz (eCl (M_bag_mixed) 2 (aCons (eVar 0) (aCons (eVar 3) (aNil))))) (oNo) (oSo (eVar 1))))))
abbrev M_bag_names : List D → M D := fnM 7 (m_bag_names)
end Sb
end
section
set_option Elab.async false
set_option linter.all false
set_option maxRecDepth 100000
set_option maxHeartbeats 4000000
namespace Sb
open PySem PySem.Spec PyProof.Rows L2 LamX
end Sb
end
section
set_option Elab.async false
set_option linter.all false
set_option maxRecDepth 100000
set_option maxHeartbeats 4000000
namespace Sb
open PySem PySem.Spec PyProof.Rows L2 LamX
end Sb
end
section
set_option Elab.async false
set_option linter.all false
set_option maxRecDepth 100000
set_option maxHeartbeats 4000000
namespace Sb
open PySem PySem.Spec PyProof.Rows L2
/-! ## in, not in: over a tuple of data -/
section
variable {X : Cx} {T : Tb} {W : WX} {pos : Pos}
/-! ## xs.extend of a told list -/
def gExtendX : GM := fun x ds S => match x, ds with
  | .loc n, [.fl fs] => (listD S (.loc n)).bind fun es => if es.length + fs.length ≤ sizeLine then some (.non, S.set n (.lst (es ++ fs))) else none
  | x, ds => gExtend x ds S
theorem m_extendX : MtR X "list.extend" (rGM T gExtendX) := MtR.imp (MtR.or m_extend mt_extend) fun x xs H Q h => by
  obtain ⟨φ, S, d, ds, R, r, rs, f⟩ := h
  unfold gExtendX at f
  split at f
  · rename_i n fs
    cases e : listD S (.loc n) with
    | none => rw [e] at f; obtain ⟨_, _, z, _⟩ := f; cases z
    | some es =>
      rw [e] at f
      simp only [Option.bind_some] at f
      split at f
      · rename_i hz
        obtain ⟨m1, p, vs, ee, rfl, hS, hφ, hH, s⟩ := list_sq R r e
        cases ee
        obtain ⟨v, l, rfl, r1, r2⟩ := rs
        cases r2
        obtain ⟨p2, vs2, rfl, hp2, hH2, s2⟩ := r1
        exact .inr ⟨p, p2, vs, vs2, rfl, rfl, hH, hH2, by rw [← s.length, ← s2.length]; exact hz, fin_put f R hφ (mem_lt hS) hH (s.app s2)⟩
      · obtain ⟨_, _, z, _⟩ := f; cases z
  · exact .inl ⟨φ, S, d, ds, R, r, rs, f⟩
end
end Sb
end
section
set_option Elab.async false
set_option linter.all false
set_option maxRecDepth 100000
set_option maxHeartbeats 4000000
namespace Sb
open PySem PySem.Spec PyProof.Rows L2
/-! ## reversed(range(n)) -/
end Sb
end
section
set_option Elab.async false
set_option linter.all false
set_option maxRecDepth 100000
set_option maxHeartbeats 4000000
namespace Sb
open PySem PySem.Spec PyProof.Rows L2
/-! ### data -/
section
variable {X : Cx} {T : Tb} {W : WX} {ra : AF}
end
end Sb
end
section
set_option Elab.async false
set_option linter.all false
set_option maxRecDepth 100000
set_option maxHeartbeats 4000000
namespace Sb
open PySem PySem.Spec PyProof.Rows L2 RT
section
variable {X : Cx} {T : Tb} {W : WX} {tg e : Expr} {fa : EF}
/-! ## for x in reversed(xs): a list or a tuple -/
end
end Sb
end
section
set_option Elab.async false
set_option linter.all false
set_option maxRecDepth 100000
set_option maxHeartbeats 4000000
namespace Sb
open PySem PySem.Spec PyProof.Rows L2
section
variable {X : Cx} {T : Tb} {W : WX} {pos : Pos}
/-! ## a, b, c and a, b, c, d as targets -/
end
end Sb
end
section
set_option Elab.async false
set_option linter.all false
set_option maxRecDepth 100000
set_option maxHeartbeats 4000000
namespace Sb
open PySem PySem.Spec PyProof.Rows L2
section
variable {X : Cx} {T : Tb} {W : WX} {pos : Pos} {e : Expr} {fa : EF}
/-! ## x op= e at a name: x = x op e, read first -/
theorem sx_bin {g : G2} {i : Nat} {fe : EF} {τ : Sl} {S : Sto} {d : D} {k : D → Sto → Option (Fl × Sto)} (hd : τ[i]? = some (some d)) :
    sx (eB g (eVar i) fe τ) τ k S = sx (fe τ) τ (fun d2 S2 => (g d d2 S2).bind fun p => k p.1 p.2) S := by
  simp only [sx, eB, M.bnd, eVar, hd]
  cases fe τ S with
  | none => rfl
  | some x =>
    cases x with
    | ex x S1 => rfl
    | ok d2 S2 =>
      show (match lft (g d d2 S2) with | none => none | some (.ex x S1) => some (.xx x τ, S1) | some (.ok d S1) => k d S1) = (g d d2 S2).bind fun p => k p.1 p.2
      cases g d d2 S2 <;> rfl
theorem s_augN {i : Nat} {x : Str} {pos' : Pos} {op : Operator} {g : G2} (hN : X.N.Nodup) (hi : X.N[i]? = some x) (hx : Loc X.env.scope x) (ho : OpR X (inplaceOp op) (rG2 T g)) (he : PE X e (rdE T W fa))
    (hf : X.fn x = true ∨ X.env.scope.names.lookup x = some .local := by first | exact .inl rfl | exact .inr rfl | assumption) : PS X (.AugAssign (.Name x pos') op e pos) (rdS T W (sSet i (eB g (eVar i) fa))) :=
  (ps_aug hN hi hx he (fun pins s σ H x y v u Q I rx ry q => ho pins s σ H x y v u Q I rx ry q) hf).imp fun De σ H h => by
    obtain ⟨φ, S, τ, fl, S', R, r, e, q⟩ := h
    unfold sSet at e
    cases hd : τ[i]? with
    | none => simp [sx, eB, M.bnd, eVar, hd] at e
    | some z =>
      cases z with
      | none => simp [sx, eB, M.bnd, eVar, hd] at e
      | some d =>
        rw [sx_bin hd] at e
        obtain ⟨v, h1, h2⟩ := r.at_ i d hd
        refine ⟨v, h1, rdE_sx R r e q fun d2 S1 y H1 φ1 ⟨E1, R1, r1⟩ e1 q1 => ?_⟩
        cases eg : g d d2 S1 with
        | none => rw [eg] at e1; cases e1
        | some p =>
          rw [eg] at e1
          cases e1
          refine ⟨φ1, S1, d, d2, R1, h2.ext E1 _ _, r1, p.1, p.2, eg, fun φ2 H2 z E2 R2 r2 => ?_⟩
          exact q1 φ2 H2 _ E2 R2 (((r.ext E1).ext E2).set i r2)
theorem iop_mulW : OpR X (inplaceOp .Mult) (rI CMulW fun i j => .int (i * j)) := opI fun _ _ _ _ _ _ _ hc q => imul_int q hc.ok
theorem io_mul : OpR X (inplaceOp .Mult) (rG2 T gMul) := o_int iop_mulW (fun i j h => show i.natAbs.log2 + j.natAbs.log2 < 1000000 from of_decide_eq_true h) fun _ _ _ _ => rfl
end
end Sb
end
section
set_option Elab.async false
set_option linter.all false
set_option maxRecDepth 100000
set_option maxHeartbeats 4000000
namespace Sb
open PySem PySem.Spec PyProof.Rows L2
/-! ## list(zip(xs, ys)) -/
theorem zip_no_len : typeLookup (.type "zip") (Str.ofString "__len__") = pure none := by kernel_rfl
theorem zip_no_hint : typeLookup (.type "zip") (Str.ofString "__length_hint__") = pure none := by kernel_rfl
/-- where a zip stands behind k pairs, all of them kept -/
structure ZSt (h0 h : Heap) (z TI TO i1 i2 l1 l2 S : Addr) (xs ys : Array Value) (k : Nat) (acc : Array Value) : Prop where
  le : h0.objs.size ≤ h.objs.size
  fr : ∀ c o, c ≠ S → c ≠ z → c ≠ TO → c ≠ i1 → c ≠ i2 → h0.get? c = some o → h.get? c = some o
  zip : (k = 0 ∧ IsZip h z TI TO .none ∧ ∃ a b, IsPair h TO a b) ∨ (∃ T f oT, h0.objs.size ≤ T ∧ IsZipHeld h z TI TO T f ∧ h.get? T = some oT)
  ti : IsPair h TI (.ref i1) (.ref i2)
  p1 : h.IsListIter i1 l1 k
  p2 : h.IsListIter i2 l2 k
  q1 : h.IsList l1 xs
  q2 : h.IsList l2 ys
  lst : ∃ ep, h.get? S = some { cls := .type "list", data := .seq acc ep }
  len : acc.size = k
  els : ∀ j, j < k → ∃ T x y, acc[j]? = some (.ref T) ∧ h0.objs.size ≤ T ∧ xs[j]? = some x ∧ ys[j]? = some y ∧ IsPair h T x y
  dis : ∀ i j T, i < j → j < k → acc[i]? = some (.ref T) → acc[j]? = some (.ref T) → False
theorem zip_hint {M : Model} {A : Around} {E : Value → Shared → Prop} {s : Shared} {z : Addr} {Q : Bool → Shared → Prop} (ty : s.TypeIs (.ref z) "zip") (q : Q true s) : wpAny M A (Builtin.List.listLengthHint (.ref z)) Q E s := by
  unfold Builtin.List.listLengthHint
  refine wpAny_bind (wpAny_specialOf ty zip_no_len ?_)
  refine wpAny_bind (wpAny_specialOf ty zip_no_hint ?_)
  exact wpAny_pure q
/-- the start of a zip, an empty list beside it -/
structure Z0 (h : Heap) (z TI TO i1 i2 l1 l2 S : Addr) (xs ys : Array Value) : Prop where
  zip : IsZip h z TI TO .none
  to_ : ∃ a b, IsPair h TO a b
  ti : IsPair h TI (.ref i1) (.ref i2)
  p1 : h.IsListIter i1 l1 0
  p2 : h.IsListIter i2 l2 0
  q1 : h.IsList l1 xs
  q2 : h.IsList l2 ys
  lst : ∃ ep, h.get? S = some { cls := .type "list", data := .seq #[] ep }
theorem Z0.st {h0 h : Heap} {z TI TO i1 i2 l1 l2 S : Addr} {xs ys : Array Value} (st : Z0 h0 z TI TO i1 i2 l1 l2 S xs ys) (hS : S ≠ z ∧ S ≠ TI ∧ S ≠ TO ∧ S ≠ i1 ∧ S ≠ i2 ∧ S ≠ l1 ∧ S ≠ l2) (sz : h.objs.size = h0.objs.size) (oth : ∀ c, c ≠ S → h.get? c = h0.get? c) (at_ : ∃ ep, h.get? S = some { cls := .type "list", data := .seq #[] ep }) : ZSt h0 h z TI TO i1 i2 l1 l2 S xs ys 0 #[] := by
  obtain ⟨a, b, hto⟩ := st.to_
  refine ⟨by omega, fun c o c0 _ _ _ _ e => by rw [oth c c0]; exact e, .inl ⟨rfl, ?_, a, b, ?_⟩, ?_, ?_, ?_, ?_, ?_, at_, rfl, fun j hj => absurd hj (Nat.not_lt_zero _), fun _ j _ _ hj => absurd hj (Nat.not_lt_zero _)⟩
  · unfold IsZip; rw [oth z (Ne.symm hS.1)]; exact st.zip
  · unfold IsPair; rw [oth TO (Ne.symm hS.2.2.1)]; exact hto
  · unfold IsPair; rw [oth TI (Ne.symm hS.2.1)]; exact st.ti
  · obtain ⟨o, a, b, c⟩ := st.p1
    exact ⟨o, by rw [oth i1 (Ne.symm hS.2.2.2.1)]; exact a, b, c⟩
  · obtain ⟨o, a, b, c⟩ := st.p2
    exact ⟨o, by rw [oth i2 (Ne.symm hS.2.2.2.2.1)]; exact a, b, c⟩
  · obtain ⟨o, a, b, c⟩ := st.q1
    exact ⟨o, by rw [oth l1 (Ne.symm hS.2.2.2.2.2.1)]; exact a, b, c⟩
  · obtain ⟨o, a, b, c⟩ := st.q2
    exact ⟨o, by rw [oth l2 (Ne.symm hS.2.2.2.2.2.2)]; exact a, b, c⟩
end Sb
end
section
set_option Elab.async false
set_option linter.all false
set_option maxRecDepth 100000
set_option maxHeartbeats 4000000
namespace Sb
open PySem PySem.Spec PyProof.Rows L2
theorem inv_add {X : Cx} {pins : List (Addr × Obj)} {σ : L2.St} {H : Hp} {s : Shared} {a : Addr} {u : HO} (I : L2.Inv X pins σ H s) (hex : X.ex = []) (n0 : X.s_0.heap.get? a = none) (f : FpOk X pins H a) (hok : ObjOk X.prog X.w (upd H a u) s.heap a u) : L2.Inv X pins σ (upd H a u) s := by
  obtain ⟨hn, hL, hF, _, hC, hP⟩ := f
  refine ⟨I.ok, I.os, I.bare, ⟨I.base.keep, I.base.slot, fun b o e n hx => ?_, I.base.there, fun b xs e => ?_, fun b o u' e => ?_, fun b ps e => ?_⟩, I.loc, I.cell, ?_, fun x c e => ?_, fun p q => ?_, fun b u' e => ?_, I.len⟩
  · have : b ≠ a := fun z => by subst z; rw [n0] at e; cases e
    rw [upd_ne this]; exact I.base.free b o e n hx
  · have := I.base.tups b xs e
    rw [upd_ne (ne_of_none this hn)]; exact this
  · have := I.base.frzs b o u' e
    rw [upd_ne (ne_of_none this hn)]; exact this
  · obtain ⟨more, this⟩ := I.base.tbls b ps e
    exact ⟨more, by rw [upd_ne (ne_of_none this hn)]; exact this⟩
  · rw [upd_ne (Ne.symm hL)]; exact I.free
  · rw [upd_ne (hC x c e)]; exact I.freeC x c e
  · obtain ⟨p1, p2, p3⟩ := I.pin p q
    exact ⟨p1, by rw [upd_ne (hP p q)]; exact p2, p3⟩
  · by_cases hb : b = a
    · subst hb
      rw [upd_same] at e; cases e
      exact hok
    · rw [upd_ne hb] at e
      exact (I.hok b u' e).stay (fun c v _ q => q) (fun c q => by rw [upd_ne (ne_of_none q hn)]; exact q) fun c xs q => by rw [upd_ne (ne_of_none q hn)]; exact q
theorem paired_of {R : V → Value → Prop} : ∀ {as : List V} {bs : List Value}, as.length = bs.length → (∀ (j : Nat) (a : V) (b : Value), as[j]? = some a → bs[j]? = some b → R a b) → Paired R as bs
  | [], [], _, _ => .nil
  | [], _ :: _, h, _ => by simp at h
  | _ :: _, [], h, _ => by simp at h
  | a :: as, b :: bs, h, g => .cons (g 0 a b rfl rfl) (paired_of (by simpa using h) fun j x y h1 h2 => g (j + 1) x y h1 h2)
/-- pairs laid one behind the other -/
def AddP : Hp → List (Addr × V × V) → Hp → Prop
  | H, [], H' => H' = H
  | H, p :: r, H' => H p.1 = none ∧ AddP (upd H p.1 (.tup [p.2.1, p.2.2])) r H'
theorem inv_adds {X : Cx} {pins : List (Addr × Obj)} {σ : L2.St} {s : Shared} (hex : X.ex = []) : ∀ (ps : List (Addr × V × V)) {H : Hp}, L2.Inv X pins σ H s →
    (∀ p ∈ ps, FpOk X pins H p.1 ∧ X.s_0.heap.get? p.1 = none ∧ ∃ x y, IsPair s.heap p.1 x y ∧ L2.RelV p.2.1 x ∧ L2.RelV p.2.2 y) → (ps.map (·.1)).Nodup →
    ∃ H', AddP H ps H' ∧ L2.Inv X pins σ H' s ∧ ∀ b, b ∉ ps.map (·.1) → H' b = H b
  | [], H, I, _, _ => ⟨H, rfl, I, fun _ _ => rfl⟩
  | p :: r, H, I, h, nd => by
    rw [List.map_cons, List.nodup_cons] at nd
    obtain ⟨f, n0, x, y, hp, rx, ry⟩ := h p List.mem_cons_self
    have ok : ObjOk X.prog X.w (upd H p.1 (.tup [p.2.1, p.2.2])) s.heap p.1 (.tup [p.2.1, p.2.2]) :=
      ⟨by show 2 ≤ sizeLine; decide, [x, y], .cons rx (.cons ry .nil), ⟨_, hp, rfl, _, rfl⟩⟩
    have I2 := inv_add I hex n0 f ok
    obtain ⟨H', a1, a2, a3⟩ := inv_adds hex r I2 (fun q hq => by
      obtain ⟨⟨f1, f2⟩, g⟩ := h q (List.mem_cons_of_mem _ hq)
      have ne : q.1 ≠ p.1 := fun z => nd.1 (z ▸ List.mem_map_of_mem hq)
      exact ⟨⟨by rw [upd_ne ne]; exact f1, f2⟩, g⟩) nd.2
    refine ⟨H', ⟨f.1, a1⟩, a2, fun b hb => ?_⟩
    rw [List.map_cons, List.mem_cons, not_or] at hb
    rw [a3 b hb.2, upd_ne hb.1]
/-! ## list(zip(xs, ys)): data -/
section
variable {X : Cx} {T : Tb} {W : WX} {pos : Pos} {ra : AF}
def zipD (ds es : List D) : List D := List.zipWith (fun x y => D.tup [x, y]) ds es
/-- a list, told or an object -/
def lisD (S : Sto) : D → Option (List D)
  | .fl ds => some ds
  | .loc n => match S[n]? with
    | some (.lst ds) => some ds
    | _ => none
  | _ => none
theorem lis_sq {φ : List Addr} {S : Sto} {H : Hp} {d : D} {v : V} {ds : List D} (R : Rel T φ S H) (r : RD T H φ d v) (h : lisD S d = some ds) : ∃ a vs, v = .ref a ∧ H a = some (.lst vs) ∧ RDs T H φ ds vs := by
  cases d with
  | fl es =>
    cases h
    obtain ⟨a, vs, rfl, _, hH, s⟩ := r
    exact ⟨a, vs, rfl, hH, s⟩
  | loc n =>
    obtain ⟨a, rfl, hp⟩ := r
    simp only [lisD] at h
    split at h
    · rename_i q
      cases h
      obtain ⟨vs, k1, k2⟩ := R.obj n _ a q hp
      exact ⟨a, vs, rfl, k1, k2⟩
    · cases h
  | _ => cases h
theorem zip_rds {φ : List Addr} {S : Sto} : ∀ {ds es : List D} {xs ys : List V} {ps : List (Addr × V × V)} {H H2 : Hp}, Rel T φ S H → RDs T H φ ds xs → RDs T H φ es ys → (ps.map fun p => (p.2.1, p.2.2)) = xs.zip ys → AddP H ps H2 →
    Rel T φ S H2 ∧ Ext φ H φ H2 ∧ RDs T H2 φ (zipD ds es) (ps.map fun p => V.ref p.1)
  | [], es, xs, ys, ps, H, H2, R, r1, r2, hz, ad => by
    cases r1
    have : ps = [] := by
      rw [List.zip_nil_left] at hz
      exact List.map_eq_nil_iff.mp hz
    subst this
    cases ad
    exact ⟨R, .refl, rfl⟩
  | d :: ds, [], xs, ys, ps, H, H2, R, r1, r2, hz, ad => by
    cases r2
    have : ps = [] := by
      rw [List.zip_nil_right] at hz
      exact List.map_eq_nil_iff.mp hz
    subst this
    cases ad
    exact ⟨R, .refl, rfl⟩
  | d :: ds, e :: es, xs, ys, ps, H, H2, R, r1, r2, hz, ad => by
    obtain ⟨x, xr, rfl, rx, rxs⟩ := r1
    obtain ⟨y, yr, rfl, ry, rys⟩ := r2
    cases ps with
    | nil => rw [List.zip_cons_cons] at hz; cases hz
    | cons p r =>
      rw [List.zip_cons_cons, List.map_cons, List.cons.injEq, Prod.mk.injEq] at hz
      obtain ⟨⟨h1, h2⟩, h3⟩ := hz
      obtain ⟨hn, ad⟩ := ad
      subst h1 h2
      obtain ⟨R1, E1⟩ := R.garb (u := .tup [p.2.1, p.2.2]) hn
      obtain ⟨R2, E2, rs⟩ := zip_rds R1 (rxs.ext E1 _ _) (rys.ext E1 _ _) h3 ad
      have rd : RD T (upd H p.1 (.tup [p.2.1, p.2.2])) φ (.tup [d, e]) (.ref p.1) := ⟨p.1, [p.2.1, p.2.2], rfl, (.inl upd_same), p.2.1, [p.2.2], rfl, rx.ext E1 _ _, p.2.2, [], rfl, ry.ext E1 _ _, rfl⟩
      exact ⟨R2, E1.trans E2, .ref p.1, _, rfl, rd.ext E2 _ _, rs⟩
end
end Sb
end
section
set_option Elab.async false
set_option linter.all false
set_option maxRecDepth 100000
set_option maxHeartbeats 4000000
namespace Sb
open PySem PySem.Spec PyProof.Rows L2
/-! ## tuple(zip(xs, ys)) of two lists -/
section
variable {prog : Program} {w : World} {A : Around} {E : Value → Shared → Prop} {s : Shared} {z TI TO i1 i2 l1 l2 : Addr} {xs ys : Array Value}
/-- what stands behind the walk -/
structure ZEnd (s : Shared) (z TO i1 i2 : Addr) (xs ys : Array Value) (h : Heap) (acc : Array Value) : Prop where
  size : acc.size = min xs.size ys.size
  keep : ∀ c o, c ≠ z → c ≠ TO → c ≠ i1 → c ≠ i2 → s.heap.get? c = some o → h.get? c = some o
  els : ∀ j, j < acc.size → ∃ T x y, acc[j]? = some (.ref T) ∧ s.heap.objs.size < T ∧ xs[j]? = some x ∧ ys[j]? = some y ∧ IsPair h T x y
  dis : ∀ i j T, i < j → j < acc.size → acc[i]? = some (.ref T) → acc[j]? = some (.ref T) → False
end
section
variable {X : Cx} {T : Tb} {W : WX} {pos : Pos} {ra : AF}
end
end Sb
end
section
set_option Elab.async false
set_option linter.all false
set_option maxRecDepth 100000
set_option maxHeartbeats 4000000
namespace Sb
open PySem PySem.Spec PyProof.Rows L2
section
variable {X : Cx} {T : Tb}
/-! ## xs.pop() -/
end
end Sb
end
section
set_option Elab.async false
set_option linter.all false
set_option maxRecDepth 100000
set_option maxHeartbeats 4000000
namespace Sb
open PySem PySem.Spec PyProof.Rows L2 PySem.W
section
variable {X : Cx} {T : Tb} {W : WX} {pos : Pos} {e e2 : Expr} {ra : AF}
/-! ## for x, y in zip(xs, ys): two told lists, or two tuples -/
def zipAt (xs ys : List D) (i : Nat) : Option D := match xs[i]?, ys[i]? with
  | some x, some y => some (.tup [x, y])
  | _, _ => none
def wkZ (xs ys : List D) : Wk := ⟨min xs.length ys.length, fun i _ => some (zipAt xs ys i)⟩
def iZp (ra : AF) : IF := fun τ => (ra τ).bnd fun ds S => match ds with
  | [.fl xs, .fl ys] => some (.ok (wkZ xs ys) S)
  | [.tup xs, .tup ys] => some (.ok (wkZ xs ys) S)
  | _ => none
theorem zipAt_some {xs ys : List D} {i : Nat} {d : D} (h : zipAt xs ys i = some d) : ∃ x y, xs[i]? = some x ∧ ys[i]? = some y ∧ d = .tup [x, y] := by
  unfold zipAt at h
  split at h
  · rename_i x y h1 h2
    cases h
    exact ⟨x, y, h1, h2, rfl⟩
  · cases h
theorem zipAt_none {xs ys : List D} {i : Nat} (h : zipAt xs ys i = none) : xs.length ≤ i ∨ ys.length ≤ i := by
  apply Classical.byContradiction
  intro q
  have h1 := List.getElem?_eq_getElem (l := xs) (i := i) (by omega)
  have h2 := List.getElem?_eq_getElem (l := ys) (i := i) (by omega)
  unfold zipAt at h
  rw [h1, h2] at h
  cases h
theorem sv_zipL {φ0 : List Addr} {H0 : Hp} {xs ys : List D} {us ws : List V} {a b : Addr} (ha : a ∉ φ0) (h1 : H0 a = some (.lst us)) (r1 : RDs T H0 φ0 xs us) (hb : b ∉ φ0) (h2 : H0 b = some (.lst ws)) (r2 : RDs T H0 φ0 ys ws) : Serves T φ0 H0 (wkZ xs ys) (Itz X.K a b) := by
  intro φ S H i E R
  have k1 := E.lst _ _ ha h1
  have k2 := E.lst _ _ hb h2
  have s1 := r1.ext E _ _
  have s2 := r2.ext E _ _
  refine ⟨fun d hd => ?_, fun hn => ?_⟩
  · obtain ⟨x, y, hx, hy, rfl⟩ := zipAt_some (Option.some.inj hd)
    obtain ⟨v, hv, rv⟩ := s1.get hx
    obtain ⟨u, hu, ru⟩ := s2.get hy
    refine ⟨⟨us, ws, v, u, .of k1, .of k2, hv, hu⟩, fun z H' yl => ?_⟩
    obtain ⟨P, v', u', rfl, hP, rfl, q1, q2⟩ := yl
    have e1 := q1 us (.of k1)
    have e2 := q2 ws (.of k2)
    rw [hv] at e1
    rw [hu] at e2
    cases e1
    cases e2
    obtain ⟨R3, E3⟩ := R.garb (u := .tup [v, u]) hP
    exact ⟨E3, R3, P, _, rfl, (.inl upd_same), v, _, rfl, rv.ext E3 _ _, u, _, rfl, ru.ext E3 _ _, rfl⟩
  · have l1 := s1.length
    have l2 := s2.length
    refine ⟨us, ws, .of k1, .of k2, ?_⟩
    rcases zipAt_none (Option.some.inj hn) with q | q
    · exact .inl (by omega)
    · exact .inr (by omega)
theorem sv_zipT {φ0 : List Addr} {H0 : Hp} {xs ys : List D} {us ws : List V} {a b : Addr} (h1 : Rd H0 a (.tup us)) (r1 : RDs T H0 φ0 xs us) (h2 : Rd H0 b (.tup ws)) (r2 : RDs T H0 φ0 ys ws) : Serves T φ0 H0 (wkZ xs ys) (RZ.ItzT X.K a b) := by
  intro φ S H i E R
  have k1 := E.rdT h1
  have k2 := E.rdT h2
  have s1 := r1.ext E _ _
  have s2 := r2.ext E _ _
  refine ⟨fun d hd => ?_, fun hn => ?_⟩
  · obtain ⟨x, y, hx, hy, rfl⟩ := zipAt_some (Option.some.inj hd)
    obtain ⟨v, hv, rv⟩ := s1.get hx
    obtain ⟨u, hu, ru⟩ := s2.get hy
    refine ⟨⟨us, ws, v, u, .inl k1, .inl k2, hv, hu⟩, fun z H' yl => ?_⟩
    obtain ⟨P, v', u', rfl, hP, rfl, q1, q2⟩ := yl
    have e1 := q1 us (.inl k1)
    have e2 := q2 ws (.inl k2)
    rw [hv] at e1
    rw [hu] at e2
    cases e1
    cases e2
    obtain ⟨R3, E3⟩ := R.garb (u := .tup [v, u]) hP
    exact ⟨E3, R3, P, _, rfl, (.inl upd_same), v, _, rfl, rv.ext E3 _ _, u, _, rfl, ru.ext E3 _ _, rfl⟩
  · have l1 := s1.length
    have l2 := s2.length
    refine ⟨us, ws, .inl k1, .inl k2, ?_⟩
    rcases zipAt_none (Option.some.inj hn) with q | q
    · exact .inl (by omega)
    · exact .inr (by omega)
theorem i_zp {p tpos : Pos} {elts : List Expr} {kk : Nat} (hK : T.K = X.K) (hg : Gl X "zip") (hm : X.mg "zip" = none) (ha : PA X [e, e2] (rdA T W ra)) (hs : starEach [e, e2] X.env = (false, eval e X.env) :: starEach [e2] X.env := by rfl) (hpl : (backTo pos (starEach [e2] X.env)).any (·.1) = false := by rfl) :
    PI X (.Tuple elts kk tpos) (.Call (.Name "zip" p) [e, e2] [] pos) (rdI T W (iZp ra)) :=
  (RZ.pi_zipA hg hm ha hs hpl).imp fun σ H Rr h => by
    obtain ⟨φ, S, τ, o, R, r, e, q⟩ := h
    have e0 := e
    unfold iZp M.bnd at e0
    cases e1 : ra τ S with
    | none => rw [e1] at e0; cases e0
    | some x =>
      rw [e1] at e0
      cases x with
      | ex x S1 =>
        cases e0
        exact ⟨φ, S, τ, _, R, r, e1, q⟩
      | ok ds S1 =>
        simp only at e0
        split at e0
        · cases e0
          refine ⟨φ, S, τ, _, R, r, e1, fun φ1 H1 vs E1 R1 r1 => ?_⟩
          obtain ⟨v, l, rfl, r2, v2, l2, rfl, r3, r4⟩ := r1
          cases r4
          obtain ⟨a, us, rfl, hn, hH, s⟩ := r2
          obtain ⟨b, ws, rfl, hn2, hH2, s2⟩ := r3
          exact ⟨a, b, us, ws, rfl, .inl ⟨.of hH, .of hH2, q φ1 H1 _ E1 R1 (sv_zipL hn hH s hn2 hH2 s2)⟩⟩
        · cases e0
          refine ⟨φ, S, τ, _, R, r, e1, fun φ1 H1 vs E1 R1 r1 => ?_⟩
          obtain ⟨v, l, rfl, r2, v2, l2, rfl, r3, r4⟩ := r1
          cases r4
          obtain ⟨a, us, rfl, hH, s⟩ := r2
          obtain ⟨b, ws, rfl, hH2, s2⟩ := r3
          exact ⟨a, b, us, ws, rfl, .inr ⟨.inl hH, .inl hH2, q φ1 H1 _ E1 R1 (sv_zipT hH s hH2 s2)⟩⟩
        · cases e0
/-! ## a target of two targets -/
end
theorem iZp_fl {ra : AF} {τ : Sl} {xs ys : List D} {S S1 : Sto} (h : ra τ S = some (.ok [.fl xs, .fl ys] S1)) : iZp ra τ S = some (.ok (wkZ xs ys) S1) := by simp only [iZp, M.bnd, h]
end Sb
end
section
set_option Elab.async false
set_option linter.all false
set_option maxRecDepth 100000
set_option maxHeartbeats 4000000
namespace Sb
open PySem PySem.Spec PyProof.Rows L2
/-! ## enumerate(zip(xs, ys)) of two lists -/
/-- a zip whose tuple is out or not: u names it -/
abbrev ZI (h : Heap) (z TI TO : Addr) (u : Value) (f : Bool) : Prop :=
  h.get? z = some { cls := .type "zip", dict := none, data := .fields #[u, .bool f, .bool false, .ref TI, .ref TO], slots := #[] }
def ZU (u : Value) : Prop := u = .none ∨ ∃ p : Addr, u = rawInt p
section
variable {prog : Program} {w : World} {A : Around} {E : Value → Shared → Prop} {s : Shared}
theorem dead_at {a : Addr} {Q : Option Obj → Shared → Prop} (ho : s.heap.get? a = none) (q : Q none s) : wpAny (model prog w) A (loadIfAlive a) Q E s := by
  have q' : Q (s.heap.get? a) s := by rw [ho]; exact q
  exact fun _ _ _ => q'
theorem zi_free {z TI TO : Addr} {u : Value} {f : Bool} {Q : Bool → Shared → Prop} (hu : ZU u) (hz : ZI s.heap z TI TO u f) (yes : Q true s)
    (no : ∀ h2 f2, ZI h2 z TI TO u f2 → Heap.SameBut z s.heap h2 → Q false { s with heap := h2 }) : wpAny (model prog w) A (Builtin.SmallTypes.ownedTupleIsFree (.ref z)) Q E s := by
  unfold Builtin.SmallTypes.ownedTupleIsFree
  rcases hu with rfl | ⟨p, rfl⟩
  · exact wpAny_bind (wpAny_field hz rfl (x := .none) rfl (wpAny_pure yes))
  · refine wpAny_bind (wpAny_field hz rfl (x := rawInt p) rfl ?_)
    show wpAny _ _ (loadIfAlive ((p : Int).toNat) >>= _) _ _ _
    rw [Int.toNat_natCast]
    cases hp : s.heap.get? p with
    | none =>
      refine wpAny_bind (dead_at hp ?_)
      simp only [Option.isNone_none, if_true]
      exact wpAny_pure yes
    | some o =>
      refine wpAny_bind (PySem.W.kdx_alive hp ?_)
      simp only [Option.isNone_some, Bool.false_eq_true, if_false]
      refine wpAny_bind (wpAny_field hz rfl (x := .bool f) rfl ?_)
      cases f with
      | true =>
        rw [if_neg (show ¬ ((Value.bool true != Value.bool true) = true) from Bool.false_ne_true)]
        exact wpAny_pure (no s.heap true hz (Heap.SameBut.refl _ _))
      | false =>
        rw [if_pos (show (Value.bool false != Value.bool true) = true from rfl)]
        exact wpAny_bind (wpAny_setField_rec hz (by simp) fun h2 z2 e2 => wpAny_pure (no h2 true z2 e2))
end
open AutoSeq1 (wpAny_loadPart') in
/-! ## over data -/
section
variable {X : Cx} {T : Tb} {W : WX} {pos : Pos} {ra : AF}
end
end Sb
end
section
set_option Elab.async false
set_option linter.all false
set_option maxRecDepth 100000
set_option maxHeartbeats 4000000
namespace Sb
open PySem PySem.Spec PyProof.Rows L2
/-! ## range kept under a name -/
def rRgo : List V → Hp → VK → Prop := fun vs H Q => (∃ j, vs = [V.int j] ∧ ∀ p o, H p = none → Q (.ref p) (upd H p (.frz o (.rng 0 j)))) ∨ ∃ i j, vs = [V.int i, V.int j] ∧ ∀ p o, H p = none → Q (.ref p) (upd H p (.frz o (.rng i j)))
theorem cr_rgo {X : Cx} : CallR X (.type "range") rRgo := by
  intro pins s σ H vs us Q I r h
  rcases h with ⟨j, rfl, q⟩ | ⟨i, j, rfl, q⟩
  · obtain ⟨u, eu, ru⟩ := vals1 r
    subst eu
    obtain ⟨t, rfl⟩ := ru
    refine call_range_1 ⟨.ref s.heap.objs.size, upd H s.heap.objs.size (.frz { cls := .type "range", data := .fields #[.int 0 s.toks, .int j t, .int 1 (s.toks + 1)] } (.rng 0 j)), I.laid (t' := s.toks + 1 + 1) (fun b o e => Heap.get?_push_of_some _ e) (Nat.le_refl _) ?_, rfl, q _ _ (I.hok.fresh (Nat.le_refl _))⟩
    exact ⟨Heap.get?_push_size _ rfl, s.toks, t, s.toks + 1, Heap.get?_push_size _ rfl⟩
  · obtain ⟨u1, u2, eu, ri, rj⟩ := vals2 r
    subst eu
    obtain ⟨t, rfl⟩ := ri
    obtain ⟨u, rfl⟩ := rj
    refine call_range_2 ⟨.ref s.heap.objs.size, upd H s.heap.objs.size (.frz { cls := .type "range", data := .fields #[.int i t, .int j u, .int 1 s.toks] } (.rng i j)), I.laid (t' := s.toks + 1) (fun b o e => Heap.get?_push_of_some _ e) (Nat.le_refl _) ?_, rfl, q _ _ (I.hok.fresh (Nat.le_refl _))⟩
    exact ⟨Heap.get?_push_size _ rfl, t, u, s.toks, Heap.get?_push_size _ rfl⟩
section
variable {X : Cx} {T : Tb} {W : WX} {pos : Pos} {fe : EF} {tg e : Expr}
def rgB (i : Int) : Bool := decide (-(2 ^ 62) ≤ i ∧ i < 2 ^ 62)
def gRange : GN := fun ds S => match ds with
  | [.int j] => if rgB j = true then some (.rgo 0 j, S) else none
  | [.int i, .int j] => if rgB i = true ∧ rgB j = true then some (.rgo i j, S) else none
  | _ => none
theorem rd_rgo {φ : List Addr} {S : Sto} {H : Hp} {lo hi : Int} {Q : VK} (R : Rel T φ S H) (f : Fin T φ H (some (.rgo lo hi, S)) Q) (p : Addr) (o : Obj) (hp : H p = none) : Q (.ref p) (upd H p (.frz o (.rng lo hi))) := by
  obtain ⟨d', S', e, q⟩ := f
  cases e
  obtain ⟨R1, E1⟩ := R.garb (u := .frz o (.rng lo hi)) hp
  exact q φ _ _ E1 R1 ⟨p, o, rfl, upd_same⟩
theorem c_range : CallR X (.type "range") (rGN T gRange) := CallR.imp cr_rgo fun xs H Q h => by
  obtain ⟨φ, S, ds, R, r, f⟩ := h
  unfold gRange at f
  split at f
  · rename_i j
    split at f
    · obtain ⟨v, l, rfl, r1, r2⟩ := r
      cases r1; cases r2
      exact .inl ⟨j, rfl, fun p o hp => rd_rgo R f p o hp⟩
    · obtain ⟨_, _, z, _⟩ := f; cases z
  · rename_i i j
    split at f
    · obtain ⟨v, l, rfl, r1, v2, l2, rfl, r2, r3⟩ := r
      cases r1; cases r2; cases r3
      exact .inr ⟨i, j, rfl, fun p o hp => rd_rgo R f p o hp⟩
    · obtain ⟨_, _, z, _⟩ := f; cases z
  · obtain ⟨_, _, z, _⟩ := f; cases z
end
end Sb
end
section
set_option Elab.async false
set_option linter.all false
set_option maxRecDepth 100000
set_option maxHeartbeats 4000000
namespace Sb
open PySem PySem.Spec PyProof.Rows L2
/-! ## tuples that are known to have no names of their own -/
/-! ## over data -/
section
variable {X : Cx} {T : Tb} {W : WX} {pos : Pos} {fe : EF} {e : Expr}
end
end Sb
end
section
set_option Elab.async false
set_option linter.all false
set_option maxRecDepth 100000
set_option maxHeartbeats 4000000
/-! A text beside a dict: never equal. -/
namespace Sb
open PySem PySem.Spec PySem.MeetsSeq PySem.SeqAt PyProof.Rows L2
variable {X : Cx} {T : Tb}
end Sb
end
section
set_option Elab.async false
set_option linter.all false
set_option maxRecDepth 100000
set_option maxHeartbeats 4000000
namespace Sb
open PySem PySem.Spec PyProof.Rows L2
section
variable {X : Cx} {T : Tb} {W : WX} {pos : Pos} {e : Expr} {fa : EF}
/-! ## xs[::-1] of a list -/
end
end Sb
end
section
set_option Elab.async false
set_option linter.all false
set_option maxRecDepth 100000
set_option maxHeartbeats 4000000
namespace Sb
open PySem PySem.Spec PyProof.Rows L2 GenW
open Sem (wp)

/-! ## generators that sleep stay as they are: what was shown of a state where none of them can be woken holds of the state itself -/
def poi : GenState → GenState
  | .suspended _ l c p fs cl => .suspended (fun _ => .unsupported "asleep") l c p fs cl
  | gs => gs
def slp : GenState → Bool
  | .suspended .. => true
  | _ => false
def plainG : GenState → Prop
  | .suspended _ _ _ _ fs _ => splitAtGen fs = none
  | _ => True
/-- s: the sleepers (B) cannot be woken; s₁: as it is -/
structure Asl (B : Nat → Option GenState) (s s₁ : Shared) : Prop where
  heap : s₁.heap = s.heap
  drawn : s₁.drawn = s.drawn
  toks : s₁.toks = s.toks
  os : s₁.os = s.os
  size : s₁.gens.size = s.gens.size
  at_ : ∀ i, i < s.gens.size → (∃ st, B i = some st ∧ slp st = true ∧ s₁.gens[i]? = some st ∧ s.gens[i]? = some (poi st)) ∨ (B i = none ∧ ∃ st, s₁.gens[i]? = some st ∧ s.gens[i]? = some st ∧ plainG st)
  out : ∀ i, s.gens.size ≤ i → B i = none
theorem bare_poi (st : GenState) : (poi st).bare = st.bare := by cases st <;> rfl
section
variable {B : Nat → Option GenState} {s s₁ : Shared}
theorem Asl.lt (a : Asl B s s₁) {i : Nat} {st : GenState} (h : s.gens[i]? = some st) : i < s.gens.size := (Array.getElem?_eq_some_iff.mp h).1
/-- a state that is not asleep is the same in both -/
theorem Asl.get (a : Asl B s s₁) {i : Nat} {st : GenState} (h : s.gens[i]? = some st) (n : B i = none) : s₁.gens[i]? = some st ∧ plainG st := by
  rcases a.at_ i (a.lt h) with ⟨st', e, _⟩ | ⟨_, st', e1, e2, e3⟩
  · rw [n] at e; cases e
  · rw [h] at e2; cases e2; exact ⟨e1, e3⟩
theorem Asl.setGen (a : Asl B s s₁) {g : Nat} {st : GenState} (n : B g = none) (hp : plainG st) : Asl B (s.setGen g st) (s₁.setGen g st) := by
  refine ⟨a.heap, a.drawn, a.toks, a.os, ?_, fun i hi => ?_, fun i hi => a.out i ?_⟩
  · rw [setGen_size, setGen_size]; exact a.size
  · rw [setGen_size] at hi
    by_cases e : i = g
    · subst e
      refine .inr ⟨n, st, ?_, ?_, hp⟩
      · exact setGen_at (by rw [a.size]; exact hi)
      · exact setGen_at hi
    · have k1 : (s.setGen g st).gens[i]? = s.gens[i]? := by
        show (s.gens.setIfInBounds g st)[i]? = _
        rw [Array.getElem?_setIfInBounds_ne (Ne.symm e)]
      have k2 : (s₁.setGen g st).gens[i]? = s₁.gens[i]? := by
        show (s₁.gens.setIfInBounds g st)[i]? = _
        rw [Array.getElem?_setIfInBounds_ne (Ne.symm e)]
      rw [k1, k2]
      exact a.at_ i hi
  · rw [setGen_size] at hi; exact hi
theorem Asl.push (a : Asl B s s₁) (c : Code) : Asl B { s with gens := s.gens.push (.fresh c) } { s₁ with gens := s₁.gens.push (.fresh c) } := by
  refine ⟨a.heap, a.drawn, a.toks, a.os, ?_, fun i hi => ?_, fun i hi => a.out i ?_⟩
  · show (s₁.gens.push _).size = (s.gens.push _).size
    rw [Array.size_push, Array.size_push, a.size]
  · have hi' : i < (s.gens.push (.fresh c)).size := hi
    rw [Array.size_push] at hi'
    by_cases e : i = s.gens.size
    · subst e
      refine .inr ⟨a.out _ (Nat.le_refl _), .fresh c, ?_, ?_, trivial⟩
      · show (s₁.gens.push _)[s.gens.size]? = _
        rw [← a.size]; simp
      · show (s.gens.push _)[s.gens.size]? = _
        simp
    · have k1 : (s.gens.push (.fresh c))[i]? = s.gens[i]? := by
        rw [Array.getElem?_push]; simp [e]
      have k2 : (s₁.gens.push (.fresh c))[i]? = s₁.gens[i]? := by
        rw [Array.getElem?_push, a.size]; simp [e]
      show (∃ st, _ ∧ _ ∧ (s₁.gens.push (.fresh c))[i]? = some st ∧ (s.gens.push (.fresh c))[i]? = some (poi st)) ∨ (_ ∧ ∃ st, (s₁.gens.push (.fresh c))[i]? = some st ∧ (s.gens.push (.fresh c))[i]? = some st ∧ plainG st)
      rw [k1, k2]
      exact a.at_ i (by omega)
  · have hi' : (s.gens.push (.fresh c)).size ≤ i := hi
    rw [Array.size_push] at hi'; omega
end
/-- all that sleep -/
def sleepers (s : Shared) : Nat → Option GenState := fun i => match s.gens[i]? with
  | some st => if slp st = true then some st else none
  | none => none
theorem Asl.bare {B : Nat → Option GenState} {s s₁ : Shared} (a : Asl B s s₁) : AllBare s.gens ↔ AllBare s₁.gens := by
  constructor
  · intro h y hy
    obtain ⟨i, hi, rfl⟩ := Array.mem_iff_getElem.mp hy
    have e := Array.getElem?_eq_getElem hi
    rcases a.at_ i (by rw [← a.size]; exact hi) with ⟨st', _, e1, e2, e3⟩ | ⟨_, st', e1, e2, e3⟩
    · rw [e] at e2; cases e2
      rw [← bare_poi]; exact h _ (Array.mem_of_getElem? e3)
    · rw [e] at e1; cases e1
      exact h _ (Array.mem_of_getElem? e2)
  · intro h y hy
    obtain ⟨i, hi, rfl⟩ := Array.mem_iff_getElem.mp hy
    have e := Array.getElem?_eq_getElem hi
    rcases a.at_ i hi with ⟨st', _, e1, e2, e3⟩ | ⟨_, st', e1, e2, e3⟩
    · rw [e] at e3; injection e3 with e3
      rw [e3, bare_poi]; exact h _ (Array.mem_of_getElem? e2)
    · rw [e] at e2; cases e2
      exact h _ (Array.mem_of_getElem? e1)
theorem Asl.inv {B : Nat → Option GenState} {s s₁ : Shared} {X : Cx} {pins : List (Addr × Obj)} {σ : L2.St} {H : Hp} (a : Asl B s s₁) (I : L2.Inv X pins σ H s) : L2.Inv X pins σ H s₁ := Sh.inv I ⟨a.heap, a.os, a.bare.mp I.bare⟩
theorem Asl.kept {s s₁ s' : Shared} {g : Nat} {st : GenState} (a : Asl (sleepers s) s' s₁) (h : s.gens[g]? = some st) (q : slp st = true) : s₁.gens[g]? = some st := by
  have e : sleepers s g = some st := by unfold sleepers; rw [h]; simp only [q, if_true]
  have hl : g < s'.gens.size := by
    rcases Nat.lt_or_ge g s'.gens.size with z | z
    · exact z
    · have := a.out g z; rw [e] at this; cases this
  rcases a.at_ g hl with ⟨st', e1, _, e2, _⟩ | ⟨n, _⟩
  · rw [e] at e1; cases e1; exact e2
  · rw [e] at n; cases n
end Sb
end
section
set_option Elab.async false
set_option linter.all false
set_option maxRecDepth 100000
set_option maxHeartbeats 4000000
namespace Sb
open PySem PySem.Spec PyProof.Rows L2 GenW
open Sem (wp)

/-! ## one stretch of a generator's code: up to its next yield, or its end -/
abbrev EndP := End → Shared → Prop
section
variable {M : Model} {A : Around} {F : EndP} {c : Code} {fs : List Frame} {s : Shared}
variable {env : Env} {K : Flow → Sem PySem.Fin} {J : Value → Sem PySem.Fin} {gd : Bool → Bool} {lv : List Value → List Value}
end
section
variable {prog : Program} {w : World} {A : Around} {F : EndP} {fs : List Frame} {s : Shared} {env : Env} {c : Code}
  {K : Flow → Sem PySem.Fin} {J : Value → Sem PySem.Fin} {gd : Bool → Bool} {lv : List Value → List Value}
end
/-! ### woken by next -/
end Sb
end
section
set_option Elab.async false
set_option linter.all false
set_option maxRecDepth 100000
set_option maxHeartbeats 4000000
namespace Sb
open PySem PySem.Spec PyProof.Rows L2 GenW
open Sem (wp)

/-! ## the heap below an address -/
def cut (h : Heap) (n : Nat) : Heap := { h with objs := h.objs.extract 0 n }
/-! ## the context in which a stretch of a generator's code runs -/
section
variable {X : Cx} {T : Tb} {pins : List (Addr × Obj)} {a : Addr} {go : Obj} {env : Env} {N : List Str}
/-! ## how a stretch ends: the data that are still to come -/
structure Plc (X : Cx) (env : Env) (c : Code) (fs : List Frame) (gd : Bool → Bool) : Prop where
  over : X.A.in1.over c fs = X.A.in1.deeper env
  split : splitAtGen fs = none
  guard : fs.any Frame.guarded = false
  gd : gd false = false
theorem Plc.loop {c c' : Code} {fs : List Frame} {gd : Bool → Bool} {k : Result → Sem PySem.Fin} {l kp : List Value} {p : Pos} (g : Plc X env c fs gd) (hw : c'.weight = 0) (hu : c'.cUnits = 0) : Plc X env c' (.ret k none (gd false) l c p kp :: fs) id where
  over := (over_loop hw hu).trans g.over
  split := by
    show (splitAtGen fs).map _ = none
    rw [g.split]; rfl
  guard := by
    show (gd false || fs.any Frame.guarded) = false
    rw [g.gd, g.guard]; rfl
  gd := rfl
end
/-! ## a generator's data are determined -/
end Sb
end
section
set_option Elab.async false
set_option linter.all false
set_option maxRecDepth 100000
set_option maxHeartbeats 4000000
namespace Sb
open PySem PySem.Spec PyProof.Rows L2 GenW
open Sem (wp)

/-! ## a generator def: what its calls hand out -/
section
variable {P : Program} {w : World} {mg : Str → Option Value} {base : Heap} {x qual : Str} {params : Arguments} {body : List Stmt} {scope : Scope} {fd : FuncData} {T : Tb} {k : Nat}
end

/-! ## for x in g(..) -/
section
variable {X : Cx} {T : Tb} {W : WX} {pos pos' p : Pos} {e tg : Expr} {es : List Expr} {ra : AF} {body : List Stmt} {g : TF} {vs : List Nat} {fbd : SF} {k n : Nat} {x : Str} {y : List D → Option (List D)}
end
end Sb
end
section
set_option Elab.async false
set_option linter.all false
set_option maxRecDepth 100000
set_option maxHeartbeats 4000000
namespace Sb
open PySem PySem.Spec PyProof.Rows L2
section
variable {X : Cx} {T : Tb}
/-! ## list * n -/
end
end Sb
end
section
set_option Elab.async false
set_option linter.all false
set_option maxRecDepth 100000
set_option maxHeartbeats 4000000
namespace Sb
open PySem PySem.Spec PyProof.Rows L2
section
variable {X : Cx} {T : Tb}
end
end Sb
end
section
set_option Elab.async false
set_option linter.all false
set_option maxRecDepth 100000
namespace Sb
open PySem PySem.Spec PyProof.Rows L2
noncomputable section
def m_reel_reach : SF := sRt (eCB gMin2 (aCons (eB gIx (eVar 1) (eC (.int 1))) (aCons (eB gSub (eCB gLenX (aCons (eVar 0) (aNil))) (eC (.int 1))) (aNil))))
abbrev M_reel_reach : List D → M D := fnM 2 (m_reel_reach)
end
end Sb
end
section
set_option Elab.async false
set_option linter.all false
set_option maxRecDepth 100000
set_option maxHeartbeats 4000000
namespace Sb
open PySem PySem.Spec PyProof.Rows L2
variable {K : PySem.W.Frag} {S : Sto}
/-! ## reaches, the closed place -/
def rch (n : Nat) (c : Card) : Nat := min c.2.toNat (n - 1)
abbrev at0 (l : List Card) (i : Nat) : Card := l.getD i ("", 0)
/-- the reach of the card at a place -/
def ra (l : List Card) (i : Nat) : Nat := rch l.length (at0 l i)
theorem at0_eq {l : List Card} {i : Nat} (h : i < l.length) : at0 l i = l[i] := by
  unfold at0; rw [List.getD_eq_getElem?_getD, List.getElem?_eq_getElem h]; rfl
theorem at0_mem {l : List Card} {i : Nat} (h : i < l.length) : at0 l i ∈ l := by rw [at0_eq h]; exact List.getElem_mem h
theorem ra_lt {l : List Card} (h : 1 ≤ l.length) (i : Nat) : ra l i < l.length := by unfold ra rch; omega
def clf (r : Nat → Nat) : Nat → Nat → Nat → Nat
  | 0, p, _ => p
  | k + 1, p, f => if f < p then p else clf r k (p + 1) (max f (r p))
def clo (l : List Card) : Nat := clf (ra l) l.length 0 0
structure IsClo (r : Nat → Nat) (n c : Nat) : Prop where
  lo : 1 ≤ c
  hi : c ≤ n
  all : ∀ i, i < c → r i < c
  no : ∀ m, 1 ≤ m → m < c → ∃ i, i < m ∧ m ≤ r i
theorem IsClo.uniq {r : Nat → Nat} {n c d : Nat} (h : IsClo r n c) (k : IsClo r n d) : c = d := by
  rcases Nat.lt_trichotomy c d with q | q | q
  · obtain ⟨i, h1, h2⟩ := k.no c h.lo q
    have := h.all i h1; omega
  · exact q
  · obtain ⟨i, h1, h2⟩ := h.no d k.lo q
    have := k.all i h1; omega
theorem clf_is {r : Nat → Nat} {n : Nat} (hn : 1 ≤ n) (hr : ∀ i, r i < n) : ∀ (k p f : Nat), p + k = n → (∀ i, i < p → r i ≤ f) → (f = 0 ∨ ∃ i, i < p ∧ r i = f) → (∀ m, 1 ≤ m → m < p → ∃ i, i < m ∧ m ≤ r i) → IsClo r n (clf r k p f)
  | 0, p, f, e, _, _, h3 => by
    have : p = n := by omega
    subst this
    exact ⟨hn, Nat.le_refl _, fun i _ => hr i, h3⟩
  | k + 1, p, f, e, h1, h2, h3 => by
    unfold clf
    split
    · rename_i q
      exact ⟨by omega, by omega, fun i hi => Nat.lt_of_le_of_lt (h1 i hi) q, h3⟩
    · rename_i q
      refine clf_is hn hr k (p + 1) (max f (r p)) (by omega) (fun i hi => ?_) ?_ fun m m1 m2 => ?_
      · by_cases z : i = p
        · subst z; omega
        · have := h1 i (by omega); omega
      · by_cases z : f ≤ r p
        · exact .inr ⟨p, by omega, by omega⟩
        · rcases h2 with h2 | ⟨i, h4, h5⟩
          · omega
          · exact .inr ⟨i, by omega, by omega⟩
      · by_cases z : m = p
        · subst z
          rcases h2 with h2 | ⟨i, h4, h5⟩
          · omega
          · exact ⟨i, h4, by omega⟩
        · exact h3 m m1 (by omega)
theorem clo_is {l : List Card} (h : 1 ≤ l.length) : IsClo (ra l) l.length (clo l) := clf_is h (ra_lt h) _ _ _ (by omega) (fun i hi => absurd hi (Nat.not_lt_zero _)) (.inl rfl) fun m h1 h2 => by omega
theorem gLt_i {i j : Int} : gLtI (.int i) (.int j) S = some (.bl (decide (i < j)), S) := by simp [gLtI, gI]
theorem gLe_i {i j : Int} : gLe (.int i) (.int j) S = some (.bl (decide (i ≤ j)), S) := by simp [gLe]
theorem gGt_i {i j : Int} : gGtI (.int i) (.int j) S = some (.bl (decide (j < i)), S) := by simp [gGtI, gI]
theorem gEq_nat {neg : Bool} {i j : Nat} : gEq neg (.int (i : Nat)) (.int (j : Nat)) S = some (.bl (if neg then !decide (i = j) else decide (i = j)), S) := by
  rw [gEq_int]
  have : decide (((i : Nat) : Int) = ((j : Nat) : Int)) = decide (i = j) := by
    by_cases h : i = j
    · subst h; simp
    · rw [decide_eq_false h, decide_eq_false (by omega)]
  rw [this]
theorem filter_tt {α : Type} (l : List α) : l.filter (fun _ => true) = l := by induction l <;> simp_all
/-! ## hands, rings -/
def hand (l : List Card) (m : Nat) : List Card := (l.take m).filter fun c => decide (m ≤ rch l.length c)
def ring (l : List Card) (m : Nat) : List Card := hand l m ++ [at0 l m]
/-! ## homes, places, those away -/
def aw (l : List Card) : List Nat := (List.range (clo l)).filter fun i => !decide (i ≤ ra l i)
end Sb
end
section
set_option Elab.async false
set_option linter.all false
set_option maxRecDepth 100000
set_option maxHeartbeats 4000000
namespace Sb
open PySem PySem.Spec PyProof.Rows L2
variable {K : PySem.W.Frag} {S : Sto}
/-! ## draws, all else the same -/
theorem Sm.get {n i : Nat} {S S' : Sto} {o : Ob} (a : Sm n S S') (h : S[i]? = some o) (hi : i ≠ n) : S'[i]? = some o := (a.at_ i hi).trans h
theorem Sm.fr {n : Nat} {S S' : Sto} (a : Sm n S S') : Fr n S S' := ⟨by rw [a.len]; exact Nat.le_refl _, fun i h _ => a.at_ i h⟩
theorem Sm.of {n : Nat} {S S' : Sto} (f : Fr n S S') (l : S'.length = S.length) : Sm n S S' := ⟨l, fun i h => by
  by_cases q : i < S.length
  · exact f.at_ i h q
  · rw [List.getElem?_eq_none (by omega), List.getElem?_eq_none (by omega)]⟩
theorem ix_fints {is : List Int} {v : Nat} (h : v < is.length) : gIx (.fl (is.map D.int)) (.int (v : Nat)) S = some (.int (is.getD v 0), S) := by
  have h1 : ((v : Nat) : Int) < ((is.map D.int).length : Int) := by simpa using h
  have h0 : (0 : Int) ≤ (v : Nat) := by omega
  simp only [gIx, seqD, Option.bind_some, atI, ixN, if_pos h0, if_pos h1, Int.toNat_natCast, List.getElem?_map, List.getElem?_eq_getElem h, Option.map_some, List.getD_eq_getElem?_getD, Option.getD_some]
/-! ## home decks drawn -/
def HomeD (l : List Card) : Prop := ∀ i, i < l.length → (i : Int) ≤ (at0 l i).2
end Sb
end
section
set_option Elab.async false
set_option linter.all false
set_option maxRecDepth 100000
set_option maxHeartbeats 4000000
namespace Sb
open PySem PySem.Spec PyProof.Rows L2
variable {K : PySem.W.Frag} {S : Sto}
/-! ## what is wanted of an outcome -/
def Ws (m : Option (Fl × Sto)) (Q : Fl → Sto → Prop) : Prop := ∃ fl S', m = some (fl, S') ∧ Q fl S'
theorem Ws.mono {m : Option (Fl × Sto)} {Q Q' : Fl → Sto → Prop} (h : Ws m Q) (i : ∀ fl S, Q fl S → Q' fl S) : Ws m Q' := by
  obtain ⟨fl, S', e, q⟩ := h
  exact ⟨fl, S', e, i _ _ q⟩
theorem ws_nx {f g : SF} {τ τ1 : Sl} {S S1 : Sto} {Q : Fl → Sto → Prop} (h : f τ S = some (.nx τ1, S1)) (k : Ws (g τ1 S1) Q) : Ws (sSeq f g τ S) Q := by
  rw [show sSeq f g τ S = g τ1 S1 from sSeq_nx h]; exact k
theorem ws_set {i : Nat} {fe : EF} {g : SF} {τ : Sl} {d : D} {S S1 : Sto} {Q : Fl → Sto → Prop} (h : fe τ S = some (.ok d S1)) (k : Ws (g (τ.set i (some d)) S1) Q) : Ws (sSeq (sSet i fe) g τ S) Q := ws_nx (sSet_ok h) k
theorem ws_set1 {i : Nat} {fe : EF} {τ : Sl} {d : D} {S S1 : Sto} {Q : Fl → Sto → Prop} (h : fe τ S = some (.ok d S1)) (k : Q (.nx (τ.set i (some d))) S1) : Ws (sSet i fe τ S) Q := ⟨_, _, sSet_ok h, k⟩
theorem ws_ex {fe : EF} {g : SF} {τ : Sl} {d : D} {S S1 : Sto} {Q : Fl → Sto → Prop} (h : fe τ S = some (.ok d S1)) (k : Ws (g τ S1) Q) : Ws (sSeq (sEx fe) g τ S) Q := ws_nx (sEx_ok h) k
theorem ws_rt {fe : EF} {τ : Sl} {d : D} {S S1 : Sto} {Q : Fl → Sto → Prop} (h : fe τ S = some (.ok d S1)) (k : Q (.rt d) S1) : Ws (sRt fe τ S) Q := ⟨_, _, sRt_ok h, k⟩
theorem ws_nop {τ : Sl} {S : Sto} {Q : Fl → Sto → Prop} (k : Q (.nx τ) S) : Ws (sNop τ S) Q := ⟨_, _, rfl, k⟩
/-- an if without an else, which does not come about -/
theorem ws_no {t : BF} {f g : SF} {τ : Sl} {S S1 : Sto} {Q : Fl → Sto → Prop} (h : t τ S = some (.ok false S1)) (k : Ws (g τ S1) Q) : Ws (sSeq (sIf t f sNop) g τ S) Q := ws_nx (sIf_f h) k
def flK (Q1 : Sl → Sto → Prop) (Q : Fl → Sto → Prop) : Fl → Sto → Prop := fun fl S => match fl with
  | .nx τ => Q1 τ S
  | .ct τ => Q1 τ S
  | .rt d => Q (.rt d) S
  | _ => False
theorem ws_for {fi : IF} {g : TF} {fb rest : SF} {τ : Sl} {S S1 : Sto} {wk : Wk} {Q : Fl → Sto → Prop} (n : Nat) (I : Nat → Sl → Sto → Prop) (item : Nat → D) (hfi : fi τ S = some (.ok wk S1)) (hb : n ≤ wk.bound) (h0 : I 0 τ S1)
    (h : ∀ i τ S, i < n → I i τ S → wk.nxt i S = some (some (item i)) ∧ ∃ τ1, g (item i) S τ = some τ1 ∧ Ws (fb τ1 S) (flK (I (i + 1)) Q))
    (he : ∀ τ S, I n τ S → wk.nxt n S = some none) (k : ∀ τ' S', I n τ' S' → Ws (rest τ' S') Q) : Ws (sSeq (sFor fi g fb) rest τ S) Q := by
  have key : ∀ (m i : Nat) (τ : Sl) (S : Sto), i ≤ n → n - i < m → I i τ S → Ws (goF wk.nxt g fb m i τ S) (flK (I n) Q) := by
    intro m
    induction m with
    | zero => exact fun i τ S _ hm _ => absurd hm (Nat.not_lt_zero _)
    | succ m ih =>
      intro i τ S hi hm hI
      unfold goF
      by_cases e : i = n
      · subst e
        rw [he τ S hI]
        exact ⟨_, _, rfl, hI⟩
      · obtain ⟨h1, τ1, h2, fl, S2, h3, h4⟩ := h i τ S (by omega) hI
        rw [h1]
        simp only [h2, h3]
        cases fl with
        | nx τ2 => exact ih (i + 1) τ2 S2 (by omega) (by omega) h4
        | ct τ2 => exact ih (i + 1) τ2 S2 (by omega) (by omega) h4
        | rt d => exact ⟨_, _, rfl, h4⟩
        | bk τ2 => exact absurd h4 id
        | xx x τ2 => exact absurd h4 id
  obtain ⟨fl, S2, e, q⟩ := key (wk.bound + 1) 0 τ S1 (Nat.zero_le _) (by omega) h0
  have e2 : sFor fi g fb τ S = some (fl, S2) := sFor_ok hfi e
  cases fl with
  | nx τ2 =>
    rw [show sSeq (sFor fi g fb) rest τ S = rest τ2 S2 from sSeq_nx e2]
    exact k τ2 S2 q
  | rt d =>
    rw [show sSeq (sFor fi g fb) rest τ S = some (.rt d, S2) from sSeq_rt e2]
    exact ⟨_, _, rfl, q⟩
  | ct τ2 => 
    exfalso
    have : ∀ (m i : Nat) (τ : Sl) (S : Sto), goF wk.nxt g fb m i τ S ≠ some (.ct τ2, S2) := by
      intro m
      induction m with
      | zero => intro i τ S e; cases e
      | succ m ih =>
        intro i τ S e
        unfold goF at e
        split at e
        · cases e
        · cases e
        · split at e
          · cases e
          · split at e
            · exact ih _ _ _ e
            · exact ih _ _ _ e
            · cases e
            · rename_i hx _ _
              first | exact hx _ _ e | (rename_i hy; exact hy _ _ e) | simp_all
    exact this _ _ _ _ e
  | bk τ2 => exact absurd q id
  | xx x τ2 => exact absurd q id
theorem fn_ws {n : Nat} {f : SF} {ds : List D} {S : Sto} {Q : D → Sto → Prop} (h : Ws (f (ini n ds) S) fun fl S' => ∃ d, fl = .rt d ∧ Q d S') : ∃ d S', fnM n f ds S = some (.ok d S') ∧ Q d S' := by
  obtain ⟨fl, S', e, d, rfl, q⟩ := h
  exact ⟨d, S', fnM_rt e, q⟩
theorem fn_wt {n : Nat} {f : SF} {ds : List D} {S : Sto} {d : D} (h : Ws (f (ini n ds) S) fun fl S' => fl = .rt d ∧ S' = S) : fnM n f ds S = some (.ok d S) := by
  obtain ⟨fl, S', e, rfl, rfl⟩ := h
  exact fnM_rt e
/-! ## the head of a law -/
theorem law_ws {n : Nat} {f : SF} {ds : List D} {S : Sto} (h : Ws (f (ini n ds) S) fun fl _ => fl = .rt (.bl true)) : ∃ S', fnM n f ds S = some (.ok (.bl true) S') := by
  obtain ⟨fl, S', e, rfl⟩ := h
  exact ⟨S', fnM_rt e⟩
theorem ws_iret {t : BF} {fe : EF} {g h : SF} {τ : Sl} {d : D} {S S1 S2 : Sto} {Q : Fl → Sto → Prop} (h1 : t τ S = some (.ok true S1)) (h2 : fe τ S1 = some (.ok d S2)) (k : Q (.rt d) S2) : Ws (sSeq (sIf t (sRt fe) h) g τ S) Q :=
  ⟨_, _, sSeq_rt ((sIf_t h1).trans (sRt_ok h2)), k⟩
def flN (Q1 : Sl → Sto → Prop) (Q : Fl → Sto → Prop) : Fl → Sto → Prop := fun fl S => match fl with
  | .nx τ => Q1 τ S
  | .rt d => Q (.rt d) S
  | _ => False
theorem ws_seq {f g : SF} {τ : Sl} {S : Sto} {Q : Fl → Sto → Prop} (h : Ws (f τ S) (flN (fun τ1 S1 => Ws (g τ1 S1) Q) Q)) : Ws (sSeq f g τ S) Q := by
  obtain ⟨fl, S1, e, q⟩ := h
  cases fl with
  | nx τ1 => rw [show sSeq f g τ S = g τ1 S1 from sSeq_nx e]; exact q
  | rt d => exact ⟨_, _, sSeq_rt e, q⟩
  | ct τ => exact absurd q id
  | bk τ => exact absurd q id
  | xx x τ => exact absurd q id
end Sb
end
section
set_option Elab.async false
set_option linter.all false
set_option maxRecDepth 100000
set_option maxHeartbeats 4000000
namespace Sb
open PySem PySem.Spec PyProof.Rows L2
/-! ## a step, place by place -/
theorem stp_k {c : Card} {r : List Card} : stp (c :: r) = r.take (ra (c :: r) 0) ++ c :: r.drop (ra (c :: r) 0) := by
  unfold stp ra rch at0; simp
theorem ra0_le {c : Card} {r : List Card} : ra (c :: r) 0 ≤ r.length := by unfold ra rch at0; simp; omega
theorem stp_at0 {l : List Card} {i : Nat} (h : 1 ≤ l.length) : at0 (stp l) i = if i < ra l 0 then at0 l (i + 1) else if i = ra l 0 then at0 l 0 else at0 l i := by
  cases l with
  | nil => simp at h
  | cons c r =>
    have hk := ra0_le (c := c) (r := r)
    rw [stp_k]
    generalize ra (c :: r) 0 = k at hk ⊢
    unfold at0
    simp only [List.getD_eq_getElem?_getD]
    by_cases h1 : i < k
    · rw [if_pos h1, List.getElem?_append_left (by rw [List.length_take]; omega), List.getElem?_take_of_lt h1, List.getElem?_cons_succ]
    · rw [if_neg h1]
      rw [List.getElem?_append_right (by rw [List.length_take]; omega), List.length_take, Nat.min_eq_left hk]
      by_cases h2 : i = k
      · subst h2; simp
      · rw [if_neg h2]
        obtain ⟨j, rfl⟩ : ∃ j, i = k + j + 1 := ⟨i - k - 1, by omega⟩
        rw [show k + j + 1 - k = j + 1 by omega, List.getElem?_cons_succ, List.getElem?_drop, List.getElem?_cons_succ]
theorem ra_stp {l : List Card} {i : Nat} (h : 1 ≤ l.length) : ra (stp l) i = if i < ra l 0 then ra l (i + 1) else if i = ra l 0 then ra l 0 else ra l i := by
  have e : ra (stp l) i = rch l.length (at0 (stp l) i) := by unfold ra; rw [stp_len]
  rw [e, stp_at0 h]
  by_cases h1 : i < ra l 0
  · rw [if_pos h1, if_pos h1]; rfl
  · rw [if_neg h1, if_neg h1]
    by_cases h2 : i = ra l 0
    · rw [if_pos h2, if_pos h2]; rfl
    · rw [if_neg h2, if_neg h2]; rfl
/-- home by its place -/
theorem HomeD.ra {l : List Card} (h : HomeD l) {i : Nat} (hi : i < l.length) : i ≤ ra l i := by
  have := h i hi
  unfold Sb.ra rch; omega
/-- the closed place goes no nearer to the end by a step -/
theorem clo_all {l : List Card} (hl : 1 ≤ l.length) : ∀ m, 1 ≤ m → (∀ i, i < m → ra l i < m) → ∀ i, i < m → ra (stp l) i < m := by
  intro m hm h i hi
  have h0 := h 0 (by omega)
  rw [ra_stp hl]
  split
  · exact h _ (by omega)
  · split
    · exact h0
    · exact h i hi
/-! ## rings by a step -/
theorem hand_lo {c : Card} {r : List Card} {m : Nat} (h : ra (c :: r) 0 < m) : hand (stp (c :: r)) m = hand (c :: r) m := by
  have hk := ra0_le (c := c) (r := r)
  have hp : decide (m ≤ rch (c :: r).length c) = false := decide_eq_false (by have : ra (c :: r) 0 = rch (c :: r).length c := rfl; omega)
  unfold hand
  rw [stp_len, stp_k]
  generalize ra (c :: r) 0 = k at h hk
  obtain ⟨j, rfl⟩ : ∃ j, m = k + 1 + j := ⟨m - k - 1, by omega⟩
  have e1 : (r.take k ++ c :: r.drop k).take (k + 1 + j) = r.take k ++ c :: (r.drop k).take j := by
    rw [List.take_append, List.take_of_length_le (by rw [List.length_take]; omega), List.length_take, Nat.min_eq_left hk, show k + 1 + j - k = j + 1 by omega, List.take_succ_cons]
  rw [e1, List.filter_append, List.filter_cons, if_neg (by rw [hp]; simp), ← List.filter_append, show k + 1 + j = (k + j) + 1 by omega, List.take_succ_cons, List.filter_cons, if_neg (by rw [show k + j + 1 = k + 1 + j by omega, hp]; simp)]
  rw [List.take_add]
theorem ring_lo {l : List Card} {m : Nat} (h : ra l 0 < m) (hm : m < l.length) : ring (stp l) m = ring l m := by
  cases l with
  | nil => simp at hm
  | cons c r =>
    unfold ring
    rw [hand_lo h, stp_at0 (by simp), if_neg (by omega), if_neg (by omega)]
theorem ring_hi2 {l : List Card} {m : Nat} (h : m ≤ ra l 0) (hm : m < l.length) : ring (stp l) m = hand (stp l) m ++ [if m < ra l 0 then at0 l (m + 1) else at0 l 0] := by
  unfold ring
  rw [stp_at0 (by omega)]
  congr 2
  split
  · rfl
  · rw [if_pos (by omega)]
/-! ## ends of told lists -/
theorem eNeg_ok {f : EF} {τ : Sl} {i : Int} {S S1 : Sto} (h : f τ S = some (.ok (.int i) S1)) : eNeg f τ S = some (.ok (.int (-i)) S1) := by simp only [eNeg, M.bnd, h]
theorem or_f {t u : BF} {τ : Sl} {S : Sto} (h1 : t τ S = some (.ok false S)) (h2 : u τ S = some (.ok false S)) : tOr' t u τ S = some (.ok false S) := tOr_f h1 h2
theorem row_fz {K : PySem.W.Frag} {S : Sto} {d : D} {l : List Card} {n : Nat} {a : AF} {τ : Sl} (w : Wf S) (h : isDeck S d l) (ok : DeckOk l) (hn : n ≤ 2000) (ha : a τ S = some (.ok [d, .int (n : Nat)] S)) : fz (eCl (M_row_seen K) 2 a) τ S = some (.ok (.fl ((tops l n).map D.str)) S) := by
  obtain ⟨k, X, e, h2, h3⟩ := row_seen_ok (K := K) h ok hn
  exact fz_lst w (eCl_ok ha rfl e) h2 h3 bds_str
end Sb
end
section
set_option Elab.async false
set_option linter.all false
set_option maxRecDepth 100000
set_option maxHeartbeats 4000000
namespace Sb
open PySem PySem.Spec PyProof.Rows L2
/-! ## patterns, and what they show -/
abbrev Pat := List (Option Str)
def pat (l : List Card) (m : Nat) : Pat := (ring l m).map fun c => if m < rch l.length c then none else some c.1
def told (l : List Card) : List Pat := (List.range (clo l)).map (pat l)
def nxt (p : Pat) (i : Nat) : Nat := i / p.length * p.count none + (p.take (i % p.length)).count none
theorem rot_nxt {a : Option Str} {Q : Pat} {i : Nat} : nxt (a :: Q) (i + 1) = (if a = none then 1 else 0) + nxt (Q ++ [a]) i := by
  unfold nxt
  have hc : ∀ R : Pat, (a :: R).count none = (if a = none then 1 else 0) + R.count none := fun R => by
    rw [List.count_cons]
    cases a <;> simp [Nat.add_comm]
  have hc2 : (Q ++ [a]).count none = (if a = none then 1 else 0) + Q.count none := by
    rw [List.count_append, ← hc]
    cases a <;> simp [Nat.add_comm, List.count_cons]
  rw [hc, hc2]
  simp only [List.length_cons, List.length_append, List.length_nil, Nat.zero_add]
  have ht := Nat.mod_lt i (show 0 < Q.length + 1 by omega)
  have hd := Nat.div_add_mod i (Q.length + 1)
  by_cases h : i % (Q.length + 1) + 1 < Q.length + 1
  · have e1 : (i + 1) / (Q.length + 1) = i / (Q.length + 1) := by
      rw [Nat.div_eq_iff (by omega)]
      generalize i / (Q.length + 1) = q at *
      have : q * (Q.length + 1) = (Q.length + 1) * q := Nat.mul_comm _ _
      omega
    have e2 : (i + 1) % (Q.length + 1) = i % (Q.length + 1) + 1 := by
      have := Nat.div_add_mod (i + 1) (Q.length + 1)
      rw [e1] at this; omega
    rw [e1, e2, List.take_succ_cons, hc, List.take_append_of_le_length (by omega)]
    omega
  · have e : i % (Q.length + 1) = Q.length := by omega
    have e1 : (i + 1) / (Q.length + 1) = i / (Q.length + 1) + 1 := by
      rw [Nat.div_eq_iff (by omega)]
      rw [e] at hd
      generalize i / (Q.length + 1) = q at *
      have : (q + 1) * (Q.length + 1) = (Q.length + 1) * q + (Q.length + 1) := by rw [Nat.add_mul, Nat.mul_comm, Nat.one_mul]
      omega
    have e2 : (i + 1) % (Q.length + 1) = 0 := by
      have := Nat.div_add_mod (i + 1) (Q.length + 1)
      rw [e1, Nat.mul_add] at this; omega
    rw [e1, e2, e, List.take_zero, List.take_left, Nat.add_mul, Nat.one_mul, List.count_nil]
    omega
theorem pat_lo {l : List Card} {m : Nat} (h : ra l 0 < m) (hm : m < l.length) : pat (stp l) m = pat l m := by
  unfold pat
  rw [ring_lo h hm, stp_len]
end Sb
end
section
set_option Elab.async false
set_option linter.all false
set_option maxRecDepth 100000
set_option maxHeartbeats 4000000
namespace Sb
open PySem PySem.Spec PyProof.Rows L2
/-! ## rows that turn: the levels above q as patterns, q's ring -/
def rot (p : Pat) (k : Nat) : Pat := p.drop k ++ p.take k
def trn : List Pat → Nat → List Pat
  | [], _ => []
  | p :: ps, i => rot p (i % p.length) :: trn ps (nxt p i)
def adv : List Pat → Nat → Nat
  | [], i => i
  | p :: ps, i => adv ps (nxt p i)
def lring (l : List Card) (q : Nat) : Pat := (ring l q).map fun c => some c.1
def pats (l : List Card) (q m : Nat) : List Pat := (List.range' m (q - m)).map (pat l)
def frk (l : List Card) (q m : Nat) : List Pat := pats l q m ++ [lring l q]
abbrev frw (l : List Card) (q : Nat) : List Pat := frk l q 0
theorem pats_cons {l : List Card} {q m : Nat} (h : m < q) : pats l q m = pat l m :: pats l q (m + 1) := by
  unfold pats
  rw [show q - m = (q - (m + 1)) + 1 by omega, List.range'_succ, List.map_cons]
theorem pats_end {l : List Card} {q : Nat} : pats l q q = [] := by unfold pats; rw [Nat.sub_self]; rfl
theorem frk_cons {l : List Card} {q m : Nat} (h : m < q) : frk l q m = pat l m :: frk l q (m + 1) := by
  unfold frk; rw [pats_cons h, List.cons_append]
theorem frk_end {l : List Card} {q : Nat} : frk l q q = [lring l q] := by unfold frk; rw [pats_end]; rfl
theorem rot_rot {a : Option Str} {Q : Pat} {i : Nat} : rot (a :: Q) ((i + 1) % (a :: Q).length) = rot (Q ++ [a]) (i % (Q ++ [a]).length) := by
  simp only [List.length_cons, List.length_append, List.length_nil, Nat.zero_add]
  have ht := Nat.mod_lt i (show 0 < Q.length + 1 by omega)
  rw [Nat.add_mod]
  by_cases h : i % (Q.length + 1) + 1 < Q.length + 1
  · rw [show 1 % (Q.length + 1) = 1 from Nat.mod_eq_of_lt (by omega), Nat.mod_eq_of_lt h]
    unfold rot
    rw [List.drop_succ_cons, List.take_succ_cons, List.drop_append_of_le_length (by omega), List.take_append_of_le_length (by omega), List.append_assoc]; rfl
  · have e : i % (Q.length + 1) = Q.length := by omega
    rw [e]
    have e2 : (Q.length + 1 % (Q.length + 1)) % (Q.length + 1) = 0 := by
      by_cases hq : Q.length = 0
      · rw [hq]
      · rw [show 1 % (Q.length + 1) = 1 from Nat.mod_eq_of_lt (by omega), Nat.mod_self]
    rw [e2]
    unfold rot
    simp
theorem rot_zero (p : Pat) : rot p 0 = p := by unfold rot; simp
theorem nxt_zero (p : Pat) : nxt p 0 = 0 := by unfold nxt; simp
theorem trn_zero : ∀ ps : List Pat, trn ps 0 = ps
  | [] => rfl
  | p :: ps => by unfold trn; rw [Nat.zero_mod, rot_zero, nxt_zero, trn_zero ps]
theorem adv_zero : ∀ ps : List Pat, adv ps 0 = 0
  | [] => rfl
  | p :: ps => by unfold adv; rw [nxt_zero, adv_zero ps]
/-! ## a ring whose card at its place is home -/
theorem ring_hi1' {c : Card} {r : List Card} {m : Nat} (hh : m ≤ ra (c :: r) m) (h : m ≤ ra (c :: r) 0) (hm : m < (c :: r).length) : ring (c :: r) m = c :: hand (stp (c :: r)) m := by
  have hk := ra0_le (c := c) (r := r)
  have hc : decide (m ≤ rch (c :: r).length c) = true := decide_eq_true h
  unfold ring hand
  rw [stp_len, stp_k]
  generalize ra (c :: r) 0 = k at h hk
  rw [List.take_append_of_le_length (by rw [List.length_take]; omega), List.take_take, Nat.min_eq_left h]
  cases m with
  | zero => simp [at0]
  | succ m =>
    rw [List.take_succ_cons, List.filter_cons, if_pos hc, List.cons_append]
    have hm' : m < r.length := by simp at hm; omega
    have e : at0 (c :: r) (m + 1) = r[m] := by rw [at0_eq hm]; rfl
    have hp : decide (m + 1 ≤ rch (c :: r).length r[m]) = true := by rw [← e]; exact decide_eq_true hh
    rw [List.take_succ_eq_append_getElem hm', List.filter_append, e]
    congr 2
    rw [List.filter_cons, if_pos hp]; rfl
theorem pat_hi' {l : List Card} {m : Nat} (hl : 1 ≤ l.length) (h : m ≤ ra l 0) (h1 : m ≤ ra l m) (h2 : m < ra l 0 → m + 1 ≤ ra l (m + 1)) : ∃ Q : Pat, ∃ a : Option Str, pat l m = a :: Q ∧ pat (stp l) m = Q ++ [a] ∧ a = if m < ra l 0 then none else some (at0 l 0).1 := by
  cases l with
  | nil => simp at hl
  | cons c r =>
    have hm : m < (c :: r).length := by have := ra_lt (l := c :: r) (by simp) 0; omega
    refine ⟨(hand (stp (c :: r)) m).map fun x => if m < rch (c :: r).length x then none else some x.1, _, ?_, ?_, rfl⟩
    · unfold pat
      rw [ring_hi1' h1 h hm, List.map_cons]; rfl
    · unfold pat
      rw [ring_hi2 h hm, stp_len, List.map_append, List.map_singleton]
      congr 2
      by_cases q : m < ra (c :: r) 0
      · rw [if_pos q, if_pos q, if_pos]
        exact h2 q
      · rw [if_neg q, if_neg q, if_neg]
        have : ra (c :: r) 0 = rch (c :: r).length (at0 (c :: r) 0) := rfl
        omega
/-- all above q are home -/
def HomeTo (l : List Card) (q : Nat) : Prop := q < l.length ∧ ∀ i, i < q → i ≤ ra l i
/-- the step moves none but above q, or q is home as well and none reaches deeper -/
def StepIn (l : List Card) (q : Nat) : Prop := ra l 0 < q ∨ (q ≤ ra l q ∧ ra l 0 ≤ q)
theorem lring_lo {l : List Card} {q : Nat} (h : ra l 0 < q) (hq : q < l.length) : lring (stp l) q = lring l q := by unfold lring; rw [ring_lo h hq]
theorem frk_lo {l : List Card} {q m : Nat} (h : ra l 0 < m) (hm : m ≤ q) (hq : q < l.length) : frk (stp l) q m = frk l q m := by
  unfold frk pats
  rw [lring_lo (by omega) hq]
  congr 1
  refine List.map_congr_left fun i hi => ?_
  rw [List.mem_range'_1] at hi
  exact pat_lo (by omega) (by omega)
theorem StepIn.nxt {l : List Card} {q m : Nat} (hs : StepIn l q) (hh : HomeTo l q) (h : m < ra l 0) : m + 1 ≤ ra l (m + 1) := by
  rcases hs with hs | ⟨h1, h2⟩
  · exact hh.2 _ (by omega)
  · by_cases e : m + 1 = q
    · rw [e]; exact h1
    · exact hh.2 _ (by omega)
theorem StepIn.le {l : List Card} {q : Nat} (hs : StepIn l q) : ra l 0 ≤ q := by rcases hs with h | h <;> omega
theorem trn_step {l : List Card} {q : Nat} (hs : StepIn l q) (hh : HomeTo l q) : ∀ (j m : Nat), ra l 0 - m = j → m ≤ ra l 0 → ∀ s, trn (frk l q m) (s + 1) = trn (frk (stp l) q m) s := by
  have hl : 1 ≤ l.length := by have := hh.1; omega
  have hle := hs.le
  intro j
  induction j with
  | zero =>
    intro m hj hm s
    have e : m = ra l 0 := by omega
    by_cases hq : m < q
    · obtain ⟨Q, a, h1, h2, h3⟩ := pat_hi' hl hm (hh.2 m hq) (fun h => by omega)
      rw [if_neg (by omega)] at h3
      subst h3
      rw [frk_cons (l := l) hq, frk_cons (l := stp l) hq, h1, h2]
      unfold trn
      rw [rot_rot, rot_nxt, if_neg (by simp), Nat.zero_add, frk_lo (by omega) (by omega) hh.1]
    · have e2 : m = q := by omega
      subst e2
      rcases hs with hs | ⟨h1, _⟩
      · omega
      rw [frk_end, frk_end]
      cases l with
      | nil => simp at hl
      | cons c r =>
        have r1 := ring_hi1' h1 hm hh.1
        have r2 := ring_hi2 hm hh.1
        rw [if_neg (by omega)] at r2
        have e1 : lring (c :: r) m = some c.1 :: (hand (stp (c :: r)) m).map fun c => some c.1 := by unfold lring; rw [r1]; rfl
        have e2 : lring (stp (c :: r)) m = ((hand (stp (c :: r)) m).map fun c => some c.1) ++ [some c.1] := by unfold lring; rw [r2, List.map_append]; rfl
        rw [e1, e2]
        unfold trn
        rw [rot_rot]
        rfl
  | succ j ih =>
    intro m hj hm s
    have hq : m < q := by omega
    obtain ⟨Q, a, h1, h2, h3⟩ := pat_hi' hl hm (hh.2 m hq) (fun h => hs.nxt hh h)
    rw [if_pos (by omega)] at h3
    subst h3
    rw [frk_cons (l := l) hq, frk_cons (l := stp l) hq, h1, h2]
    unfold trn
    rw [rot_rot, rot_nxt, if_pos rfl, Nat.add_comm 1, ih (m + 1) (by omega) (by omega)]
theorem trn_stp {l : List Card} {q : Nat} (hs : StepIn l q) (hh : HomeTo l q) (s : Nat) : trn (frw l q) (s + 1) = trn (frw (stp l) q) s := trn_step hs hh _ 0 rfl (Nat.zero_le _) s
theorem homeTo_stp {l : List Card} {q : Nat} (hs : StepIn l q) (hh : HomeTo l q) : HomeTo (stp l) q := by
  have hl : 1 ≤ l.length := by have := hh.1; omega
  refine ⟨by rw [stp_len]; exact hh.1, fun i hi => ?_⟩
  rw [ra_stp hl]
  split
  · rename_i h
    have := hs.nxt hh h; omega
  · split
    · omega
    · exact hh.2 i hi
theorem drop_stp {l : List Card} {q : Nat} (h : ra l 0 ≤ q) : (stp l).drop (q + 1) = l.drop (q + 1) := by
  cases l with
  | nil => rfl
  | cons c r =>
    have hk := ra0_le (c := c) (r := r)
    rw [stp_k, List.drop_succ_cons]
    generalize ra (c :: r) 0 = k at h hk
    rw [List.drop_append, List.drop_of_length_le (by rw [List.length_take]; omega), List.nil_append, List.length_take, Nat.min_eq_left hk, show q + 1 - k = (q - k) + 1 by omega, List.drop_succ_cons, List.drop_drop]
    congr 1; omega
theorem stps_front (n : Nat) (l : List Card) : stps (n + 1) l = stps n (stp l) := by
  induction n with
  | zero => rfl
  | succ n ih => show stp (stps (n + 1) l) = _; rw [ih]; rfl
/-- all of the first s steps are within -/
def Within (l : List Card) (q s : Nat) : Prop := ∀ t, t < s → StepIn (stps t l) q
theorem within_all : ∀ (s : Nat) {l : List Card} {q : Nat}, HomeTo l q → Within l q s → HomeTo (stps s l) q ∧ trn (frw l q) s = frw (stps s l) q ∧ (stps s l).drop (q + 1) = l.drop (q + 1)
  | 0, l, q, hh, hw => ⟨hh, trn_zero _, rfl⟩
  | s + 1, l, q, hh, hw => by
    have h0 : StepIn l q := hw 0 (by omega)
    have hh1 := homeTo_stp h0 hh
    obtain ⟨a, b, c⟩ := within_all s hh1 (fun t ht => by have := hw (t + 1) (by omega); rwa [stps_front] at this)
    rw [stps_front, trn_stp h0 hh]
    exact ⟨a, b, c.trans (drop_stp h0.le)⟩
/-! ## rows put together again -/
def fil : Pat → List Str → List Str
  | [], _ => []
  | some x :: r, h => x :: fil r h
  | none :: r, h => h.headD "" :: fil r h.tail
def bl : List Pat → List Str × List Str
  | [] => ([], [])
  | p :: ps => ((fil p (bl ps).1).dropLast, (bl ps).2 ++ [(fil p (bl ps).1).getLastD ""])
theorem ring_take {l : List Card} {m : Nat} (hm : m < l.length) (h : m ≤ ra l m) : ring l m = (l.take (m + 1)).filter fun c => decide (m ≤ rch l.length c) := by
  unfold ring hand
  rw [List.take_succ_eq_append_getElem hm, List.filter_append]
  congr 1
  rw [at0_eq hm, List.filter_cons, if_pos]
  · rfl
  · have : ra l m = rch l.length l[m] := by unfold ra; rw [at0_eq hm]
    rw [← this]; exact decide_eq_true h
/-! ## how far a stretch goes -/
def idx (p : Pat) (x : Option Str) : List Nat := (List.range p.length).filter fun i => decide (p.getD i none = x)
def whn (p : Pat) (x : Option Str) (k : Nat) : Nat := k / (idx p x).length * p.length + (idx p x).getD (k % (idx p x).length) 0
def shw : List Pat → Nat → Nat
  | [], i => i
  | p :: ps, i => whn p none (shw ps i)
end Sb
end
section
set_option Elab.async false
set_option linter.all false
set_option maxRecDepth 100000
set_option maxHeartbeats 4000000
namespace Sb
open PySem PySem.Spec PyProof.Rows L2
/-! ## how often, and when, a thing is shown by a row that goes round -/
def cnt (p : Pat) (x : Option Str) (b : Nat) : Nat := (p.take b).count x
def ofr (p : Pat) (x : Option Str) (i : Nat) : Nat := i / p.length * p.count x + (p.take (i % p.length)).count x
theorem nxt_ofr (p : Pat) (i : Nat) : nxt p i = ofr p none i := rfl
theorem filt_at {P : Nat → Bool} : ∀ (n j b : Nat), ((List.range n).filter P)[j]? = some b → b < n ∧ P b = true ∧ ((List.range b).filter P).length = j
  | 0, j, b, h => by simp at h
  | n + 1, j, b, h => by
    rw [List.range_succ, List.filter_append] at h
    by_cases q : j < ((List.range n).filter P).length
    · rw [List.getElem?_append_left q] at h
      obtain ⟨h1, h2, h3⟩ := filt_at n j b h
      exact ⟨by omega, h2, h3⟩
    · rw [List.getElem?_append_right (by omega)] at h
      by_cases hP : P n = true
      · rw [List.filter_cons, if_pos hP] at h
        have hj : j - ((List.range n).filter P).length = 0 := by
          have := (List.getElem?_eq_some_iff.mp h).1
          simp at this; omega
        rw [hj] at h
        simp at h
        subst h
        exact ⟨by omega, hP, by omega⟩
      · rw [List.filter_cons, if_neg hP] at h
        simp at h
theorem cnt_filt {p : Pat} {x : Option Str} : ∀ {b : Nat}, b ≤ p.length → cnt p x b = ((List.range b).filter fun i => decide (p.getD i none = x)).length
  | 0, _ => by simp [cnt]
  | b + 1, h => by
    have ih := cnt_filt (p := p) (x := x) (b := b) (by omega)
    unfold cnt at ih ⊢
    rw [List.take_succ_eq_append_getElem (by omega), List.count_append, ih, List.range_succ, List.filter_append, List.length_append]
    congr 1
    have e : p.getD b none = p[b] := by rw [List.getD_eq_getElem?_getD, List.getElem?_eq_getElem (by omega)]; rfl
    rw [List.filter_cons]
    by_cases q : p[b] = x
    · rw [if_pos (by rw [e]; exact decide_eq_true q), q]; simp
    · rw [if_neg (by rw [e]; simpa using q), List.count_singleton]
      simp only [List.filter_nil, List.length_nil]
      rw [if_neg]; simpa using q
theorem idx_len (p : Pat) (x : Option Str) : (idx p x).length = p.count x := by
  have := cnt_filt (p := p) (x := x) (Nat.le_refl _)
  unfold cnt at this
  rw [List.take_length] at this
  unfold idx
  exact this.symm
theorem idx_at {p : Pat} {x : Option Str} {j : Nat} (h : j < p.count x) : (idx p x).getD j 0 < p.length ∧ p.getD ((idx p x).getD j 0) none = x ∧ cnt p x ((idx p x).getD j 0) = j := by
  have hj : j < (idx p x).length := by rw [idx_len]; exact h
  have e : (idx p x)[j]? = some ((idx p x).getD j 0) := by rw [List.getD_eq_getElem?_getD, List.getElem?_eq_getElem hj]; rfl
  obtain ⟨h1, h2, h3⟩ := filt_at _ _ _ e
  exact ⟨h1, of_decide_eq_true h2, by rw [cnt_filt (by omega)]; exact h3⟩
theorem ofr_succ {p : Pat} {x : Option Str} (hp : 1 ≤ p.length) (i : Nat) : ofr p x (i + 1) = ofr p x i + (if p.getD (i % p.length) none = x then 1 else 0) := by
  unfold ofr
  have ht := Nat.mod_lt i (show 0 < p.length by omega)
  have hd := Nat.div_add_mod i p.length
  have e : p.getD (i % p.length) none = p[i % p.length] := by rw [List.getD_eq_getElem?_getD, List.getElem?_eq_getElem ht]; rfl
  have hc : (p.take (i % p.length + 1)).count x = (p.take (i % p.length)).count x + (if p.getD (i % p.length) none = x then 1 else 0) := by
    rw [List.take_succ_eq_append_getElem ht, List.count_append, List.count_singleton, e]
    congr 1
    by_cases q : p[i % p.length] = x
    · rw [if_pos q, q]; simp
    · rw [if_neg q, if_neg]; simpa using q
  by_cases h : i % p.length + 1 < p.length
  · have e1 : (i + 1) / p.length = i / p.length := by
      rw [Nat.div_eq_iff (by omega)]
      generalize i / p.length = q at *
      have : q * p.length = p.length * q := Nat.mul_comm _ _
      omega
    have e2 : (i + 1) % p.length = i % p.length + 1 := by
      have := Nat.div_add_mod (i + 1) p.length
      rw [e1] at this; omega
    rw [e1, e2, hc]; omega
  · have e0 : i % p.length + 1 = p.length := by omega
    have e1 : (i + 1) / p.length = i / p.length + 1 := by
      rw [Nat.div_eq_iff (by omega)]
      generalize i / p.length = q at *
      have : (q + 1) * p.length = p.length * q + p.length := by rw [Nat.add_mul, Nat.mul_comm, Nat.one_mul]
      omega
    have e2 : (i + 1) % p.length = 0 := by
      have := Nat.div_add_mod (i + 1) p.length
      rw [e1, Nat.mul_add] at this; omega
    rw [e0, List.take_length] at hc
    rw [e1, e2, List.take_zero, List.count_nil, Nat.add_mul, Nat.one_mul]; omega
theorem whn_at {p : Pat} {x : Option Str} (h : 1 ≤ p.count x) (k : Nat) : ofr p x (whn p x k) = k ∧ p.getD (whn p x k % p.length) none = x := by
  obtain ⟨h1, h2, h3⟩ := idx_at (p := p) (x := x) (j := k % p.count x) (Nat.mod_lt _ h)
  unfold whn ofr
  rw [idx_len]
  generalize (idx p x).getD (k % p.count x) 0 = b at *
  have e1 : (k / p.count x * p.length + b) / p.length = k / p.count x := by
    rw [Nat.mul_comm, Nat.mul_add_div (by omega), Nat.div_eq_of_lt h1, Nat.add_zero]
  have e2 : (k / p.count x * p.length + b) % p.length = b := by
    rw [Nat.mul_comm, Nat.mul_add_mod, Nat.mod_eq_of_lt h1]
  rw [e1, e2]
  refine ⟨?_, h2⟩
  have : (p.take b).count x = k % p.count x := h3
  rw [this, Nat.mul_comm]
  exact Nat.div_add_mod k _
theorem whn_len {p : Pat} {x : Option Str} (h : 1 ≤ p.count x) : 1 ≤ p.length := Nat.le_trans h List.count_le_length
theorem whn_succ {p : Pat} {x : Option Str} (h : 1 ≤ p.count x) (k : Nat) : ofr p x (whn p x k + 1) = k + 1 := by
  obtain ⟨h1, h2⟩ := whn_at h k
  rw [ofr_succ (whn_len h), h1, if_pos h2]
def Holed (ps : List Pat) : Prop := ∀ p ∈ ps, 1 ≤ p.count none
theorem adv_shw : ∀ {ps : List Pat}, Holed ps → ∀ k, adv ps (shw ps k) = k ∧ adv ps (shw ps k + 1) = k + 1
  | [], _, k => ⟨rfl, rfl⟩
  | p :: ps, h, k => by
    obtain ⟨i1, i2⟩ := adv_shw (ps := ps) (fun q hq => h q (List.mem_cons_of_mem _ hq)) k
    have hp := h p List.mem_cons_self
    unfold adv shw
    rw [nxt_ofr, nxt_ofr, (whn_at hp _).1, whn_succ hp]
    exact ⟨i1, i2⟩
/-! ## a stretch: up to the first step of q's level -/
theorem adv_lo {l : List Card} {q : Nat} (hs : ra l 0 < q) (hh : HomeTo l q) : ∀ (j m : Nat), ra l 0 - m = j → m ≤ ra l 0 → ∀ s, adv (pats l q m) (s + 1) = adv (pats (stp l) q m) s := by
  have hl : 1 ≤ l.length := by have := hh.1; omega
  intro j
  induction j with
  | zero =>
    intro m hj hm s
    have hq : m < q := by omega
    obtain ⟨Q, a, h1, h2, h3⟩ := pat_hi' hl hm (hh.2 m hq) (fun h => by omega)
    rw [if_neg (by omega)] at h3
    subst h3
    rw [pats_cons (l := l) hq, pats_cons (l := stp l) hq, h1, h2]
    unfold adv
    rw [rot_nxt, if_neg (by simp), Nat.zero_add]
    have : pats (stp l) q (m + 1) = pats l q (m + 1) := by
      unfold pats
      refine List.map_congr_left fun i hi => ?_
      rw [List.mem_range'_1] at hi
      exact pat_lo (by omega) (by have := hh.1; omega)
    rw [this]
  | succ j ih =>
    intro m hj hm s
    have hq : m < q := by omega
    obtain ⟨Q, a, h1, h2, h3⟩ := pat_hi' hl hm (hh.2 m hq) (fun h => hh.2 _ (by omega))
    rw [if_pos (by omega)] at h3
    subst h3
    rw [pats_cons (l := l) hq, pats_cons (l := stp l) hq, h1, h2]
    unfold adv
    rw [rot_nxt, if_pos rfl, Nat.add_comm 1, ih (m + 1) (by omega) (by omega)]
theorem adv_hi {l : List Card} {q : Nat} (hs : q ≤ ra l 0) (hh : HomeTo l q) : ∀ (j m : Nat), q - m = j → m ≤ q → ∀ i, 1 ≤ adv (pats l q m) (i + 1) := by
  have hl : 1 ≤ l.length := by have := hh.1; omega
  intro j
  induction j with
  | zero =>
    intro m hj hm i
    have e : m = q := by omega
    subst e
    rw [pats_end]
    unfold adv; omega
  | succ j ih =>
    intro m hj hm i
    have hq : m < q := by omega
    have hml : m < l.length := by have := hh.1; omega
    have hp : ∃ Q : Pat, pat l m = none :: Q := by
      cases l with
      | nil => simp at hl
      | cons c r =>
        refine ⟨(hand (stp (c :: r)) m).map fun x => if m < rch (c :: r).length x then none else some x.1, ?_⟩
        unfold pat
        rw [ring_hi1' (hh.2 m hq) (by omega) hml, List.map_cons, if_pos]
        have : ra (c :: r) 0 = rch (c :: r).length c := rfl
        omega
    obtain ⟨Q, hQ⟩ := hp
    rw [pats_cons hq, hQ]
    unfold adv
    rw [rot_nxt, if_pos rfl, Nat.add_comm 1]
    exact ih (m + 1) (by omega) (by omega) _
theorem below_of {q : Nat} : ∀ (s : Nat) {l : List Card}, HomeTo l q → adv (pats l q 0) s = 0 → ∀ t, t < s → ra (stps t l) 0 < q
  | 0, l, hh, ha, t, ht => absurd ht (Nat.not_lt_zero _)
  | s + 1, l, hh, ha, t, ht => by
    have h0 : ra l 0 < q := by
      rcases Nat.lt_or_ge (ra l 0) q with z | z
      · exact z
      · have := adv_hi z hh _ 0 rfl (Nat.zero_le _) s
        omega
    cases t with
    | zero => exact h0
    | succ t =>
      rw [stps_front]
      refine below_of s (homeTo_stp (.inl h0) hh) ?_ t (by omega)
      rw [← adv_lo h0 hh _ 0 rfl (Nat.zero_le _)]; exact ha
theorem adv_on {q : Nat} : ∀ (s : Nat) {l : List Card}, HomeTo l q → (∀ t, t < s → ra (stps t l) 0 < q) → ∀ d, adv (pats l q 0) (s + d) = adv (pats (stps s l) q 0) d
  | 0, l, hh, _, d => by rw [Nat.zero_add]; rfl
  | s + 1, l, hh, hb, d => by
    have h0 : ra l 0 < q := hb 0 (by omega)
    rw [show s + 1 + d = (s + d) + 1 by omega, adv_lo h0 hh _ 0 rfl (Nat.zero_le _), stps_front]
    exact adv_on s (homeTo_stp (.inl h0) hh) (fun t ht => by have := hb (t + 1) (by omega); rwa [stps_front] at this) d
/-- the steps of a stretch less its last one -/
def stl (l : List Card) (q : Nat) : Nat := shw (pats l q 0) 0
theorem holed {l : List Card} {q : Nat} (ok : DeckOk l) (hh : HomeTo l q) (hq : q < clo l) : Holed (pats l q 0) := fun p hp => by
  unfold pats at hp
  obtain ⟨m, hm, rfl⟩ := List.mem_map.mp hp
  rw [List.mem_range'_1] at hm
  obtain ⟨i, h1, h2⟩ := (clo_is ok.lo).no (m + 1) (by omega) (by omega)
  have hml : m < l.length := by have := hh.1; omega
  have hc : at0 l i ∈ ring l m := by
    rw [ring_take hml (hh.2 m (by omega))]
    refine List.mem_filter.mpr ⟨?_, decide_eq_true (by show m ≤ ra l i; omega)⟩
    rw [at0_eq (by omega)]
    exact List.mem_take_iff_getElem.mpr ⟨i, by omega, rfl⟩
  unfold pat
  refine List.count_pos_iff.mpr (List.mem_map.mpr ⟨at0 l i, hc, if_pos ?_⟩)
  have : ra l i = rch l.length (at0 l i) := rfl
  omega
theorem stretch {l : List Card} {q : Nat} (ok : DeckOk l) (hh : HomeTo l q) (hq : q < clo l) : (∀ t, t < stl l q → ra (stps t l) 0 < q) ∧ q ≤ ra (stps (stl l q) l) 0 := by
  obtain ⟨h1, h2⟩ := adv_shw (holed ok hh hq) 0
  have hb := below_of (stl l q) hh h1
  refine ⟨hb, ?_⟩
  have h3 := adv_on (stl l q) hh hb 1
  have h4 : adv (pats l q 0) (stl l q + 1) = 1 := h2
  rw [h4] at h3
  rcases Nat.lt_or_ge (ra (stps (stl l q) l) 0) q with z | z
  · have hh' : HomeTo (stps (stl l q) l) q := (within_all _ hh fun t ht => .inl (hb t ht)).1
    have h5 : adv (pats (stps (stl l q) l) q 0) 1 = adv (pats (stp (stps (stl l q) l)) q 0) 0 := adv_lo z hh' _ 0 rfl (Nat.zero_le _) 0
    rw [adv_zero] at h5
    omega
  · exact z
/-! ## how far the cards are from home, in all -/
def sm (f : Nat → Nat) : Nat → Nat
  | 0 => 0
  | n + 1 => sm f n + f n
end Sb
end
section
set_option Elab.async false
set_option linter.all false
set_option maxRecDepth 100000
set_option maxHeartbeats 4000000
namespace Sb
open PySem PySem.Spec PyProof.Rows L2
variable {K : PySem.W.Frag} {S : Sto}
def optD : Option Str → D
  | none => .non
  | some x => .str x
abbrev pD (p : Pat) : D := .fl (p.map optD)
@[simp] theorem bd_opt {k : Nat} {o : Option Str} : bd k (optD o) = true := by cases o <;> rfl
@[simp] theorem bd_pD {k : Nat} {p : Pat} : bd k (pD p) = true := by
  show bds k _ = true
  exact bds_map fun _ _ => bd_opt
theorem tTr_ok {fe : EF} {τ : Sl} {d : D} {b : Bool} {S S1 : Sto} (h : fe τ S = some (.ok d S1)) (h2 : truD S1 d = some b) : tTr fe τ S = some (.ok b S1) := by simp only [tTr, M.bnd, h, h2, Option.bind_some]
/-! ## what a told list of patterns shows -/
theorem len_fl {ds : List D} : gLenX [.fl ds] S = some (.int ds.length, S) := by simp [gLenX, gLen, seqD]
theorem cut_fl {ds : List D} {b : Nat} : gSl (.fl ds) none (some (b : Nat)) S = some (.fl (ds.take b), S) := by
  have : cutD ds none (some (b : Int)) = ds.take b := by
    unfold cutD
    rw [HT.sIx_nat, HT.sIx_none, List.drop_zero, Nat.sub_zero]
    by_cases h : b ≤ ds.length
    · rw [Nat.min_eq_left h]
    · rw [Nat.min_eq_right (by omega), List.take_of_length_le (Nat.le_refl _), List.take_of_length_le (by omega)]
  simp only [gSl, this]
theorem gMul_n {i j : Nat} (h : i < 2 ^ 400000) (h2 : j < 2 ^ 400000) : gMul (.int (i : Nat)) (.int (j : Nat)) S = some (.int (i * j : Nat), S) := by
  have : (((i : Nat) : Int)).natAbs.log2 + (((j : Nat) : Int)).natAbs.log2 < 1000000 := by
    have a : (((i : Nat) : Int)).natAbs.log2 < 400000 := log2_lt (by decide) h
    have b : (((j : Nat) : Int)).natAbs.log2 < 400000 := log2_lt (by decide) h2
    omega
  simp only [gMul, gI, decide_eq_true this, if_true]
  rfl
end Sb
end
section
set_option Elab.async false
set_option linter.all false
set_option maxRecDepth 100000
set_option maxHeartbeats 4000000
namespace Sb
open PySem PySem.Spec PyProof.Rows L2
/-! ## comprehensions that draw -/
/-- a list under way behind S1, at its end -/
structure Und (n k : Nat) (S1 S' : Sto) (acc : List D) : Prop where
  len : S'.length = S1.length + 1
  at_ : S'[S1.length]? = some (.lst acc)
  keep : ∀ j, j ≠ n → j < S1.length → S'[j]? = S1[j]?
  sp : Spr n k S'
  wf : Wf S'
theorem Und.take {n k : Nat} {S1 S' : Sto} {acc : List D} (u : Und n k S1 S' acc) (hn : n < S1.length) (w : Wf S1) : Sm n S1 (S'.take S1.length) ∧ Spr n k (S'.take S1.length) ∧ Wf (S'.take S1.length) := by
  have sm : Sm n S1 (S'.take S1.length) := ⟨by rw [List.length_take, u.len]; omega, fun i hi => by
    by_cases q : i < S1.length
    · rw [List.getElem?_take_of_lt q]; exact u.keep i hi q
    · rw [List.getElem?_eq_none (by rw [List.length_take]; omega), List.getElem?_eq_none (by omega)]⟩
  have sp' : Spr n k (S'.take S1.length) := by
    obtain ⟨a, b, c, e, r⟩ := u.sp
    exact ⟨a, b, c, by rw [List.getElem?_take_of_lt hn]; exact e, r⟩
  exact ⟨sm, sp', sm.wf w sp'⟩
/-! ## decks alike above a place -/
structure Top (c : Nat) (l m : List Card) : Prop where
  h1 : c ≤ l.length
  h2 : c ≤ m.length
  nm : ∀ i, i < c → (at0 l i).1 = (at0 m i).1
  ra : ∀ i, i < c → ra l i = ra m i
  lt : ∀ i, i < c → Sb.ra l i < c
theorem Top.pos {c : Nat} {l m : List Card} (t : Top c l m) (h : 1 ≤ c) : 1 ≤ l.length ∧ 1 ≤ m.length := ⟨Nat.le_trans h t.h1, Nat.le_trans h t.h2⟩
theorem Top.stp {c : Nat} {l m : List Card} (t : Top c l m) (h : 1 ≤ c) : Top c (stp l) (stp m) := by
  obtain ⟨p1, p2⟩ := t.pos h
  have h0 := t.lt 0 h
  have e0 := t.ra 0 h
  refine ⟨by rw [stp_len]; exact t.h1, by rw [stp_len]; exact t.h2, fun i hi => ?_, fun i hi => ?_, fun i hi => ?_⟩
  · rw [stp_at0 p1, stp_at0 p2, ← e0]
    split
    · exact t.nm _ (by omega)
    · split
      · exact t.nm _ h
      · exact t.nm _ hi
  · rw [ra_stp p1, ra_stp p2, ← e0]
    split
    · exact t.ra _ (by omega)
    · split
      · rfl
      · exact t.ra _ hi
  · exact clo_all p1 c h t.lt i hi
theorem Top.stps {c : Nat} {l m : List Card} (t : Top c l m) (h : 1 ≤ c) : ∀ n, Top c (stps n l) (stps n m)
  | 0 => t
  | n + 1 => (t.stps h n).stp h
theorem headD_at0 (l : List Card) : (l.headD ("", 0)) = at0 l 0 := by cases l <;> rfl
theorem Top.tops {c : Nat} {l m : List Card} (t : Top c l m) (h : 1 ≤ c) (n : Nat) : tops l n = tops m n := by
  unfold Sb.tops
  refine List.map_congr_left fun i _ => ?_
  rw [headD_at0, headD_at0]
  exact (t.stps h i).nm 0 h
theorem Top.clo {l m : List Card} (hl : 1 ≤ l.length) (t : Top (clo l) l m) : Sb.clo m = Sb.clo l := by
  have A := clo_is hl
  have B := clo_is (l := m) (t.pos A.lo).2
  refine B.uniq ⟨A.lo, t.h2, fun i hi => by rw [← t.ra i hi]; exact A.all i hi, fun k h1 h2 => ?_⟩
  obtain ⟨i, h3, h4⟩ := A.no k h1 h2
  exact ⟨i, h3, by rw [← t.ra i (by omega)]; exact h4⟩
/-- hands by their places -/
theorem take_range {l : List Card} {m : Nat} (h : m ≤ l.length) : l.take m = (List.range m).map (at0 l) := by
  refine List.ext_getElem (by simp; omega) fun i h1 h2 => ?_
  simp at h1 h2
  rw [List.getElem_take, List.getElem_map, List.getElem_range, at0_eq (by omega)]
end Sb
end
section
set_option Elab.async false
set_option linter.all false
set_option maxRecDepth 100000
set_option maxHeartbeats 4000000
namespace Sb
open PySem PySem.Spec PyProof.Rows L2
variable {K : PySem.W.Frag} {S : Sto}
/-! ### a deck as lists of lists -/
abbrev oC (c : Card) : Ob := .lst [.str c.1, .int c.2]
/-- a card as a list -/
abbrev fC (c : Card) : D := .fl [.str c.1, .int c.2]
/-! ### a deck handed in otherwise -/
def HD (l : List Card) (d : D) : Prop := ∃ es : List D, (d = .tup es ∨ d = .fl es) ∧ es.length = l.length ∧ ∀ i, (h : i < l.length) → es[i]? = some (dC l[i]) ∨ es[i]? = some (fC l[i])
theorem HD.deck {l : List Card} {d : D} (h : HD l d) : isDeck S d l := by
  obtain ⟨es, h1, h2, h3⟩ := h
  refine ⟨es, h1.imp id .inl, h2, fun i e c he hc => ?_⟩
  obtain ⟨hi, rfl⟩ := List.getElem?_eq_some_iff.mp hc
  rcases h3 i hi with q | q
  · rw [he] at q; cases q; exact .inl rfl
  · rw [he] at q; cases q; exact .inr (.inl rfl)
theorem HD.items {l : List Card} {es : List D} (h2 : es.length = l.length) (h3 : ∀ i, (h : i < l.length) → es[i]? = some (dC l[i]) ∨ es[i]? = some (fC l[i])) : ∀ e ∈ es, ∃ c ∈ l, e = dC c ∨ e = fC c := fun e he => by
  obtain ⟨i, hi, rfl⟩ := List.getElem_of_mem he
  have hi' : i < l.length := by omega
  refine ⟨l[i], List.getElem_mem hi', ?_⟩
  rcases h3 i hi' with q | q <;> rw [List.getElem?_eq_getElem hi] at q
  · exact .inl (Option.some.inj q)
  · exact .inr (Option.some.inj q)
theorem HD.bd {l : List Card} {d : D} (h : HD l d) {k : Nat} : Sb.bd k d = true := by
  obtain ⟨es, h1, h2, h3⟩ := h
  have : bds k es = true := bds_all.mpr fun e he => by
    obtain ⟨c, _, q | q⟩ := HD.items h2 h3 e he <;> rw [q] <;> rfl
  rcases h1 with rfl | rfl <;> simpa [Sb.bd] using this
def Big (l : List Card) : Prop := ∀ c ∈ l, c.2 < 10 ^ 40
theorem Big.stp {l : List Card} (h : Big l) : Big (stp l) := fun c hc => h c ((stp_perm l).mem_iff.mp hc)
end Sb
end
section
set_option Elab.async false
set_option linter.all false
set_option maxRecDepth 100000
set_option maxHeartbeats 4000000
namespace Sb
open PySem PySem.Spec PyProof.Rows L2
variable {K : PySem.W.Frag} {S : Sto}
/-! ## alike, of the same kinds all through -/
def Rl : Nat → Sto → D → D → Prop
  | 0, _, _, _ => False
  | n + 1, S, d, e => (d = .non ∧ e = .non) ∨ (∃ b, d = .bl b ∧ e = .bl b) ∨ (∃ i, d = .int i ∧ e = .int i) ∨ (∃ x, SeqAt.shaped (.str x) = true ∧ d = .str x ∧ e = .str x) ∨
    ∃ (ds es : List D) (c : String), kindD S d = some c ∧ kindD S e = some c ∧ (c = "list" ∨ c = "tuple") ∧ seqD S d = some ds ∧ seqD S e = some es ∧ ds.length = es.length ∧ es.length ≤ 10000 ∧ ∀ (i : Nat) (a b : D), ds[i]? = some a → es[i]? = some b → Rl n S a b
theorem seqD_app {d : D} {ds : List D} {X : Sto} (h : seqD S d = some ds) : seqD (S ++ X) d = some ds := by
  cases d with
  | loc n =>
    simp only [seqD] at h ⊢
    split at h
    · rename_i q; cases h; rw [pre_get q]
    · cases h
  | _ => exact h
theorem kindD_app {d : D} {c : String} {X : Sto} (h : kindD S d = some c) : kindD (S ++ X) d = some c := by
  cases d with
  | loc n =>
    simp only [kindD] at h ⊢
    split at h
    · rename_i q; rw [pre_get q]; exact h
    · rename_i q; rw [pre_get q]; exact h
    · cases h
  | _ => exact h
theorem Rl.app : ∀ {n : Nat} {d e : D} {X : Sto}, Rl n S d e → Rl n (S ++ X) d e
  | 0, _, _, _, h => h
  | n + 1, d, e, X, h => by
    rcases h with h | h | h | h | ⟨ds, es, c, h1, h2, h3, h4, h5, h6, h7, h8⟩
    · exact .inl h
    · exact .inr (.inl h)
    · exact .inr (.inr (.inl h))
    · exact .inr (.inr (.inr (.inl h)))
    · exact .inr (.inr (.inr (.inr ⟨ds, es, c, kindD_app h1, kindD_app h2, h3, seqD_app h4, seqD_app h5, h6, h7, fun i a b ha hb => (h8 i a b ha hb).app⟩)))
theorem ix_seq' {d : D} {ds : List D} {i : Nat} {x : D} {c : String} (hk : kindD S d = some c) (h : seqD S d = some ds) (hx : ds[i]? = some x) : gIx d (.int (i : Nat)) S = some (x, S) := by
  have hi := (List.getElem?_eq_some_iff.mp hx).1
  have h1 : ((i : Nat) : Int) < (ds.length : Int) := by omega
  have h0 : (0 : Int) ≤ (i : Nat) := by omega
  cases d with
  | str z => cases h
  | _ => simp only [gIx, h, Option.bind_some, atI, ixN, if_pos h0, if_pos h1, Int.toNat_natCast, hx]
/-- what has no place in the store is alike itself -/
def shD : Nat → D → Bool
  | 0, _ => false
  | n + 1, d => match d with
    | .non => true
    | .bl _ => true
    | .int _ => true
    | .str x => SeqAt.shaped (.str x)
    | .tup ds => decide (ds.length ≤ 10000) && ds.all (shD n)
    | .fl ds => decide (ds.length ≤ 10000) && ds.all (shD n)
    | _ => false
theorem Rl.self : ∀ {n : Nat} {d : D}, shD n d = true → Rl n S d d
  | 0, _, h => by cases h
  | n + 1, d, h => by
    cases d with
    | non => exact .inl ⟨rfl, rfl⟩
    | bl b => exact .inr (.inl ⟨b, rfl, rfl⟩)
    | int i => exact .inr (.inr (.inl ⟨i, rfl, rfl⟩))
    | str x => exact .inr (.inr (.inr (.inl ⟨x, h, rfl, rfl⟩)))
    | tup ds =>
      simp only [shD, Bool.and_eq_true, decide_eq_true_eq, List.all_eq_true] at h
      exact .inr (.inr (.inr (.inr ⟨ds, ds, "tuple", rfl, rfl, .inr rfl, rfl, rfl, rfl, h.1, fun i a b ha hb => by rw [ha] at hb; cases hb; exact Rl.self (h.2 a (List.mem_of_getElem? ha))⟩)))
    | exn c => cases h
    | rgo lo hi => cases h
    | ntu ds => cases h
    | fd ks ds => cases h
    | fl ds =>
      simp only [shD, Bool.and_eq_true, decide_eq_true_eq, List.all_eq_true] at h
      exact .inr (.inr (.inr (.inr ⟨ds, ds, "list", rfl, rfl, .inl rfl, rfl, rfl, rfl, h.1, fun i a b ha hb => by rw [ha] at hb; cases hb; exact Rl.self (h.2 a (List.mem_of_getElem? ha))⟩)))
    | loc n => cases h
    | scr n => cases h
theorem Rl.lst {n k : Nat} {ds : List D} (h : S[k]? = some (.lst ds)) (hl : ds.length ≤ 10000) (hs : ∀ d ∈ ds, shD n d = true) : Rl (n + 1) S (.loc k) (.fl ds) :=
  .inr (.inr (.inr (.inr ⟨ds, ds, "list", by simp [kindD, h], rfl, .inl rfl, by simp [seqD, h], rfl, rfl, hl, fun i a b ha hb => by rw [ha] at hb; cases hb; exact Rl.self (hs a (List.mem_of_getElem? ha))⟩)))
theorem shD_names {n : Nat} {l : List Str} (hl : l.length ≤ 10000) (h : ∀ x ∈ l, Nm x) : shD (n + 2) (.fl (l.map D.str)) = true := by
  simp only [shD, Bool.and_eq_true, decide_eq_true_eq, List.all_eq_true]
  refine ⟨by simpa using hl, fun d hd => ?_⟩
  obtain ⟨x, hx, rfl⟩ := List.mem_map.mp hd
  exact shp_str (h x hx)
end Sb
end
section
set_option Elab.async false
set_option linter.all false
set_option maxRecDepth 100000
set_option maxHeartbeats 4000000
namespace Sb
open PySem PySem.Spec PyProof.Rows L2
variable {K : PySem.W.Frag} {S : Sto}
/-! ## lists of lists that are changed in place -/
structure HeldQ (p : Nat) (l : List Card) (qs : List Nat) (S : Sto) : Prop where
  at_ : S[p]? = some (.lst (qs.map D.loc))
  len : qs.length = l.length
  nd : qs.Nodup
  gt : ∀ q ∈ qs, p < q
  obj : ∀ (i : Nat) (q : Nat) (c : Card), qs[i]? = some q → l[i]? = some c → S[q]? = some (oC c)
def Held (p : Nat) (l : List Card) (S : Sto) : Prop := ∃ qs, HeldQ p l qs S
theorem Held.deck {p : Nat} {l : List Card} (h : Held p l S) : isDeck S (.loc p) l := by
  obtain ⟨qs, h⟩ := h
  refine ⟨qs.map D.loc, .inr (.inr ⟨p, rfl, h.at_⟩), by simp [h.len], fun i e c he hc => ?_⟩
  rw [List.getElem?_map, Option.map_eq_some_iff] at he
  obtain ⟨q, hq, rfl⟩ := he
  exact .inr (.inr ⟨q, rfl, h.obj i q c hq hc⟩)
theorem HeldQ.sm {n p : Nat} {l : List Card} {qs : List Nat} {S S' : Sto} (h : HeldQ p l qs S) (sm : Sm n S S') (hn : n < p) : HeldQ p l qs S' :=
  ⟨sm.get h.at_ (by omega), h.len, h.nd, h.gt, fun i q c hq hc => sm.get (h.obj i q c hq hc) (by have := h.gt q (List.mem_of_getElem? hq); omega)⟩
end Sb
end
section
set_option Elab.async false
set_option linter.all false
set_option maxRecDepth 100000
set_option maxHeartbeats 4000000
namespace Sb
open PySem PySem.Spec PyProof.Rows L2
variable {K : PySem.W.Frag} {S : Sto}
/-- what lies below p stands, but the spring -/
structure Bel (n p : Nat) (S S' : Sto) : Prop where
  len : S'.length = S.length
  at_ : ∀ j, j < p → j ≠ n → S'[j]? = S[j]?
theorem Bel.trans {n p : Nat} {S S1 S2 : Sto} (a : Bel n p S S1) (b : Bel n p S1 S2) : Bel n p S S2 := ⟨b.len.trans a.len, fun j h1 h2 => (b.at_ j h1 h2).trans (a.at_ j h1 h2)⟩
theorem Bel.set {n p q : Nat} {o : Ob} (h : p ≤ q) : Bel n p S (S.set q o) := ⟨by simp, fun j h1 _ => List.getElem?_set_ne (by omega)⟩
theorem Bel.refl {n p : Nat} : Bel n p S S := ⟨rfl, fun _ _ _ => rfl⟩
theorem sPut_ok {fe fo fi : EF} {τ : Sl} {d x y : D} {S S1 S2 S3 S4 : Sto} (h1 : fe τ S = some (.ok d S1)) (h2 : fo τ S1 = some (.ok x S2)) (h3 : fi τ S2 = some (.ok y S3)) (h4 : putD x y d S3 = some S4) : sPut fe fo fi τ S = some (.nx τ, S4) := by
  simp only [sPut, sx, h1, h2, h3, h4, Option.bind_some]
theorem putD_ok {p i : Nat} {es : List D} {d : D} (h : S[p]? = some (.lst es)) (hi : i < es.length) : putD (.loc p) (.int (i : Nat)) d S = some (S.set p (.lst (es.set i d))) := by
  have h1 : ((i : Nat) : Int) < (es.length : Int) := by omega
  have h0 : (0 : Int) ≤ (i : Nat) := by omega
  simp only [putD, listD, h, Option.bind_some, ixN, if_pos h0, if_pos h1, Int.toNat_natCast]
theorem ix_loc {p i : Nat} {es : List D} {x : D} (h : S[p]? = some (.lst es)) (hx : es[i]? = some x) : gIx (.loc p) (.int (i : Nat)) S = some (x, S) :=
  ix_seq' (c := "list") (by simp [kindD, h]) (by simp [seqD, h]) hx
end Sb
end
section
set_option Elab.async false
set_option linter.all false
set_option maxRecDepth 100000
set_option maxHeartbeats 4000000
namespace Sb
open PySem PySem.Spec PyProof.Rows L2
variable {K : PySem.W.Frag} {S : Sto}
theorem iRg2_ok {r : AF} {τ : Sl} {a b : Nat} {S S1 : Sto} (h1 : r τ S = some (.ok [.int (a : Nat), .int (b : Nat)] S1)) (hb : b ≤ 1000000) (ha : a ≤ 1000000) : iRg2 r τ S = some (.ok (wkR a (b - a)) S1) := by
  have e : ((b : Int) - (a : Int)).toNat = b - a := by omega
  have c : -(2 ^ 62) ≤ (a : Int) ∧ (a : Int) < 2 ^ 62 ∧ -(2 ^ 62) ≤ (b : Int) ∧ (b : Int) < 2 ^ 62 := by refine ⟨?_, ?_, ?_, ?_⟩ <;> omega
  simp only [iRg2, M.bnd, h1]
  first | (rw [if_pos c, e]) | (simp [c, e])
end Sb
end
section
set_option Elab.async false
set_option linter.all false
set_option maxRecDepth 100000
set_option maxHeartbeats 4000000
namespace Sb
open PySem PySem.Spec PyProof.Rows L2
variable {K : PySem.W.Frag} {S : Sto}
/-- two lists of two, alike each by each -/
theorem Rl.two {n : Nat} {a b c d : D} (h1 : Rl n S a c) (h2 : Rl n S b d) : Rl (n + 1) S (.fl [a, b]) (.fl [c, d]) :=
  .inr (.inr (.inr (.inr ⟨[a, b], [c, d], "list", rfl, rfl, .inl rfl, rfl, rfl, rfl, by simp, fun i x y hx hy => by
    match i with
    | 0 => cases hx; cases hy; exact h1
    | 1 => cases hx; cases hy; exact h2
    | i + 2 => simp at hx⟩)))
theorem Rl.bl {n : Nat} {b : Bool} : Rl (n + 1) S (.bl b) (.bl b) := .inr (.inl ⟨_, rfl, rfl⟩)
theorem Rl.names {n : Nat} {l : List Str} (hl : l.length ≤ 1000) (h : ∀ x ∈ l, Nm x) : Rl (n + 2) S (.fl (l.map D.str)) (.fl (l.map D.str)) := Rl.self (shD_names (by omega) h)
theorem shD_deck {n : Nat} {l : List Card} (hl : l.length ≤ 10000) (h : ∀ c ∈ l, Nm c.1) : shD (n + 3) (dK l) = true := by
  simp only [dK, shD, Bool.and_eq_true, decide_eq_true_eq, List.all_eq_true]
  refine ⟨by simpa using hl, fun d hd => ?_⟩
  obtain ⟨c, hc, rfl⟩ := List.mem_map.mp hd
  simp only [dC, shD, Bool.and_eq_true, decide_eq_true_eq, List.all_eq_true]
  refine ⟨by simp, fun d hd => ?_⟩
  simp at hd
  rcases hd with rfl | rfl
  · exact shp_str (h c hc)
  · rfl
theorem Rl.deck {n : Nat} {l : List Card} (ok : DeckOk l) : Rl (n + 3) S (dK l) (dK l) := Rl.self (shD_deck (by have := ok.hi; omega) ok.nm)
end Sb
end
section
set_option Elab.async false
set_option linter.all false
set_option maxRecDepth 100000
set_option maxHeartbeats 4000000
namespace Sb
open PySem PySem.Spec PyProof.Rows L2
variable {K : PySem.W.Frag} {S : Sto}
/-! ## draws from any source: P n k S, the source lies at n and has been asked k times at most -/
structure Src (P : Nat → Nat → Sto → Prop) : Prop where
  fr : ∀ {n k : Nat} {S S' : Sto}, P n k S → S'[n]? = S[n]? → P n k S'
  ex : ∀ {n k : Nat} {S : Sto}, P n k S → ∃ o, S[n]? = some o ∧ bdO 0 o = true
  mono : ∀ {n k k' : Nat} {S : Sto}, P n k S → k ≤ k' → P n k' S
/-- its def of a draw; m below 2 ^ B -/
def Drw (P : Nat → Nat → Sto → Prop) (m : List D → M D) : Prop := ∀ {n k : Nat} {S : Sto} {b : Nat}, Wf S → P n k S → k < 2 ^ 40 → 0 < b → b < 2 ^ 200 →
  ∃ (v : Nat) (S' : Sto), m [.loc n, .int (b : Nat)] S = some (.ok (.int (v : Nat)) S') ∧ v < b ∧ P n (k + 1) S' ∧ Sm n S S'
section
variable {P : Nat → Nat → Sto → Prop} (sr : Src P) {m : List D → M D}
include sr
theorem Src.lt {n k : Nat} {S : Sto} (h : P n k S) : n < S.length := by
  obtain ⟨o, e, _⟩ := sr.ex h
  exact (List.getElem?_eq_some_iff.mp e).1
theorem Src.app {n k : Nat} {S X : Sto} (h : P n k S) : P n k (S ++ X) := sr.fr h (List.getElem?_append_left (sr.lt h))
theorem Src.wf {n k : Nat} {S S' : Sto} (a : Sm n S S') (w : Wf S) (h : P n k S') : Wf S' := by
  unfold Wf wfk
  rw [List.all_eq_true]
  intro x hx
  obtain ⟨i, hi, rfl⟩ := List.getElem_of_mem hx
  rw [a.len]
  by_cases q : i = n
  · subst q
    obtain ⟨o, e, hb⟩ := sr.ex h
    have := List.getElem?_eq_getElem hi
    rw [e] at this
    rw [← Option.some.inj this]
    exact bdO_mono (Nat.zero_le _) o hb
  · have e := a.at_ i q
    rw [List.getElem?_eq_getElem hi, List.getElem?_eq_getElem (by rw [← a.len]; exact hi)] at e
    rw [Option.some.inj e]
    exact List.all_eq_true.mp w _ (List.getElem_mem _)
theorem Src.draw (dm : Drw P m) {n k j : Nat} {τ : Sl} {fm : EF} {b : Nat} (w : Wf S) (h0 : τ[j]? = some (some (.loc n))) (hm : fm τ S = some (.ok (.int (b : Nat)) S)) (h : P n k S) (hk : k < 2 ^ 40) (hm0 : 0 < b) (hm1 : b < 2 ^ 200) :
    ∃ (v : Nat) (S' : Sto), eCl m 2 (aCons (eVar j) (aCons fm aNil)) τ S = some (.ok (.int (v : Nat)) S') ∧ v < b ∧ P n (k + 1) S' ∧ Sm n S S' ∧ Wf S' := by
  obtain ⟨v, S', e, v1, sp, sm⟩ := dm w h hk hm0 hm1
  exact ⟨v, S', eCl_ok (a2_ok (by simp only [eVar, h0]) hm) rfl e, v1, sp, sm, sr.wf sm w sp⟩
/-- new objects dropped -/
theorem Src.cut {n k : Nat} {S S' : Sto} (w : Wf S) (fr : Fr n S S') (sp : P n k S') (hn : n < S.length) : Sm n S (S'.take S.length) ∧ P n k (S'.take S.length) ∧ Wf (S'.take S.length) := by
  have sm : Sm n S (S'.take S.length) := ⟨by rw [List.length_take]; have := fr.le; omega, fun i hi => by
    by_cases q : i < S.length
    · rw [List.getElem?_take_of_lt q]; exact fr.at_ i hi q
    · rw [List.getElem?_eq_none (by rw [List.length_take]; omega), List.getElem?_eq_none (by omega)]⟩
  have sp' : P n k (S'.take S.length) := sr.fr sp (by rw [List.getElem?_take_of_lt hn])
  exact ⟨sm, sp', sr.wf sm w sp'⟩
theorem Src.fz {f : EF} {τ : Sl} {S S' : Sto} {n k : Nat} {d : D} (w : Wf S) (e : f τ S = some (.ok d S')) (fr : Fr n S S') (sp : P n k S') (hn : n < S.length) (h : bd S.length d = true) :
    ∃ S1, Sb.fz f τ S = some (.ok d S1) ∧ Sm n S S1 ∧ P n k S1 ∧ Wf S1 := by
  obtain ⟨sm, sp', w'⟩ := sr.cut w fr sp hn
  refine ⟨_, ?_, sm, sp', w'⟩
  have w2 : wfk S.length (S'.take S.length) = true := by
    have := w'
    unfold Wf at this
    rwa [sm.len] at this
  rw [fz_eq, e]
  simp only [fzR, if_pos w2, rb_bd h, Option.map_some]
theorem Src.fz_lst {f : EF} {τ : Sl} {S S' : Sto} {n k j : Nat} {ds : List D} (w : Wf S) (e : f τ S = some (.ok (.loc j) S')) (e2 : S'[j]? = some (.lst ds)) (hj : S.length ≤ j) (fr : Fr n S S') (sp : P n k S') (hn : n < S.length) (h : bds S.length ds = true) :
    ∃ S1, Sb.fz f τ S = some (.ok (.fl ds) S1) ∧ Sm n S S1 ∧ P n k S1 ∧ Wf S1 := by
  obtain ⟨sm, sp', w'⟩ := sr.cut w fr sp hn
  have w2 : wfk S.length (S'.take S.length) = true := by
    have := w'
    unfold Wf at this
    rwa [sm.len] at this
  have nb : ¬ (bd S.length (.loc j) = true) := by simp only [bd, decide_eq_true_eq]; omega
  have hm : ds.mapM (rb S' S.length 7) = some ds := by
    have := mapM_some (f := rb S' S.length 7) (g := fun d => d) (l := ds) fun d hd => rb_bd (bds_all.mp h d hd)
    rwa [List.map_id'] at this
  refine ⟨_, ?_, sm, sp', w'⟩
  rw [fz_eq, e]
  simp only [fzR, if_pos w2, rb_loc nb e2, hm, Option.map_some]
end
/-! ## a comprehension whose turns may change the store -/
theorem lc_gen {fi : IF} {g : TF} {t : BF} {fe : EF} {vs : List Nat} {τ : Sl} {S S1 : Sto} {wk : Wk} {ds : List D} (J : Nat → List D → Sto → Prop) (hi : fi τ S = some (.ok wk S1)) (hl : S1.length = S.length) (w : Wf S1) (hw : Wks wk ds fun _ => True)
    (hds : ds.length ≤ 100000) (hJ : ∀ i acc S' S'', (∀ j, j < S1.length → S''[j]? = S'[j]?) → J i acc S' → J i acc S'') (h0 : J 0 [] S1)
    (hwt : ∀ acc S', J ds.length acc S' → S'.length = S1.length + 1 → wfk S1.length (S'.take S1.length) = true)
    (h : ∀ i acc S', (hi : i < ds.length) → J i acc S' → S'.length = S1.length + 1 → S'[S1.length]? = some (.lst acc) → Wf S' → ∃ τ1, g ds[i] S' (wipeD τ vs) = some τ1 ∧
      ((∃ S'', t τ1 S' = some (.ok false S'') ∧ S''.length = S1.length + 1 ∧ S''[S1.length]? = some (.lst acc) ∧ Wf S'' ∧ J (i + 1) acc S'') ∨
       ∃ S2 y S'', t τ1 S' = some (.ok true S2) ∧ fe τ1 S2 = some (.ok y S'') ∧ S''.length = S1.length + 1 ∧ S''[S1.length]? = some (.lst acc) ∧ Wf S'' ∧ bd 0 y = true ∧ J (i + 1) (acc ++ [y]) S'')) :
    ∃ S2 acc, fz (eLc fi g t fe vs) τ S = some (.ok (.fl acc) S2) ∧ J ds.length acc S2 ∧ S2.length = S1.length ∧ Wf S2 ∧ acc.length ≤ ds.length := by
  obtain ⟨S', L, acc, hJ2, hlen, hat, hwf, hb, hle⟩ := goC_inv (nxt := wk.nxt) (g := g) (t := t) (fe := fe) (l := S1.length) (τ0 := wipeD τ vs) (n := ds.length)
    (fun i S' => ∃ acc, J i acc S' ∧ S'.length = S1.length + 1 ∧ S'[S1.length]? = some (.lst acc) ∧ Wf S' ∧ bds 0 acc = true ∧ acc.length ≤ i) (fun i => ds.getD i default)
    (fun i S' hi' ⟨acc, hj, hlen, hat, hwf, hb, hle⟩ => by
      have e3 := List.getElem?_eq_getElem hi'
      have e4 : ds.getD i default = ds[i] := by rw [List.getD_eq_getElem?_getD, e3]; rfl
      obtain ⟨τ1, h1, h2⟩ := h i acc S' hi' hj hlen hat hwf
      refine ⟨by rw [hw.nxt i _ trivial, e4, e3], τ1, by rw [e4]; exact h1, ?_⟩
      rcases h2 with ⟨S'', h3, l2, a2, w2, hJ'⟩ | ⟨S2, y, S'', h3, h4, l2, a2, w2, hy, hJ'⟩
      · exact .inl ⟨S'', h3, acc, hJ', l2, a2, w2, hb, by omega⟩
      · have hz := sizeLine_eq
        have hb' : bds 0 (acc ++ [y]) = true := bds_all.mpr fun d hd => by
          rcases List.mem_append.mp hd with q | q
          · exact bds_all.mp hb d q
          · simp at q; subst q; exact hy
        refine .inr ⟨S2, y, S'', acc, h3, h4, a2, by omega, acc ++ [y], hJ _ _ _ _ (fun j hj => List.getElem?_set_ne (by omega)) hJ', by rw [List.length_set]; exact l2, by rw [List.getElem?_set_self (by omega)], wf_set w2 (bds_mono (Nat.zero_le _) _ hb'), hb', by simp; omega⟩)
    (fun S' _ => by rw [hw.nxt _ _ trivial, List.getElem?_eq_none (Nat.le_refl _)]) (wk.bound + 1) 0 (S1 ++ [.lst []]) (Nat.zero_le _) (by have := hw.bound; omega)
    ⟨[], hJ _ _ _ _ (fun j hj => List.getElem?_append_left hj) h0, by simp, get_last _ _, wf_app w rfl, rfl, Nat.le_refl _⟩
  have e : eLc fi g t fe vs τ S = some (.ok (.loc S1.length) S') := by simp only [eLc, hi, L, Option.bind_some]
  have w1 := hwt acc S' hJ2 hlen
  have hlt : (S'.take S1.length).length = S1.length := by rw [List.length_take]; omega
  refine ⟨S'.take S1.length, acc, ?_, hJ _ _ _ _ (fun j hj => List.getElem?_take_of_lt hj) hJ2, hlt, by unfold Wf; rw [hlt]; exact w1, hle⟩
  have nb : ¬ (bd S.length (.loc S1.length) = true) := by simp only [bd, decide_eq_true_eq]; omega
  have hm : acc.mapM (rb S' S.length 7) = some acc := by
    have := mapM_some (f := rb S' S.length 7) (g := fun d => d) (l := acc) fun d hd => rb_bd (bds_all.mp (bds_mono (Nat.zero_le _) _ hb) d hd)
    rwa [List.map_id'] at this
  rw [hl] at w1
  rw [fz_eq, e, hl]
  rw [hl] at hat nb
  simp only [fzR, if_pos w1, rb_loc nb hat, hm, Option.map_some]
/-- a store like another one but at some places, which refer to none -/
theorem wfk_but {S1 S' : Sto} {k : Nat} (A : Nat → Prop) (hk : k ≤ S1.length) (w : wfk k (S1.take k) = true) (hl : k ≤ S'.length) (h1 : ∀ i, i < k → ¬ A i → S'[i]? = S1[i]?) (h2 : ∀ i, i < k → A i → ∃ o, S'[i]? = some o ∧ bdO 0 o = true) : wfk k (S'.take k) = true := by
  unfold wfk at w ⊢
  rw [List.all_eq_true] at w ⊢
  intro o ho
  obtain ⟨i, hi, rfl⟩ := List.getElem_of_mem ho
  have hi1 : i < k := by rw [List.length_take] at hi; omega
  rw [List.getElem_take]
  have e1 : S'[i]? = some S'[i] := List.getElem?_eq_getElem (by omega)
  by_cases q : A i
  · obtain ⟨o, e, hb⟩ := h2 i hi1 q
    rw [e1] at e
    rw [Option.some.inj e]
    exact bdO_mono (Nat.zero_le _) o hb
  · have e := h1 i hi1 q
    rw [e1, List.getElem?_eq_getElem (by omega)] at e
    rw [Option.some.inj e]
    refine w _ ?_
    have : (S1.take k)[i]? = some S1[i] := by rw [List.getElem?_take_of_lt hi1]; exact List.getElem?_eq_getElem (by omega)
    exact List.mem_of_getElem? this
theorem Sm.wfk {n k : Nat} {P : Nat → Nat → Sto → Prop} (sr : Src P) {S S' : Sto} (w : Wf S) (hl : S.length ≤ S'.length) (h : ∀ i, i ≠ n → i < S.length → S'[i]? = S[i]?) (sp : P n k S') : Sb.wfk S.length (S'.take S.length) = true := by
  refine wfk_but (S1 := S) (fun i => i = n) (Nat.le_refl _) (by rw [List.take_length]; exact w) hl (fun i hi hn => h i hn hi) fun i hi hn => ?_
  subst hn
  exact sr.ex sp
end Sb
end
section
set_option Elab.async false
set_option linter.all false
set_option maxRecDepth 100000
set_option maxHeartbeats 4000000
namespace Sb
open PySem PySem.Spec PyProof.Rows L2
variable {K : PySem.W.Frag} {S : Sto}
/-! ## the word of a kept exception -/
theorem fl_add {ds es : List D} (h : ds.length + es.length ≤ 1000) : gAdd (.fl ds) (.fl es) S = some (.fl (ds ++ es), S) := by
  have : ds.length + es.length ≤ sizeLine := by rw [sizeLine_eq]; omega
  simp [gAdd, flD, seqD, this]
end Sb
end
section
set_option Elab.async false
set_option linter.all false
set_option maxRecDepth 100000
set_option maxHeartbeats 4000000
namespace Sb
open PySem PySem.Spec PyProof.Rows L2
variable {K : PySem.W.Frag} {S : Sto}
/-! ## what is no deck -/
/-! ### decks that are none -/
def Sq (d : D) (ds : List D) : Prop := d = .tup ds ∨ d = .fl ds
theorem Sq.listed {d : D} {ds : List D} (h : Sq d ds) (S : Sto) : M_is_listed [d] S = some (.ok (.bl true) S) := by
  rcases h with rfl | rfl <;> simp [fnM, ini, sSeq, sNop, sEx, sRt, sIf, sSet, sPut, putD, sAs, sRaise, sx, st', tB, tAn, tOr', tNt, tAll, eB, eVar, eC, eTup, eLst, eCB, eCl, eBM, eIf, eAnd, eOr, eNot, eCh, eSl, oNo, oSo, aNil, aCons, M.bnd, lft, eIs, eIs2, kindD, kb_NoneType_int, kb_NoneType_bool, kb_NoneType_str, kb_NoneType_list, kb_NoneType_tuple, kb_bool_int, kb_bool_bool, kb_bool_str, kb_bool_list, kb_bool_tuple, kb_int_int, kb_int_bool, kb_int_str, kb_int_list, kb_int_tuple, kb_str_int, kb_str_bool, kb_str_str, kb_str_list, kb_str_tuple, kb_tuple_int, kb_tuple_bool, kb_tuple_str, kb_tuple_list, kb_tuple_tuple, kb_list_int, kb_list_bool, kb_list_str, kb_list_list, kb_list_tuple, kb_dict_int, kb_dict_bool, kb_dict_str, kb_dict_list, kb_dict_tuple, truD, gI, gAdd, gSub, gMul, gMod, gDiv, gPow, gLtI, gLe, gGtI, gGeI, gIx, gLen, gLenX, gAbs, gInt, gMax, gMax2, gMin2, gTuple, gList, seqD, listD, atI, ixN, tyD, gAppend, gPopAt, gInsert, m_is_listed, kindD]
theorem Sq.len {d : D} {ds : List D} (h : Sq d ds) (S : Sto) : gLenX [d] S = some (.int ds.length, S) := by rcases h with rfl | rfl <;> rfl
theorem Sq.wk {d : D} {ds : List D} (h : Sq d ds) (S : Sto) : wkD S d = some ⟨ds.length, fun i _ => some ds[i]?⟩ := by rcases h with rfl | rfl <;> rfl
theorem eCh_tt {g g' : G2} {fa fb fc : EF} {τ : Sl} {x y z d : D} {S S1 S2 S3 S4 S5 : Sto} (h1 : fa τ S = some (.ok x S1)) (h2 : fb τ S1 = some (.ok y S2)) (h3 : g x y S2 = some (.bl true, S3)) (h4 : fc τ S3 = some (.ok z S4)) (h5 : g' y z S4 = some (d, S5)) : eCh g g' fa fb fc τ S = some (.ok d S5) := by
  simp only [eCh, M.bnd, h1, h2, h3, h4, h5, lft]
end Sb
end
section
set_option Elab.async false
set_option linter.all false
set_option maxRecDepth 100000
set_option maxHeartbeats 4000000
namespace Sb
open PySem PySem.Spec PyProof.Rows L2
variable {S : Sto}
/-! ## what repr shows, put together from its parts: w bounds its weight, k its depth -/
structure Pk (p : PyData) (w k : Nat) : Prop where
  sh : p.showable = true
  lf : PyData.leavesShort 50 p = true
  wt : p.weight ≤ w
  dp : p.depth ≤ k
def Rp (d : D) (w k : Nat) : Prop := ∃ p, (∀ (m : Nat) (S : Sto), k ≤ m → toPyR (m + 1) S d = some p) ∧ Pk p w k
theorem Rp.mono {d : D} {w w' k k' : Nat} (h : Rp d w k) (hw : w ≤ w') (hk : k ≤ k') : Rp d w' k' := by
  obtain ⟨p, h1, h2⟩ := h
  exact ⟨p, fun m S hm => h1 m S (by omega), h2.sh, h2.lf, Nat.le_trans h2.wt hw, Nat.le_trans h2.dp hk⟩
theorem Rp.non {w k : Nat} : Rp .non w k := ⟨.none, fun _ _ _ => rfl, rfl, rfl, Nat.zero_le _, Nat.zero_le _⟩
theorem Rp.bl {b : Bool} {w k : Nat} : Rp (.bl b) w k := ⟨.bool b, fun _ _ _ => rfl, rfl, rfl, Nat.zero_le _, Nat.zero_le _⟩
theorem Rp.int {i : Int} {k : Nat} (h : i.natAbs < 10 ^ 40) : Rp (.int i) 200 k := by
  have hlog : i.natAbs.log2 < 140 := log2_lt (by decide) (by
    have : (2 : Nat) ^ 140 = 1393796574908163946345982392040522594123776 := by decide
    have e40 : (10 : Nat) ^ 40 = 10000000000000000000000000000000000000000 := by decide
    rw [this]; omega)
  refine ⟨.int i, fun _ _ _ => rfl, decide_eq_true (by omega), ?_, ?_, Nat.zero_le _⟩
  · refine decide_eq_true ?_
    have e := int_text_length_le10 (a := i) (k := 40) (by decide) h
    show (Str.ofString (toString i)).length ≤ 50
    rw [PySem.ofString_length]; omega
  · simp only [PyData.weight]; split <;> omega
theorem Rp.str {x : Str} {k : Nat} (h : ∀ c ∈ x.cps.toList, c < 16 ^ 8) (hs : x.cps.size ≤ 200) : Rp (.str x) 200 k := by
  refine ⟨.str x, fun _ _ _ => rfl, rfl, ?_, hs, Nat.zero_le _⟩
  simp only [PyData.leavesShort, List.all_eq_true, decide_eq_true_eq]
  exact h
theorem Rp.name {x : Str} {k : Nat} (h : Nm x) : Rp (.str x) 200 k := Rp.str (fun c hc => by
  have := (h.let_ c hc).2
  have e : (16 : Nat) ^ 8 = 4294967296 := by decide
  omega) (by have := h.hi; omega)
theorem pk_all {w k : Nat} : ∀ {ps : List PyData}, (∀ p ∈ ps, Pk p w k) → PyData.showableAll ps = true ∧ PyData.leavesShortAll 50 ps = true ∧ PyData.weightAll ps ≤ (w + 1) * ps.length ∧ PyData.depthAll ps ≤ k
  | [], _ => ⟨rfl, rfl, Nat.zero_le _, Nat.zero_le _⟩
  | p :: ps, h => by
    obtain ⟨h1, h2, h3, h4⟩ := h p List.mem_cons_self
    obtain ⟨g1, g2, g3, g4⟩ := pk_all (ps := ps) fun q hq => h q (List.mem_cons_of_mem _ hq)
    refine ⟨by simp only [PyData.showableAll, h1, g1, Bool.and_self], by simp only [PyData.leavesShortAll, h2, g2, Bool.and_self], ?_, ?_⟩
    · simp only [PyData.weightAll, List.length_cons]
      rw [Nat.mul_succ]; omega
    · simp only [PyData.depthAll]; exact Nat.max_le.mpr ⟨h4, g4⟩
theorem sh_all {w k : Nat} : ∀ {ds : List D}, (∀ d ∈ ds, Rp d w k) → ∃ ps : List PyData, (∀ (m : Nat) (S : Sto), k ≤ m → ds.mapM (toPyR (m + 1) S) = some ps) ∧ (∀ p ∈ ps, Pk p w k) ∧ ps.length = ds.length
  | [], _ => ⟨[], fun _ _ _ => rfl, by simp, rfl⟩
  | d :: ds, h => by
    obtain ⟨p, h1, h2⟩ := h d List.mem_cons_self
    obtain ⟨ps, g1, g2, g3⟩ := sh_all (ds := ds) fun q hq => h q (List.mem_cons_of_mem _ hq)
    refine ⟨p :: ps, fun m S hm => ?_, fun q hq => (List.mem_cons.mp hq).elim (fun z => z ▸ h2) (g2 q), by simp [g3]⟩
    rw [List.mapM_cons, h1 m S hm, g1 m S hm]; rfl
theorem Rp.seq {w k n : Nat} {ds : List D} (h : ∀ d ∈ ds, Rp d w k) (hn : ds.length ≤ n) : Rp (.tup ds) ((w + 1) * n) (k + 1) ∧ Rp (.fl ds) ((w + 1) * n) (k + 1) := by
  obtain ⟨ps, g1, g2, g3⟩ := sh_all h
  obtain ⟨a1, a2, a3, a4⟩ := pk_all g2
  have a5 : (w + 1) * ps.length ≤ (w + 1) * n := Nat.mul_le_mul_left _ (by omega)
  constructor
  · refine ⟨.tuple ps, fun m S hm => ?_, by simp only [PyData.showable, a1], by simp only [PyData.leavesShort, a2], by simp only [PyData.weight]; omega, by simp only [PyData.depth]; omega⟩
    obtain ⟨m, rfl⟩ : ∃ j, m = j + 1 := ⟨m - 1, by omega⟩
    show (ds.mapM (toPyR (m + 1) S)).map PyData.tuple = _
    rw [g1 m S (by omega)]; rfl
  · refine ⟨.list ps, fun m S hm => ?_, by simp only [PyData.showable, a1], by simp only [PyData.leavesShort, a2], by simp only [PyData.weight]; omega, by simp only [PyData.depth]; omega⟩
    obtain ⟨m, rfl⟩ : ∃ j, m = j + 1 := ⟨m - 1, by omega⟩
    show (ds.mapM (toPyR (m + 1) S)).map PyData.list = _
    rw [g1 m S (by omega)]; rfl
theorem Rp.sq {w k n : Nat} {d : D} {ds : List D} (q : Sq d ds) (h : ∀ d ∈ ds, Rp d w k) (hn : ds.length ≤ n) : Rp d ((w + 1) * n) (k + 1) := by
  rcases q with rfl | rfl
  · exact (Rp.seq h hn).1
  · exact (Rp.seq h hn).2
theorem Rp.card {c : Card} (hn : Nm c.1) (h0 : 0 ≤ c.2) (hb : c.2 < 10 ^ 40) : Rp (dC c) 402 1 := (Rp.seq (n := 2) (w := 200) (k := 0) (fun d hd => by
  simp at hd
  rcases hd with rfl | rfl
  · exact .name hn
  · refine .int ?_
    have : (10 : Int) ^ 40 = 10000000000000000000000000000000000000000 := by decide
    have e40 : (10 : Nat) ^ 40 = 10000000000000000000000000000000000000000 := by decide
    omega) (by simp)).1
theorem Rp.deck {l : List Card} (ok : DeckOk l) (hb : Big l) : Rp (dK l) 16120 2 := (Rp.seq (w := 402) (k := 1) (n := 40) (fun d hd => by
  obtain ⟨c, hc, rfl⟩ := List.mem_map.mp hd
  exact .card (ok.nm c hc) (ok.dep c hc) (hb c hc)) (by have := ok.hi; simpa using this)).1
theorem Rp.fd {ks : List Key} {ds : List D} {n : Nat} (hk : ∀ k ∈ ks, ∃ x, k = .inr x ∧ Nm x) (h : ∀ d ∈ ds, Rp d 200 0) (hl : ks.length = ds.length) (hn : ds.length ≤ n) : Rp (.fd ks ds) (402 * n) 1 := by
  obtain ⟨ps, g1, g2, g3⟩ := sh_all h
  have key : ∀ (ks : List Key) (ps : List PyData), (∀ k ∈ ks, ∃ x, k = .inr x ∧ Nm x) → (∀ p ∈ ps, Pk p 200 0) → ks.length = ps.length → PyData.showableKv ((ks.map kP).zip ps) = true ∧ PyData.leavesShortKv 50 ((ks.map kP).zip ps) = true ∧ PyData.weightKv ((ks.map kP).zip ps) ≤ 402 * ps.length ∧ PyData.depthKv ((ks.map kP).zip ps) ≤ 0 := by
    intro ks
    induction ks with
    | nil => intro ps _ _ hl; cases ps with
      | nil => exact ⟨rfl, rfl, Nat.zero_le _, Nat.zero_le _⟩
      | cons _ _ => simp at hl
    | cons k ks ih =>
      intro ps h1 h2 hl
      cases ps with
      | nil => simp at hl
      | cons p ps =>
        obtain ⟨x, rfl, hx⟩ := h1 k List.mem_cons_self
        obtain ⟨px, e1, e2⟩ := Rp.name (k := 0) hx
        have e3 := e1 0 [] (Nat.le_refl _)
        cases e3
        have e4 := h2 p List.mem_cons_self
        obtain ⟨i1, i2, i3, i4⟩ := ih ps (fun z hz => h1 z (List.mem_cons_of_mem _ hz)) (fun z hz => h2 z (List.mem_cons_of_mem _ hz)) (by simpa using hl)
        refine ⟨?_, ?_, ?_, ?_⟩
        · show PyData.showableKv ((PyData.str x, p) :: (ks.map kP).zip ps) = true
          simp only [PyData.showableKv, e2.sh, e4.sh, i1, Bool.and_self]
        · show PyData.leavesShortKv 50 ((PyData.str x, p) :: (ks.map kP).zip ps) = true
          simp only [PyData.leavesShortKv, e2.lf, e4.lf, i2, Bool.and_self]
        · show PyData.weightKv ((PyData.str x, p) :: (ks.map kP).zip ps) ≤ _
          have := e2.wt
          have := e4.wt
          simp only [PyData.weightKv, List.length_cons]
          omega
        · show PyData.depthKv ((PyData.str x, p) :: (ks.map kP).zip ps) ≤ _
          have := e2.dp
          have := e4.dp
          simp only [PyData.depthKv]
          omega
  obtain ⟨a1, a2, a3, a4⟩ := key ks ps hk g2 (by omega)
  refine ⟨.dict ((ks.map kP).zip ps), fun m S hm => ?_, by simp only [PyData.showable, a1], by simp only [PyData.leavesShort, a2], by simp only [PyData.weight]; omega, by simp only [PyData.depth]; omega⟩
  obtain ⟨m, rfl⟩ : ∃ j, m = j + 1 := ⟨m - 1, by omega⟩
  show (if ks.length = ds.length then _ else none) = _
  rw [if_pos hl, g1 m S (by omega)]; rfl
end Sb
end
section
set_option Elab.async false
set_option linter.all false
set_option maxRecDepth 100000
set_option maxHeartbeats 4000000
namespace Sb
open PySem PySem.Spec PyProof.Rows L2
variable {K : PySem.W.Frag} {S : Sto}
/-! ## a deck handed in otherwise, lists kept -/
/-- an item: the card, or a list of it at b or beyond, not at p -/
def YI (b p : Nat) (S : Sto) (e : D) (c : Card) : Prop := e = dC c ∨ ∃ q, e = .loc q ∧ b ≤ q ∧ q ≠ p ∧ S[q]? = some (oC c)
structure YD (b p : Nat) (l : List Card) (d : D) (es : List D) (S : Sto) : Prop where
  is : d = .tup es ∨ d = .loc p ∧ b ≤ p ∧ S[p]? = some (.lst es)
  len : es.length = l.length
  it : ∀ (i : Nat) (e : D) (c : Card), es[i]? = some e → l[i]? = some c → YI b p S e c
theorem YD.deck {b p : Nat} {l : List Card} {d : D} {es : List D} (h : YD b p l d es S) : isDeck S d l := by
  refine ⟨es, ?_, h.len, fun i e c he hc => ?_⟩
  · rcases h.is with q | ⟨q, _, z⟩
    · exact .inl q
    · exact .inr (.inr ⟨p, q, z⟩)
  · rcases h.it i e c he hc with q | ⟨r, q, _, _, z⟩
    · exact .inl q
    · exact .inr (.inr ⟨r, q, z⟩)
def frz (e : D) (c : Card) : D := match e with | .loc _ => fC c | e => e
theorem YD.sm {b p n : Nat} {l : List Card} {d : D} {es : List D} {S' : Sto} (h : YD b p l d es S) (sm : Sm n S S') (hn : n < b) : YD b p l d es S' :=
  ⟨h.is.imp id fun ⟨a, b, c⟩ => ⟨a, b, sm.get c (by omega)⟩, h.len, fun i e c he hc => (h.it i e c he hc).imp id fun ⟨q, a, b, c, d⟩ => ⟨q, a, b, c, sm.get d (by omega)⟩⟩
theorem YI.app {b p : Nat} {e : D} {c : Card} {X : Sto} (h : YI b p S e c) : YI b p (S ++ X) e c := h.imp id fun ⟨q, a, b, c, d⟩ => ⟨q, a, b, c, pre_get d⟩
end Sb
end
section
set_option Elab.async false
set_option linter.all false
set_option maxRecDepth 100000
set_option maxHeartbeats 4000000
namespace Sb
open PySem PySem.Spec PyProof.Rows L2
variable {K : PySem.W.Frag} {S : Sto}
theorem Held.app {p : Nat} {l : List Card} (h : Held p l S) (X : Sto) : Held p l (S ++ X) := by
  obtain ⟨qs, q⟩ := h
  exact ⟨qs, pre_get q.at_, q.len, q.nd, q.gt, fun i a c h1 h2 => pre_get (q.obj i a c h1 h2)⟩
end Sb
end
section
set_option Elab.async false
set_option linter.all false
set_option maxRecDepth 100000
set_option maxHeartbeats 4000000
namespace Sb
open PySem PySem.Spec PyProof.Rows L2
variable {K : PySem.W.Frag} {S : Sto}
/-! ## the bag -/
abbrev bagO (cs : List Int) (p r c t : Int) : Ob := .lst [.fl (cs.map D.int), .int p, .int r, .int c, .int t]
def Bag (n k : Nat) (S : Sto) : Prop := ∃ (cs : List Int) (p r c t : Int), S[n]? = some (bagO cs p r c t) ∧ 0 ≤ p ∧ p ≤ cs.length ∧ 0 ≤ r ∧ 0 ≤ c ∧ c ≤ k ∧ 0 ≤ t ∧ t < 2 ^ 61
theorem bds_ints0 {k : Nat} (ns : List Int) : bds k (ns.map D.int) = true := bds_map fun _ _ => rfl
theorem bag_src : Src Bag where
  fr := fun ⟨cs, p, r, c, t, e, h⟩ q => ⟨cs, p, r, c, t, q.trans e, h⟩
  ex := fun ⟨cs, p, r, c, t, e, h⟩ => ⟨_, e, by simp only [bdO, bds, bd, bds_ints0, Bool.and_self]⟩
  mono := fun ⟨cs, p, r, c, t, e, h1, h2, h3, h4, h5, h6⟩ hk => ⟨cs, p, r, c, t, e, h1, h2, h3, h4, by omega, h6⟩
theorem mulX {i j : Int} (hi : i.natAbs < 2 ^ 300) (hj : j.natAbs < 2 ^ 300) : gMulX (.int i) (.int j) S = some (.int (i * j), S) := by
  have a : i.natAbs.log2 < 300 := log2_lt (by decide) hi
  have b : j.natAbs.log2 < 300 := log2_lt (by decide) hj
  have : i.natAbs.log2 + j.natAbs.log2 < 1000000 := by omega
  simp only [gMulX, if_pos this]
theorem gMod_i {i j : Int} (h : 0 < j) : gMod (.int i) (.int j) S = some (.int (i % j), S) := by simp only [gMod, gI, decide_eq_true h, if_true]
theorem gDiv_i {i j : Int} (h : 0 < j) (h2 : j < 2 ^ 300) : gDiv (.int i) (.int j) S = some (.int (i / j), S) := by
  have : 0 < j ∧ j.natAbs.log2 < 9000 := ⟨h, by
    have : j.natAbs.log2 < 300 := log2_lt (by decide) (by omega)
    omega⟩
  simp only [gDiv, gI, decide_eq_true this, if_true]
theorem p300 {i : Int} (h0 : 0 ≤ i) (h : i < 2 ^ 200) : i.natAbs < 2 ^ 300 := by
  have : (2 : Nat) ^ 200 < 2 ^ 300 := by decide
  omega
theorem stir_ok {a b : Int} (ha : 0 ≤ a) (ha2 : a < 2 ^ 61) (hb : 0 ≤ b) (hb2 : b < 2 ^ 41) : ∃ v : Int, 0 ≤ v ∧ M_bag_stir [.int a, .int b] S = some (.ok (.int v) S) := by
  have c : ∀ i : Int, 0 ≤ i → i < 2 ^ 62 → i.natAbs < 2 ^ 300 := fun i h0 h1 => p300 h0 (by omega)
  let one := (a * 998244353 + b * 1000000007 + 5) % 2305843009213693951
  have o0 : 0 ≤ one := Int.emod_nonneg _ (by decide)
  have o1 : one < 2305843009213693951 := Int.emod_lt_of_pos _ (by decide)
  let two := one * one % 2305843009213693951
  have t0 : 0 ≤ two := Int.emod_nonneg _ (by decide)
  have t1 : two < 2305843009213693951 := Int.emod_lt_of_pos _ (by decide)
  have hbb : 0 ≤ b * b ∧ b * b < 2 ^ 200 := by
    refine ⟨Int.mul_nonneg hb hb, ?_⟩
    have : b * b ≤ 2 ^ 41 * 2 ^ 41 := Int.mul_le_mul (by omega) (by omega) hb (by decide)
    have : (2 : Int) ^ 41 * 2 ^ 41 < 2 ^ 200 := by decide
    omega
  refine ⟨(two * 2860486313 + b * b * 48271 + one / 3) % 2305843009213693921 / 1024, Int.ediv_nonneg (Int.emod_nonneg _ (by decide)) (by decide), ?_⟩
  refine fnM_rt ?_
  refine (sSeq_nx (sSet_ok (d := .int one) (S1 := S) (eB_ok (eB_ok (eB_ok (eB_ok rfl rfl (mulX (c _ ha (by omega)) (by decide))) (eB_ok rfl rfl (mulX (c _ hb (by omega)) (by decide))) gAdd_i) rfl gAdd_i) rfl (gMod_i (by decide))))).trans ?_
  refine (sSeq_nx (sSet_ok (d := .int two) (S1 := S) (eB_ok (eB_ok rfl rfl (mulX (c _ o0 (by omega)) (c _ o0 (by omega)))) rfl (gMod_i (by decide))))).trans ?_
  exact sRt_ok (eB_ok (eB_ok (eB_ok (eB_ok (eB_ok rfl rfl (mulX (c _ t0 (by omega)) (by decide))) (eB_ok (eB_ok rfl rfl (mulX (c _ hb (by omega)) (c _ hb (by omega)))) rfl (mulX (p300 hbb.1 hbb.2) (by decide))) gAdd_i) (eB_ok rfl rfl (gDiv_i (by decide) (by decide))) gAdd_i) rfl (gMod_i (by decide))) rfl (gDiv_i (by decide) (by decide)))
theorem bif_t {t : BF} {f g : SF} {τ : Sl} {S S1 : Sto} {Q : Fl → Sto → Prop} (h : t τ S = some (.ok true S1)) (k : Ws (f τ S1) Q) : Ws (sIf t f g τ S) Q := by
  rw [show sIf t f g τ S = f τ S1 from sIf_t h]; exact k
theorem bif_f {t : BF} {f g : SF} {τ : Sl} {S S1 : Sto} {Q : Fl → Sto → Prop} (h : t τ S = some (.ok false S1)) (k : Ws (g τ S1) Q) : Ws (sIf t f g τ S) Q := by
  rw [show sIf t f g τ S = g τ S1 from sIf_f h]; exact k
theorem bput {f : SF} {τ τ1 : Sl} {S S1 : Sto} {Q : Fl → Sto → Prop} (h : f τ S = some (.nx τ1, S1)) (k : Q (.nx τ1) S1) : Ws (f τ S) Q := ⟨_, _, h, k⟩
theorem bag_draw_ok : Drw Bag M_bag_draw := by
  intro n k S m w h hk hm0 hm1
  obtain ⟨cs, p, r, c, t, e, hp0, hp1, hr0, hc0, hc1, ht0, ht1⟩ := h
  have hn : n < S.length := (List.getElem?_eq_some_iff.mp e).1
  have i200 : ((m : Nat) : Int) < 2 ^ 300 := by
    have : (2 : Nat) ^ 200 < 2 ^ 300 := by decide
    omega
  have smS : ∀ o, Sm n S (S.set n o) := fun o => ⟨by simp, fun i hi => List.getElem?_set_ne (Ne.symm hi)⟩
  have mk : ∀ (p r c t : Int), 0 ≤ p → p ≤ cs.length → 0 ≤ r → 0 ≤ c → c ≤ (k + 1 : Nat) → 0 ≤ t → t < 2 ^ 61 → Bag n (k + 1) (S.set n (bagO cs p r c t)) := fun p r c t h1 h2 h3 h4 h5 h6 h7 => ⟨cs, p, r, c, t, List.getElem?_set_self hn, h1, h2, h3, h4, h5, h6, h7⟩
  -- what a number comes to
  have last : ∀ v : Int, 0 ≤ v → ∃ u : Nat, v % (m : Int) = (u : Int) ∧ u < m := fun v hv => by
    have h1 : 0 ≤ v % (m : Int) := Int.emod_nonneg _ (by omega)
    have h2 : v % (m : Int) < m := Int.emod_lt_of_pos _ (by omega)
    exact ⟨(v % (m : Int)).toNat, by omega, by omega⟩
  have main : Ws (m_bag_draw (ini 4 [.loc n, .int (m : Nat)]) S) fun fl S' => ∃ d, fl = .rt d ∧ ∃ v : Nat, d = .int (v : Nat) ∧ v < m ∧ Bag n (k + 1) S' ∧ Sm n S S' := by
    by_cases h1 : m = 1
    · subst h1
      exact ws_iret (tB_ok (eB_ok rfl rfl (by rw [gEq_int]; rfl))) rfl ⟨_, rfl, 0, rfl, by omega, ⟨cs, p, r, c, t, e, hp0, hp1, hr0, hc0, by omega, ht0, ht1⟩, Sm.refl⟩
    refine ws_no (tB_ok (eB_ok rfl rfl (d := .bl false) (S3 := S) (by rw [gEq_int]; simp; omega))) ?_
    let S1 : Sto := S.set n (bagO cs p r (c + 1) t)
    have g1 : S1[n]? = some (bagO cs p r (c + 1) t) := List.getElem?_set_self hn
    have e3 : gIx (.loc n) (.int 3) S = some (.int c, S) := ix_loc e (i := 3) rfl
    refine ws_nx (sPut_ok (eB_ok (eB_ok rfl rfl e3) rfl gAdd_i) rfl rfl (S4 := S1) (putD_ok (i := 3) e (by simp))) ?_
    have t1 : (tB (eB gLtI (eB gIx (eVar 0) (eC (.int 2))) (eC (.int 2)))) [some (.loc n), some (.int (m : Nat)), none, none] S1 = some (.ok (decide (r < 2)) S1) := tB_ok (eB_ok (eB_ok rfl rfl (ix_loc g1 (i := 2) rfl)) rfl gLt_i)
    have t2 : (tB (eB (gEq false) (eB gIx (eVar 0) (eC (.int 1))) (eCB gLenX (aCons (eB gIx (eVar 0) (eC (.int 0))) (aNil))))) [some (.loc n), some (.int (m : Nat)), none, none] S1 = some (.ok (decide (p = cs.length)) S1) := tB_ok (eB_ok (eB_ok rfl rfl (ix_loc g1 (i := 1) rfl)) (eCB_ok (a1_ok (eB_ok rfl rfl (ix_loc g1 (i := 0) rfl))) len_fl) (by rw [gEq_int]; simp))
    have t12 : (tAn (tB (eB gLtI (eB gIx (eVar 0) (eC (.int 2))) (eC (.int 2)))) (tB (eB (gEq false) (eB gIx (eVar 0) (eC (.int 1))) (eCB gLenX (aCons (eB gIx (eVar 0) (eC (.int 0))) (aNil)))))) [some (.loc n), some (.int (m : Nat)), none, none] S1 = some (.ok (decide (r < 2) && decide (p = cs.length)) S1) := by
      by_cases q : r < 2
      · rw [an_t (t1.trans (by rw [decide_eq_true q])) t2]; simp [q]
      · rw [an_f (t1.trans (by rw [decide_eq_false q]))]; simp [q]
    have b1 := mk p r (c + 1) t hp0 hp1 hr0 (by omega) (by omega) ht0 ht1
    by_cases q1 : r < 2 ∧ p = cs.length
    · obtain ⟨v, hv, ev⟩ := stir_ok (S := S1) (a := t) (b := c + 1) ht0 ht1 (by omega) (by omega)
      obtain ⟨u, eu, hu⟩ := last v hv
      exact ws_iret (t12.trans (by simp [q1])) (eB_ok (eCl_ok (a2_ok (eB_ok rfl rfl (ix_loc g1 (i := 4) rfl)) (eB_ok rfl rfl (ix_loc g1 (i := 3) rfl))) rfl ev) rfl (gMod_i (by omega))) ⟨_, rfl, u, by rw [eu], hu, b1, smS _⟩
    refine ws_no (t12.trans (by
      have : (decide (r < 2) && decide (p = cs.length)) = false := by
        rw [Bool.and_eq_false_iff, decide_eq_false_iff_not, decide_eq_false_iff_not]
        by_cases z : r < 2
        · exact .inr fun y => q1 ⟨z, y⟩
        · exact .inl z
      rw [this])) ?_
    -- a great one is under way
    have fin : ∀ (p' r' : Int) (x2 : Option D), 0 ≤ p' → p' ≤ cs.length → 0 ≤ r' → ∀ S2 : Sto, S2 = S.set n (bagO cs p' r' (c + 1) t) →
        Ws ((sSeq (sSet 3 (eB gMod (eB gIx (eVar 0) (eC (.int 2))) (eVar 1))) (sSeq (sPut (eB gDiv (eB gIx (eVar 0) (eC (.int 2))) (eVar 1)) (eVar 0) (eC (.int 2))) (sRt (eVar 3)))) [some (.loc n), some (.int (m : Nat)), x2, none] S2) fun fl S' => ∃ d, fl = .rt d ∧ ∃ v : Nat, d = .int (v : Nat) ∧ v < m ∧ Bag n (k + 1) S' ∧ Sm n S S' := by
      rintro p' r' x2 h1 h2 h3 S2 rfl
      have g2 : (S.set n (bagO cs p' r' (c + 1) t))[n]? = some (bagO cs p' r' (c + 1) t) := List.getElem?_set_self hn
      obtain ⟨u, eu, hu⟩ := last r' h3
      refine ws_set (eB_ok (eB_ok rfl rfl (ix_loc g2 (i := 2) rfl)) rfl (gMod_i (by omega))) ?_
      refine ws_nx (sPut_ok (eB_ok (eB_ok rfl rfl (ix_loc g2 (i := 2) rfl)) rfl (gDiv_i (by omega) i200)) rfl rfl (putD_ok (i := 2) g2 (by simp))) ?_
      refine ws_rt rfl ⟨_, rfl, u, by rw [eu], hu, ?_, ?_⟩
      · rw [List.set_set]
        exact mk p' (r' / m) (c + 1) t h1 h2 (Int.ediv_nonneg h3 (by omega)) (by omega) (by omega) ht0 ht1
      · rw [List.set_set]; exact smS _
    by_cases q2 : r < 2
    · have hpl : p ≠ cs.length := fun z => q1 ⟨q2, z⟩
      obtain ⟨pn, rfl⟩ := Int.eq_ofNat_of_zero_le hp0
      have hpn : pn < cs.length := by omega
      have hcell : gIx (.fl (cs.map D.int)) (.int (pn : Nat)) S1 = some (.int cs[pn], S1) := by
        rw [ix_fints hpn, List.getD_eq_getElem?_getD, List.getElem?_eq_getElem hpn]; rfl
      have g11 : gIx (.loc n) (.int 1) S1 = some (.int (pn : Nat), S1) := ix_loc g1 (i := 1) rfl
      have g10 : gIx (.loc n) (.int 0) S1 = some (.fl (cs.map D.int), S1) := ix_loc g1 (i := 0) rfl
      refine ws_seq (bif_t (t1.trans (by rw [decide_eq_true q2])) ?_)
      refine ws_set (eB_ok (eB_ok rfl rfl g10) (eB_ok rfl rfl g11) hcell) ?_
      let S2 : Sto := S.set n (bagO cs ((pn : Nat) + 1 : Int) r (c + 1) t)
      have e2 : S1.set n (bagO cs ((pn : Nat) + 1 : Int) r (c + 1) t) = S2 := List.set_set ..
      have g2 : S2[n]? = some (bagO cs ((pn : Nat) + 1 : Int) r (c + 1) t) := List.getElem?_set_self hn
      refine ws_nx (sPut_ok (eB_ok (eB_ok rfl rfl g11) rfl gAdd_i) rfl rfl (S4 := S2) ((putD_ok (i := 1) g1 (by simp)).trans (by rw [← e2]; rfl))) ?_
      by_cases q3 : cs[pn] < 1000000000000000000
      · refine ws_seq (bif_t (tB_ok (eB_ok rfl (show (eB gPow (eC (.int 10)) (eC (.int 18))) _ S2 = some (.ok (.int 1000000000000000000) S2) from eB_ok rfl rfl rfl) (gLt_i.trans (by rw [decide_eq_true q3])))) ?_)
        have h0 : 0 ≤ cs[pn] % 2305843009213693951 := Int.emod_nonneg _ (by decide)
        have h1 : cs[pn] % 2305843009213693951 < 2305843009213693951 := Int.emod_lt_of_pos _ (by decide)
        obtain ⟨v, hv, ev⟩ := stir_ok (S := S2) (a := cs[pn] % 2305843009213693951) (b := c + 1) h0 (by omega) (by omega) (by omega)
        obtain ⟨u, eu, hu⟩ := last v hv
        exact ws_rt (eB_ok (eCl_ok (a2_ok (eB_ok rfl rfl (gMod_i (by decide))) (eB_ok rfl rfl (ix_loc g2 (i := 3) rfl))) rfl ev) rfl (gMod_i (by omega))) ⟨_, rfl, u, by rw [eu], hu, mk _ _ _ _ (by omega) (by omega) hr0 (by omega) (by omega) ht0 ht1, smS _⟩
      · refine ws_no (tB_ok (eB_ok rfl (show (eB gPow (eC (.int 10)) (eC (.int 18))) _ S2 = some (.ok (.int 1000000000000000000) S2) from eB_ok rfl rfl rfl) (gLt_i.trans (by rw [decide_eq_false q3])))) ?_
        let S3 : Sto := S.set n (bagO cs ((pn : Nat) + 1 : Int) (cs[pn] - 1000000000000000000) (c + 1) t)
        have e3 : S2.set n (bagO cs ((pn : Nat) + 1 : Int) (cs[pn] - 1000000000000000000) (c + 1) t) = S3 := List.set_set ..
        refine bput (sPut_ok (eB_ok rfl (show (eB gPow (eC (.int 10)) (eC (.int 18))) _ S2 = some (.ok (.int 1000000000000000000) S2) from eB_ok rfl rfl rfl) gSub_i) rfl rfl (S4 := S3) ((putD_ok (i := 2) g2 (by simp)).trans (by rw [← e3]; rfl))) ?_
        exact fin _ _ _ (by omega) (by omega) (by omega) S3 rfl
    · refine ws_nx (sIf_f (t1.trans (by rw [decide_eq_false q2]))) ?_
      exact fin p r none hp0 hp1 hr0 S1 rfl
  obtain ⟨d, S', e2, v, rfl, h2, h3, h4⟩ := fn_ws main
  exact ⟨v, S', e2, h2, h3, h4⟩
end Sb
end
section
set_option Elab.async false
set_option linter.all false
set_option maxRecDepth 100000
set_option maxHeartbeats 4000000
namespace Sb
open PySem PySem.Spec PyProof.Rows L2
variable {K : PySem.W.Frag} {S : Sto}
theorem bag_bag_ok {d : D} {ns : List Int} (hd : seqD S d = some (ns.map D.int)) (ht : ∀ ds, d ≠ .tup ds ∧ d ≠ .fl ds) (w : Wf S) :
    ∃ o, M_x_bag_bag [d] S = some (.ok (.loc S.length) (S ++ [o])) ∧ Bag S.length 0 (S ++ [o]) ∧ Wf (S ++ [o]) := by
  have main : Ws (m_x_bag_bag (ini 3 [d]) S) fun fl S' => ∃ d', fl = .rt d' ∧ d' = .loc S.length ∧ ∃ o, S' = S ++ [o] ∧ Bag S.length 0 S' ∧ Wf S' := by
    refine ws_set rfl ?_
    have hi : ∃ wk, iScr (eVar 0) [some d, some (.int 1), none] S = some (.ok wk S) ∧ wk.bound = ns.length ∧ ∀ i, wk.nxt i S = some ((ns.map D.int)[i]?) := by
      cases d with
      | scr ms =>
        have e := Option.some.inj hd
        refine ⟨_, iScr_scr rfl, ?_, fun i => by rw [← e]⟩
        have := congrArg List.length e
        simpa using this
      | loc j =>
        have q := hd
        simp only [seqD] at q
        split at q
        · rename_i z
          cases q
          refine ⟨_, iScr_loc rfl z, by simp, fun i => by simp only [hd, Option.map_some]⟩
        · cases q
      | tup ds => exact absurd rfl (ht ds).1
      | fl ds => exact absurd rfl (ht ds).2
      | _ => cases hd
    obtain ⟨wk, hwk, hb, hnx⟩ := hi
    refine ws_for ns.length (fun i τ S' => S' = S ∧ ∃ (t : Int) (x : Option D), τ = [some d, some (.int t), x] ∧ 0 ≤ t ∧ t < 2 ^ 61) (fun i => .int (ns.getD i 0)) hwk (by omega) ⟨rfl, 1, none, rfl, by decide, by decide⟩ ?_ ?_ ?_
    · rintro i τ S' hi ⟨rfl, t, x, rfl, h0, h1⟩
      refine ⟨by rw [hnx, List.getElem?_map, List.getElem?_eq_getElem hi, List.getD_eq_getElem?_getD, List.getElem?_eq_getElem hi]; rfl, _, rfl, ?_⟩
      refine ws_set1 (eB_ok (eB_ok (eB_ok (eB_ok rfl rfl (mulX (p300 h0 (by omega)) (by decide))) (eB_ok rfl rfl (gMod_i (by decide))) gAdd_i) rfl gAdd_i) rfl (gMod_i (by decide))) ⟨rfl, _, _, rfl, Int.emod_nonneg _ (by decide), ?_⟩
      exact Int.lt_of_lt_of_le (Int.emod_lt_of_pos _ (by decide)) (by decide)
    · rintro τ S' ⟨rfl, t, x, rfl, h0, h1⟩
      rw [hnx, List.getElem?_eq_none (by simp)]
    · rintro τ S' ⟨rfl, t, x, rfl, h0, h1⟩
      have e1 : fz (eCB gList (aCons (eVar 0) aNil)) [some d, some (.int t), x] S' = some (.ok (.fl (ns.map D.int)) S') := fz_lst (X := [.lst (ns.map D.int)]) w (eCB_ok (a1_ok rfl) (by simp only [gList, hd, Option.bind_some])) (get_last _ _) (Nat.le_refl _) (bds_ints0 _)
      refine ws_rt (eLst_ok (aCons_ok e1 (aCons_ok rfl (aCons_ok rfl (aCons_ok rfl (aCons_ok rfl aNil_ok))))) (by simp [sizeLine_eq])) ⟨_, rfl, rfl, _, rfl, ⟨ns, 0, 0, 0, t, get_last _ _, by omega, by omega, by omega, by omega, by omega, h0, h1⟩, wf_app w (by simp [bdO, bds, bd, bds_ints0])⟩
  obtain ⟨d', S', e, rfl, o, rfl, h1, h2⟩ := fn_ws main
  exact ⟨o, e, h1, h2⟩
end Sb
end
section
set_option Elab.async false
set_option linter.all false
set_option maxRecDepth 100000
set_option maxHeartbeats 4000000
namespace Sb
open PySem PySem.Spec PyProof.Rows L2
variable {K : PySem.W.Frag} {S : Sto}
theorem seqIx_nat {v l : Nat} (h : v < l) : seqIndex? ((v : Nat) : Int) l = some v := by
  unfold seqIndex?
  simp only
  have c1 : ¬ ((v : Int) < 0) := by omega
  rw [if_neg c1]
  have c2 : 0 ≤ (v : Int) ∧ (v : Int) < l := by omega
  first | rw [if_pos c2]; simp | simp [c2, h]
theorem perm_erase {α : Type} {l : List α} {v : Nat} (h : v < l.length) : l.Perm (l[v] :: l.eraseIdx v) := by
  rw [List.eraseIdx_eq_take_drop_succ]
  conv => lhs; rw [← List.take_append_drop v l, List.drop_eq_getElem_cons h]
  exact List.perm_middle
theorem bag_mixed_ok {n k : Nat} {ds : List D} (w : Wf S) (h : Bag n k S) (hk : k + ds.length < 2 ^ 40) (hd : bds 0 ds = true) (hl : ds.length ≤ 1000) :
    ∃ (acc : List D) (S' : Sto), M_bag_mixed [.loc n, .fl ds] S = some (.ok (.fl acc) S') ∧ acc.Perm ds ∧ Bag n (k + ds.length) S' ∧ Fr n S S' := by
  have hn := bag_src.lt h
  have main : Ws (m_bag_mixed (ini 4 [.loc n, .fl ds]) S) fun fl S' => ∃ d, fl = .rt d ∧ ∃ acc, d = .fl acc ∧ acc.Perm ds ∧ Bag n (k + ds.length) S' ∧ Fr n S S' := by
    refine ws_set (S1 := S ++ [Ob.lst ds]) (d := .loc S.length) (eCB_ok (a1_ok rfl) rfl) ?_
    have w1 : Wf (S ++ [Ob.lst ds]) := wf_app w (bds_mono (Nat.zero_le _) _ hd)
    have sl : (S ++ [Ob.lst ds]).length = S.length + 1 := by simp
    obtain ⟨S2, acc, e2, ⟨hb, ⟨rest, hr, pr, lr⟩, fr⟩, l2, w2, _⟩ := lc_gen (fi := iRg1 (aCons (eCB gLenX (aCons (eVar 1) (aNil))) (aNil))) (g := tN 3) (t := tAll) (fe := eBM "list" gPopAt (eVar 2) (aCons (eCl (M_bag_draw) 2 (aCons (eVar 0) (aCons (eCB gLenX (aCons (eVar 2) (aNil))) (aNil)))) (aNil))) (vs := [3])
      (τ := [some (.loc n), some (.fl ds), some (.loc S.length), none]) (S := S ++ [Ob.lst ds]) (S1 := S ++ [Ob.lst ds]) (ds := (List.range ds.length).map fun i : Nat => D.int i)
      (fun i acc S' => Bag n (k + i) S' ∧ (∃ rest, S'[S.length]? = some (.lst rest) ∧ (acc ++ rest).Perm ds ∧ rest.length = ds.length - i) ∧ ∀ j, j < S.length → j ≠ n → S'[j]? = S[j]?)
      (iRg1_ok (a1_ok (eCB_ok (a1_ok rfl) len_fl)) (by omega)) rfl w1 wks_rg (by simp; omega)
      (fun i acc S' S'' q ⟨hb, ⟨rest, hr, pr, lr⟩, fr⟩ => ⟨bag_src.fr hb (q n (by omega)), ⟨rest, (q _ (by omega)).trans hr, pr, lr⟩, fun j hj hjn => (q j (by omega)).trans (fr j hj hjn)⟩)
      ⟨bag_src.app h, ⟨ds, get_last _ _, .refl _, rfl⟩, fun j hj _ => List.getElem?_append_left hj⟩
      (fun acc S' ⟨hb, ⟨rest, hr, pr, lr⟩, fr⟩ hlen => by
        refine wfk_but (S1 := S ++ [Ob.lst ds]) (fun i => i = n ∨ i = S.length) (Nat.le_refl _) (by rw [List.take_length]; exact w1) (by omega) (fun i hi hn' => ?_) fun i hi hA => ?_
        · have hi' : i < S.length := by
            rw [sl] at hi
            have := hn'; omega
          rw [fr i hi' (by omega), List.getElem?_append_left hi']
        · rcases hA with rfl | rfl
          · exact bag_src.ex hb
          · exact ⟨_, hr, bds_all.mpr fun d hd' => bds_all.mp hd d (pr.mem_iff.mp (List.mem_append_right _ hd'))⟩)
      (fun i acc S' hi ⟨hb, ⟨rest, hr, pr, lr⟩, fr⟩ hlen hat hwf => by
        have hi2 : i < ds.length := by simpa using hi
        refine ⟨_, rfl, .inr ?_⟩
        have hL : gLenX [.loc S.length] S' = some (.int (rest.length : Nat), S') := by simp [gLenX, gLen, seqD, hr]
        obtain ⟨v, S'', e, v1, sp, sm⟩ := bag_draw_ok (n := n) (k := k + i) (S := S') (b := rest.length) hwf hb (by omega) (by omega) (by
          have : (1000 : Nat) < 2 ^ 200 := by decide
          omega)
        have hr2 : S''[S.length]? = some (.lst rest) := (sm.at_ _ (by omega)).trans hr
        have l2 : S''.length = S'.length := sm.len
        have w2 := bag_src.wf sm hwf sp
        have e3 : gPopAt (.loc S.length) [.int (v : Nat)] S'' = some (rest[v], S''.set S.length (.lst (rest.eraseIdx v))) := by
          have c : -(2 ^ 63) ≤ ((v : Nat) : Int) ∧ ((v : Nat) : Int) < 2 ^ 63 := by omega
          have q1 : seqIndex? ((v : Nat) : Int) rest.length = some v := seqIx_nat v1
          simp only [gPopAt, listD, hr2, Option.bind_some, if_pos c, q1, List.getElem?_eq_getElem v1]
        have hrest : ∀ d ∈ rest, bd 0 d = true := fun d hd' => bds_all.mp hd d (pr.mem_iff.mp (List.mem_append_right _ hd'))
        refine ⟨S', rest[v], S''.set S.length (.lst (rest.eraseIdx v)), rfl, eBM_ok rfl (by simp [tyD, hr]) (a1_ok (eCl_ok (a2_ok rfl (eCB_ok (a1_ok rfl) hL)) rfl e)) e3, by rw [List.length_set]; omega, ?_, ?_, hrest _ (List.getElem_mem _), ?_, ⟨rest.eraseIdx v, by rw [List.getElem?_set_self (by omega)], ?_, by rw [List.length_eraseIdx_of_lt v1]; omega⟩, fun j hj hjn => ?_⟩
        · rw [List.getElem?_set_ne (by omega), sm.at_ _ (by omega)]; exact hat
        · refine wf_set w2 (bds_all.mpr fun d hd' => ?_)
          exact bd_mono (Nat.zero_le _) _ (hrest d (List.mem_of_mem_eraseIdx hd'))
        · exact bag_src.fr (S := S'') sp (List.getElem?_set_ne (by omega))
        · rw [List.append_assoc]
          exact ((List.Perm.append_left acc (perm_erase v1).symm)).trans pr
        · rw [List.getElem?_set_ne (by omega), sm.at_ _ hjn]; exact fr j hj hjn)
    refine ws_rt e2 ⟨_, rfl, acc, rfl, ?_, ?_, ⟨by rw [l2, sl]; omega, fun j hjn hj => fr j hj hjn⟩⟩
    · have : rest = [] := List.eq_nil_of_length_eq_zero (by rw [lr, List.length_map, List.length_range]; omega)
      subst this
      simpa using pr
    · simpa using hb
  obtain ⟨d, S', e, acc, rfl, h1, h2, h3⟩ := fn_ws main
  exact ⟨acc, S', e, h1, h2, h3⟩
end Sb
end
section
set_option Elab.async false
set_option linter.all false
set_option maxRecDepth 100000
set_option maxHeartbeats 4000000
namespace Sb
open PySem PySem.Spec PyProof.Rows L2
variable {K : PySem.W.Frag} {S : Sto}
def nms1 : List Str := (["a", "b", "c", "d", "e", "f", "g", "h", "i", "j", "k", "l", "m", "n", "o", "p", "q", "r", "s", "t", "u", "v", "w", "x", "y", "z", "aa", "bb", "cc", "dd", "ee", "ff", "gg", "hh", "ii", "jj", "kk", "ll"] : List String).map Str.ofString
def nmsT : List Str := (["zyxwvuts", "abcdefgh"] : List String).map Str.ofString
def nms3 : List Str := (["abcdefgh", "bcdefgha", "cdefghab", "defghabc", "efghabcd", "fghabcde", "ghabcdef", "habcdefg"] : List String).map Str.ofString
def nms4 : List Str := (["a", "ab", "abc", "abcd", "abcde", "abcdef", "abcdefg"] : List String).map Str.ofString
def kin (a : Nat) (y : Str) : Str := match a with
  | 0 => "" ++ y ++ "mnopqrm"

  | 1 => "m" ++ y ++ "nopqrm"
  | 2 => "mn" ++ y ++ "opqrm"
  | 3 => "mno" ++ y ++ "pqrm"
  | 4 => "mnop" ++ y ++ "qrm"
  | 5 => "mnopq" ++ y ++ "rm"
  | 6 => "mnopqr" ++ y ++ "m"
  | _ => "mnopqrm" ++ y ++ ""
def nms2 (a : Nat) : List Str := (("abcdefghijklmnopqrstuvwxyz" : Str).cps.toList).map fun c => kin a ⟨#[c]⟩
theorem it1 {n : Nat} {m : Int} {x3 x5 x6 : Option D} : ∀ i : Nat, i < 38 → (eB gMulX (eB gIx (eVar 2) (eB gMod (eVar 4) (eC (.int 26)))) (eB gAdd (eC (.int 1)) (eB gDiv (eVar 4) (eC (.int 26))))) [some (.loc n), some (.int m), some (.str "abcdefghijklmnopqrstuvwxyz"), x3, some (.int (i : Nat)), x5, x6] S = some (.ok (.str (nms1.getD i "")) S)
  | 0, _ => by kernel_rfl
  | 1, _ => by kernel_rfl
  | 2, _ => by kernel_rfl
  | 3, _ => by kernel_rfl
  | 4, _ => by kernel_rfl
  | 5, _ => by kernel_rfl
  | 6, _ => by kernel_rfl
  | 7, _ => by kernel_rfl
  | 8, _ => by kernel_rfl
  | 9, _ => by kernel_rfl
  | 10, _ => by kernel_rfl
  | 11, _ => by kernel_rfl
  | 12, _ => by kernel_rfl
  | 13, _ => by kernel_rfl
  | 14, _ => by kernel_rfl
  | 15, _ => by kernel_rfl
  | 16, _ => by kernel_rfl
  | 17, _ => by kernel_rfl
  | 18, _ => by kernel_rfl
  | 19, _ => by kernel_rfl
  | 20, _ => by kernel_rfl
  | 21, _ => by kernel_rfl
  | 22, _ => by kernel_rfl
  | 23, _ => by kernel_rfl
  | 24, _ => by kernel_rfl
  | 25, _ => by kernel_rfl
  | 26, _ => by kernel_rfl
  | 27, _ => by kernel_rfl
  | 28, _ => by kernel_rfl
  | 29, _ => by kernel_rfl
  | 30, _ => by kernel_rfl
  | 31, _ => by kernel_rfl
  | 32, _ => by kernel_rfl
  | 33, _ => by kernel_rfl
  | 34, _ => by kernel_rfl
  | 35, _ => by kernel_rfl
  | 36, _ => by kernel_rfl
  | 37, _ => by kernel_rfl
  | i + 38, h => absurd h (by omega)
theorem it3 {n : Nat} {m : Int} {x2 x3 x5 x6 : Option D} : ∀ i : Nat, i < 8 → (eB gAdd (eSlX (eC (.str "abcdefgh")) (oSo (eVar 4)) (oNo)) (eSlX (eC (.str "abcdefgh")) (oNo) (oSo (eVar 4)))) [some (.loc n), some (.int m), x2, x3, some (.int (i : Nat)), x5, x6] S = some (.ok (.str (nms3.getD i "")) S)
  | 0, _ => by kernel_rfl
  | 1, _ => by kernel_rfl
  | 2, _ => by kernel_rfl
  | 3, _ => by kernel_rfl
  | 4, _ => by kernel_rfl
  | 5, _ => by kernel_rfl
  | 6, _ => by kernel_rfl
  | 7, _ => by kernel_rfl
  | i + 8, h => absurd h (by omega)
theorem it4 {n : Nat} {m : Int} {x2 x3 x5 x6 : Option D} : ∀ i : Nat, i < 7 → (eSlX (eC (.str "abcdefgh")) (oNo) (oSo (eVar 4))) [some (.loc n), some (.int m), x2, x3, some (.int ((1 : Nat) + (i : Nat) : Int)), x5, x6] S = some (.ok (.str (nms4.getD i "")) S)
  | 0, _ => by kernel_rfl
  | 1, _ => by kernel_rfl
  | 2, _ => by kernel_rfl
  | 3, _ => by kernel_rfl
  | 4, _ => by kernel_rfl
  | 5, _ => by kernel_rfl
  | 6, _ => by kernel_rfl
  | i + 7, h => absurd h (by omega)
theorem it2 {n : Nat} {m : Int} {x2 x3 x4 : Option D} {c : Nat} : ∀ a : Nat, a < 8 → (eB gAdd (eB gAdd (eSlX (eC (.str "mnopqrm")) (oNo) (oSo (eVar 5))) (eVar 6)) (eSlX (eC (.str "mnopqrm")) (oSo (eVar 5)) (oNo))) [some (.loc n), some (.int m), x2, x3, x4, some (.int (a : Nat)), some (.str ⟨#[c]⟩)] S = some (.ok (.str (kin a ⟨#[c]⟩)) S)
  | 0, _ => by kernel_rfl
  | 1, _ => by kernel_rfl
  | 2, _ => by kernel_rfl
  | 3, _ => by kernel_rfl
  | 4, _ => by kernel_rfl
  | 5, _ => by kernel_rfl
  | 6, _ => by kernel_rfl
  | 7, _ => by kernel_rfl
  | a + 8, h => absurd h (by omega)
theorem all1 : (nms1 ++ nmsT).Nodup ∧ (nms1 ++ nmsT).length = 40 ∧ ∀ x ∈ nms1 ++ nmsT, nmB x = true := by decide +kernel
theorem all3 : (nms3 ++ nms4).Nodup ∧ (nms3 ++ nms4).length = 15 ∧ ∀ x ∈ nms3 ++ nms4, nmB x = true := by decide +kernel
theorem all2 : ∀ a : Nat, a < 8 → (nms2 a).Nodup ∧ (nms2 a).length = 26 ∧ ∀ x ∈ nms2 a, nmB x = true := by decide +kernel
end Sb
end
section
set_option Elab.async false
set_option linter.all false
set_option maxRecDepth 100000
set_option maxHeartbeats 4000000
namespace Sb
open PySem PySem.Spec PyProof.Rows L2
variable {K : PySem.W.Frag} {S : Sto}
theorem bag_drw {n k j : Nat} {τ : Sl} {fm : EF} {b : Nat} (w : Wf S) (h0 : τ[j]? = some (some (.loc n))) (hm : fm τ S = some (.ok (.int (b : Nat)) S)) (h : Bag n k S) (hk : k < 2 ^ 40) (hm0 : 0 < b) (hm1 : b < 2 ^ 200) :
    ∃ (v : Nat) (S' : Sto), eCl M_bag_draw 2 (aCons (eVar j) (aCons fm aNil)) τ S = some (.ok (.int (v : Nat)) S') ∧ v < b ∧ Bag n (k + 1) S' ∧ Sm n S S' ∧ Wf S' := bag_src.draw bag_draw_ok w h0 hm h hk hm0 hm1
theorem lc_rg {fi : IF} {fe : EF} {j : Nat} {vs : List Nat} {τ : Sl} {xs : List Str} {lo N : Nat} (w : Wf S) (hi : fi τ S = some (.ok (wkR (lo : Nat) N) S)) (hN : N = xs.length) (hN2 : N ≤ 1000)
    (h : ∀ i, i < N → ∀ S', ∃ τ1, tN j (.int ((lo : Nat) + (i : Nat) : Int)) S' (wipeD τ vs) = some τ1 ∧ fe τ1 S' = some (.ok (.str (xs.getD i "")) S')) : fz (eLc fi (tN j) tAll fe vs) τ S = some (.ok (.fl (xs.map D.str)) S) := by
  have := lc_pu (fi := fi) (g := tN j) (t := tAll) (fe := fe) (vs := vs) (τ := τ) (ds := (List.range N).map fun i : Nat => D.int ((lo : Nat) + (i : Nat) : Int)) (fun _ => true) (fun d => match d with | .int z => .str (xs.getD (z - (lo : Nat)).toNat "") | _ => .non) w hi
    ⟨fun i S _ => by
      show (if i < N then _ else _) = _
      by_cases q : i < N
      · rw [if_pos q, List.getElem?_map, List.getElem?_range q]; rfl
      · rw [if_neg q, List.getElem?_eq_none (by simp; omega)], by simp [wkR]⟩ (by simp; omega)
    (fun d hd _ => by obtain ⟨c, _, rfl⟩ := List.mem_map.mp hd; rfl)
    (fun d hd S' _ _ => by
      obtain ⟨i, hi, rfl⟩ := List.mem_map.mp hd
      obtain ⟨τ1, h1, h2⟩ := h i (List.mem_range.mp hi) S'
      refine ⟨τ1, h1, rfl, fun _ => ?_⟩
      rw [h2]
      have : ((lo : Nat) + (i : Nat) - (lo : Nat) : Int).toNat = i := by omega
      simp only [this])
  rw [filter_tt, List.map_map] at this
  rw [this]
  congr 3
  refine List.ext_getElem (by simp; omega) fun i h1 h2 => ?_
  simp only [List.getElem_map, List.getElem_range, Function.comp]
  have e : ((lo : Nat) + (i : Nat) - (lo : Nat) : Int).toNat = i := by omega
  have h3 : i < xs.length := by simpa using h2
  rw [e, List.getD_eq_getElem?_getD, List.getElem?_eq_getElem h3]; rfl
structure NmL (m : Nat) (xs : List Str) : Prop where
  nd : xs.Nodup
  lo : m ≤ xs.length
  hi : xs.length ≤ 40
  nm : ∀ x ∈ xs, Nm x
theorem NmL.of {m : Nat} {xs : List Str} {z : Nat} (h : xs.Nodup ∧ xs.length = z ∧ ∀ x ∈ xs, nmB x = true) (h1 : m ≤ z) (h2 : z ≤ 40) : NmL m xs := ⟨h.1, by omega, by omega, fun x hx => nm_of (h.2.2 x hx)⟩
theorem bag_names_ok {n k m : Nat} (w : Wf S) (h : Bag n k S) (hk : k < 2 ^ 39) (hm0 : 1 ≤ m) (hm : m ≤ 40) :
    ∃ (S' : Sto) (xs : List Str), M_bag_names [.loc n, .int (m : Nat)] S = some (.ok (.fl (xs.map D.str)) S') ∧ xs.length = m ∧ xs.Nodup ∧ (∀ x ∈ xs, Nm x) ∧ Bag n (k + 43) S' ∧ Sm n S S' ∧ Wf S' := by
  have main : Ws (m_bag_names (ini 7 [.loc n, .int (m : Nat)]) S) fun fl S' => ∃ d, fl = .rt d ∧ ∃ xs : List Str, d = .fl (xs.map D.str) ∧ xs.length = m ∧ xs.Nodup ∧ (∀ x ∈ xs, Nm x) ∧ Bag n (k + 43) S' ∧ Sm n S S' ∧ Wf S' := by
    refine ws_set rfl ?_
    have e1 : (fz (eLc (iRg1 (aCons (eC (.int 38)) (aNil))) (tN 4) (tAll) (eB gMulX (eB gIx (eVar 2) (eB gMod (eVar 4) (eC (.int 26)))) (eB gAdd (eC (.int 1)) (eB gDiv (eVar 4) (eC (.int 26))))) [4])) [some (.loc n), some (.int (m : Nat)), some (.str "abcdefghijklmnopqrstuvwxyz"), none, none, none, none] S = some (.ok (.fl (nms1.map D.str)) S) := by
      refine lc_rg (lo := 0) (N := 38) w (iRg1_ok (n := 38) (a1_ok rfl) (by omega)) rfl (by omega) fun i hi S' => ⟨_, rfl, ?_⟩
      rw [show (((0 : Nat) : Int) + (i : Nat)) = (i : Nat) by omega]
      exact it1 i hi
    have e2 : (fz (eLst (aCons (eC (.str "zyxwvuts")) (aCons (eC (.str "abcdefgh")) (aNil))))) [some (.loc n), some (.int (m : Nat)), some (.str "abcdefghijklmnopqrstuvwxyz"), none, none, none, none] S = some (.ok (.fl (nmsT.map D.str)) S) := fz_list (aCons_ok rfl (aCons_ok rfl aNil_ok)) rfl w (by show nmsT.length ≤ 1000; decide) rfl
    have a1 : gAdd (.fl (nms1.map D.str)) (.fl (nmsT.map D.str)) S = some (.fl ((nms1 ++ nmsT).map D.str), S) := by
      rw [List.map_append]
      simp only [gAdd, flD, Option.bind_some]
      rw [if_pos (by rw [List.length_map, List.length_map, sizeLine_eq]; decide)]
    refine ws_set (eB_ok e1 e2 a1) ?_
    -- the end
    have last : ∀ (xs : List Str) (x4 x5 x6 : Option D) (S' : Sto), NmL m xs → Bag n (k + 3) S' → Sm n S S' → Wf S' →
        Ws (sRt (eSlX (fz (eCl (M_bag_mixed) 2 (aCons (eVar 0) (aCons (eVar 3) (aNil))))) (oNo) (oSo (eVar 1))) [some (.loc n), some (.int (m : Nat)), some (.str "abcdefghijklmnopqrstuvwxyz"), some (.fl (xs.map D.str)), x4, x5, x6] S')
          fun fl S' => ∃ d, fl = .rt d ∧ ∃ xs : List Str, d = .fl (xs.map D.str) ∧ xs.length = m ∧ xs.Nodup ∧ (∀ x ∈ xs, Nm x) ∧ Bag n (k + 43) S' ∧ Sm n S S' ∧ Wf S' := by
      intro xs x4 x5 x6 S' hx hb sm w'
      have h40 := hx.hi
      obtain ⟨acc, S2, e, pr, hb2, fr⟩ := bag_mixed_ok (n := n) (k := k + 3) (ds := xs.map D.str) w' hb (by rw [List.length_map]; omega) bds_str (by rw [List.length_map]; omega)
      obtain ⟨ys, rfl, py⟩ : ∃ ys : List Str, acc = ys.map D.str ∧ ys.Perm xs := by
        refine ⟨acc.map fun d => match d with | .str x => x | _ => "", ?_, ?_⟩
        · rw [List.map_map]
          conv => lhs; rw [← List.map_id acc]
          refine List.map_congr_left fun d hd => ?_
          obtain ⟨x, _, rfl⟩ := List.mem_map.mp (pr.mem_iff.mp hd)
          rfl
        · have := pr.map fun d => match d with | .str x => x | _ => ("" : Str)
          rw [List.map_map] at this
          refine this.trans (List.Perm.of_eq ?_)
          conv => rhs; rw [← List.map_id xs]
          rfl
      have hn' : n < S'.length := bag_src.lt hb
      obtain ⟨S3, e3, sm3, hb3, w3⟩ := bag_src.fz w' (eCl_ok (a2_ok rfl rfl) rfl e) fr hb2 hn' (d := .fl (ys.map D.str)) bds_str (τ := [some (.loc n), some (.int (m : Nat)), some (.str "abcdefghijklmnopqrstuvwxyz"), some (.fl (xs.map D.str)), x4, x5, x6]) (f := eCl M_bag_mixed 2 (aCons (eVar 0) (aCons (eVar 3) (aNil))))
      have ylen : ys.length = xs.length := py.length_eq
      have hlo := hx.lo
      refine ws_rt (eSlX_ok e3 rfl rfl cut_fl) ⟨_, rfl, ys.take m, by rw [List.map_take], by rw [List.length_take]; omega, (py.nodup_iff.mpr hx.nd).sublist (List.take_sublist _ _), fun x hx' => hx.nm x (py.mem_iff.mp (List.mem_of_mem_take hx')), bag_src.mono hb3 (by rw [List.length_map]; omega), sm.trans sm3, w3⟩
    have any1 : NmL m (nms1 ++ nmsT) := .of all1 hm (by omega)
    have b3 : Bag n (k + 3) S := bag_src.mono h (by omega)
    by_cases q27 : m < 27
    · obtain ⟨v1, S1, d1, v1l, sp1, sm1, w1⟩ := bag_drw (S := S) (j := 0) (τ := [some (.loc n), some (.int (m : Nat)), some (.str "abcdefghijklmnopqrstuvwxyz"), some (.fl ((nms1 ++ nmsT).map D.str)), none, none, none]) (fm := eC (.int 2)) (b := 2) w rfl rfl h (by omega) (by omega) (by omega)
      have t1 : (tAn (tB (eB gLtI (eVar 1) (eC (.int 27)))) (tB (eB (gEq false) (eCl (M_bag_draw) 2 (aCons (eVar 0) (aCons (eC (.int 2)) (aNil)))) (eC (.int 0))))) [some (.loc n), some (.int (m : Nat)), some (.str "abcdefghijklmnopqrstuvwxyz"), some (.fl ((nms1 ++ nmsT).map D.str)), none, none, none] S = some (.ok (decide (v1 = 0)) S1) :=
        an_t (tB_ok (eB_ok rfl rfl (gLt_i.trans (by rw [decide_eq_true (by omega)])))) (tB_ok (eB_ok d1 rfl (gEq_nat (i := v1) (j := 0))))
      by_cases q1 : v1 = 0
      · refine ws_seq (bif_t (t1.trans (by rw [decide_eq_true q1])) ?_)
        obtain ⟨a, S2, d2, al, sp2, sm2, w2⟩ := bag_drw (S := S1) (j := 0) (τ := [some (.loc n), some (.int (m : Nat)), some (.str "abcdefghijklmnopqrstuvwxyz"), some (.fl ((nms1 ++ nmsT).map D.str)), none, none, none]) (fm := eC (.int 8)) (b := 8) w1 rfl rfl sp1 (by omega) (by omega) (by omega)
        refine ws_set d2 ?_
        have e3 : (fz (eLc (iSeq (eVar 2)) (tN 6) (tAll) (eB gAdd (eB gAdd (eSlX (eC (.str "mnopqrm")) (oNo) (oSo (eVar 5))) (eVar 6)) (eSlX (eC (.str "mnopqrm")) (oSo (eVar 5)) (oNo))) [6])) [some (.loc n), some (.int (m : Nat)), some (.str "abcdefghijklmnopqrstuvwxyz"), some (.fl ((nms1 ++ nmsT).map D.str)), none, some (.int (a : Nat)), none] S2 = some (.ok (.fl ((nms2 a).map D.str)) S2) := by
          have := lc_pu (fi := iSeq (eVar 2)) (g := tN 6) (t := tAll) (fe := (eB gAdd (eB gAdd (eSlX (eC (.str "mnopqrm")) (oNo) (oSo (eVar 5))) (eVar 6)) (eSlX (eC (.str "mnopqrm")) (oSo (eVar 5)) (oNo)))) (vs := [6]) (τ := [some (.loc n), some (.int (m : Nat)), some (.str "abcdefghijklmnopqrstuvwxyz"), some (.fl ((nms1 ++ nmsT).map D.str)), none, some (.int (a : Nat)), none]) (ds := ("abcdefghijklmnopqrstuvwxyz" : Str).cps.toList.map fun c => D.str ⟨#[c]⟩) (fun _ => true) (fun d => match d with | .str y => .str (kin a y) | _ => .non) w2 (iSeq_ok rfl rfl)
            ⟨fun i S _ => by rw [List.getElem?_map, Array.getElem?_toList], by simp⟩ (by simp; decide +kernel)
            (fun d hd _ => by obtain ⟨c, _, rfl⟩ := List.mem_map.mp hd; rfl)
            (fun d hd S' _ _ => by
              obtain ⟨c, _, rfl⟩ := List.mem_map.mp hd
              exact ⟨_, rfl, rfl, fun _ => it2 a al⟩)
          rw [filter_tt, List.map_map] at this
          rw [this]
          unfold nms2
          rw [List.map_map]; rfl
        refine ws_set e3 ?_
        have any2 : m ≤ 26 → NmL m (nms2 a) := fun z => .of (all2 a al) z (by omega)
        have sm02 : Sm n S S2 := sm1.trans sm2
        by_cases q16 : m < 16
        · obtain ⟨v3, S3, d3, v3l, sp3, sm3, w3⟩ := bag_drw (S := S2) (j := 0) (τ := [some (.loc n), some (.int (m : Nat)), some (.str "abcdefghijklmnopqrstuvwxyz"), some (.fl ((nms2 a).map D.str)), none, some (.int (a : Nat)), none]) (fm := eC (.int 2)) (b := 2) w2 rfl rfl sp2 (by omega) (by omega) (by omega)
          have t3 : (tAn (tB (eB gLtI (eVar 1) (eC (.int 16)))) (tB (eB (gEq false) (eCl (M_bag_draw) 2 (aCons (eVar 0) (aCons (eC (.int 2)) (aNil)))) (eC (.int 0))))) [some (.loc n), some (.int (m : Nat)), some (.str "abcdefghijklmnopqrstuvwxyz"), some (.fl ((nms2 a).map D.str)), none, some (.int (a : Nat)), none] S2 = some (.ok (decide (v3 = 0)) S3) :=
            an_t (tB_ok (eB_ok rfl rfl (gLt_i.trans (by rw [decide_eq_true (by omega)])))) (tB_ok (eB_ok d3 rfl (gEq_nat (i := v3) (j := 0))))
          by_cases q3 : v3 = 0
          · refine bif_t (t3.trans (by rw [decide_eq_true q3])) ?_
            have f3 : (fz (eLc (iRg1 (aCons (eC (.int 8)) (aNil))) (tN 4) (tAll) (eB gAdd (eSlX (eC (.str "abcdefgh")) (oSo (eVar 4)) (oNo)) (eSlX (eC (.str "abcdefgh")) (oNo) (oSo (eVar 4)))) [4])) [some (.loc n), some (.int (m : Nat)), some (.str "abcdefghijklmnopqrstuvwxyz"), some (.fl ((nms2 a).map D.str)), none, some (.int (a : Nat)), none] S3 = some (.ok (.fl (nms3.map D.str)) S3) := by
              refine lc_rg (lo := 0) (N := 8) w3 (iRg1_ok (n := 8) (a1_ok rfl) (by omega)) rfl (by omega) fun i hi S' => ⟨_, rfl, ?_⟩
              rw [show (((0 : Nat) : Int) + (i : Nat)) = (i : Nat) by omega]
              exact it3 i hi
            have f4 : (fz (eLc (iRg2 (aCons (eC (.int 1)) (aCons (eC (.int 8)) (aNil)))) (tN 4) (tAll) (eSlX (eC (.str "abcdefgh")) (oNo) (oSo (eVar 4))) [4])) [some (.loc n), some (.int (m : Nat)), some (.str "abcdefghijklmnopqrstuvwxyz"), some (.fl ((nms2 a).map D.str)), none, some (.int (a : Nat)), none] S3 = some (.ok (.fl (nms4.map D.str)) S3) :=
              lc_rg (lo := 1) (N := 7) w3 rfl rfl (by omega) fun i hi S' => ⟨_, rfl, it4 i hi⟩
            have a3 : gAdd (.fl (nms3.map D.str)) (.fl (nms4.map D.str)) S3 = some (.fl ((nms3 ++ nms4).map D.str), S3) := by
              rw [List.map_append]
              simp only [gAdd, flD, Option.bind_some]
              rw [if_pos (by rw [List.length_map, List.length_map, sizeLine_eq]; decide)]
            exact ws_set1 (eB_ok f3 f4 a3) (last _ _ _ _ _ (.of all3 (by omega) (by omega)) (bag_src.mono sp3 (by omega)) (sm02.trans sm3) w3)
          · exact bif_f (t3.trans (by rw [decide_eq_false q3])) (ws_nop (last _ _ _ _ _ (any2 (by omega)) (bag_src.mono sp3 (by omega)) (sm02.trans sm3) w3))
        · exact bif_f (an_f (tB_ok (eB_ok rfl rfl (gLt_i.trans (by rw [decide_eq_false (by omega)]))))) (ws_nop (last _ _ _ _ _ (any2 (by omega)) (bag_src.mono sp2 (by omega)) sm02 w2))
      · exact ws_no (t1.trans (by rw [decide_eq_false q1])) (last _ _ _ _ _ any1 (bag_src.mono sp1 (by omega)) sm1 w1)
    · exact ws_no (an_f (tB_ok (eB_ok rfl rfl (gLt_i.trans (by rw [decide_eq_false (by omega)]))))) (last _ _ _ _ _ any1 b3 .refl w)
  obtain ⟨d, S', e, xs, rfl, h1⟩ := fn_ws main
  exact ⟨S', xs, e, h1⟩
end Sb
end
section
set_option Elab.async false
set_option linter.all false
set_option maxRecDepth 100000
set_option maxHeartbeats 4000000
namespace Sb
open PySem PySem.Spec PyProof.Rows L2
variable {K : PySem.W.Frag} {S : Sto}
/-- no card above some closed place is away -/
def StlAt (c : Nat) (l : List Card) : Prop := 1 ≤ c ∧ c ≤ l.length ∧ ∀ i, i < c → i ≤ ra l i ∧ ra l i < c
def Stl (l : List Card) : Prop := ∃ c, StlAt c l
theorem gSub_nat {i j : Nat} (h : j ≤ i) : gSub (.int (i : Nat)) (.int (j : Nat)) S = some (.int ((i - j : Nat) : Nat), S) := by
  rw [gSub_i]; congr 3; omega
theorem gAdd_nat {i j : Nat} : gAdd (.int (i : Nat)) (.int (j : Nat)) S = some (.int ((i + j : Nat) : Nat), S) := by
  rw [gAdd_i]; congr 3
theorem wkE_nxt {es : List D} {i : Nat} (h : i < es.length) : (wkE es).nxt i S = some (some (.tup [.int (i : Nat), es[i]])) := by
  simp only [wkE, List.getElem?_eq_getElem h, Option.map_some]
/-- depths of a settled deck, as they are drawn -/
structure DepS (m c : Nat) (l : List Card) : Prop where
  lo : ∀ d ∈ l, 0 ≤ d.2
  hi : ∀ d ∈ l, d.2 < 10 ^ 29
  st : ∀ i, i < l.length → i < c → (i : Int) ≤ (at0 l i).2 ∧ (c < m → (at0 l i).2 < c)
theorem DepS.stl {m c : Nat} {l : List Card} (h : DepS m c l) (hl : l.length = m) (hc : 1 ≤ c) (hm : c ≤ m) : StlAt c l := by
  refine ⟨hc, by omega, fun i hi => ?_⟩
  obtain ⟨h1, h2⟩ := h.st i (by omega) hi
  unfold ra rch
  by_cases q : c < m
  · have := h2 q
    omega
  · omega
end Sb
end
section
set_option Elab.async false
set_option linter.all false
set_option maxRecDepth 100000
set_option maxHeartbeats 4000000
namespace Sb
open PySem PySem.Spec PyProof.Rows L2
variable {K : PySem.W.Frag} {S : Sto}
/-! ## the law's own reading of a deck -/
theorem min_rch {c : Card} {n : Nat} (h : 0 ≤ c.2) (hn : 1 ≤ n) : gMin2 [.int c.2, .int ((n - 1 : Nat) : Nat)] S = some (.int (rch n c : Nat), S) := by
  simp only [gMin2]
  congr 3
  unfold rch
  split <;> omega
end Sb
end
section
set_option Elab.async false
set_option linter.all false
set_option maxRecDepth 100000
set_option maxHeartbeats 4000000
namespace Sb
open PySem PySem.Spec PyProof.Rows L2
variable {K : PySem.W.Frag} {S : Sto}
/-! ## a loop with a break -/
theorem eVar_at {τ : Sl} {i : Nat} {d : D} {S : Sto} (h : τ[i]? = some (some d)) : eVar i τ S = some (.ok d S) := by simp only [eVar, h]
/-! ## papers -/
end Sb
end
section
set_option Elab.async false
set_option linter.all false
set_option maxRecDepth 100000
set_option maxHeartbeats 4000000
namespace Sb
open PySem PySem.Spec PyProof.Rows L2
variable {K : PySem.W.Frag} {S : Sto}
/-! ## settled decks -/
theorem Stl.clo {l : List Card} (hl : 1 ≤ l.length) (h : Stl l) : ∀ i, i < Sb.clo l → i ≤ ra l i := by
  obtain ⟨c, h1, h2, h3⟩ := h
  have A := clo_is hl
  have hc : Sb.clo l ≤ c := by
    apply Classical.byContradiction
    intro q
    obtain ⟨i, hi, hr⟩ := A.no c h1 (by omega)
    have := (h3 i hi).2
    omega
  exact fun i hi => (h3 i (by omega)).1
/-! ## papers of the program -/
/-! ## rows alike, rows shown -/
def tD (t : Nat × Nat × Nat) : D := .tup [.int (t.1 : Nat), .int (t.2.1 : Nat), .int (t.2.2 : Nat)]
end Sb
end
section
set_option Elab.async false
set_option linter.all false
set_option maxRecDepth 100000
set_option maxHeartbeats 4000000
namespace Sb
open PySem PySem.Spec PyProof.Rows L2
variable {K : PySem.W.Frag} {S : Sto}
/-! ## rows as data -/
/-! ### when -/
/-! ### rows put together -/
end Sb
end
section
set_option Elab.async false
set_option linter.all false
set_option maxRecDepth 100000
set_option maxHeartbeats 4000000
/-! sorted(set(xs)) of a list of whole numbers. -/
namespace Sb
open PySem PySem.Spec PyProof.Rows L2
section
variable {P : Program} {w : World} {A : Around} {E : Value → Shared → Prop} {s : Shared}
/-- the new, empty set -/
abbrev setNew (w : World) : Obj := { cls := .type "set", dict := none, data := .set #[] 0 (.fresh 0 0 (!w.params.followText "set-order")) }
end
section
variable {X : Cx} {T : Tb} {W : WX} {e : Expr} {ra : AF}
/-! ## strictly rising lists -/
/-! ## sorted(set(xs)) -/
end
end Sb
end
section
set_option Elab.async false
set_option linter.all false
set_option maxRecDepth 100000
set_option maxHeartbeats 4000000
namespace Sb
open PySem PySem.Spec PyProof.Rows L2 PpSet
section
variable {X : Cx} {T : Tb} {W : WX} {pos : Pos} {elt tg iter : Expr} {scope : Scope} {own : List (Str × Nat)} {fi : IF} {g : TF} {fe : EF}
/-! ## sorted({e for x in xs}), e a whole number: the set is locked while e is worked out -/
section
variable {P : Program} {w : World} {A : Around} {E : Value → Shared → Prop} {s : Shared} {a : Addr}
end
/-! ## over data -/
theorem Ext.free {φ φ' : List Addr} {H H' : Hp} {B : Addr} {u : HO} (e : Ext φ H φ' H') (hB : H B = none) : Ext φ H φ' (upd H' B u) := by
  have ne : ∀ {a : Addr} {v : HO}, H a = some v → a ≠ B := fun h z => by subst z; rw [hB] at h; cases h
  refine ⟨e.pre, fun a vs h => ?_, fun a o v h => ?_, fun a vs ha h => ?_, fun a ws ha h => ?_, e.nw, fun a h => e.ded a (upd_dead h)⟩
  · rw [upd_ne (ne h)]; exact e.tup a vs h
  · rw [upd_ne (ne h)]; exact e.frz a o v h
  · rw [upd_ne (ne h)]; exact e.lst a vs ha h
  · exact (e.dic a ws ha h).imp (fun z => by rw [upd_ne (ne h)]; exact z) fun ⟨o, z⟩ => ⟨o, by rw [upd_ne (ne h)]; exact z⟩
section
variable {H : Hp} {φ : List Addr} {B : Addr} {od : Obj} {ψ : Heap → Prop} {u' : HO}
end
end
end Sb
end
section
set_option Elab.async false
set_option linter.all false
set_option maxRecDepth 100000
set_option maxHeartbeats 4000000
namespace Sb
open PySem PySem.Spec PyProof.Rows L2 PySem.W
section
variable {X : Cx} {T : Tb} {W : WX} {pos : Pos} {e : Expr} {ra : AF}
/-! ## enumerate of a list that lies in the store -/
end
end Sb
end
section
set_option Elab.async false
set_option linter.all false
set_option maxRecDepth 100000
set_option maxHeartbeats 4000000
/-! list() of a range -/
namespace Sb
open PySem PySem.Spec PyProof.Rows L2
section
variable {X : Cx} {T : Tb}
theorem call_listR (hc : X.calm = true) : CallR X (.type "list") (fun xs H Q => ∃ (p : Addr) (o : Obj) (lo hi : Int), xs = [.ref p] ∧ H p = some (.frz o (.rng lo hi)) ∧ RgOk lo hi ∧ ∀ l, H l = none → Q (.ref l) (upd H l (.lst (rgV lo hi)))) := by
  intro pins s σ H xs us Q I r ⟨p, o, lo, hi, e, hp, ok, q⟩
  subst e
  obtain ⟨u, eu, ru⟩ := vals1 r
  subst eu
  cases ru
  obtain ⟨_, t, u, v, hr⟩ := I.hok p _ hp
  obtain ⟨b1, b2, b3, b4, b5⟩ := ok
  have szl := sizeLine_eq
  refine call_list_range (a := lo) (b := hi) (c := 1) (t := t) (u := u) (v := v) (n := (hi - lo).toNat) (I.ok.hd hc) hr (small_one b1 b2 b3 b4) (rangeSize_nat lo hi) b5 fun h' tk acc cap kp at_ its => ?_
  have lenV : (rgV lo hi).length ≤ sizeLine := by rw [rgV_length]; omega
  have new : ObjOk X.prog X.w (upd H s.heap.objs.size (.lst (rgV lo hi))) h' s.heap.objs.size (.lst (rgV lo hi)) := ⟨lenV, acc.toList, cap, vals_rg its, by rw [Array.toArray_toList]; exact at_⟩
  exact ⟨.ref s.heap.objs.size, _, I.laid kp (Nat.le_refl _) new, rfl, q _ (I.hok.fresh (Nat.le_refl _))⟩
def rgD (lo hi : Int) : List D := (List.range (hi - lo).toNat).map fun i => D.int (lo + (i : Nat))
def gListR : GN := fun ds S => match ds with
  | [.rgo lo hi] => if -1000 ≤ lo ∧ lo ≤ 1000 ∧ -1000 ≤ hi ∧ hi ≤ 1000 then some (.loc S.length, S ++ [.lst (rgD lo hi)]) else none
  | _ => none
theorem rds_rgD {H : Hp} {φ : List Addr} (lo hi : Int) : RDs T H φ (rgD lo hi) (rgV lo hi) := by
  unfold rgD rgV
  generalize List.range (hi - lo).toNat = ks
  induction ks with
  | nil => rfl
  | cons k ks ih => exact ⟨_, _, rfl, rfl, ih⟩
theorem c_listR (hc : X.calm = true) : CallR X (.type "list") (rGN T gListR) := CallR.imp (call_listR hc) fun xs H Q h => by
  obtain ⟨φ, S, ds, R, r, f⟩ := h
  unfold gListR at f
  split at f
  · rename_i lo hi
    split at f
    · rename_i hb
      obtain ⟨v, l, rfl, r1, r2⟩ := r
      cases r2
      obtain ⟨a, o, rfl, ha⟩ := r1
      refine ⟨a, o, lo, hi, rfl, ha, ⟨by omega, by omega, by omega, by omega, by omega⟩, fun l hl => ?_⟩
      obtain ⟨d', S', e, q⟩ := f
      cases e
      obtain ⟨R2, E2⟩ := R.new (u := .lst (rgV lo hi)) (o := .lst (rgD lo hi)) hl ⟨_, upd_same, rds_rgD lo hi⟩
      exact q _ _ _ E2 R2 ⟨l, rfl, by rw [← R.len]; simp⟩
    · obtain ⟨_, _, z, _⟩ := f; cases z
  · obtain ⟨_, _, z, _⟩ := f; cases z
end
end Sb
end
section
set_option Elab.async false
set_option linter.all false
set_option maxRecDepth 100000
set_option maxHeartbeats 4000000
/-! len(set(xs)) of a list or a tuple of texts and whole numbers. -/
namespace Sb
open PySem PySem.Spec PyProof.Rows L2
instance memKey (k : Key) (l : List Key) : Decidable (k ∈ l) := decidable_of_iff (l.any (fun x => decide (x = k)) = true) (by simp)
def stepK (acc : List Key) (k : Key) : List Key := if k ∈ acc then acc else acc ++ [k]
def foldK (ks : List Key) : List Key := ks.foldl stepK []
theorem foldK_snoc (ks : List Key) (k : Key) : foldK (ks ++ [k]) = stepK (foldK ks) k := by simp [foldK]
theorem stepK_mem {acc : List Key} {k j : Key} : j ∈ stepK acc k ↔ j ∈ acc ∨ j = k := by
  unfold stepK
  split
  · rename_i h
    exact ⟨.inl, fun q => q.elim id fun e => e ▸ h⟩
  · simp
theorem stepK_len {acc : List Key} {k : Key} : (stepK acc k).length = if k ∈ acc then acc.length else acc.length + 1 := by
  unfold stepK
  split <;> simp
theorem foldK_le (ks : List Key) : (foldK ks).length ≤ ks.length := by
  have : ∀ (ks acc : List Key), (ks.foldl stepK acc).length ≤ acc.length + ks.length := fun ks => by
    induction ks with
    | nil => intro acc; simp
    | cons k ks ih =>
      intro acc
      have := ih (stepK acc k)
      have e := stepK_len (acc := acc) (k := k)
      simp only [List.foldl_cons, List.length_cons]
      split at e <;> omega
  simpa [foldK] using this ks []
theorem foldK_nd : ∀ {ks : List Key}, ks.Nodup → foldK ks = ks := fun {ks} h => by
  have : ∀ (ks acc : List Key), (acc ++ ks).Nodup → ks.foldl stepK acc = acc ++ ks := fun ks => by
    induction ks with
    | nil => intro acc _; simp
    | cons k ks ih =>
      intro acc h
      have hk : k ∉ acc := fun m => by
        have := (List.nodup_append.mp h).2.2 k m k List.mem_cons_self
        exact this rfl
      have e : stepK acc k = acc ++ [k] := if_neg hk
      rw [List.foldl_cons, e, ih (acc ++ [k]) (by rw [List.append_assoc]; exact h), List.append_assoc]
      rfl
  have := this ks [] (by simpa using h)
  simpa [foldK] using this
section
variable {P : Program} {w : World} {A : Around} {E : Value → Shared → Prop} {s : Shared}
theorem setOf_cong {h : Heap} {a : Addr} {S S' : Key → Bool} {n n' : Nat} (R : h.SetOf (mixKind P w) a S n) (e : ∀ k, S' k = S k) (en : n' = n) : h.SetOf (mixKind P w) a S' n' := by
  have : S' = S := funext e
  rw [this, en]; exact R
theorem upd_keys {I : Addr} {fp wr : List Addr} {G : Array GenState → Array GenState → Prop} {n : Nat} {Pv : Nat → Value → Prop} {St : Nat → Shared → Prop} {R : Result → Shared → Prop}
    (W : WalksS P w A.in1 I fp wr G n Pv St) (B : Addr) (hB : B ∉ fp) (ks : List Key) (hn : n = ks.length) (hb : ks.length + 1 < scanBound) (hv : ∀ i v, Pv i v → ∃ k, ks[i]? = some k ∧ RelV (kV k) v) :
    ∀ (m i : Nat) (s : Shared), n - i = m → i ≤ n → St i s → s.heap.SetOf (mixKind P w) B (fun j => decide (j ∈ foldK (ks.take i))) (foldK (ks.take i)).length →
      (∀ s', Moved (B :: wr) G s s' → s'.heap.SetOf (mixKind P w) B (fun j => decide (j ∈ foldK ks)) (foldK ks).length → R (.ok (.ret .none)) s') →
      codeAny (model P w) A (.builtin "set.update.loop" ⟨[.ref B, .ref I], []⟩) R s := by
  have hBw : B ∉ wr := fun h => hB (W.sub _ h)
  have sub : ∀ b ∈ wr, b ∈ B :: wr := fun b hb => List.mem_cons_of_mem _ hb
  intro m
  induction m with
  | zero =>
    intro i s hm hi hst hS hR
    have hin : i = n := by omega
    subst hin
    refine codeAny_builtin F.entry_set_update_loop ?_
    rw [Around.under_plainId F.plain_set_update_loop _]
    show wpAny _ A.in1 (pyNext (.ref I) >>= _) _ _ s
    refine wpAny_bind (W.done s _ _ hst fun s' mv => ?_)
    show wpAny _ A.in1 (ret Value.none) _ _ s'
    rw [List.take_of_length_le (by omega)] at hS
    exact wpAny_pure (hR s' (mv.mono sub) (setOf_at hS fun o e => mv.heap B o hBw e))
  | succ m ih =>
    intro i s hm hi hst hS hR
    have hlt : i < n := by omega
    refine codeAny_builtin F.entry_set_update_loop ?_
    rw [Around.under_plainId F.plain_set_update_loop _]
    show wpAny _ A.in1 (pyNext (.ref I) >>= _) _ _ s
    refine wpAny_bind (W.item i s _ _ hlt hst fun v s' hP hst' mv => ?_)
    obtain ⟨k, hk, hr⟩ := hv i v hP
    have hS1 := setOf_at hS (h' := s'.heap) fun o e => mv.heap B o hBw e
    show wpAny _ A.in1 (holding [v] (setAdd B v) >>= _) _ _ s'
    refine wpAny_bind (wpAny_holding ?_)
    unfold setAdd
    refine wpAny_holding ?_
    refine wpAny_bind ((mixKind P w).pyHash (k := k) (kV_is hr) ?_)
    have room : (foldK (ks.take i)).length + 1 < scanBound := by
      have := foldK_le (ks.take i)
      rw [List.length_take] at this
      omega
    refine wpAny_setAddHashed_of (knd := mixKind P w) (s := { s' with toks := s'.toks + 1 }) (kV_is hr) (key_scan hr) hS1 room fun h' sb hS2 => ?_
    have tk : ks.take (i + 1) = ks.take i ++ [k] := by rw [List.take_add_one, hk]; rfl
    have hS3 : h'.SetOf (mixKind P w) B (fun j => decide (j ∈ foldK (ks.take (i + 1)))) (foldK (ks.take (i + 1))).length := by
      refine setOf_cong hS2 (fun j => ?_) ?_
      · rw [tk, foldK_snoc]
        have := stepK_mem (acc := foldK (ks.take i)) (k := k) (j := j)
        by_cases z : j ∈ stepK (foldK (ks.take i)) k
        · rw [decide_eq_true z]
          rcases this.mp z with q | q <;> simp [q]
        · rw [decide_eq_false z]
          have : ¬ (j ∈ foldK (ks.take i) ∨ j = k) := fun q => z (this.mpr q)
          simp only [not_or] at this
          simp [this.1, this.2]
      · rw [tk, foldK_snoc, stepK_len]
        by_cases z : k ∈ foldK (ks.take i) <;> simp [z]
    refine wpAny_pure ⟨plainId_quiet F.plain_set_update_loop _, ih (i + 1) _ (by omega) hlt (W.frame _ s' _ _ hst' (Nat.le_succ _) fun b hb o e => ?_) hS3 fun s2 mv2 hS4 => ?_⟩
    · rw [sb.2 b (fun h : b = B => hB (by rw [← h]; exact hb))]; exact e
    · refine hR s2 (Moved.trans W.gtrans ((mv.mono sub).then_heap (Nat.le_succ _) fun b o hb e => ?_) mv2) hS4
      rw [sb.2 b (fun h : b = B => hb (by rw [h]; exact List.mem_cons_self))]; exact e
theorem vals_back {xs : List V} {us : List Value} {i : Nat} {u : Value} (h : Vals xs us) (e : us[i]? = some u) : ∃ x, xs[i]? = some x ∧ RelV x u := by
  have hi : i < us.length := (List.getElem?_eq_some_iff.mp e).1
  have hl := Vals.length h
  have hx : xs[i]? = some (xs[i]'(by omega)) := List.getElem?_eq_getElem (by omega)
  obtain ⟨u', e', r⟩ := Vals.get h hx
  rw [e] at e'
  cases e'
  exact ⟨_, hx, r⟩
/-- set.__init__ over a list: what the loop leaves -/
theorem init_keysL {l : Addr} {items : Array Value} (ks : List Key) (hh : A.handled = none) (hl : s.heap.IsList l items) (hit : Vals (ks.map kV) items.toList) (hb : ks.length + 1 < scanBound)
    {R : Result → Shared → Prop}
    (hR : ∀ h' tk, h'.SetOf (mixKind P w) s.heap.objs.size (fun j => decide (j ∈ foldK ks)) (foldK ks).length → (∀ b o, s.heap.get? b = some o → h'.get? b = some o) → R (.ok (.ret .none)) { s with heap := h', toks := tk }) :
    codeAny (model P w) A (.call (.builtin "set.__init__") ⟨[.ref s.heap.objs.size, .ref l], []⟩) R { s with heap := s.heap.push (setNew w) } := by
  obtain ⟨ol, hol, hcl, nl, hdl⟩ := hl
  obtain ⟨oc, od, oda, osl⟩ := ol
  simp only at hcl hdl
  subst hcl hdl
  have hsz : items.size = ks.length := by
    have := Vals.length hit
    rw [List.length_map, Array.length_toList] at this
    exact this.symm
  have here : (s.heap.push (setNew w)).get? s.heap.objs.size = some (setNew w) := Heap.get?_push_size _ rfl
  have hty : Shared.TypeIs { s with heap := s.heap.push (setNew w) } (.ref s.heap.objs.size) "set" := ⟨_, here, rfl⟩
  have hol1 : (s.heap.push (setNew w)).get? l = some { cls := .type "list", dict := od, data := .seq items nl, slots := osl } := Heap.get?_push_of_some _ hol
  have hlist : (s.heap.push (setNew w)).IsList l items := ⟨_, hol1, rfl, nl, rfl⟩
  have hlt : l < s.heap.objs.size := Heap.lt_size hol
  have psz : (s.heap.push (setNew w)).objs.size = s.heap.objs.size + 1 := Heap.size_push ..
  have vals : ∀ (i : Nat) (v : Value), items[i]? = some v → ∃ k, ks[i]? = some k ∧ RelV (kV k) v := fun i v hv => by
    obtain ⟨x, hx, hr⟩ := vals_back hit (by rw [Array.getElem?_toList]; exact hv)
    rw [List.getElem?_map] at hx
    cases hk : ks[i]? with
    | none => rw [hk] at hx; cases hx
    | some k => rw [hk] at hx; cases hx; exact ⟨k, rfl, hr⟩
  refine codeAny_call_builtin F.called_set.init.plain F.entry_set_init (check_set_init_1 hty ?_)
  have f1 := F.sub_list_set
  have f2 := F.sub_list_frozenset
  have f3 : (Value.type "list" == Value.type "dict") = false := by decide
  unfold Builtin.«set.__init__» noKeywords Builtin.Frozenset.updateFrom
  generalize hPI : pyIter = PI
  wp_walk
  subst hPI
  refine wpAny_pyIter_list hlist ?_
  refine wpAny_bind (wpAny_runValue ?_)
  have noI : l ≠ (s.heap.push (setNew w)).objs.size := by rw [psz]; exact Nat.ne_of_lt (Nat.lt_succ_of_lt hlt)
  have apart : s.heap.objs.size ∉ [(s.heap.push (setNew w)).objs.size, l] := by
    rw [psz]
    simp only [List.mem_cons, List.not_mem_nil, or_false, not_or]
    exact ⟨Nat.ne_of_lt (Nat.lt_succ_self _), Nat.ne_of_gt hlt⟩
  refine upd_keys ((Walks.list (A := A.in1.in1) (by simp [hh]) _ l noI items).toS) s.heap.objs.size apart ks hsz hb vals (items.size - 0) 0 _ (by omega) (Nat.zero_le _)
    ?q0 ?q1 ?q2
  case q0 => exact ⟨⟨_, Heap.get?_push_size _ rfl, rfl, rfl⟩, hlist.push _⟩
  case q1 => exact ⟨_, #[], 0, _, Heap.get?_push_of_some _ here, ⟨rfl, rfl, rfl⟩, rfl, (fun e he => by simp at he), (fun k => by simp [foldK]), (by decide), (by rfl), rfl⟩
  intro s1 mv hS1
  obtain ⟨h1, g1, d1, t1, o1⟩ := s1
  have eg : g1 = s.gens := mv.gens
  have ed : d1 = s.drawn := mv.drawn
  have eo : o1 = s.os := mv.os
  subst eg ed eo
  show wpAny _ _ _ _ _ _
  refine wpAny_pure ?_
  show wpAny _ _ (ret Value.none) _ _ _
  refine wpAny_pure (hR h1 t1 hS1 fun b o e => ?_)
  have hb0 : b < s.heap.objs.size := Heap.lt_size e
  refine mv.heap b o ?_ (Heap.get?_push_of_some _ (Heap.get?_push_of_some _ e))
  rw [psz]
  simp only [List.mem_cons, List.not_mem_nil, or_false, not_or]
  exact ⟨Nat.ne_of_lt hb0, Nat.ne_of_lt (Nat.lt_succ_of_lt hb0)⟩
/-- set.__init__ over a tuple: what the loop leaves -/
theorem init_keysT {l : Addr} {items : Array Value} (ks : List Key) (hh : A.handled = none) (hl : s.heap.IsTuple l items) (hit : Vals (ks.map kV) items.toList) (hb : ks.length + 1 < scanBound)
    {R : Result → Shared → Prop}
    (hR : ∀ h' tk, h'.SetOf (mixKind P w) s.heap.objs.size (fun j => decide (j ∈ foldK ks)) (foldK ks).length → (∀ b o, s.heap.get? b = some o → h'.get? b = some o) → R (.ok (.ret .none)) { s with heap := h', toks := tk }) :
    codeAny (model P w) A (.call (.builtin "set.__init__") ⟨[.ref s.heap.objs.size, .ref l], []⟩) R { s with heap := s.heap.push (setNew w) } := by
  obtain ⟨ol, hol, hcl, nl, hdl⟩ := hl
  obtain ⟨oc, od, oda, osl⟩ := ol
  simp only at hcl hdl
  subst hcl hdl
  have hsz : items.size = ks.length := by
    have := Vals.length hit
    rw [List.length_map, Array.length_toList] at this
    exact this.symm
  have here : (s.heap.push (setNew w)).get? s.heap.objs.size = some (setNew w) := Heap.get?_push_size _ rfl
  have hty : Shared.TypeIs { s with heap := s.heap.push (setNew w) } (.ref s.heap.objs.size) "set" := ⟨_, here, rfl⟩
  have hol1 : (s.heap.push (setNew w)).get? l = some { cls := .type "tuple", dict := od, data := .seq items nl, slots := osl } := Heap.get?_push_of_some _ hol
  have hlist : (s.heap.push (setNew w)).IsTuple l items := ⟨_, hol1, rfl, nl, rfl⟩
  have hlt : l < s.heap.objs.size := Heap.lt_size hol
  have psz : (s.heap.push (setNew w)).objs.size = s.heap.objs.size + 1 := Heap.size_push ..
  have vals : ∀ (i : Nat) (v : Value), items[i]? = some v → ∃ k, ks[i]? = some k ∧ RelV (kV k) v := fun i v hv => by
    obtain ⟨x, hx, hr⟩ := vals_back hit (by rw [Array.getElem?_toList]; exact hv)
    rw [List.getElem?_map] at hx
    cases hk : ks[i]? with
    | none => rw [hk] at hx; cases hx
    | some k => rw [hk] at hx; cases hx; exact ⟨k, rfl, hr⟩
  refine codeAny_call_builtin F.called_set.init.plain F.entry_set_init (check_set_init_1 hty ?_)
  have f1 := F.sub_tuple_set
  have f2 := F.sub_tuple_frozenset
  have f3 : (Value.type "tuple" == Value.type "dict") = false := by decide
  unfold Builtin.«set.__init__» noKeywords Builtin.Frozenset.updateFrom
  generalize hPI : pyIter = PI
  wp_walk
  subst hPI
  refine wpAny_pyIter_tuple hlist ?_
  refine wpAny_bind (wpAny_runValue ?_)
  have noI : l ≠ (s.heap.push (setNew w)).objs.size := by rw [psz]; exact Nat.ne_of_lt (Nat.lt_succ_of_lt hlt)
  have apart : s.heap.objs.size ∉ [(s.heap.push (setNew w)).objs.size, l] := by
    rw [psz]
    simp only [List.mem_cons, List.not_mem_nil, or_false, not_or]
    exact ⟨Nat.ne_of_lt (Nat.lt_succ_self _), Nat.ne_of_gt hlt⟩
  refine upd_keys ((Walks.tuple (A := A.in1.in1) (by simp [hh]) _ l noI items).toS) s.heap.objs.size apart ks hsz hb vals (items.size - 0) 0 _ (by omega) (Nat.zero_le _)
    ?q0 ?q1 ?q2
  case q0 => exact ⟨⟨_, Heap.get?_push_size _ rfl, rfl, rfl⟩, hlist.push _⟩
  case q1 => exact ⟨_, #[], 0, _, Heap.get?_push_of_some _ here, ⟨rfl, rfl, rfl⟩, rfl, (fun e he => by simp at he), (fun k => by simp [foldK]), (by decide), (by rfl), rfl⟩
  intro s1 mv hS1
  obtain ⟨h1, g1, d1, t1, o1⟩ := s1
  have eg : g1 = s.gens := mv.gens
  have ed : d1 = s.drawn := mv.drawn
  have eo : o1 = s.os := mv.os
  subst eg ed eo
  show wpAny _ _ _ _ _ _
  refine wpAny_pure ?_
  show wpAny _ _ (ret Value.none) _ _ _
  refine wpAny_pure (hR h1 t1 hS1 fun b o e => ?_)
  have hb0 : b < s.heap.objs.size := Heap.lt_size e
  refine mv.heap b o ?_ (Heap.get?_push_of_some _ (Heap.get?_push_of_some _ e))
  rw [psz]
  simp only [List.mem_cons, List.not_mem_nil, or_false, not_or]
  exact ⟨Nat.ne_of_lt hb0, Nat.ne_of_lt (Nat.lt_succ_of_lt hb0)⟩
theorem call_set_keys {l : Addr} (ks : List Key) {Q : Value → Shared → Prop} (hh : A.handled = none)
    (hin : ∀ (A' : Around) (R : Result → Shared → Prop), A'.handled = none → (∀ h' tk, h'.SetOf (mixKind P w) s.heap.objs.size (fun j => decide (j ∈ foldK ks)) (foldK ks).length → (∀ b o, s.heap.get? b = some o → h'.get? b = some o) → R (.ok (.ret .none)) { s with heap := h', toks := tk }) →
      codeAny (model P w) A' (.call (.builtin "set.__init__") ⟨[.ref s.heap.objs.size, .ref l], []⟩) R { s with heap := s.heap.push (setNew w) })
    (h : ∀ h' tk, h'.SetOf (mixKind P w) s.heap.objs.size (fun j => decide (j ∈ foldK ks)) (foldK ks).length → (∀ b o, s.heap.get? b = some o → h'.get? b = some o) → Q (.ref s.heap.objs.size) { s with heap := h', toks := tk }) :
    wpAny (model P w) A (call (.type "set") [.ref l]) Q E s := by
  obtain ⟨c, tl, hmro⟩ := F.called_set.mro
  have h0 := F.called_set.made
  have h1 := F.called_set.sub
  have h2 := F.called_set.notType
  have h3 := F.called_set.canCreate
  have h4 := F.typeCall_set_1 (.ref l)
  refine wpAny_call (codeAny_of_tree ?_)
  show wpAny _ _ (callAny (.type "set") _) _ _ _
  refine wpAny_pure ⟨Code.quiet_builtin _ (by decide +kernel), codeAny_builtin F.entry_type_call ?_⟩
  rw [Around.under_plain (weight_type_call_type "set" [.ref l] []) rfl]
  repeat (any_goals (first | assumption | wp_step))
  refine codeAny_mono (code_set_led1 (.ref l) (E := E) (Q₁ := fun obj s1 => obj = .ref s.heap.objs.size ∧ s1 = { s with heap := s.heap.push (setNew w) }) ⟨rfl, rfl⟩) fun r s1 hr => ?_
  cases r with
  | error e => exact hr
  | ok fl =>
    cases fl with
    | ret obj =>
      obtain ⟨rfl, rfl⟩ := hr
      have hty : Shared.TypeIs { s with heap := s.heap.push (setNew w) } (.ref s.heap.objs.size) "set" := ⟨_, Heap.get?_push_size _ rfl, rfl⟩
      have i1 := F.called_set.init.lookup
      have i2 := F.called_set.init.bind (.ref s.heap.objs.size)
      repeat (any_goals (first | assumption | wp_step))
      refine codeAny_mono (hin _ (fun r s2 => r = .ok (.ret .none) ∧ ∃ h' tk, s2 = { s with heap := h', toks := tk } ∧ h'.SetOf (mixKind P w) s.heap.objs.size (fun j => decide (j ∈ foldK ks)) (foldK ks).length ∧ ∀ b o, s.heap.get? b = some o → h'.get? b = some o) (by simp [hh]) (fun h' tk q1 q3 => ⟨rfl, h', tk, rfl, q1, q3⟩)) fun r2 s2 hr2 => ?_
      obtain ⟨rfl, h', tk, rfl, q1, q3⟩ := hr2
      repeat (any_goals (first | assumption | wp_step))
      exact h _ _ q1 q3
    | _ => exact hr.elim
end
section
variable {X : Cx} {T : Tb} {W : WX} {e : Expr} {ra : AF}
def rSetX (K : PySem.W.Frag) (P : Program) (w : World) : List V → Hp → VK → Prop := fun vs H Q => ∃ (p : Addr) (ks : List Key), vs = [V.ref p] ∧ (SqL K H p (ks.map kV) ∨ SqT K H p (ks.map kV)) ∧ ks.length ≤ 1000 ∧
  ∀ a : Addr, H a = none → Q (.ref a) (upd H a (SetK P w a (fun j => decide (j ∈ foldK ks)) (foldK ks).length))
theorem cr_setX (hc : X.calm = true) : CallR X (.type "set") (rSetX X.K X.prog X.w) := by
  intro pins s σ H vs us Q I r h
  obtain ⟨p0, ks, rfl, hq, hl, q⟩ := h
  rw [Vals.ref1 r]
  have hb : ks.length + 1 < scanBound := by unfold scanBound; omega
  rcases hq with hq | hq
  · obtain ⟨its, rv, pt, _⟩ := I.list hq
    refine call_set_keys ks (I.ok.hd hc) (fun A' R hA hR => init_keysL (items := its.toArray) ks hA pt.isList rv hb hR) fun h' tk R1 k => ?_
    exact ⟨.ref _, upd H s.heap.objs.size (SetK X.prog X.w s.heap.objs.size (fun j => decide (j ∈ foldK ks)) (foldK ks).length), I.laid (t' := tk) k (Nat.le_refl _) (setK_new R1), rfl, q _ (I.hok.fresh (Nat.le_refl _))⟩
  · obtain ⟨its, rv, pt, _⟩ := I.tuple hq
    refine call_set_keys ks (I.ok.hd hc) (fun A' R hA hR => init_keysT (items := its.toArray) ks hA (show s.heap.IsTuple p0 its.toArray from pt) rv hb hR) fun h' tk R1 k => ?_
    exact ⟨.ref _, upd H s.heap.objs.size (SetK X.prog X.w s.heap.objs.size (fun j => decide (j ∈ foldK ks)) (foldK ks).length), I.laid (t' := tk) k (Nat.le_refl _) (setK_new R1), rfl, q _ (I.hok.fresh (Nat.le_refl _))⟩
/-! ## len(set(xs)) -/
def keysOf : List D → Option (List Key)
  | [] => some []
  | d :: r => (keyD d).bind fun k => (keysOf r).map (k :: ·)
theorem keysOf_strs : ∀ xs : List Str, keysOf (xs.map D.str) = some (xs.map Sum.inr)
  | [] => rfl
  | x :: xs => by
    show (keyD (.str x)).bind (fun k => (keysOf (xs.map D.str)).map (k :: ·)) = _
    rw [keysOf_strs xs]; rfl
theorem rds_keys {H : Hp} {φ : List Addr} : ∀ {es : List D} {ks : List Key} {vs : List V}, keysOf es = some ks → RDs T H φ es vs → vs = ks.map kV
  | [], ks, vs, h, r => by cases h; cases r; rfl
  | d :: es, ks, vs, h, r => by
    obtain ⟨v, l, rfl, r1, r2⟩ := r
    unfold keysOf at h
    cases e1 : keyD d with
    | none => rw [e1] at h; cases h
    | some k =>
      cases e2 : keysOf es with
      | none => rw [e1, e2] at h; cases h
      | some ms =>
        rw [e1, e2] at h
        cases h
        rw [rds_keys e2 r2, keyD_ok r1 e1]; rfl
def gLenSet : GN := fun ds S => match ds with
  | [d] => (seqD S d).bind fun es => (keysOf es).bind fun ks => if ks.length ≤ 1000 then some (.int (foldK ks).length, S) else none
  | _ => none
theorem d_lenSet {x y : Str} {p p2 q pos : Pos} (hK : T.K = X.K) (hc : X.calm = true) (hg : Gl X x) (hm : X.mg x = none) (hv : bootBuiltins x = some (.builtin "len")) (hg2 : Gl X y) (hm2 : X.mg y = none) (hv2 : bootBuiltins y = some (.type "set"))
    (ha : PA X [e] (rdA T W ra)) (he : starEach [e] X.env = (false, eval e X.env) :: starEach [] X.env := by rfl) (hn : x ≠ "__name__" := by decide) (hdb : (x == ("__debug__" : Str)) = false := by decide) (hn2 : y ≠ "__name__" := by decide) (hdb2 : (y == ("__debug__" : Str)) = false := by decide) :
    PE X (.Call (.Name x p) [.Call (.Name y p2) [e] [] q] [] pos) (rdE T W (eCB gLenSet ra)) :=
  (pe_callB call_lenK hg hm hv (pa_cons (pe_callTy (cr_setX hc) hg2 hm2 hv2 ha hn2 hdb2 he) pa_nil) hn hdb).imp fun σ H Q h => by
    obtain ⟨φ, S, τ, o, R, r, e, q⟩ := h
    refine rdA_bnd R r e q fun ds S1 vs H1 φ1 E1 R1 r1 e1 q1 => ?_
    have f := Fin.of e1 q1
    unfold gLenSet at f
    split at f
    · rename_i d
      cases e2 : seqD S1 d with
      | none => rw [e2] at f; obtain ⟨_, _, z, _⟩ := f; cases z
      | some es =>
        rw [e2] at f
        cases e3 : keysOf es with
        | none => simp only [Option.bind_some, e3] at f; obtain ⟨_, _, z, _⟩ := f; cases z
        | some ks =>
          simp only [Option.bind_some, e3] at f
          split at f
          · rename_i hlen
            obtain ⟨v, l, rfl, r2, r3⟩ := r1
            cases r3
            obtain ⟨a0, ws, rfl, k, rw0⟩ := seq_sq R1 r2 e2
            rw [rds_keys e3 rw0, hK] at k
            refine ⟨a0, ks, rfl, k, hlen, fun a hn => ?_⟩
            obtain ⟨R2, E2⟩ := R1.garb (u := SetK X.prog X.w a (fun j => decide (j ∈ foldK ks)) (foldK ks).length) hn
            have hle := foldK_le ks
            refine ⟨a, _, _, rfl, upd_same, by omega, ?_⟩
            obtain ⟨d', S', ed, kk⟩ := f
            cases ed
            exact kk _ _ _ E2 R2 rfl
          · obtain ⟨_, _, z, _⟩ := f; cases z
    · obtain ⟨_, _, z, _⟩ := f; cases z
end
end Sb
end
section
set_option Elab.async false
set_option linter.all false
set_option maxRecDepth 100000
set_option maxHeartbeats 4000000
namespace Sb
open PySem PySem.Spec PyProof.Rows L2
/-! ## any(e for x in xs): the element may read names of the def -/
def onlyF (fv : List Nat) (σ : L2.St) : L2.St := σ.mapIdx fun i v => if i ∈ fv then v else none
theorem onlyF_len {fv : List Nat} {σ : L2.St} : (onlyF fv σ).length = σ.length := by simp [onlyF]
theorem onlyF_at {fv : List Nat} {σ : L2.St} {i : Nat} {v : V} (h : (onlyF fv σ)[i]? = some (some v)) : i ∈ fv ∧ σ[i]? = some (some v) := by
  unfold onlyF at h
  rw [List.getElem?_mapIdx] at h
  cases e : σ[i]? with
  | none => rw [e] at h; cases h
  | some o =>
    rw [e] at h
    simp only [Option.map_some, Option.some.injEq] at h
    split at h
    · rename_i hi
      subst h
      exact ⟨hi, rfl⟩
    · cases h
theorem onlyF_eq {fv vs : List Nat} {σ σ' : L2.St} (hd : ∀ i ∈ fv, i ∉ vs) (hl : σ'.length = σ.length) (h : ∀ k, k ∉ vs → σ'[k]? = (onlyF fv σ)[k]?) : onlyF fv σ' = onlyF fv σ := by
  refine List.ext_getElem? fun i => ?_
  unfold onlyF at h ⊢
  rw [List.getElem?_mapIdx, List.getElem?_mapIdx]
  by_cases hi : i ∈ fv
  · have := h i (hd i hi)
    rw [this, List.getElem?_mapIdx]
    simp only [hi, if_true, Option.map_map]
    cases σ[i]? <;> rfl
  · simp only [hi, if_false]
    by_cases hlt : i < σ.length
    · rw [List.getElem?_eq_getElem hlt, List.getElem?_eq_getElem (by omega)]; rfl
    · rw [List.getElem?_eq_none (by omega), List.getElem?_eq_none (by omega)]
/-- the generator's running code, walked as a body: its frame over the frames that run -/
def gcxF (X : Cx) (s4 : Shared) (H4 : Hp) (cenv : Env) (fp : List Addr) (A3 : Around) (pn : List (Addr × Obj)) : Cx :=
  { X with A := A3, s_0 := s4, H_0 := H4, env := cenv, outer := X.stack, stack := cenv :: X.stack, ex := fp, fn := fun _ => false, calm := true, pn := pn, xe := fun _ _ => False }
section
variable {X : Cx} {elt iter tg : Expr} {scope : Scope} {gpos : Pos}
/-! ### the consumer -/
end
end Sb
end
section
set_option Elab.async false
set_option linter.all false
set_option maxRecDepth 100000
set_option maxHeartbeats 4000000
namespace Sb
open PySem PySem.Spec PyProof.Rows L2
/-! ## all(e for x in xs): the element may read names of the def -/
abbrev EvrT (J : It) (g : TG) (te : TE) (fv : List Nat) (s0 : L2.St) (Q : VK) (W : Nat → Nat → Hp → Prop) : Prop := ∀ i m H, W i m H →
  (J.stop i H ∧ Q (.bl true) H) ∨ (J.go i H ∧ ∃ Nx : Hp → Prop, (∀ H', Nx H' → ∃ m', m' < m ∧ W (i + 1) m' H') ∧ ∀ x H', J.yld i H x H' → g x s0 H' fun σ2 H2 => onlyF fv σ2 = s0 ∧ te σ2 H2 fun y H3 => ∃ b, y = .bl b ∧ if b = false then Q (.bl false) H3 else Nx H3)
def tGZ (P : Addr) (fv : List Nat) (wi : TI) (g : TG) (te : TE) : TE := fun σ H Q => wi σ H fun J H1 => GxR.TabG H1 P ∧ ∀ H2, GxR.Tabbed P H1 H2 → ∃ W : Nat → Nat → Hp → Prop, (∃ m, W 0 m H2) ∧ EvrT J g te fv (onlyF fv σ) Q W
section
variable {X : Cx} {elt iter tg : Expr} {scope : Scope} {gpos : Pos}
/-- the end of the generator -/
def REz (Xg : Cx) (Q : VK) : GenEnd := fun _ _ r s1 => r = .ok .next ∧ ∃ σ H, L2.Inv Xg [] σ H s1 ∧ Q (.bl true) H
/-- a truth handed out -/
def YEz (Xg : Cx) (Q : VK) : Protocol := fun _ _ v s1 kap => ∃ b, v = Value.bool b ∧ ∃ σ H, L2.Inv Xg [] σ H s1 ∧ if b = false then Q (.bl false) H else ∀ s'', Sh s1 s'' → kap (.send .none) s''
theorem seg_evr {A2 : Around} {Xg : Cx} {cenv : Env} {it : Addr} {fp : List Addr} {J : It} {tn : Nat → Heap → Prop} {g : TG} {te : TE} {Q : VK} {fv : List Nat} {s0 : L2.St} {W : Nat → Nat → Hp → Prop}
    (hA : Xg.A = A2.over (.compLoop (GE elt tg iter scope gpos) 0 (.ref it) .none cenv) []) (hE : Xg.env = cenv) (hcl : Xg.calm = true) (hxe : Xg.xe = fun _ _ => False) (hn0 : Xg.N.length = s0.length) (hs0 : onlyF fv s0 = s0) (hco : cenv.scope.isCoroutine = false)
    (Tn : Turn Xg.prog Xg.w Xg.K tg J fp it tn) (hg : PG Xg tg g) (he : PE Xg elt te) (hfp : ∀ H, (∀ b ∈ fp, H b = none) → ∀ b ∈ fp, FpOk Xg [] H b)
    (turn : EvrT J g te fv s0 Q W) :
    ∀ (n i m : Nat) (s₀ s : Shared) (σ : L2.St) (H : Hp), m < n → onlyF fv σ = s0 → L2.Inv Xg [] σ H s → tn i s.heap → (∀ b ∈ fp, H b = none) → W i m H →
      Seg (model Xg.prog Xg.w) A2 (REz Xg Q) (YEz Xg Q) n s₀ (.compLoop (GE elt tg iter scope gpos) 0 (.ref it) .none cenv) ((model Xg.prog Xg.w).den (.compLoop (GE elt tg iter scope gpos) 0 (.ref it) .none cenv)) [] s := by
  intro n
  induction n with
  | zero => intro i m s₀ s σ H hm _; exact absurd hm (Nat.not_lt_zero _)
  | succ n ih =>
    intro i m s₀ s σ H hm hσ I st fr w
    show Seg _ A2 _ _ _ s₀ _ ((compTurn (GE elt tg iter scope gpos) 0 (.ref it) .none cenv).onRaise (leaving cenv)) [] s
    rw [compTurn_gen, Sem.onRaise_eq_wrap]
    refine seg_bind_wrap (wpAny_standAt ?_)
    rcases turn i m H w with ⟨stop, q⟩ | ⟨go, Nx, hN, step⟩
    · refine seg_bind_wrap ?_
      rw [← hA]
      refine thn (Tn.done Xg rfl rfl rfl hcl i [] s σ H _ I (hfp H fr) st stop) fun r s4 ⟨hr, I4⟩ => ?_
      subst hr
      exact seg_end (.ok .next) ⟨rfl, σ, H, I4, q⟩
    · refine seg_bind_wrap ?_
      rw [← hA]
      refine thn (Tn.item Xg rfl rfl rfl hcl i [] s σ H _ I (hfp H fr) st go) fun r s1 ⟨u, hr, h4⟩ => ?_
      subst hr
      refine seg_bind_wrap ?_
      rw [← hA]
      refine thn h4 fun _ s5 ⟨x, H5, I5, r5, y5, st5, fr5⟩ => ?_
      have I5' := (I5.pinned (hfp H5 fr5) (Tn.obj _ _ st5)).weak (σ' := s0) (by rw [I5.len, ← hn0]) (fun j v hj => by
        rw [← hσ] at hj
        exact (onlyF_at hj).2)
      refine seg_bind_wrap ?_
      rw [← hA]
      have hgr := hg.run _ s5 s0 H5 x u _ I5' r5 (step x H5 y5)
      rw [hE, hxe] at hgr
      refine wpAny_mono hgr (fun _ s6 ⟨σ6, H6, I6, k6, q6⟩ => ?_) fun _ _ z => z.elim
      refine seg_bind_wrap (wpAny_tests_nil ?_)
      simp only [if_true]
      have hy : ∀ v, yieldOut cenv v = yieldValue v := fun v => by simp only [yieldOut, hco, Bool.false_eq_true, if_false]
      simp only [hy]
      rw [Sem.bind_eq_wrap', Sem.bind_eq_wrap', Sem.wrap_wrap, Sem.wrap_wrap]
      refine seg_wrap ?_
      rw [← hA]
      have her := he.run _ s6 σ6 H6 _ I6 q6
      rw [hE, hxe] at her
      refine wpAny_mono her (fun v s7 ⟨y, H7, I7, r7, b, hb, q7⟩ => ?_) fun _ _ z => z.elim
      subst hb
      obtain rfl : v = Value.bool b := r7
      refine seg_at (seg_yield rfl rfl rfl ⟨b, rfl, σ6, H7, I7.unpinned, ?_⟩)
      cases b with
      | false => exact q7
      | true =>
        intro s'' hs
        obtain ⟨m', hm', w'⟩ := hN H7 q7
        have keepIt : ∀ b ∈ fp, ∀ o, s5.heap.get? b = some o → s''.heap.get? b = some o := fun b hb o e => by
          rw [hs.heap]
          exact (I7.pin (b, o) (List.mem_append_right _ (List.mem_append_right _ (mem_pinsAt hb e)))).1
        refine seg_again rfl (ih (i + 1) m' _ s'' σ6 H7 (by omega) k6 (hs.inv I7.unpinned) (Tn.keep _ _ _ st5 keepIt) (fun b hb => ?_) w')
        obtain ⟨o, e, d⟩ := Tn.obj _ _ st5 b hb
        exact (I7.pin (b, o) (List.mem_append_right _ (List.mem_append_right _ (mem_pinsAt hb e)))).2.1
theorem seg_evr0 {A2 : Around} {Xg : Cx} {cenv : Env} {it : Addr} {fp : List Addr} {J : It} {tn : Nat → Heap → Prop} {g : TG} {te : TE} {Q : VK} {fv : List Nat} {s0 : L2.St} {W : Nat → Nat → Hp → Prop}
    (hA : Xg.A = A2.over (.compLoop (GE elt tg iter scope gpos) 0 (.ref it) .none cenv) []) (hE : Xg.env = cenv) (hcl : Xg.calm = true) (hxe : Xg.xe = fun _ _ => False) (hn0 : Xg.N.length = s0.length) (hs0 : onlyF fv s0 = s0) (hco : cenv.scope.isCoroutine = false)
    (Tn : Turn Xg.prog Xg.w Xg.K tg J fp it tn) (hg : PG Xg tg g) (he : PE Xg elt te) (hfp : ∀ H, (∀ b ∈ fp, H b = none) → ∀ b ∈ fp, FpOk Xg [] H b)
    (turn : EvrT J g te fv s0 Q W)
    {m : Nat} {s₀ s : Shared} {H : Hp} (I : L2.Inv Xg [] s0 H s) (st : tn 0 s.heap) (fr : ∀ b ∈ fp, H b = none) (w : W 0 m H) :
      Seg (model Xg.prog Xg.w) A2 (REz Xg Q) (YEz Xg Q) (m + 1) s₀ (.compStart (GE elt tg iter scope gpos) 0 (.ref it) .none cenv) ((model Xg.prog Xg.w).den (.compStart (GE elt tg iter scope gpos) 0 (.ref it) .none cenv)) [] s := by
  have loop := seg_evr hA hE hcl hxe hn0 hs0 hco Tn hg he hfp turn (m + 1) 0 m s₀ s s0 H (Nat.lt_succ_self m) hs0 I st fr w
  show Seg _ A2 _ _ _ s₀ _ ((compStart (GE elt tg iter scope gpos) 0 (.ref it) .none cenv).onRaise (leaving cenv)) [] s
  unfold compStart
  rw [Sem.onRaise_eq_wrap]
  show Seg _ A2 _ _ _ s₀ _ ((ask >>= _).wrap _ _ _ _) [] s
  refine seg_bind_wrap (wpAny_askSetting ?_)
  split
  · exact seg_again rfl loop
  · refine seg_bind_wrap (wpAny_rule ?_)
    show Seg _ A2 _ _ _ s₀ _ ((standAt iter.pos >>= _).wrap _ _ _ _) [] s
    exact seg_bind_wrap (wpAny_standAt (seg_bind_wrap (Tn.self _ 0 s _ _ st (seg_again rfl loop))))

/-! ### the consumer -/
theorem evr_loop {P : Program} {w : World} {A : Around} {Xg : Cx} {a : Addr} {g : Nat} {nm qn : Str} {t1 t2 : Tok} {Q : VK} {Rz : Result → Shared → Prop} (hP : Xg.prog = P) (hw : Xg.w = w) (hh : A.handled = none) (hroom : A.depth < recursionLimit) (hpn : (a, genObj g nm qn t1 t2) ∈ Xg.pn)
    (hR : ∀ b σ H s' s'', L2.Inv Xg [] σ H s' → s''.os = s'.os → AllBare s''.gens → (∀ b o, s'.heap.get? b = some o → s''.heap.get? b = some o) → Q (.bl b) H → Rz (.ok (.ret (.bool b))) s'') :
    ∀ (n : Nat) (s : Shared) (gs : GenState), s.gens[g]? = some gs → (∃ σ H, L2.Inv Xg [] σ H s) → (∀ s'', Sh s s'' → gs.Goes (model P w) A.in1.in1 (REz Xg Q) (YEz Xg Q) n (.send .none) s'') →
      codeAny (model P w) A (.builtin "all.loop" ⟨[.ref a], []⟩) Rz s := by
  subst hP hw
  intro n
  induction n with
  | zero =>
    intro s gs hgs ⟨σ, H, I⟩ hgo
    have hlt : g < s.gens.size := by
      rcases Nat.lt_or_ge g s.gens.size with z | z
      · exact z
      · rw [Array.getElem?_eq_none z] at hgs; cases hgs
    have hpa := (I.pin _ (List.mem_append_left _ hpn)).1
    refine codeAny_builtin F.entry_all_loop ?_
    rw [Around.under_plainId F.plain_all_loop _]
    show wpAny _ A.in1 (pyNext (.ref a) >>= _) _ _ s
    refine wpAny_bind (wpAny_pyNext_genexpQ (A := A.in1) (P := fun _ s1 => fun s2 => ∃ σ H, L2.Inv Xg [] σ H s2 ∧ Q (.bl true) H) hh I.nolimit hroom ⟨_, _, _, hpa, rfl, rfl, rfl⟩ hgs
      (hgo _ ⟨rfl, rfl, allBare_setGen I.bare rfl⟩) (fun v s₁ gs' hb hy => ?_) fun s₁ ⟨σ1, H1, I1, q1⟩ h' kk => ?_)
    · obtain ⟨b, rfl, σ1, H1, I1, q1⟩ := hy
      refine wpAny_bind (wpAny_holding (wpAny_truthy_bool ?_))
      refine wpAny_bind (wpAny_letGo ?_)
      cases b with
      | true => exact (q1 s₁ ⟨rfl, rfl, I1.bare⟩).elim
      | false =>
        simp only [Bool.false_eq_true, if_false, Bool.not_false, if_true]
        exact wpAny_bind (wpAny_rule (wpAny_pure (hR false σ1 H1 s₁ _ I1 rfl (allBare_setGen I1.bare hb) (fun _ _ z => z) q1)))
    · exact wpAny_bind (wpAny_rule (wpAny_pure (hR true σ1 H1 s₁ _ I1 rfl (allBare_setGen I1.bare rfl) kk q1)))
  | succ n ih =>
    intro s gs hgs ⟨σ, H, I⟩ hgo
    have hlt : g < s.gens.size := by
      rcases Nat.lt_or_ge g s.gens.size with z | z
      · exact z
      · rw [Array.getElem?_eq_none z] at hgs; cases hgs
    have hpa := (I.pin _ (List.mem_append_left _ hpn)).1
    refine codeAny_builtin F.entry_all_loop ?_
    rw [Around.under_plainId F.plain_all_loop _]
    show wpAny _ A.in1 (pyNext (.ref a) >>= _) _ _ s
    refine wpAny_bind (GenW.wpAny_gsz (n := g + 1) hlt (wpAny_pyNext_genexpQ (A := A.in1) (P := fun _ s1 => fun s2 => ∃ σ H, L2.Inv Xg [] σ H s2 ∧ Q (.bl true) H) hh I.nolimit hroom ⟨_, _, _, hpa, rfl, rfl, rfl⟩ hgs
      (hgo _ ⟨rfl, rfl, allBare_setGen I.bare rfl⟩) (fun v s₁ gs' hb hy => ?_) fun s₁ ⟨σ1, H1, I1, q1⟩ h' kk => ?_))
    · intro hsz
      rw [GenW.setGen_size] at hsz
      obtain ⟨b, rfl, σ1, H1, I1, q1⟩ := hy
      refine wpAny_bind (wpAny_holding (wpAny_truthy_bool ?_))
      refine wpAny_bind (wpAny_letGo ?_)
      cases b with
      | true =>
        simp only [Bool.true_eq_false, if_false, if_true, Bool.not_true, Bool.false_eq_true] at q1 ⊢
        have sh : Sh s₁ (s₁.setGen g gs') := ⟨rfl, rfl, allBare_setGen I1.bare hb⟩
        refine wpAny_pure ⟨plainId_quiet F.plain_all_loop _, ih (s₁.setGen g gs') gs' (setGen_at hsz) ⟨σ1, H1, sh.inv I1⟩ fun s'' h2 => ?_⟩
        exact q1 s'' ⟨h2.heap, h2.os, h2.bare⟩
      | false =>
        simp only [if_true, Bool.false_eq_true, if_false, Bool.not_false] at q1 ⊢
        exact wpAny_bind (wpAny_rule (wpAny_pure (hR false σ1 H1 s₁ _ I1 rfl (allBare_setGen I1.bare hb) (fun _ _ z => z) q1)))
    · intro _
      exact wpAny_bind (wpAny_rule (wpAny_pure (hR true σ1 H1 s₁ _ I1 rfl (allBare_setGen I1.bare rfl) kk q1)))
end
end Sb
end
section
set_option Elab.async false
set_option linter.all false
set_option maxRecDepth 100000
set_option maxHeartbeats 4000000
namespace Sb
open PySem PySem.Spec PyProof.Rows L2
structure GenF (X : Cx) (scope : Scope) (fv : List Nat) : Prop where
  kind : scope.kind = .function
  co : scope.isCoroutine = false
  cell : ∀ y ∈ scope.names, y.2 ≠ .cell
  free : ∀ y ∈ scope.names, y.2 = .free → X.env.scope.names.lookup y.1 = some .cell
  dot : scope.names.lookup (".0" : Str) = some NameKind.local
  slot : ∀ i ∈ fv, ∃ x, X.N[i]? = some x ∧ scope.names.lookup x = some .free
abbrev clF (X : Cx) (scope : Scope) : List (Str × Addr) := cloFrom X.env.cells scope.names []
abbrev gEnvF (X : Cx) (scope : Scope) (C : Addr) (code : Value) : Env := genEnv scope (clF X scope) C code builtinsNs X.env
theorem GenF.has {X : Cx} {scope : Scope} {fv : List Nat} (S : GenF X scope fv) (ok : X.Ok) : ∀ y ∈ scope.names, y.2 = .free → ∃ c, X.env.cells.lookup y.1 = some c := fun y hy e => ok.has y.1 (.inl (S.free y hy e))
theorem GenF.cm {X : Cx} {scope : Scope} {fv : List Nat} (S : GenF X scope fv) (ok : X.Ok) {y : Str} {c : Addr} (e : (clF X scope).lookup y = some c) : X.env.cells.lookup y = some c := NdefX.clo_cm (S.has ok) e
section
variable {X : Cx} {elt iter tg : Expr} {scope : Scope} {gpos pos p : Pos} {k : Nat} {c P : Addr} {wi : TI} {g : TG} {te : TE} {fv : List Nat}
/-- the contexts that the element may be asked in -/
def GenInF (X : Cx) (scope : Scope) (k : Nat) (Φ : Cx → Prop) : Prop := ∀ (s4 : Shared) (H4 : Hp) (C : Addr) (code : Value) (fp : List Addr) (A3 : Around) (pn : List (Addr × Obj)), Room k A3 → (X.A.guards = some [] → A3.guards = some []) → Φ (gcxF X s4 H4 (gEnvF X scope C code) fp A3 pn)
end
end Sb
end
section
set_option Elab.async false
set_option linter.all false
set_option maxRecDepth 100000
set_option maxHeartbeats 4000000
namespace Sb
open PySem PySem.Spec PyProof.Rows L2
section
variable {X : Cx} {elt iter tg : Expr} {scope : Scope} {gpos pos p : Pos} {k : Nat} {c P : Addr} {wi : TI} {g : TG} {te : TE} {fv : List Nat}
theorem evr_cont {pins : List (Addr × Obj)} {σ : L2.St} {H3 : Hp} {s3 : Shared} {Q : VK} {it : Addr} {fp : List Addr} {J : It} {tn : Nat → Heap → Prop} {code : Value} {W : Nat → Nat → Hp → Prop} (hcalm : X.calm = true) (hr : Room (k + 1) X.A) (S : GenF X scope fv)
    (hpg : GenInF X scope k fun Y => PG Y tg g) (hpe : GenInF X scope k fun Y => PE Y elt te) (I3 : L2.Inv X pins σ H3 s3) (Tn : Turn X.prog X.w X.K tg J fp it tn) (st3 : tn 0 s3.heap) (f3 : ∀ b ∈ fp, FpOk X pins H3 b) (hit : it ∈ fp)
    (hW : ∃ m, W 0 m H3)
    (turn : EvrT J g te fv (onlyF fv σ) Q W)
    {h' : Heap} (hn' : h'.Ns s3.heap.objs.size (fun y => if y = ".0" then some (.ref it) else none)) (hs' : Heap.SameBut s3.heap.objs.size (s3.heap.push { cls := .type "frame", data := .dict #[] }) h') {nm qn : Str} {t1 t2 : Tok} {tk : Nat} :
    wpAny (model X.prog X.w) X.A (call (.builtin "all") [.ref h'.objs.size]) (EP X pins σ Q) X.xe
      { s3 with gens := s3.gens.push (.fresh (.compStart (GE elt tg iter scope gpos) 0 (.ref it) .none (gEnvF X scope s3.heap.objs.size code))), toks := tk, heap := h'.push (genObj s3.gens.size nm qn t1 t2) } := by
  obtain ⟨m, w0⟩ := hW
  have hsz : h'.objs.size = s3.heap.objs.size + 1 := by rw [hs'.1, Heap.size_push]
  have keep1 : ∀ b o, s3.heap.get? b = some o → h'.get? b = some o := fun b o e => hs'.extBut b o (Nat.ne_of_lt (Heap.lt_size e)) (Heap.get?_push_of_some _ e)
  have keep2 : ∀ b o, s3.heap.get? b = some o → (h'.push (genObj s3.gens.size nm qn t1 t2)).get? b = some o := fun b o e => Heap.get?_push_of_some _ (keep1 b o e)
  have hfpl : ∀ b ∈ fp, b < s3.heap.objs.size := fun b hb => by
    obtain ⟨o, e, _⟩ := Tn.obj _ _ st3 b hb
    exact Heap.lt_size e
  have hstk : ∀ b ∈ fp, b ∉ frs X.stack := fun b hb z => by
    rcases List.mem_cons.mp (I3.stkSub b z) with e | e
    · exact (f3 b hb).2.1 e
    · exact (f3 b hb).2.2.1 e
  let cenv : Env := gEnvF X scope s3.heap.objs.size code
  let A3 : Around := X.A.in1.in1.over (.compLoop (GE elt tg iter scope gpos) 0 (.ref it) .none cenv) []
  have hA3 : Room k A3 := ⟨hr.hd, by
      have h1 := hr.dp
      have e : A3.depth = X.A.depth + 1 := rfl
      rw [e]; omega, by
      have h1 := hr.un
      have e : A3.units = X.A.units + 1 + 1 + 3 := rfl
      rw [e]; omega⟩
  have hgu : X.A.guards = some [] → A3.guards = some [] := fun z => by
    have e : A3.guards = pushGuards [] (pushGuards [] X.A.guards) := rfl
    rw [e, z]
    rfl
  have hfr : A3.frames = some (cenv :: X.stack) := by
    have e : A3.frames = pushEnvs [cenv] (pushEnvs [] X.A.frames) := rfl
    rw [e, I3.ok.frames]
    rfl
  let Xg : Cx := gcxF X s3 H3 cenv fp A3 [(h'.objs.size, genObj s3.gens.size nm qn t1 t2)]
  have okG : Xg.Ok := by
    refine ⟨I3.ok.mod, S.kind, I3.ok.glob, rfl, Nat.le_refl _, fun x y c e => ?_, fun x hx => ?_, fun x c hfx e => (nomatch (show false = true from hfx)), fun _ => hr.hd, hfr, .inr ⟨rfl, rfl⟩, fun b hb => ⟨Nat.ne_of_lt (hfpl b hb), fun x c e => ?_⟩, I3.bs, Nat.le_trans I3.ok.bsz I3.sz, fun b o e hb => ?_, hstk, I3.stack, I3.stkFree⟩
    · exact fun e2 => I3.ok.inj x y c (S.cm I3.ok e) (S.cm I3.ok e2)
    · rcases hx with hx | hx
      · exact absurd hx (lookup_kind S.cell x)
      · have hm := PySem.mem_of_lookup hx
        obtain ⟨c, hc⟩ := S.has I3.ok _ hm rfl
        exact ⟨c, NdefX.clo_has (S.has I3.ok) hm hc⟩
    · exact (f3 b hb).2.2.2.2.1 x c (S.cm I3.ok e)
    · rcases (f3 b hb).2.2.2.1 with z | z
      · exact I3.ok.noex b o e z
      · exact absurd (Nat.lt_of_lt_of_le (Heap.lt_size e) (Nat.le_trans I3.ok.bsz z)) (Nat.lt_irrefl _)
  have hCn : H3 s3.heap.objs.size = none := I3.hok.fresh (Nat.le_refl _)
  have han : H3 h'.objs.size = none := I3.hok.fresh (by rw [hsz]; exact Nat.le_succ _)
  have IG : L2.Inv Xg [] (onlyF fv σ) H3 { s3 with gens := s3.gens.push (.fresh (.compStart (GE elt tg iter scope gpos) 0 (.ref it) .none cenv)), toks := tk, heap := h'.push (genObj s3.gens.size nm qn t1 t2) } := by
    refine ⟨okG, rfl, I3.bare.push rfl, Un.kept keep2, ⟨_, hn'.push _, fun i x v hx e _ => ?_⟩, fun x c e => ?_, hCn, fun x c e => ?_, fun q hq => ?_, I3.hok.kept keep2, ?_⟩
    · obtain ⟨hi, ev⟩ := onlyF_at e
      obtain ⟨z, hz, hk⟩ := S.slot i hi
      have ezx : z = x := Option.some.inj (hz.symm.trans hx)
      subst ezx
      have hm := PySem.mem_of_lookup hk
      have hcell := S.free _ hm rfl
      obtain ⟨m0, _, hloc⟩ := I3.loc
      obtain ⟨u, ru, lk⟩ := hloc i z v hx ev (.inr (.inl hcell))
      refine ⟨u, ru, .inr ⟨.inr hk, ?_⟩⟩
      rcases lk with ⟨k1, _⟩ | ⟨_, c, e1, e2⟩
      · have k2 : X.env.scope.names.lookup z = some .local := k1
        rw [hcell] at k2
        cases k2
      · exact ⟨c, NdefX.clo_has (S.has I3.ok) hm e1, e2.keeps keep2⟩
    · obtain ⟨v, hv⟩ := I3.cell x c (S.cm I3.ok e)
      exact ⟨v, hv.keeps keep2⟩
    · exact I3.freeC x c (S.cm I3.ok e)
    · have e : q = (h'.objs.size, genObj s3.gens.size nm qn t1 t2) := by simpa [Xg, gcxF] using hq
      subst e
      refine ⟨Heap.get?_push_size _ rfl, han, ?_, fun z => ?_, fun v z => by cases z⟩
      · show h'.objs.size ≠ s3.heap.objs.size
        omega
      · have z' : h'.objs.size ∈ frs X.stack := z
        have h9 := I3.stkSub _ z'
        have h8 : h'.objs.size < s3.heap.objs.size := by
          rcases List.mem_cons.mp h9 with e | e
          · rw [e]; exact I3.lt
          · obtain ⟨_, o, ho, _⟩ := I3.ok.funs.mem e
            exact Nat.lt_of_lt_of_le (Heap.lt_size ho) I3.sz
        omega
    · show (onlyF fv σ).length = X.N.length
      rw [onlyF_len]; exact I3.len
  have hfpg : ∀ H, (∀ b ∈ fp, H b = none) → ∀ b ∈ fp, FpOk Xg [] H b := fun H hn b hb => by
    refine ⟨hn b hb, Nat.ne_of_lt (hfpl b hb), hstk b hb, .inl hb, fun x c e => (f3 b hb).2.2.2.2.1 x c (S.cm I3.ok e), fun q hq => ?_⟩
    · have e : q = (h'.objs.size, genObj s3.gens.size nm qn t1 t2) := by simpa [Xg, gcxF] using hq
      subst e
      exact Nat.ne_of_gt (Nat.lt_of_lt_of_le (hfpl b hb) (by show s3.heap.objs.size ≤ h'.objs.size; rw [hsz]; exact Nat.le_succ _))
  have hpg' : PG Xg tg g := hpg s3 H3 _ code fp A3 _ hA3 hgu
  have hpe' : PE Xg elt te := hpe s3 H3 _ code fp A3 _ hA3 hgu
  refine call_function_tree F.kind_all F.plain_all F.entry_all (F.args_all1 _) ?_
  unfold Builtin.«all»
  refine wpAny_bind (m := oneArg "all" _) (wpAny_pure ?_)
  refine wpAny_bind (wpAny_pyIter_gen (g := s3.gens.size) ⟨_, _, _, Heap.get?_push_size _ rfl, rfl, rfl, rfl⟩ ?_)
  refine wpAny_pure ⟨plainId_quiet F.plain_all_loop _, ?_⟩
  refine evr_loop (Xg := Xg) (g := s3.gens.size) (nm := nm) (qn := qn) (t1 := t1) (t2 := t2) (Q := Q) rfl rfl hr.hd (by have := hr.dp; show X.A.depth < _; omega) (by show _ ∈ [_]; exact List.mem_cons_self) (fun b σ' H' s' s'' J os bare kk q => ?_) (m + 1) _ _ (Array.getElem?_push_size ..) ⟨_, _, IG⟩ fun s'' sh => ?_
  · have U : Un (frs X.stack) fp H3 H' s3.heap s''.heap := Un.trans (show Un (frs X.stack) fp H3 H' s3.heap s'.heap from J.base) (Un.kept kk)
    have hc2 : ∀ b ∈ fp, (b ∈ X.ex ∨ X.s_0.heap.objs.size ≤ b) ∧ b ≠ X.env.locals ∧ (∀ x c, X.env.cells.lookup x = some c → c ≠ b) ∧ ∀ p ∈ X.pn ++ pins, p.1 ≠ b := fun b hb => by
      obtain ⟨_, f1, _, f4, f5, f6⟩ := f3 b hb
      exact ⟨f4, f1, f5, f6⟩
    exact ⟨.bl b, H', I3.call' (os.trans J.os) U (J.hok.kept kk) bare hc2, rfl, q⟩
  · exact ⟨rfl, seg_evr0 (Xg := Xg) (A2 := X.A.in1.in1) (cenv := cenv) rfl rfl rfl rfl (by show X.N.length = _; rw [onlyF_len]; exact I3.len.symm) (onlyF_eq (vs := []) (fun _ _ => List.not_mem_nil) onlyF_len fun _ _ => rfl) S.co Tn hpg' hpe' hfpg turn (sh.inv IG) (Tn.keep _ _ _ st3 fun b _ o e => by rw [sh.heap]; exact keep2 b o e) (fun b hb => (f3 b hb).1) w0⟩

theorem pe_evrG (hcalm : X.calm = true) (hr : Room (k + 1) X.A) (hg : Gl X "all") (hm : X.mg "all" = none) (TB : GxR.TabB X.base X.mg c P) (hcode : X.env.code = .ref c) (S : GenF X scope fv) (hi : PI X tg iter wi)
    (hpg : GenInF X scope k fun Y => PG Y tg g) (hpe : GenInF X scope k fun Y => PE Y elt te) (hs : ∀ v, genFold iter X.env v = pure v)
    (he : starEach [GE elt tg iter scope gpos] X.env = (false, eval (GE elt tg iter scope gpos) X.env) :: starEach [] X.env := by rfl) :
    PE X (.Call (.Name "all" p) [GE elt tg iter scope gpos] [] pos) (tGZ P fv wi g te) := by
  refine ⟨fun pins s σ H Q I h => ?_⟩
  have hb : bootBuiltins "all" = some (.builtin "all") := by decide +kernel
  refine wpAny_Call_Name_kw (ld_blt I hg hm hb ?_)
  refine PyProof.Rows.callWith_builtin1 ?_ he (by rfl)
  rw [he]
  show wpAny _ _ (spliced ((false, eval (GE elt tg iter scope gpos) X.env) :: backTo pos (starEach [] X.env))) _ _ s
  refine Calls.spliced_cons ?_
  have hclo : closureFor scope X.env = pure (clF X scope) := closure_ok (S.has I.ok)
  refine wpAny_GeneratorExp_make S.co hclo S.cell S.dot S.kind (by have := hr.dp; omega) ?_ hs
  refine thn (hi.run pins s σ H _ I h) fun xv s1 h1 => thn h1 fun itv s2 hp2 => ?_
  obtain ⟨it, fp, tn, J, H2, e2, I2, Tn, st2, f2, ⟨ps, hP, ht⟩, allT⟩ := hp2
  subst e2
  refine ⟨I2.nolimit, ?_⟩
  have hPs : s2.heap.get? P = some { cls := .none, data := .fields ps } := I2.hok P _ hP
  have cd : PySem.W.CodeHd s2.heap c P := TB.code.keeps fun b u e => I2.bk b u e
  have nfP : ∀ b ∈ fp, b ≠ P := fun b hb z => by
    have := (f2 b hb).1
    rw [z, hP] at this
    cases this
  have cont : ∀ (code : Value) (s3 : Shared) (H3 : Hp), L2.Inv X pins σ H3 s3 → GxR.Tabbed P H2 H3 → (∀ b o, b ≠ P → s2.heap.get? b = some o → s3.heap.get? b = some o) →
      wpAny (model X.prog X.w) X.A (builtinsFor X.env.globals X.env.builtins) (fun bi s₄ => ∀ h', h'.Ns s₄.heap.objs.size (fun y => if y = ".0" then some (.ref it) else none) → Heap.SameBut s₄.heap.objs.size (s₄.heap.push { cls := .type "frame", data := .dict #[] }) h' →
        wpAny (model X.prog X.w) X.A (spliced (backTo pos (starEach [] X.env))) (fun vs s' => wpAny (model X.prog X.w) X.A (call (.builtin "all") (.ref h'.objs.size :: vs)) (EP X pins σ Q) X.xe s') X.xe { s₄ with
            gens := s₄.gens.push (.fresh (.compStart (GE elt tg iter scope gpos) 0 (.ref it) .none (genEnv scope (clF X scope) s₄.heap.objs.size code bi X.env))),
            toks := s₄.toks + 1 + 1 + 1,
            heap := h'.push { cls := .type "generator", data := .fields #[.int s₄.gens.size 0, .str "<genexpr>" (s₄.toks + 1), .str (X.env.qual ++ "<genexpr>") (s₄.toks + 1 + 1)] } }) X.xe s3 := by
    intro code s3 H3 I3 tb kp
    obtain ⟨bm, ob, e1, b2, b3, e4, e5, e6, e7, e8⟩ := TB.bm
    refine wpAny_builtinsFor (m := X.mg) (by rw [I3.ok.glob]; exact I3.mod.glob.keeps I3.bk) e1 b2 (I3.bk _ _ e5) e6 e7 e8 ?_
    intro h' hn' hs'
    refine Calls.spliced_nil ?_
    exact evr_cont hcalm hr S hpg hpe I3 Tn (Tn.keep _ _ _ st2 fun b hb o e => kp b o (nfP b hb) e) (fun b hb => by
      obtain ⟨f0, fr⟩ := f2 b hb
      exact ⟨by rw [tb.2 b (nfP b hb)]; exact f0, fr⟩) Tn.mem (allT H3 tb).choose_spec.1 (allT H3 tb).choose_spec.2 hn' hs'
  cases hf : codeAmong gpos ps.toList with
  | none =>
    refine wpAny_genexprCodeX hcode (cd.code hPs ht) (cd.tab hPs) hf fun c' h' tk hx hge hlt hco' _ htab' _ => ?_
    obtain ⟨o1, vs, f1, tf, fl, tgk, inF, tx, tt, op, _, _, _, _, _, _, _, _, _, htr, _⟩ := hco'
    have I3 := GxR.inv_tab (more := #[rawInt gpos.line, rawInt gpos.col, .ref c']) (h' := h') (g' := s2.gens) (d' := s2.drawn) (t' := tk) I2 hP (fun b o hb e => hx b o hb e) htab'.2 I2.bare
    exact cont _ _ _ I3 ⟨⟨_, upd_same, htr⟩, fun b hb => upd_ne hb⟩ fun b o hb e => hx b o hb e
  | some cv =>
    refine wpAny_genexprCode_hit hcode (cd.code hPs ht) hf ?_
    exact cont cv s2 H2 I2 ⟨⟨ps, hP, ht⟩, fun _ _ => rfl⟩ fun b o _ e => e
end
end Sb
end
section
set_option Elab.async false
set_option linter.all false
set_option maxRecDepth 100000
set_option maxHeartbeats 4000000
namespace Sb
open PySem PySem.Spec PyProof.Rows L2
section
variable {X : Cx} {T : Tb} {W : WX} {elt iter tg : Expr} {scope : Scope} {pos : Pos} {fi : IF} {g : TF} {fe : EF}
def onlyD (fv : List Nat) (τ : Sl) : Sl := τ.mapIdx fun i v => if i ∈ fv then v else none
theorem RSl.only {H : Hp} {φ : List Addr} {τ : Sl} {σ : L2.St} (r : RSl T H φ τ σ) (fv : List Nat) : RSl T H φ (onlyD fv τ) (onlyF fv σ) := by
  refine ⟨by simp [onlyD, onlyF, r.len], fun j d hj => ?_⟩
  unfold onlyD at hj
  rw [List.getElem?_mapIdx] at hj
  cases e : τ[j]? with
  | none => rw [e] at hj; cases hj
  | some o =>
    rw [e] at hj
    simp only [Option.map_some, Option.some.injEq] at hj
    split at hj
    · rename_i hi
      subst hj
      obtain ⟨v, h1, h2⟩ := r.at_ j d e
      refine ⟨v, ?_, h2⟩
      unfold onlyF
      rw [List.getElem?_mapIdx, h1]
      simp [hi]
    · cases hj
end
end Sb
end
section
set_option Elab.async false
set_option linter.all false
set_option maxRecDepth 100000
set_option maxHeartbeats 4000000
namespace Sb
open PySem PySem.Spec PyProof.Rows L2
section
variable {X : Cx} {T : Tb} {W : WX} {elt iter tg : Expr} {scope : Scope} {pos : Pos} {fi : IF} {g : TF} {fe : EF}
def goZ (nxt : Nat → Sto → Option (Option D)) (g : TF) (fe : EF) (τ0 : Sl) : Nat → Nat → Sto → Option (Bool × Sto)
  | 0, _, _ => none
  | m + 1, i, S => match nxt i S with
    | none => none
    | some none => some (true, S)
    | some (some d) => match g d S τ0 with
      | none => none
      | some τ1 => match fe τ1 S with
        | some (.ok (.bl false) S1) => some (false, S1)
        | some (.ok (.bl true) S1) => goZ nxt g fe τ0 m (i + 1) S1
        | _ => none
def eEvr (fv : List Nat) (fi : IF) (g : TF) (fe : EF) : EF := fun τ S => match fi τ S with
  | none => none
  | some (.ex x S1) => some (.ex x S1)
  | some (.ok wk S1) => (goZ wk.nxt g fe (onlyD fv τ) (wk.bound + 1) 0 S1).bind fun r => some (.ok (.bl r.1) r.2)
theorem evr_of {P : Addr} (hP : P ∈ T.tabs) {us fv : List Nat} (hd : ∀ i ∈ fv, i ∉ us) {σ : L2.St} {H : Hp} {Q : VK} (h : rdE T W (eEvr fv fi g fe) σ H Q) : tGZ P fv (rdI T W fi) (rdG T us g) (rdE T W0 fe) σ H Q := by
  obtain ⟨φ, S, τ, o, R, r, e, q⟩ := h
  unfold eEvr at e
  cases e1 : fi τ S with
  | none => rw [e1] at e; cases e
  | some x =>
    rw [e1] at e
    refine ⟨φ, S, τ, x, R, r, e1, ?_⟩
    cases x with
    | ex x S1 => cases e; exact q
    | ok wk S1 =>
      intro φ1 H1 J E1 R1 sv
      refine ⟨R1.tab P hP, fun H2 t => ?_⟩
      obtain ⟨R2, E2⟩ := tabbed_rel hP R1 t
      simp only [Option.bind_eq_some_iff] at e
      obtain ⟨⟨rb, S9⟩, e2, e3⟩ := e
      cases e3
      refine ⟨fun i m H => ∃ φ3 S3, Ext φ1 H2 φ3 H ∧ Rel T φ3 S3 H ∧ goZ wk.nxt g fe (onlyD fv τ) m i S3 = some (rb, S9), ⟨wk.bound + 1, _, _, .refl, R2, e2⟩, ?_⟩
      rintro i m H3 ⟨φ3, S3, E3, R3, e3⟩
      cases m with
      | zero => cases e3
      | succ m =>
        unfold goZ at e3
        obtain ⟨sgo, sst⟩ := sv φ3 S3 H3 i (E2.trans E3) R3
        cases hn : wk.nxt i S3 with
        | none => rw [hn] at e3; cases e3
        | some od =>
          rw [hn] at e3
          cases od with
          | none =>
            cases e3
            exact .inl ⟨sst hn, q φ3 H3 _ ((E1.trans E2).trans E3) R3 rfl⟩
          | some d =>
            obtain ⟨go, yl⟩ := sgo d hn
            refine .inr ⟨go, fun H' => ∃ φ4 S4, Ext φ1 H2 φ4 H' ∧ Rel T φ4 S4 H' ∧ goZ wk.nxt g fe (onlyD fv τ) m (i + 1) S4 = some (rb, S9), fun H' h => ⟨m, Nat.lt_succ_self m, h⟩, fun x H' y => ?_⟩
            obtain ⟨E4, R4, r4⟩ := yl x H' y
            simp only at e3
            cases hg1 : g d S3 (onlyD fv τ) with
            | none => rw [hg1] at e3; cases e3
            | some τ4 =>
              rw [hg1] at e3
              refine ⟨φ3, S3, _, d, τ4, R4, (r.ext (((E1.trans E2).trans E3).trans E4)).only fv, r4, hg1, fun σ' r' hk hl => ⟨onlyF_eq hd (hl.trans onlyF_len) hk, ?_⟩⟩
              simp only at e3
              split at e3
              · rename_i S5 hf
                cases e3
                refine ⟨φ3, S3, τ4, _, R4, r', hf, fun φ5 H5 v5 E5 R5 r5 => ?_⟩
                cases r5
                exact ⟨false, rfl, by rw [if_pos rfl]; exact q φ5 H5 _ ((((E1.trans E2).trans E3).trans E4).trans E5) R5 rfl⟩
              · rename_i S5 hf
                refine ⟨φ3, S3, τ4, _, R4, r', hf, fun φ5 H5 v5 E5 R5 r5 => ?_⟩
                cases r5
                exact ⟨true, rfl, by rw [if_neg (by decide)]; exact ⟨φ5, S5, (E3.trans E4).trans E5, R5, e3⟩⟩
              · cases e3
theorem d_evr {k : Nat} {c P : Addr} {us fv : List Nat} {gpos p : Pos} (hcalm : X.calm = true) (hr : Room (k + 1) X.A) (hg : Gl X "all") (hm : X.mg "all" = none) (TB : GxR.TabB X.base X.mg c P) (hP : P ∈ T.tabs) (hcode : X.env.code = .ref c) (S : GenF X scope fv) (hd : ∀ i ∈ fv, i ∉ us)
    (hi : PI X tg iter (rdI T W fi)) (hpg : GenInF X scope k fun Y => PG Y tg (rdG T us g)) (hpe : GenInF X scope k fun Y => PE Y elt (rdE T W0 fe)) (hs : ∀ v, genFold iter X.env v = pure v := by intro _; rfl)
    (he : starEach [GE elt tg iter scope gpos] X.env = (false, eval (GE elt tg iter scope gpos) X.env) :: starEach [] X.env := by rfl) :
    PE X (.Call (.Name "all" p) [GE elt tg iter scope gpos] [] pos) (rdE T W (eEvr fv fi g fe)) :=
  (pe_evrG hcalm hr hg hm TB hcode S hi hpg hpe hs he).imp fun _ _ _ h => evr_of hP hd h
end
/-- all of a list of things without effect -/
theorem goZ_inv {nxt : Nat → Sto → Option (Option D)} {g : TF} {fe : EF} {τ0 : Sl} {S : Sto} {n : Nat} (item : Nat → D) (b : Nat → Bool) (h : ∀ i, i < n → nxt i S = some (some (item i)) ∧ ∃ τ1, g (item i) S τ0 = some τ1 ∧ fe τ1 S = some (.ok (.bl (b i)) S)) (he : nxt n S = some none) :
    ∀ (m i : Nat), i ≤ n → n - i < m → ∃ r : Bool, goZ nxt g fe τ0 m i S = some (r, S) ∧ (r = true ↔ ∀ j, i ≤ j → j < n → b j = true)
  | 0, i, _, hm => absurd hm (Nat.not_lt_zero _)
  | m + 1, i, hi, hm => by
    unfold goZ
    by_cases e : i = n
    · subst e
      rw [he]
      exact ⟨true, rfl, by simp; intro j h1 h2; omega⟩
    · obtain ⟨h1, τ1, h2, h3⟩ := h i (by omega)
      rw [h1]
      simp only [h2, h3]
      cases hb : b i with
      | false => exact ⟨false, rfl, by simp; exact ⟨i, Nat.le_refl _, by omega, hb⟩⟩
      | true =>
        obtain ⟨r, e1, e2⟩ := goZ_inv item b h he m (i + 1) (by omega) (by omega)
        refine ⟨r, e1, e2.trans ⟨fun q j a c => ?_, fun q j a c => q j (by omega) c⟩⟩
        by_cases z : j = i
        · subst z; exact hb
        · exact q j (by omega) c
end Sb
end
section
set_option Elab.async false
set_option linter.all false
set_option maxRecDepth 100000
set_option maxHeartbeats 4000000
/-! zip over two tuples: its own turns. -/
namespace Sb
open PySem PySem.Spec PyProof.Rows L2 RZ
section
variable {prog : Program} {w : World} {A : Around} {E : Value → Shared → Prop} {s : Shared}
end
end Sb
end
section
set_option Elab.async false
set_option linter.all false
set_option maxRecDepth 100000
set_option maxHeartbeats 4000000
/-! tuple(zip(xs, ys)) of two tuples. -/
namespace Sb
open PySem PySem.Spec PyProof.Rows L2
/-- where a zip stands behind k pairs, all of them kept -/
structure ZStT (h0 h : Heap) (z TI TO i1 i2 l1 l2 S : Addr) (xs ys : Array Value) (k : Nat) (acc : Array Value) : Prop where
  le : h0.objs.size ≤ h.objs.size
  fr : ∀ c o, c ≠ S → c ≠ z → c ≠ TO → c ≠ i1 → c ≠ i2 → h0.get? c = some o → h.get? c = some o
  zip : ∃ u f, ZU u ∧ ZI h z TI TO u f
  to_ : ∃ a b, IsPair h TO a b
  ti : IsPair h TI (.ref i1) (.ref i2)
  p1 : h.IsTupleIter i1 l1 k
  p2 : h.IsTupleIter i2 l2 k
  q1 : h.IsTuple l1 xs
  q2 : h.IsTuple l2 ys
  lst : ∃ ep, h.get? S = some { cls := .type "list", data := .seq acc ep }
  len : acc.size = k
  els : ∀ j, j < k → ∃ T x y, acc[j]? = some (.ref T) ∧ h0.objs.size ≤ T ∧ xs[j]? = some x ∧ ys[j]? = some y ∧ IsPair h T x y
  dis : ∀ i j T, i < j → j < k → acc[i]? = some (.ref T) → acc[j]? = some (.ref T) → False
/-- the start of a zip, an empty list beside it -/
structure Z0T (h : Heap) (z TI TO i1 i2 l1 l2 S : Addr) (xs ys : Array Value) : Prop where
  zip : IsZip h z TI TO .none
  to_ : ∃ a b, IsPair h TO a b
  ti : IsPair h TI (.ref i1) (.ref i2)
  p1 : h.IsTupleIter i1 l1 0
  p2 : h.IsTupleIter i2 l2 0
  q1 : h.IsTuple l1 xs
  q2 : h.IsTuple l2 ys
  lst : ∃ ep, h.get? S = some { cls := .type "list", data := .seq #[] ep }
theorem Z0T.st {h0 h : Heap} {z TI TO i1 i2 l1 l2 S : Addr} {xs ys : Array Value} (st : Z0T h0 z TI TO i1 i2 l1 l2 S xs ys) (hS : S ≠ z ∧ S ≠ TI ∧ S ≠ TO ∧ S ≠ i1 ∧ S ≠ i2 ∧ S ≠ l1 ∧ S ≠ l2) (sz : h.objs.size = h0.objs.size) (oth : ∀ c, c ≠ S → h.get? c = h0.get? c) (at_ : ∃ ep, h.get? S = some { cls := .type "list", data := .seq #[] ep }) : ZStT h0 h z TI TO i1 i2 l1 l2 S xs ys 0 #[] := by
  obtain ⟨a, b, hto⟩ := st.to_
  refine ⟨by omega, fun c o c0 _ _ _ _ e => by rw [oth c c0]; exact e, ⟨.none, false, .inl rfl, ?_⟩, ⟨a, b, ?_⟩, ?_, ?_, ?_, ?_, ?_, at_, rfl, fun j hj => absurd hj (Nat.not_lt_zero _), fun _ j _ _ hj => absurd hj (Nat.not_lt_zero _)⟩
  · show Heap.get? _ z = _; rw [oth z (Ne.symm hS.1)]; exact st.zip
  · unfold IsPair; rw [oth TO (Ne.symm hS.2.2.1)]; exact hto
  · unfold IsPair; rw [oth TI (Ne.symm hS.2.1)]; exact st.ti
  · obtain ⟨o, a, b, c⟩ := st.p1
    exact ⟨o, by rw [oth i1 (Ne.symm hS.2.2.2.1)]; exact a, b, c⟩
  · obtain ⟨o, a, b, c⟩ := st.p2
    exact ⟨o, by rw [oth i2 (Ne.symm hS.2.2.2.2.1)]; exact a, b, c⟩
  · obtain ⟨o, a, b, c⟩ := st.q1
    exact ⟨o, by rw [oth l1 (Ne.symm hS.2.2.2.2.2.1)]; exact a, b, c⟩
  · obtain ⟨o, a, b, c⟩ := st.q2
    exact ⟨o, by rw [oth l2 (Ne.symm hS.2.2.2.2.2.2)]; exact a, b, c⟩
section
variable {prog : Program} {w : World} {A : Around} {E : Value → Shared → Prop} {s : Shared} {z TI TO i1 i2 l1 l2 : Addr} {xs ys : Array Value}
end
end Sb
end
section
set_option Elab.async false
set_option linter.all false
set_option maxRecDepth 100000
set_option maxHeartbeats 4000000
/-! tuple(zip(xs, ys)) of two lists or two tuples. -/
namespace Sb
open PySem PySem.Spec PyProof.Rows L2
section
variable {X : Cx} {T : Tb} {W : WX} {pos : Pos} {ra : AF}
end
end Sb
end
section
set_option Elab.async false
set_option linter.all false
set_option maxRecDepth 100000
set_option maxHeartbeats 4000000
/-! zip over a list or a tuple, each: its own turns. -/
namespace Sb
open PySem PySem.Spec PyProof.Rows L2 RZ
/-- an iterator over a tuple (true) or a list -/
def SqIt (κ : Bool) (h : Heap) (i l : Addr) (k : Nat) : Prop := if κ = true then h.IsTupleIter i l k else h.IsListIter i l k
def SqOb (κ : Bool) (h : Heap) (l : Addr) (xs : Array Value) : Prop := if κ = true then h.IsTuple l xs else h.IsList l xs
theorem SqIt.at {κ : Bool} {h h' : Heap} {i l : Addr} {k : Nat} (p : SqIt κ h i l k) (f : ∀ o, h.get? i = some o → h'.get? i = some o) : SqIt κ h' i l k := by
  cases κ with
  | true => obtain ⟨o, a, b, c⟩ := (show h.IsTupleIter i l k from p); exact (show h'.IsTupleIter i l k from ⟨o, f o a, b, c⟩)
  | false => obtain ⟨o, a, b, c⟩ := (show h.IsListIter i l k from p); exact (show h'.IsListIter i l k from ⟨o, f o a, b, c⟩)
theorem SqOb.at {κ : Bool} {h h' : Heap} {l : Addr} {xs : Array Value} (p : SqOb κ h l xs) (f : ∀ o, h.get? l = some o → h'.get? l = some o) : SqOb κ h' l xs := by
  cases κ with
  | true => obtain ⟨o, a, b⟩ := (show h.IsTuple l xs from p); exact (show h'.IsTuple l xs from ⟨o, f o a, b⟩)
  | false => obtain ⟨o, a, b⟩ := (show h.IsList l xs from p); exact (show h'.IsList l xs from ⟨o, f o a, b⟩)
theorem SqIt.extBut {κ : Bool} {h h' : Heap} {i l c : Addr} {k : Nat} (p : SqIt κ h i l k) (b : Heap.ExtBut c h h') (n : i ≠ c) : SqIt κ h' i l k := p.at fun o e => b _ _ n e
theorem SqOb.extBut {κ : Bool} {h h' : Heap} {l c : Addr} {xs : Array Value} (p : SqOb κ h l xs) (b : Heap.ExtBut c h h') (n : l ≠ c) : SqOb κ h' l xs := p.at fun o e => b _ _ n e
theorem SqIt.lt {κ : Bool} {h : Heap} {i l : Addr} {k : Nat} (p : SqIt κ h i l k) : i < h.objs.size := by
  cases κ with
  | true => obtain ⟨o, a, _⟩ := (show h.IsTupleIter i l k from p); exact Heap.lt_size a
  | false => obtain ⟨o, a, _⟩ := (show h.IsListIter i l k from p); exact Heap.lt_size a
theorem SqOb.lt {κ : Bool} {h : Heap} {l : Addr} {xs : Array Value} (p : SqOb κ h l xs) : l < h.objs.size := by
  cases κ with
  | true => obtain ⟨o, a, _⟩ := (show h.IsTuple l xs from p); exact Heap.lt_size a
  | false => obtain ⟨o, a, _⟩ := (show h.IsList l xs from p); exact Heap.lt_size a
theorem nextOf_sq_item {κ : Bool} {prog : Program} {w : World} {A : Around} {E : Value → Shared → Prop} {s : Shared} {it l : Addr} {i : Nat} {items : Array Value} {x : Value} {Q : Value → Shared → Prop} (hit : SqIt κ s.heap it l i)
    (hl : SqOb κ s.heap l items) (hx : items[i]? = some x) (hQ : ∀ h', SqIt κ h' it l (i + 1) → Heap.SameBut it s.heap h' → Q x { s with heap := h' }) :
    wpAny (model prog w) A (Builtin.SmallTypes.nextOf (.ref it)) Q E s := by
  cases κ with
  | true => exact nextOf_tuple_item (show s.heap.IsTupleIter it l i from hit) (show s.heap.IsTuple l items from hl) hx fun h' p b => hQ h' p b
  | false => exact wpAny_nextOf_list_item (show s.heap.IsListIter it l i from hit) (show s.heap.IsList l items from hl) hx fun h' p b => hQ h' p b
theorem nextOf_sq_end {κ : Bool} {prog : Program} {w : World} {A : Around} {E : Value → Shared → Prop} {s : Shared} {it l : Addr} {i : Nat} {items : Array Value} {Q : Value → Shared → Prop} (hh : A.handled = none) (hit : SqIt κ s.heap it l i)
    (hl : SqOb κ s.heap l items) (hx : items[i]? = none) (hE : ∀ h' e, Heap.ExtBut it s.heap h' → (∃ o, h'.get? e = some o ∧ o.cls = .type "StopIteration") → E (.ref e) { s with heap := h' }) :
    wpAny (model prog w) A (Builtin.SmallTypes.nextOf (.ref it)) Q E s := by
  cases κ with
  | true => exact nextOf_tuple_end hh (show s.heap.IsTupleIter it l i from hit) (show s.heap.IsTuple l items from hl) hx hE
  | false => exact wpAny_nextOf_list_end hh (show s.heap.IsListIter it l i from hit) (show s.heap.IsList l items from hl) hx hE
theorem iter_sq {κ : Bool} {prog : Program} {w : World} {A : Around} {E : Value → Shared → Prop} {s : Shared} {l : Addr} {items : Array Value} {Q : Value → Shared → Prop} (hl : SqOb κ s.heap l items)
    (hQ : Q (.ref s.heap.objs.size) { s with heap := s.heap.push { cls := .type (if κ = true then "tuple_iterator" else "list_iterator"), data := .fields #[.ref l, .int 0 0] } }) : wpAny (model prog w) A (pyIter (.ref l)) Q E s := by
  cases κ with
  | true => exact wpAny_pyIter_tuple (show s.heap.IsTuple l items from hl) hQ
  | false => exact wpAny_pyIter_list (show s.heap.IsList l items from hl) hQ
abbrev zGH1 (κ₁ : Bool) (h : Heap) (l1 : Addr) : Heap := h.push { cls := .type (if κ₁ = true then "tuple_iterator" else "list_iterator"), data := .fields #[.ref l1, .int 0 0] }
abbrev zGH2 (κ₁ κ₂ : Bool) (h : Heap) (l1 l2 : Addr) : Heap := (zGH1 κ₁ h l1).push { cls := .type (if κ₂ = true then "tuple_iterator" else "list_iterator"), data := .fields #[.ref l2, .int 0 0] }
abbrev zGH3 (κ₁ κ₂ : Bool) (h : Heap) (l1 l2 : Addr) : Heap := (zGH2 κ₁ κ₂ h l1 l2).push { cls := .type "tuple", data := .seq #[.ref h.objs.size, .ref (zGH1 κ₁ h l1).objs.size] }
abbrev zGH4 (κ₁ κ₂ : Bool) (h : Heap) (l1 l2 : Addr) : Heap := (zGH3 κ₁ κ₂ h l1 l2).push { cls := .type "tuple", data := .seq #[.none, .none] }
abbrev zGH5 (κ₁ κ₂ : Bool) (h : Heap) (l1 l2 : Addr) : Heap := (zGH4 κ₁ κ₂ h l1 l2).push { cls := .type "zip", data := .fields #[.none, .bool false, .bool false, .ref (zGH2 κ₁ κ₂ h l1 l2).objs.size, .ref (zGH3 κ₁ κ₂ h l1 l2).objs.size] }
theorem meets_zipG_new (κ₁ κ₂ : Bool) (l1 l2 : Addr) (xs ys : Array Value) :
    Meets (Builtin.«zip.__new__» ⟨[.type "zip", .ref l1, .ref l2], []⟩) (fun _ R s => SqOb κ₁ s.heap l1 xs ∧ SqOb κ₂ s.heap l2 ys ∧
      R (.ok (.ret (.ref (zGH4 κ₁ κ₂ s.heap l1 l2).objs.size))) { s with heap := zGH5 κ₁ κ₂ s.heap l1 l2 }) :=
  .of_wp fun prog w A R s h => by
    obtain ⟨hp, g, d, tk, os⟩ := s; obtain ⟨hl1, hl2, h⟩ := h
    have hsub := sub_zip
    have hL1 : SqOb κ₁ (Shared.heap ⟨hp, g, d, tk, os⟩) l1 xs := hl1
    have hL2 : SqOb κ₂ (Shared.heap ⟨hp.push { cls := .type (if κ₁ = true then "tuple_iterator" else "list_iterator"), data := .fields #[.ref l1, .int 0 0] }, g, d, tk, os⟩) l2 ys := hl2.at fun o e => Heap.get?_push_of_some _ e
    wp_walk using iter_sq hL1, iter_sq hL2
    exact ⟨_, rfl, h⟩
theorem call_zipG {κ₁ κ₂ : Bool} {prog : Program} {w : World} {A : Around} {E : Value → Shared → Prop} {s : Shared} {l1 l2 : Addr} {xs ys : Array Value} {Q : Value → Shared → Prop} (hl1 : SqOb κ₁ s.heap l1 xs) (hl2 : SqOb κ₂ s.heap l2 ys)
    (h : ∀ h', IsZip h' (s.heap.objs.size + 4) (s.heap.objs.size + 2) (s.heap.objs.size + 3) .none → IsPair h' (s.heap.objs.size + 2) (.ref s.heap.objs.size) (.ref (s.heap.objs.size + 1)) →
      IsPair h' (s.heap.objs.size + 3) .none .none → SqIt κ₁ h' s.heap.objs.size l1 0 → SqIt κ₂ h' (s.heap.objs.size + 1) l2 0 → h'.objs.size = s.heap.objs.size + 5 →
      (∀ c o, s.heap.get? c = some o → h'.get? c = some o) → Q (.ref (s.heap.objs.size + 4)) { s with heap := h' }) :
    wpAny (model prog w) A (call (.type "zip") [.ref l1, .ref l2]) Q E s := by
  refine callType_new F.called_zip (by decide) (F.typeCall_zip_2 _ _) (F.newCall_zip_2 _ _) (fun obj => F.args_object_init_3 obj _ _) F.entry_zip_new
    (meets_zipG_new κ₁ κ₂ l1 l2 xs ys) ⟨hl1, hl2, ?_⟩
  have z1 : (zGH1 κ₁ s.heap l1).objs.size = s.heap.objs.size + 1 := Heap.size_push ..
  have z2 : (zGH2 κ₁ κ₂ s.heap l1 l2).objs.size = s.heap.objs.size + 2 := by rw [Heap.size_push, z1]
  have z3 : (zGH3 κ₁ κ₂ s.heap l1 l2).objs.size = s.heap.objs.size + 3 := by rw [Heap.size_push, z2]
  have z4 : (zGH4 κ₁ κ₂ s.heap l1 l2).objs.size = s.heap.objs.size + 4 := by rw [Heap.size_push, z3]
  have z5 : (zGH5 κ₁ κ₂ s.heap l1 l2).objs.size = s.heap.objs.size + 5 := by rw [Heap.size_push, z4]
  have g5 : (zGH5 κ₁ κ₂ s.heap l1 l2).get? (zGH4 κ₁ κ₂ s.heap l1 l2).objs.size = some _ := Heap.get?_push_size _ rfl
  have g4 : (zGH5 κ₁ κ₂ s.heap l1 l2).get? (zGH3 κ₁ κ₂ s.heap l1 l2).objs.size = some _ := Heap.get?_push_of_some _ (Heap.get?_push_size _ rfl)
  have g3 : (zGH5 κ₁ κ₂ s.heap l1 l2).get? (zGH2 κ₁ κ₂ s.heap l1 l2).objs.size = some _ := Heap.get?_push_of_some _ (Heap.get?_push_of_some _ (Heap.get?_push_size _ rfl))
  have g2 : (zGH5 κ₁ κ₂ s.heap l1 l2).get? (zGH1 κ₁ s.heap l1).objs.size = some _ := Heap.get?_push_of_some _ (Heap.get?_push_of_some _ (Heap.get?_push_of_some _ (Heap.get?_push_size _ rfl)))
  have g1 : (zGH5 κ₁ κ₂ s.heap l1 l2).get? s.heap.objs.size = some _ := Heap.get?_push_of_some _ (Heap.get?_push_of_some _ (Heap.get?_push_of_some _ (Heap.get?_push_of_some _ (Heap.get?_push_size _ rfl))))
  show _ ∧ _
  rw [z2, z3, z4] at g5
  rw [z1, z2] at g3
  rw [z3] at g4
  rw [z1] at g2
  rw [z4]
  have i1 : SqIt κ₁ (zGH5 κ₁ κ₂ s.heap l1 l2) s.heap.objs.size l1 0 := by
    cases κ₁ with
    | true => exact (show Heap.IsTupleIter _ _ _ _ from ⟨_, g1, rfl, rfl⟩)
    | false => exact (show Heap.IsListIter _ _ _ _ from ⟨_, g1, rfl, rfl⟩)
  have i2 : SqIt κ₂ (zGH5 κ₁ κ₂ s.heap l1 l2) (s.heap.objs.size + 1) l2 0 := by
    cases κ₂ with
    | true => exact (show Heap.IsTupleIter _ _ _ _ from ⟨_, g2, rfl, rfl⟩)
    | false => exact (show Heap.IsListIter _ _ _ _ from ⟨_, g2, rfl, rfl⟩)
  exact ⟨⟨_, g5, rfl⟩, h _ g5 g3 g4 i1 i2 z5 fun c o x =>
    Heap.get?_push_of_some _ (Heap.get?_push_of_some _ (Heap.get?_push_of_some _ (Heap.get?_push_of_some _ (Heap.get?_push_of_some _ x))))⟩
section
variable {κ₁ κ₂ : Bool} {prog : Program} {w : World} {A : Around} {E : Value → Shared → Prop} {s : Shared}
/-- what stands behind a pair, the pair at T -/
structure ZAftG (κ₁ κ₂ : Bool) (h0 h : Heap) (z TI TO i1 i2 l1 l2 : Addr) (k : Nat) (x y : Value) : Prop where
  zip : ∃ u f, ZU u ∧ ZI h z TI TO u f
  to_ : ∃ a b, IsPair h TO a b
  p1 : SqIt κ₁ h i1 l1 (k + 1)
  p2 : SqIt κ₂ h i2 l2 (k + 1)
  pr : IsPair h h0.objs.size x y
  sz : h.objs.size = h0.objs.size + 1
  kp : ∀ c o, c ≠ z → c ≠ TO → c ≠ i1 → c ≠ i2 → h0.get? c = some o → h.get? c = some o
theorem zi_itemG {z TI TO i1 i2 l1 l2 : Addr} {k : Nat} {xs ys : Array Value} {x y a b u : Value} {f : Bool} {Q : Value → Shared → Prop} (D : ZipApart z TI TO i1 i2 l1 l2) (hu : ZU u)
    (hz : ZI s.heap z TI TO u f) (hTI : IsPair s.heap TI (.ref i1) (.ref i2)) (hTO : IsPair s.heap TO a b) (p1 : SqIt κ₁ s.heap i1 l1 k) (p2 : SqIt κ₂ s.heap i2 l2 k) (q1 : SqOb κ₁ s.heap l1 xs) (q2 : SqOb κ₂ s.heap l2 ys)
    (hx : xs[k]? = some x) (hy : ys[k]? = some y) (hQ : ∀ h', ZAftG κ₁ κ₂ s.heap h' z TI TO i1 i2 l1 l2 k x y → Q (.ref s.heap.objs.size) { s with heap := h' }) :
    wpAny (model prog w) A (Builtin.«zip.__next__» ⟨[.ref z], []⟩) (fun fin s' => ∃ v, fin = .done (.ret v) ∧ Q v s') E s := by
  show wpAny _ _ (field (.ref z) 2 >>= _) _ _ _
  refine wpAny_bind (wpAny_field hz rfl (x := .bool false) rfl ?_)
  show wpAny _ _ (field (.ref z) 3 >>= _) _ _ _
  refine wpAny_bind (wpAny_field hz rfl (x := .ref TI) rfl ?_)
  refine wpAny_bind (wpAny_seqItems hTI rfl ?_)
  show wpAny _ _ (Builtin.SmallTypes.ownedTupleIsFree (.ref z) >>= _) _ _ _
  refine wpAny_bind (zi_free hu hz ?_ fun g0 f0 z0 b0 => ?_)
  · simp only [if_true]
    refine wpAny_bind (wpAny_rule ?_)
    refine wpAny_bind (wpAny_field hz rfl (x := .ref TO) rfl ?_)
    refine wpAny_bind (wpAny_setField_rec hz (by simp) fun g1 z1 b1 => ?_)
    have z1 : ZI g1 z TI TO .ellipsis f := z1
    refine wpAny_bind ?_
    simp only [List.zipIdx_cons, List.zipIdx_nil, List.forIn_cons, List.forIn_nil]
    refine wpAny_bind (wpAny_bind (wpAny_onRaise ?_))
    show wpAny _ _ (Builtin.SmallTypes.nextOf (.ref i1) >>= _) _ _ _
    refine wpAny_bind (nextOf_sq_item (p1.extBut b1.extBut D.i1z) (q1.extBut b1.extBut D.l1z) hx fun g2 p1b b2 => wpAny_pure ?_)
    have t2 : IsPair g2 TO a b := b2.extBut _ _ D.TOi1 (b1.extBut _ _ D.TOz hTO)
    refine wpAny_bind (wpAny_seqItems t2 rfl ?_)
    refine wpAny_bind (wpAny_updateSeq_pair t2 fun g3 t3 b3 => ?_)
    have t3 : IsPair g3 TO x b := t3
    refine wpAny_bind (wpAny_letGo (wpAny_pure ?_))
    refine wpAny_bind (wpAny_bind (wpAny_onRaise ?_))
    show wpAny _ _ (Builtin.SmallTypes.nextOf (.ref i2) >>= _) _ _ _
    refine wpAny_bind (nextOf_sq_item (((p2.extBut b1.extBut D.i2z).extBut b2.extBut D.i12.symm).extBut b3.extBut D.TOi2.symm) (((q2.extBut b1.extBut D.l2z).extBut b2.extBut D.l2i1).extBut b3.extBut D.l2TO) hy fun g4 p2b b4 => wpAny_pure ?_)
    have t4 : IsPair g4 TO x b := b4.extBut _ _ D.TOi2 t3
    refine wpAny_bind (wpAny_seqItems t4 rfl ?_)
    refine wpAny_bind (wpAny_updateSeq_pair t4 fun g5 t5 b5 => ?_)
    have t5 : IsPair g5 TO x y := t5
    refine wpAny_bind (wpAny_letGo (wpAny_pure (wpAny_pure ?_)))
    refine wpAny_bind (wpAny_seqItems t5 rfl ?_)
    refine wpAny_bind (wpAny_newTuple ?_)
    have hsz : g5.objs.size = s.heap.objs.size := by rw [b5.1, b4.1, b3.1, b2.1, b1.1]
    have z5 : ZI g5 z TI TO .ellipsis f := b5.extBut _ _ D.TOz.symm (b4.extBut _ _ D.i2z.symm (b3.extBut _ _ D.TOz.symm (b2.extBut _ _ D.i1z.symm z1)))
    have k5 : ∀ c o, c ≠ z → c ≠ TO → c ≠ i1 → c ≠ i2 → s.heap.get? c = some o → g5.get? c = some o := fun c o c1 c2 c3 c4 e =>
      b5.extBut _ _ c2 (b4.extBut _ _ c4 (b3.extBut _ _ c2 (b2.extBut _ _ c3 (b1.extBut _ _ c1 e))))
    have w1 : SqIt κ₁ g5 i1 l1 (k + 1) := ((p1b.extBut b3.extBut D.TOi1.symm).extBut b4.extBut D.i12).extBut b5.extBut D.TOi1.symm
    have w2 : SqIt κ₂ g5 i2 l2 (k + 1) := p2b.extBut b5.extBut D.TOi2.symm
    have zlt : z < g5.objs.size := Heap.lt_size z5
    show wpAny _ _ (Builtin.SmallTypes.ownedTupleHandOut (.ref z) (.ref g5.objs.size) >>= _) _ _ _
    refine wpAny_bind ?_
    unfold Builtin.SmallTypes.ownedTupleHandOut
    have z6 : ZI (g5.push { cls := .type "tuple", data := .seq #[x, y] }) z TI TO .ellipsis f := Heap.get?_push_of_some _ z5
    refine wpAny_bind (wpAny_setField_rec z6 (by simp) fun g7 z7 b7 => ?_)
    have z7 : ZI g7 z TI TO (rawInt g5.objs.size) f := z7
    refine wpAny_setField_rec z7 (by simp) fun g8 z8 b8 => ?_
    have z8 : ZI g8 z TI TO (rawInt g5.objs.size) false := z8
    have up : ∀ c o, c ≠ z → g5.get? c = some o → g8.get? c = some o := fun c o c1 e => b8.extBut _ _ c1 (b7.extBut _ _ c1 (Heap.get?_push_of_some _ e))
    have pr : IsPair g8 g5.objs.size x y := b8.extBut _ _ (Nat.ne_of_gt zlt) (b7.extBut _ _ (Nat.ne_of_gt zlt) (Heap.get?_push_size _ rfl))
    have s8 : g8.objs.size = g5.objs.size + 1 := by rw [b8.1, b7.1, Heap.size_push]
    rw [hsz] at z8 pr s8
    refine wpAny_pure ⟨_, rfl, ?_⟩
    show Q (.ref g5.objs.size) _
    rw [hsz]
    exact hQ g8 ⟨⟨_, _, .inr ⟨_, rfl⟩, z8⟩, ⟨_, _, up _ _ D.TOz t5⟩, w1.at fun o e => up _ o D.i1z e, w2.at fun o e => up _ o D.i2z e, pr, s8, fun c o c1 c2 c3 c4 e => up c o c1 (k5 c o c1 c2 c3 c4 e)⟩
  · simp only [Bool.false_eq_true, if_false]
    refine wpAny_bind ?_
    rw [← Array.forIn_toList]
    simp only [List.forIn_cons, List.forIn_nil]
    refine wpAny_bind (wpAny_bind (wpAny_holding ?_))
    show wpAny _ _ (Builtin.SmallTypes.nextOf (.ref i1) >>= _) _ _ _
    refine wpAny_bind (nextOf_sq_item (s := { s with heap := g0 }) (p1.extBut b0.extBut D.i1z) (q1.extBut b0.extBut D.l1z) hx fun g1 p1b b1 => wpAny_pure ?_)
    refine wpAny_pure ?_
    refine wpAny_bind (wpAny_bind (wpAny_holding ?_))
    show wpAny _ _ (Builtin.SmallTypes.nextOf (.ref i2) >>= _) _ _ _
    refine wpAny_bind (nextOf_sq_item (s := { s with heap := g1 }) ((p2.extBut b0.extBut D.i2z).extBut b1.extBut D.i12.symm) ((q2.extBut b0.extBut D.l2z).extBut b1.extBut D.l2i1) hy fun g2 p2b b2 => wpAny_pure ?_)
    refine wpAny_pure (wpAny_pure ?_)
    show wpAny _ _ (newTuple [x, y] >>= _) _ _ _
    refine wpAny_bind (wpAny_newTuple ?_)
    have hsz : g2.objs.size = s.heap.objs.size := by rw [b2.1, b1.1, b0.1]
    have up : ∀ c o, g2.get? c = some o → (g2.push { cls := .type "tuple", data := .seq #[x, y] }).get? c = some o := fun c o e => Heap.get?_push_of_some _ e
    have kk : ∀ c o, c ≠ z → c ≠ i1 → c ≠ i2 → s.heap.get? c = some o → g2.get? c = some o := fun c o c1 c2 c3 e => b2.extBut _ _ c3 (b1.extBut _ _ c2 (b0.extBut _ _ c1 e))
    have pr : IsPair (g2.push { cls := .type "tuple", data := .seq #[x, y] }) g2.objs.size x y := Heap.get?_push_size _ rfl
    have s3 : (g2.push { cls := .type "tuple", data := .seq #[x, y] }).objs.size = g2.objs.size + 1 := Heap.size_push ..
    refine wpAny_pure ⟨_, rfl, ?_⟩
    show Q (.ref g2.objs.size) _
    rw [hsz] at pr s3 ⊢
    exact hQ _ ⟨⟨u, f0, hu, up _ _ (b2.extBut _ _ D.i2z.symm (b1.extBut _ _ D.i1z.symm z0))⟩, ⟨a, b, up _ _ (kk _ _ D.TOz D.TOi1 D.TOi2 hTO)⟩, (p1b.extBut b2.extBut D.i12).at fun o e => up _ _ e, p2b.at fun o e => up _ _ e, pr, s3, fun c o c1 _ c3 c4 e => up _ _ (kk c o c1 c3 c4 e)⟩
theorem zi_endG {z TI TO i1 i2 l1 l2 : Addr} {k : Nat} {xs ys : Array Value} {a b u : Value} {f : Bool} {Q : PySem.Fin → Shared → Prop} (hh : A.handled = none) (D : ZipApart z TI TO i1 i2 l1 l2) (hu : ZU u)
    (hz : ZI s.heap z TI TO u f) (hTI : IsPair s.heap TI (.ref i1) (.ref i2)) (hTO : IsPair s.heap TO a b) (p1 : SqIt κ₁ s.heap i1 l1 k) (p2 : SqIt κ₂ s.heap i2 l2 k) (q1 : SqOb κ₁ s.heap l1 xs) (q2 : SqOb κ₂ s.heap l2 ys)
    (hend : xs[k]? = none ∨ ys[k]? = none)
    (hE : ∀ h' e, (∀ c o, c ≠ z → c ≠ TO → c ≠ i1 → c ≠ i2 → s.heap.get? c = some o → h'.get? c = some o) → (∃ o, h'.get? e = some o ∧ o.cls = .type "StopIteration") → E (.ref e) { s with heap := h' }) :
    wpAny (model prog w) A (Builtin.«zip.__next__» ⟨[.ref z], []⟩) Q E s := by
  show wpAny _ _ (field (.ref z) 2 >>= _) _ _ _
  refine wpAny_bind (wpAny_field hz rfl (x := .bool false) rfl ?_)
  show wpAny _ _ (field (.ref z) 3 >>= _) _ _ _
  refine wpAny_bind (wpAny_field hz rfl (x := .ref TI) rfl ?_)
  refine wpAny_bind (wpAny_seqItems hTI rfl ?_)
  show wpAny _ _ (Builtin.SmallTypes.ownedTupleIsFree (.ref z) >>= _) _ _ _
  refine wpAny_bind (zi_free hu hz ?_ fun g0 f0 z0 b0 => ?_)
  · simp only [if_true]
    refine wpAny_bind (wpAny_rule ?_)
    refine wpAny_bind (wpAny_field hz rfl (x := .ref TO) rfl ?_)
    refine wpAny_bind (wpAny_setField_rec hz (by simp) fun g1 z1 b1 => ?_)
    have z1 : ZI g1 z TI TO .ellipsis f := z1
    refine wpAny_bind ?_
    simp only [List.zipIdx_cons, List.zipIdx_nil, List.forIn_cons, List.forIn_nil]
    refine wpAny_bind (wpAny_bind (wpAny_onRaise ?_))
    show wpAny _ _ (Builtin.SmallTypes.nextOf (.ref i1) >>= _) _ _ _
    cases hx : xs[k]? with
    | none =>
      refine wpAny_bind (nextOf_sq_end hh (p1.extBut b1.extBut D.i1z) (q1.extBut b1.extBut D.l1z) hx fun g2 e b2 he => ?_)
      obtain ⟨oe, hoe, hce⟩ := he
      have z2 : ZI g2 z TI TO .ellipsis f := b2 _ _ D.i1z.symm z1
      have hez : e ≠ z := fun q => by subst q; rw [z2] at hoe; cases hoe; simp at hce
      exact wpAny_setField_rec z2 (by simp) fun g3 _ b3 => hE g3 e (fun c o c1 _ c3 _ q => b3.extBut _ _ c1 (b2 _ _ c3 (b1.extBut _ _ c1 q))) ⟨oe, b3.extBut _ _ hez hoe, hce⟩
    | some x =>
      have hy : ys[k]? = none := by
        rcases hend with q | q
        · rw [hx] at q; cases q
        · exact q
      refine wpAny_bind (nextOf_sq_item (p1.extBut b1.extBut D.i1z) (q1.extBut b1.extBut D.l1z) hx fun g2 p1b b2 => wpAny_pure ?_)
      have t2 : IsPair g2 TO a b := b2.extBut _ _ D.TOi1 (b1.extBut _ _ D.TOz hTO)
      refine wpAny_bind (wpAny_seqItems t2 rfl ?_)
      refine wpAny_bind (wpAny_updateSeq_pair t2 fun g3 t3 b3 => ?_)
      refine wpAny_bind (wpAny_letGo (wpAny_pure ?_))
      refine wpAny_bind (wpAny_bind (wpAny_onRaise ?_))
      show wpAny _ _ (Builtin.SmallTypes.nextOf (.ref i2) >>= _) _ _ _
      refine wpAny_bind (nextOf_sq_end hh (((p2.extBut b1.extBut D.i2z).extBut b2.extBut D.i12.symm).extBut b3.extBut D.TOi2.symm) (((q2.extBut b1.extBut D.l2z).extBut b2.extBut D.l2i1).extBut b3.extBut D.l2TO) hy fun g4 e b4 he => ?_)
      obtain ⟨oe, hoe, hce⟩ := he
      have z4 : ZI g4 z TI TO .ellipsis f := b4 _ _ D.i2z.symm (b3.extBut _ _ D.TOz.symm (b2.extBut _ _ D.i1z.symm z1))
      have hez : e ≠ z := fun q => by subst q; rw [z4] at hoe; cases hoe; simp at hce
      exact wpAny_setField_rec z4 (by simp) fun g5 _ b5 => hE g5 e (fun c o c1 c2 c3 c4 q => b5.extBut _ _ c1 (b4 _ _ c4 (b3.extBut _ _ c2 (b2.extBut _ _ c3 (b1.extBut _ _ c1 q))))) ⟨oe, b5.extBut _ _ hez hoe, hce⟩
  · simp only [Bool.false_eq_true, if_false]
    refine wpAny_bind ?_
    rw [← Array.forIn_toList]
    simp only [List.forIn_cons, List.forIn_nil]
    refine wpAny_bind (wpAny_bind (wpAny_holding ?_))
    show wpAny _ _ (Builtin.SmallTypes.nextOf (.ref i1) >>= _) _ _ _
    cases hx : xs[k]? with
    | none =>
      refine wpAny_bind (nextOf_sq_end (s := { s with heap := g0 }) hh (p1.extBut b0.extBut D.i1z) (q1.extBut b0.extBut D.l1z) hx fun g2 e b2 he => ?_)
      exact hE g2 e (fun c o c1 _ c3 _ q => b2 _ _ c3 (b0.extBut _ _ c1 q)) he
    | some x =>
      have hy : ys[k]? = none := by
        rcases hend with q | q
        · rw [hx] at q; cases q
        · exact q
      refine wpAny_bind (nextOf_sq_item (s := { s with heap := g0 }) (p1.extBut b0.extBut D.i1z) (q1.extBut b0.extBut D.l1z) hx fun g2 p1b b2 => wpAny_pure ?_)
      refine wpAny_pure ?_
      refine wpAny_bind (wpAny_bind (wpAny_holding ?_))
      show wpAny _ _ (Builtin.SmallTypes.nextOf (.ref i2) >>= _) _ _ _
      refine wpAny_bind (nextOf_sq_end (s := { s with heap := g2 }) hh ((p2.extBut b0.extBut D.i2z).extBut b2.extBut D.i12.symm) ((q2.extBut b0.extBut D.l2z).extBut b2.extBut D.l2i1) hy fun g3 e b3 he => ?_)
      exact hE g3 e (fun c o c1 _ c3 c4 q => b3 _ _ c4 (b2.extBut _ _ c3 (b0.extBut _ _ c1 q))) he

theorem next_itemG {z TI TO i1 i2 l1 l2 : Addr} {k : Nat} {xs ys : Array Value} {x y a b u : Value} {f : Bool} {Q : Option Value → Shared → Prop} (D : ZipApart z TI TO i1 i2 l1 l2) (hu : ZU u)
    (hz : ZI s.heap z TI TO u f) (hTI : IsPair s.heap TI (.ref i1) (.ref i2)) (hTO : IsPair s.heap TO a b) (p1 : SqIt κ₁ s.heap i1 l1 k) (p2 : SqIt κ₂ s.heap i2 l2 k) (q1 : SqOb κ₁ s.heap l1 xs) (q2 : SqOb κ₂ s.heap l2 ys)
    (hx : xs[k]? = some x) (hy : ys[k]? = some y) (hQ : ∀ h', ZAftG κ₁ κ₂ s.heap h' z TI TO i1 i2 l1 l2 k x y → Q (some (.ref s.heap.objs.size)) { s with heap := h' }) :
    wpAny (model prog w) A (pyNext (.ref z)) Q E s := by
  have ty : s.TypeIs (.ref z) "zip" := ⟨_, hz, rfl⟩
  unfold pyNext
  exact wpAny_bind (wpAny_attempt (wpAny_callSpecial?_slot (name := Str.ofString "__next__") ty F.slot_zip_next (wpAny_call_entry F.slot_zip_next ty F.entry_zip_next
    (zi_itemG D hu hz hTI hTO p1 p2 q1 q2 hx hy fun h' z' => wpAny_pure (hQ h' z')) (F.args_zip_next_1 _))))
theorem next_endG {z TI TO i1 i2 l1 l2 : Addr} {k : Nat} {xs ys : Array Value} {a b u : Value} {f : Bool} {Q : Option Value → Shared → Prop} (hh : A.handled = none) (D : ZipApart z TI TO i1 i2 l1 l2) (hu : ZU u)
    (hz : ZI s.heap z TI TO u f) (hTI : IsPair s.heap TI (.ref i1) (.ref i2)) (hTO : IsPair s.heap TO a b) (p1 : SqIt κ₁ s.heap i1 l1 k) (p2 : SqIt κ₂ s.heap i2 l2 k) (q1 : SqOb κ₁ s.heap l1 xs) (q2 : SqOb κ₂ s.heap l2 ys)
    (hend : xs[k]? = none ∨ ys[k]? = none) (hQ : ∀ h', (∀ c o, c ≠ z → c ≠ TO → c ≠ i1 → c ≠ i2 → s.heap.get? c = some o → h'.get? c = some o) → Q none { s with heap := h' }) :
    wpAny (model prog w) A (pyNext (.ref z)) Q E s := by
  have ty : s.TypeIs (.ref z) "zip" := ⟨_, hz, rfl⟩
  unfold pyNext
  refine wpAny_bind (wpAny_attempt (wpAny_callSpecial?_slot (name := Str.ofString "__next__") ty F.slot_zip_next (wpAny_call_entry F.slot_zip_next ty F.entry_zip_next
    (zi_endG hh D hu hz hTI hTO p1 p2 q1 q2 hend fun h' e hk he => ?_) (F.args_zip_next_1 _))))
  obtain ⟨o, ho, hc⟩ := he
  refine wpAny_bind (wpAny_isInstance (T := "StopIteration") (b := true) ⟨o, ho, hc⟩ isSubtype_stop ?_)
  exact wpAny_pure (hQ _ hk)
end
end Sb
end
section
set_option Elab.async false
set_option linter.all false
set_option maxRecDepth 100000
set_option maxHeartbeats 4000000
/-! list(zip(xs, ys)), tuple(zip(xs, ys)): each a list or a tuple. -/
namespace Sb
open PySem PySem.Spec PyProof.Rows L2
/-- where a zip stands behind k pairs, all of them kept -/
structure ZStG (κ₁ κ₂ : Bool) (h0 h : Heap) (z TI TO i1 i2 l1 l2 S : Addr) (xs ys : Array Value) (k : Nat) (acc : Array Value) : Prop where
  le : h0.objs.size ≤ h.objs.size
  fr : ∀ c o, c ≠ S → c ≠ z → c ≠ TO → c ≠ i1 → c ≠ i2 → h0.get? c = some o → h.get? c = some o
  zip : ∃ u f, ZU u ∧ ZI h z TI TO u f
  to_ : ∃ a b, IsPair h TO a b
  ti : IsPair h TI (.ref i1) (.ref i2)
  p1 : SqIt κ₁ h i1 l1 k
  p2 : SqIt κ₂ h i2 l2 k
  q1 : SqOb κ₁ h l1 xs
  q2 : SqOb κ₂ h l2 ys
  lst : ∃ ep, h.get? S = some { cls := .type "list", data := .seq acc ep }
  len : acc.size = k
  els : ∀ j, j < k → ∃ T x y, acc[j]? = some (.ref T) ∧ h0.objs.size ≤ T ∧ xs[j]? = some x ∧ ys[j]? = some y ∧ IsPair h T x y
  dis : ∀ i j T, i < j → j < k → acc[i]? = some (.ref T) → acc[j]? = some (.ref T) → False
theorem zip_loopG {κ₁ κ₂ : Bool} {prog : Program} {w : World} {A : Around} {R : Result → Shared → Prop} {z TI TO i1 i2 l1 l2 S : Addr} {xs ys : Array Value} {h0 : Heap} {g0 : Array GenState} {d0 : Drawn} {os0 : OsState} {res : Value} (hA : A.handled = none) (ap : ZipApart z TI TO i1 i2 l1 l2)
    (hS : S ≠ z ∧ S ≠ TI ∧ S ≠ TO ∧ S ≠ i1 ∧ S ≠ i2 ∧ S ≠ l1 ∧ S ≠ l2) (hlt : z < h0.objs.size ∧ S < h0.objs.size ∧ TO < h0.objs.size ∧ i1 < h0.objs.size ∧ i2 < h0.objs.size) (hn : xs.size ≤ sizeLine)
    (fin : ∀ (h : Heap) (tk : Nat) (acc : Array Value), (∃ ep, h.get? S = some { cls := .type "list", data := .seq acc ep }) → acc.size = min xs.size ys.size → (∀ c o, c ≠ S → c ≠ z → c ≠ TO → c ≠ i1 → c ≠ i2 → h0.get? c = some o → h.get? c = some o) →
      (∀ j, j < acc.size → ∃ T x y, acc[j]? = some (.ref T) ∧ h0.objs.size ≤ T ∧ xs[j]? = some x ∧ ys[j]? = some y ∧ IsPair h T x y) → (∀ i j T, i < j → j < acc.size → acc[i]? = some (.ref T) → acc[j]? = some (.ref T) → False) → R (.ok (.ret res)) { heap := h, gens := g0, drawn := d0, toks := tk, os := os0 }) :
    ∀ (m k : Nat) (h : Heap) (tk : Nat) (acc : Array Value), min xs.size ys.size - k = m → k ≤ min xs.size ys.size → ZStG κ₁ κ₂ h0 h z TI TO i1 i2 l1 l2 S xs ys k acc →
      codeAny (model prog w) A (Code.builtin "list.extend.loop" { pos := [.ref S, .ref z, res] }) R { heap := h, gens := g0, drawn := d0, toks := tk, os := os0 }
  | 0, k, h, tk, acc, hm, hk, st => by
    have ek : k = min xs.size ys.size := by omega
    refine codeAny_builtin F.entry_extend_loop ?_
    obtain ⟨ep, hl⟩ := st.lst
    have none_ : xs[k]? = none ∨ ys[k]? = none := by
      by_cases q : xs.size ≤ ys.size
      · exact .inl (Array.getElem?_eq_none (by omega))
      · exact .inr (Array.getElem?_eq_none (by omega))
    have last : ∀ h' : Heap, (∀ c o, c ≠ z → c ≠ TO → c ≠ i1 → c ≠ i2 → h.get? c = some o → h'.get? c = some o) → R (.ok (.ret res)) { heap := h', gens := g0, drawn := d0, toks := tk, os := os0 } := fun h' kp => by
      refine fin h' tk acc ⟨ep, kp S _ hS.1 hS.2.2.1 hS.2.2.2.1 hS.2.2.2.2.1 hl⟩ (by rw [st.len, ek]) (fun c o h1 h2 h3 h4 h5 e => kp c o h2 h3 h4 h5 (st.fr c o h1 h2 h3 h4 h5 e)) (fun j hj => ?_) (fun i j T a b => st.dis i j T a (by rw [← st.len]; exact b))
      obtain ⟨T, x, y, a1, a2, a3, a4, a5⟩ := st.els j (by rw [← st.len]; exact hj)
      exact ⟨T, x, y, a1, a2, a3, a4, kp T _ (Nat.ne_of_gt (Nat.lt_of_lt_of_le hlt.1 a2)) (Nat.ne_of_gt (Nat.lt_of_lt_of_le hlt.2.2.1 a2)) (Nat.ne_of_gt (Nat.lt_of_lt_of_le hlt.2.2.2.1 a2)) (Nat.ne_of_gt (Nat.lt_of_lt_of_le hlt.2.2.2.2 a2)) a5⟩
    obtain ⟨u, f, hu, iz⟩ := st.zip
    obtain ⟨a, b, ito⟩ := st.to_
    exact wpAny_bind (next_endG hA ap hu iz st.ti ito st.p1 st.p2 st.q1 st.q2 none_ fun h' kp => wpAny_pure (last h' kp))
  | m + 1, k, h, tk, acc, hm, hk, st => by
    have hk1 : k < xs.size := by omega
    have hk2 : k < ys.size := by omega
    have gx : xs[k]? = some xs[k] := Array.getElem?_eq_getElem hk1
    have gy : ys[k]? = some ys[k] := Array.getElem?_eq_getElem hk2
    refine codeAny_builtin F.entry_extend_loop ?_
    obtain ⟨ep, hl⟩ := st.lst
    have hSlt : S < h.objs.size := Heap.lt_size hl
    -- behind a pair
    have next : ∀ h' : Heap, ZAftG κ₁ κ₂ h h' z TI TO i1 i2 l1 l2 k xs[k] ys[k] →
        ZStG κ₁ κ₂ h0 (h'.update S (Obj.mapSeq fun x => x.push (.ref h.objs.size))) z TI TO i1 i2 l1 l2 S xs ys (k + 1) (acc.push (.ref h.objs.size)) := fun h' za => by
      have hti : IsPair h' TI (.ref i1) (.ref i2) := za.kp TI _ ap.TIz ap.TITO ap.TIi1 ap.TIi2 st.ti
      have hp1 := za.p1
      have hp2 := za.p2
      have hpr := za.pr
      have hsz := za.sz
      have kp := za.kp
      have eS := kp S _ hS.1 hS.2.2.1 hS.2.2.2.1 hS.2.2.2.2.1 hl
      have oth : ∀ c, c ≠ S → (h'.update S (Obj.mapSeq fun x => x.push (.ref h.objs.size))).get? c = h'.get? c := fun c hc => Heap.get?_update_ne _ _ _ _ hc
      have ltT : ∀ {c : Addr}, c < h0.objs.size → h.objs.size ≠ c := fun hc => Nat.ne_of_gt (Nat.lt_of_lt_of_le hc st.le)
      refine ⟨by rw [Heap.size_update, hsz]; have := st.le; omega, fun c o c0 c1 c2 c3 c4 e => by rw [oth c c0]; exact kp c o c1 c2 c3 c4 (st.fr c o c0 c1 c2 c3 c4 e), ?_, ?_, ?_, ?_, ?_, ?_, ?_, ?_, by rw [Array.size_push, st.len], fun j hj => ?_, fun i j T a b e1 e2 => ?_⟩
      · obtain ⟨u, f, hu, hz⟩ := za.zip
        exact ⟨u, f, hu, by show Heap.get? _ z = _; rw [oth z (Ne.symm hS.1)]; exact hz⟩
      · obtain ⟨a, b, hto⟩ := za.to_
        exact ⟨a, b, by unfold IsPair; rw [oth TO (Ne.symm hS.2.2.1)]; exact hto⟩
      · unfold IsPair
        rw [oth TI (Ne.symm hS.2.1)]; exact hti
      · exact hp1.at fun o e => by rw [oth i1 (Ne.symm hS.2.2.2.1)]; exact e
      · exact hp2.at fun o e => by rw [oth i2 (Ne.symm hS.2.2.2.2.1)]; exact e
      · exact st.q1.at fun o e => by rw [oth l1 (Ne.symm hS.2.2.2.2.2.1)]; exact kp l1 _ ap.l1z ap.l1TO ap.l1i1 ap.l1i2 e
      · exact st.q2.at fun o e => by rw [oth l2 (Ne.symm hS.2.2.2.2.2.2)]; exact kp l2 _ ap.l2z ap.l2TO ap.l2i1 ap.l2i2 e
      · exact ⟨_, Heap.get?_update_self _ eS rfl⟩
      · by_cases q : j < k
        · obtain ⟨T, x, y, a1, a2, a3, a4, a5⟩ := st.els j q
          refine ⟨T, x, y, ?_, a2, a3, a4, ?_⟩
          · rw [Array.getElem?_push_lt (by rw [st.len]; exact q)]
            rw [Array.getElem?_eq_getElem (by rw [st.len]; exact q)] at a1
            exact a1
          · unfold IsPair
            rw [oth T (Nat.ne_of_gt (Nat.lt_of_lt_of_le hlt.2.1 a2))]
            exact kp T _ (Nat.ne_of_gt (Nat.lt_of_lt_of_le hlt.1 a2)) (Nat.ne_of_gt (Nat.lt_of_lt_of_le hlt.2.2.1 a2)) (Nat.ne_of_gt (Nat.lt_of_lt_of_le hlt.2.2.2.1 a2)) (Nat.ne_of_gt (Nat.lt_of_lt_of_le hlt.2.2.2.2 a2)) a5
        · have : j = k := by omega
          subst this
          refine ⟨h.objs.size, _, _, ?_, st.le, gx, gy, ?_⟩
          · rw [← st.len, Array.getElem?_push_size]
          · unfold IsPair
            rw [oth _ (ltT hlt.2.1)]; exact hpr
      · rw [Array.getElem?_push_lt (by rw [st.len]; omega), ← Array.getElem?_eq_getElem (by rw [st.len]; omega)] at e1
        by_cases q : j < k
        · rw [Array.getElem?_push_lt (by rw [st.len]; exact q), ← Array.getElem?_eq_getElem (by rw [st.len]; exact q)] at e2
          exact st.dis i j T a q e1 e2
        · have : j = k := by omega
          subst this
          rw [← st.len, Array.getElem?_push_size] at e2
          have e2 := Option.some.inj e2
          injection e2 with e2
          obtain ⟨T', x, y, a1, a2, a3, a4, a5⟩ := st.els i a
          rw [e1] at a1
          have a1 := Option.some.inj a1
          injection a1 with a1
          rw [← a1, ← e2] at a5
          exact absurd (Heap.lt_size a5) (Nat.lt_irrefl _)
    have up : ∀ h' : Heap, (∀ c o, c ≠ z → c ≠ TO → c ≠ i1 → c ≠ i2 → h.get? c = some o → h'.get? c = some o) → h'.get? S = some { cls := .type "list", data := .seq acc ep } := fun h' kp => kp S _ hS.1 hS.2.2.1 hS.2.2.2.1 hS.2.2.2.2.1 hl
    obtain ⟨u, f, hu, iz⟩ := st.zip
    obtain ⟨a, b, ito⟩ := st.to_
    refine wpAny_bind (next_itemG ap hu iz st.ti ito st.p1 st.p2 st.q1 st.q2 gx gy fun h' za => ?_)
    refine wpAny_bind (listUpdate_at (up h' za.kp) rfl ?_ (by rw [st.len]; omega) (by rw [Array.size_push, st.len]; omega))
    refine wpAny_pure ⟨by kernel_rfl, ?_⟩
    exact zip_loopG hA ap hS hlt hn fin m (k + 1) _ tk _ (by omega) (by omega) (next h' za)
/-- the start of a zip, an empty list beside it -/
structure Z0G (κ₁ κ₂ : Bool) (h : Heap) (z TI TO i1 i2 l1 l2 S : Addr) (xs ys : Array Value) : Prop where
  zip : IsZip h z TI TO .none
  to_ : ∃ a b, IsPair h TO a b
  ti : IsPair h TI (.ref i1) (.ref i2)
  p1 : SqIt κ₁ h i1 l1 0
  p2 : SqIt κ₂ h i2 l2 0
  q1 : SqOb κ₁ h l1 xs
  q2 : SqOb κ₂ h l2 ys
  lst : ∃ ep, h.get? S = some { cls := .type "list", data := .seq #[] ep }
theorem Z0G.st {κ₁ κ₂ : Bool} {h0 h : Heap} {z TI TO i1 i2 l1 l2 S : Addr} {xs ys : Array Value} (st : Z0G κ₁ κ₂ h0 z TI TO i1 i2 l1 l2 S xs ys) (hS : S ≠ z ∧ S ≠ TI ∧ S ≠ TO ∧ S ≠ i1 ∧ S ≠ i2 ∧ S ≠ l1 ∧ S ≠ l2) (sz : h.objs.size = h0.objs.size) (oth : ∀ c, c ≠ S → h.get? c = h0.get? c) (at_ : ∃ ep, h.get? S = some { cls := .type "list", data := .seq #[] ep }) : ZStG κ₁ κ₂ h0 h z TI TO i1 i2 l1 l2 S xs ys 0 #[] := by
  obtain ⟨a, b, hto⟩ := st.to_
  refine ⟨by omega, fun c o c0 _ _ _ _ e => by rw [oth c c0]; exact e, ⟨.none, false, .inl rfl, ?_⟩, ⟨a, b, ?_⟩, ?_, ?_, ?_, ?_, ?_, at_, rfl, fun j hj => absurd hj (Nat.not_lt_zero _), fun _ j _ _ hj => absurd hj (Nat.not_lt_zero _)⟩
  · show Heap.get? _ z = _; rw [oth z (Ne.symm hS.1)]; exact st.zip
  · unfold IsPair; rw [oth TO (Ne.symm hS.2.2.1)]; exact hto
  · unfold IsPair; rw [oth TI (Ne.symm hS.2.1)]; exact st.ti
  · exact st.p1.at fun o e => by rw [oth i1 (Ne.symm hS.2.2.2.1)]; exact e
  · exact st.p2.at fun o e => by rw [oth i2 (Ne.symm hS.2.2.2.2.1)]; exact e
  · exact st.q1.at fun o e => by rw [oth l1 (Ne.symm hS.2.2.2.2.2.1)]; exact e
  · exact st.q2.at fun o e => by rw [oth l2 (Ne.symm hS.2.2.2.2.2.2)]; exact e
theorem zip_extG {κ₁ κ₂ : Bool} {prog : Program} {w : World} {A : Around} {R : Result → Shared → Prop} {z TI TO i1 i2 l1 l2 S : Addr} {xs ys : Array Value} {h0 : Heap} {g0 : Array GenState} {d0 : Drawn} {os0 : OsState} {tk : Nat} {res : Value} (hA : A.handled = none) (ap : ZipApart z TI TO i1 i2 l1 l2)
    (hS : S ≠ z ∧ S ≠ TI ∧ S ≠ TO ∧ S ≠ i1 ∧ S ≠ i2 ∧ S ≠ l1 ∧ S ≠ l2) (hlt : z < h0.objs.size ∧ S < h0.objs.size ∧ TO < h0.objs.size ∧ i1 < h0.objs.size ∧ i2 < h0.objs.size) (hn : xs.size ≤ sizeLine) (st : Z0G κ₁ κ₂ h0 z TI TO i1 i2 l1 l2 S xs ys)
    (fin : ∀ (h : Heap) (tk : Nat) (acc : Array Value), (∃ ep, h.get? S = some { cls := .type "list", data := .seq acc ep }) → acc.size = min xs.size ys.size → (∀ c o, c ≠ S → c ≠ z → c ≠ TO → c ≠ i1 → c ≠ i2 → h0.get? c = some o → h.get? c = some o) →
      (∀ j, j < acc.size → ∃ T x y, acc[j]? = some (.ref T) ∧ h0.objs.size ≤ T ∧ xs[j]? = some x ∧ ys[j]? = some y ∧ IsPair h T x y) → (∀ i j T, i < j → j < acc.size → acc[i]? = some (.ref T) → acc[j]? = some (.ref T) → False) → R (.ok (.ret res)) { heap := h, gens := g0, drawn := d0, toks := tk, os := os0 }) :
    wpAny (model prog w) A.in1 (Builtin.List.listExtendWith (.ref S) (.ref z) res)
      (fun fin s' => match fin with
        | PySem.Fin.done f => R (.ok f) s'
        | PySem.Fin.again c' => c'.quiet = true ∧ codeAny (model prog w) A c' R s')
      (fun e s' => R (.error e) s') { heap := h0, gens := g0, drawn := d0, toks := tk, os := os0 } := by
  obtain ⟨ep, e1⟩ := st.lst
  have ez : h0.get? z = _ := st.zip
  unfold Builtin.List.listExtendWith
  refine wpAny_bind (wpAny_typeOf_ref ez ?_)
  have ne : (Builtin.List.listSameRef (.ref S) (.ref z) || (Value.type "zip") == Value.type "list" || (Value.type "zip") == Value.type "tuple") = false := by
    have : (S == z) = false := by simpa using hS.1
    show ((S == z) || _ || _) = false
    rw [this]; rfl
  simp only [ne, Bool.false_eq_true, if_false]
  refine wpAny_bind (wpAny_pyIter_zip ez ?_)
  refine wpAny_bind (wpAny_holding (zip_hint ⟨_, ez, rfl⟩ ?_))
  simp only [Bool.true_or, if_true]
  refine wpAny_bind (wpAny_rule ?_)
  unfold Builtin.List.listTouch
  refine wpAny_bind (wpAny_bind (listUpdate_at e1 rfl ?_ (by simp) (by simp)))
  have e2 : (h0.update S (Obj.mapSeq fun x => x.push .none)).get? S = some { cls := .type "list", data := .seq #[.none] (ep + 1) } := Heap.get?_update_self _ e1 rfl
  refine listUpdate_at e2 rfl ?_ (by simp [sizeLine_eq]) (by simp)
  refine wpAny_pure ⟨by kernel_rfl, ?_⟩
  refine zip_loopG hA ap hS hlt hn fin _ 0 _ tk #[] rfl (Nat.zero_le _) (st.st hS ?_ (fun c hc => ?_) ⟨_, Heap.get?_update_self _ e2 rfl⟩)
  · rw [Heap.size_update, Heap.size_update]
  · rw [Heap.get?_update_ne _ _ _ _ hc, Heap.get?_update_ne _ _ _ _ hc]
section
variable {κ₁ κ₂ : Bool} {prog : Program} {w : World} {A : Around} {E : Value → Shared → Prop} {s : Shared} {z TI TO i1 i2 l1 l2 : Addr} {xs ys : Array Value}
theorem collect_zipG {Q : List Value → Shared → Prop} (hA : A.handled = none) (ap : ZipApart z TI TO i1 i2 l1 l2) (hn : xs.size ≤ sizeLine)
    (iz : IsZip s.heap z TI TO .none) (ito : ∃ a b, IsPair s.heap TO a b) (iti : IsPair s.heap TI (.ref i1) (.ref i2)) (p1 : SqIt κ₁ s.heap i1 l1 0) (p2 : SqIt κ₂ s.heap i2 l2 0) (q1 : SqOb κ₁ s.heap l1 xs) (q2 : SqOb κ₂ s.heap l2 ys)
    (hQ : ∀ (h : Heap) (tk : Nat) (acc : Array Value), ZEnd s z TO i1 i2 xs ys h acc → Q acc.toList { s with heap := h, toks := tk }) :
    wpAny (model prog w) A (collect (.ref z)) Q E s := by
  have lz : z < s.heap.objs.size := Heap.lt_size iz
  have lTI : TI < s.heap.objs.size := Heap.lt_size iti
  have lTO : TO < s.heap.objs.size := by obtain ⟨a, b, h⟩ := ito; exact Heap.lt_size h
  have li1 : i1 < s.heap.objs.size := p1.lt
  have li2 : i2 < s.heap.objs.size := p2.lt
  have ll1 : l1 < s.heap.objs.size := q1.lt
  have ll2 : l2 < s.heap.objs.size := q2.lt
  let h0 : Heap := s.heap.push { cls := .type "list", data := .seq ([] : List Value).toArray }
  have kp : ∀ c o, s.heap.get? c = some o → h0.get? c = some o := fun c o e => Heap.get?_push_of_some _ e
  have sz : h0.objs.size = s.heap.objs.size + 1 := Heap.size_push ..
  have eS : h0.get? s.heap.objs.size = some { cls := .type "list", data := .seq #[] } := Heap.get?_push_size _ rfl
  have st : Z0G κ₁ κ₂ h0 z TI TO i1 i2 l1 l2 s.heap.objs.size xs ys := by
    obtain ⟨a, b, hto⟩ := ito
    refine ⟨kp _ _ iz, ⟨a, b, kp _ _ hto⟩, kp _ _ iti, ?_, ?_, ?_, ?_, ⟨_, eS⟩⟩
    · exact p1.at fun o e => kp _ _ e
    · exact p2.at fun o e => kp _ _ e
    · exact q1.at fun o e => kp _ _ e
    · exact q2.at fun o e => kp _ _ e
  unfold collect
  refine wpAny_bind (wpAny_runValue (codeAny_builtin PySem.F.entry_proto_collect ?_))
  rw [Around.under_plainId PySem.F.plain_proto_collect _]
  show wpAny _ A.in1 (newList [] >>= fun l => again (.builtin "list.__iadd__" ⟨[l, .ref z], []⟩)) _ _ s
  refine wpAny_bind (wpAny_newObj_type ?_)
  refine wpAny_pure ⟨plainId_quiet PySem.F.plain_list_iadd _, codeAny_builtin PySem.F.entry_list_iadd ?_⟩
  rw [Around.under_plainId PySem.F.plain_list_iadd _]
  show wpAny _ A.in1 (Builtin.List.listExtendWith (.ref s.heap.objs.size) (.ref z) (.ref s.heap.objs.size)) _ _ _
  have lt1 : ∀ {a : Addr}, a < s.heap.objs.size → a < h0.objs.size := fun h => by rw [sz]; exact Nat.lt_succ_of_lt h
  refine wpAny_mono (zip_extG (A := A) (R := fun rr s' => rr = .ok (.ret (.ref s.heap.objs.size)) ∧ ∃ (h : Heap) (tk : Nat) (acc : Array Value) (ep : Nat), s' = { s with heap := h, toks := tk } ∧ h.get? s.heap.objs.size = some { cls := .type "list", data := .seq acc ep } ∧ ZEnd s z TO i1 i2 xs ys h acc) (g0 := s.gens) (d0 := s.drawn) (os0 := s.os) (tk := s.toks) (h0 := h0) hA ap
    ⟨Nat.ne_of_gt lz, Nat.ne_of_gt lTI, Nat.ne_of_gt lTO, Nat.ne_of_gt li1, Nat.ne_of_gt li2, Nat.ne_of_gt ll1, Nat.ne_of_gt ll2⟩ ⟨lt1 lz, by rw [sz]; exact Nat.lt_succ_self _, lt1 lTO, lt1 li1, lt1 li2⟩ hn st fun h tk acc hl hs hf he hdi => ?_) (fun fin s' h => ?_) (fun e s' h => ?_)
  · obtain ⟨ep, hl⟩ := hl
    refine ⟨rfl, h, tk, acc, ep, rfl, hl, hs, fun c o c1 c2 c3 c4 e => hf c o (Nat.ne_of_lt (Heap.lt_size e)) c1 c2 c3 c4 (kp c o e), fun j hj => ?_, hdi⟩
    obtain ⟨T, x, y, a1, a2, a3, a4, a5⟩ := he j hj
    exact ⟨T, x, y, a1, Nat.lt_of_lt_of_le (by rw [sz]; exact Nat.lt_succ_self _) a2, a3, a4, a5⟩
  · cases fin with
    | done f =>
      obtain ⟨e, h', tk, acc, ep, rfl, hl, ze⟩ := h
      cases e
      show wpAny _ A (load s.heap.objs.size >>= _) _ _ _
      exact wpAny_bind (wpAny_load hl (wpAny_pure (hQ h' tk acc ze)))
    | again c' =>
      refine ⟨h.1, codeAny_mono h.2 fun rr s'' hr' => ?_⟩
      obtain ⟨rfl, h', tk, acc, ep, rfl, hl, ze⟩ := hr'
      show wpAny _ A (load s.heap.objs.size >>= _) _ _ _
      exact wpAny_bind (wpAny_load hl (wpAny_pure (hQ h' tk acc ze)))
  · exact absurd h.1 (by simp)
theorem code_tuple_zipG {Q₁ : Value → Shared → Prop} (hA : A.handled = none) (ap : ZipApart z TI TO i1 i2 l1 l2) (hn : xs.size ≤ sizeLine)
    (iz : IsZip s.heap z TI TO .none) (ito : ∃ a b, IsPair s.heap TO a b) (iti : IsPair s.heap TI (.ref i1) (.ref i2)) (p1 : SqIt κ₁ s.heap i1 l1 0) (p2 : SqIt κ₂ s.heap i2 l2 0) (q1 : SqOb κ₁ s.heap l1 xs) (q2 : SqOb κ₂ s.heap l2 ys)
    (hQ : ∀ (h : Heap) (tk : Nat) (acc : Array Value), ZEnd s z TO i1 i2 xs ys h acc → Q₁ (.ref h.objs.size) { s with heap := h.push { cls := .type "tuple", data := .seq acc }, toks := tk }) :
    codeAny (model prog w) A (.call (.builtin "tuple.__new__") ⟨[.type "tuple", .ref z], []⟩) (wants Q₁ E) s := by
  refine codeAny_of_tree ?_
  show wpAny _ A.in1 (do checkBuiltinCall "tuple.__new__" ⟨[.type "tuple", .ref z], []⟩; again (.builtin "tuple.__new__" ⟨[.type "tuple", .ref z], []⟩)) _ _ s
  refine wpAny_bind (wpAny_of_eq (PySem.F.newCall_tuple_1 _) (wpAny_pure ⟨plainId_quiet PySem.F.plain_tuple_new _, codeAny_builtin PySem.F.entry_tuple_new ?_⟩))
  rw [Around.under_plainId PySem.F.plain_tuple_new _]
  have hsub := sub_tuple_self
  have hinit := init_tuple_lookup
  have hmh := madeHere_tuple
  have hTI : s.TypeIs (.ref z) "zip" := ⟨_, iz, rfl⟩
  have hh1 : A.in1.handled = none := hA
  wp_walk using wpAny_typeOf hTI, collect_zipG (A := A.in1) hh1 ap hn iz ito iti p1 p2 q1 q2
  intro h' tk acc ze
  show wpAny _ _ (Builtin.Tuple.tupleExact acc.toList.toArray >>= fun v => ret v) _ _ _
  unfold Builtin.Tuple.tupleExact
  have e : acc.toList.toArray = acc := by simp
  refine wpAny_bind (wpAny_newObj_type ?_ (by rw [e]; show acc.size ≤ sizeLine; rw [ze.size]; exact Nat.le_trans (Nat.min_le_left _ _) hn))
  refine wpAny_pure ?_
  rw [e]
  exact hQ h' tk acc ze
theorem call_tuple_zipG {Q : Value → Shared → Prop} (hA : A.handled = none) (ap : ZipApart z TI TO i1 i2 l1 l2) (hn : xs.size ≤ sizeLine)
    (iz : IsZip s.heap z TI TO .none) (ito : ∃ a b, IsPair s.heap TO a b) (iti : IsPair s.heap TI (.ref i1) (.ref i2)) (p1 : SqIt κ₁ s.heap i1 l1 0) (p2 : SqIt κ₂ s.heap i2 l2 0) (q1 : SqOb κ₁ s.heap l1 xs) (q2 : SqOb κ₂ s.heap l2 ys)
    (hQ : ∀ (h : Heap) (tk : Nat) (acc : Array Value), ZEnd s z TO i1 i2 xs ys h acc → Q (.ref h.objs.size) { s with heap := h.push { cls := .type "tuple", data := .seq acc }, toks := tk }) :
    wpAny (model prog w) A (call (.type "tuple") [.ref z]) Q E s := by
  refine callType_codes (Q₁ := fun obj s₁ => s₁.TypeIs obj "tuple" ∧ Q obj s₁) PySem.F.called_tuple (PySem.F.typeCall_tuple_1 _) PySem.F.entry_object_init
    (code_tuple_zipG (A := A.in1) hA ap hn iz ito iti p1 p2 q1 q2 fun h' tk acc ze => ⟨⟨_, Heap.get?_push_size _ rfl, rfl⟩, hQ h' tk acc ze⟩) fun obj s₁ h₁ => ?_
  exact ⟨h₁.1, PySem.F.args_object_init_2 obj _, object_init_meets PySem.F.called_tuple.init.lookup PySem.F.called_tuple.made (by decide) prog w A.in1 _ s₁ ⟨h₁.1, rfl, h₁.2⟩⟩
end
theorem zip_initG {κ₁ κ₂ : Bool} {prog : Program} {w : World} {A : Around} {R : Result → Shared → Prop} {z TI TO i1 i2 l1 l2 S : Addr} {xs ys : Array Value} {h0 : Heap} {g0 : Array GenState} {d0 : Drawn} {os0 : OsState} {tk : Nat} (hA : A.handled = none) (ap : ZipApart z TI TO i1 i2 l1 l2)
    (hS : S ≠ z ∧ S ≠ TI ∧ S ≠ TO ∧ S ≠ i1 ∧ S ≠ i2 ∧ S ≠ l1 ∧ S ≠ l2) (hlt : z < h0.objs.size ∧ S < h0.objs.size ∧ TO < h0.objs.size ∧ i1 < h0.objs.size ∧ i2 < h0.objs.size) (hn : xs.size ≤ sizeLine) (st : Z0G κ₁ κ₂ h0 z TI TO i1 i2 l1 l2 S xs ys)
    (fin : ∀ (h : Heap) (tk : Nat) (acc : Array Value), (∃ ep, h.get? S = some { cls := .type "list", data := .seq acc ep }) → acc.size = min xs.size ys.size → (∀ c o, c ≠ S → c ≠ z → c ≠ TO → c ≠ i1 → c ≠ i2 → h0.get? c = some o → h.get? c = some o) →
      (∀ j, j < acc.size → ∃ T x y, acc[j]? = some (.ref T) ∧ h0.objs.size ≤ T ∧ xs[j]? = some x ∧ ys[j]? = some y ∧ IsPair h T x y) → (∀ i j T, i < j → j < acc.size → acc[i]? = some (.ref T) → acc[j]? = some (.ref T) → False) → R (.ok (.ret .none)) { heap := h, gens := g0, drawn := d0, toks := tk, os := os0 }) :
    wpAny (model prog w) A.in1 (Builtin.«list.__init__» { pos := [.ref S, .ref z] })
      (fun fin s' => match fin with
        | PySem.Fin.done f => R (.ok f) s'
        | PySem.Fin.again c' => c'.quiet = true ∧ codeAny (model prog w) A c' R s')
      (fun e s' => R (.error e) s') { heap := h0, gens := g0, drawn := d0, toks := tk, os := os0 } := by
  obtain ⟨ep, hl⟩ := st.lst
  unfold Builtin.«list.__init__»
  refine wpAny_bind (wpAny_listItems hl rfl ?_)
  refine wpAny_bind (listUpdate_at hl rfl ?_ (by simp) (by simp))
  refine wpAny_bind (wpAny_pure ?_)
  have e1 : (h0.update S (Obj.mapSeq fun _ => #[])).get? S = some { cls := .type "list", data := .seq #[] ep } := Heap.get?_update_self _ hl rfl
  have oth1 : ∀ c, c ≠ S → (h0.update S (Obj.mapSeq fun _ => #[])).get? c = h0.get? c := fun c hc => Heap.get?_update_ne _ _ _ _ hc
  have ez : (h0.update S (Obj.mapSeq fun _ => #[])).get? z = _ := (oth1 z (Ne.symm hS.1)).trans st.zip
  show wpAny _ _ (Builtin.List.listExtendWith (.ref S) (.ref z) .none) _ _ _
  unfold Builtin.List.listExtendWith
  refine wpAny_bind (wpAny_typeOf_ref ez ?_)
  have ne : (Builtin.List.listSameRef (.ref S) (.ref z) || (Value.type "zip") == Value.type "list" || (Value.type "zip") == Value.type "tuple") = false := by
    have : (S == z) = false := by simpa using hS.1
    show ((S == z) || _ || _) = false
    rw [this]; rfl
  simp only [ne, Bool.false_eq_true, if_false]
  refine wpAny_bind (wpAny_pyIter_zip ez ?_)
  refine wpAny_bind (wpAny_holding (zip_hint ⟨_, ez, rfl⟩ ?_))
  simp only [Bool.true_or, if_true]
  refine wpAny_bind (wpAny_rule ?_)
  unfold Builtin.List.listTouch
  refine wpAny_bind (wpAny_bind (listUpdate_at e1 rfl ?_ (by simp) (by simp)))
  have e2 : ((h0.update S (Obj.mapSeq fun _ => #[])).update S (Obj.mapSeq fun x => x.push .none)).get? S = some { cls := .type "list", data := .seq #[.none] (ep + 1) } := Heap.get?_update_self _ e1 rfl
  refine listUpdate_at e2 rfl ?_ (by simp [sizeLine_eq]) (by simp)
  refine wpAny_pure ⟨by kernel_rfl, ?_⟩
  refine zip_loopG hA ap hS hlt hn fin _ 0 _ tk #[] rfl (Nat.zero_le _) (st.st hS ?_ (fun c hc => ?_) ⟨_, Heap.get?_update_self _ e2 rfl⟩)
  · rw [Heap.size_update, Heap.size_update, Heap.size_update]
  · rw [Heap.get?_update_ne _ _ _ _ hc, Heap.get?_update_ne _ _ _ _ hc, oth1 c hc]
theorem call_list_zipG {κ₁ κ₂ : Bool} {prog : Program} {w : World} {A : Around} {E : Value → Shared → Prop} {s : Shared} {Q : Value → Shared → Prop} {z TI TO i1 i2 l1 l2 : Addr} {xs ys : Array Value} (hA : A.handled = none) (ap : ZipApart z TI TO i1 i2 l1 l2) (hn : xs.size ≤ sizeLine)
    (iz : IsZip s.heap z TI TO .none) (ito : ∃ a b, IsPair s.heap TO a b) (iti : IsPair s.heap TI (.ref i1) (.ref i2)) (p1 : SqIt κ₁ s.heap i1 l1 0) (p2 : SqIt κ₂ s.heap i2 l2 0) (q1 : SqOb κ₁ s.heap l1 xs) (q2 : SqOb κ₂ s.heap l2 ys)
    (fin : ∀ (h : Heap) (tk : Nat) (acc : Array Value), (∃ ep, h.get? s.heap.objs.size = some { cls := .type "list", data := .seq acc ep }) → acc.size = min xs.size ys.size → (∀ c o, c ≠ z → c ≠ TO → c ≠ i1 → c ≠ i2 → s.heap.get? c = some o → h.get? c = some o) →
      (∀ j, j < acc.size → ∃ T x y, acc[j]? = some (.ref T) ∧ s.heap.objs.size < T ∧ xs[j]? = some x ∧ ys[j]? = some y ∧ IsPair h T x y) → (∀ i j T, i < j → j < acc.size → acc[i]? = some (.ref T) → acc[j]? = some (.ref T) → False) → Q (.ref s.heap.objs.size) { s with heap := h, toks := tk }) :
    wpAny (model prog w) A (call (.type "list") [.ref z]) Q E s := by
  have lz : z < s.heap.objs.size := Heap.lt_size iz
  have lTI : TI < s.heap.objs.size := Heap.lt_size iti
  have lTO : TO < s.heap.objs.size := by obtain ⟨a, b, h⟩ := ito; exact Heap.lt_size h
  have li1 : i1 < s.heap.objs.size := p1.lt
  have li2 : i2 < s.heap.objs.size := p2.lt
  have ll1 : l1 < s.heap.objs.size := q1.lt
  have ll2 : l2 < s.heap.objs.size := q2.lt
  let h0 : Heap := s.heap.push { cls := .type "list", data := .seq #[] }
  have kp : ∀ c o, s.heap.get? c = some o → h0.get? c = some o := fun c o e => Heap.get?_push_of_some _ e
  have sz : h0.objs.size = s.heap.objs.size + 1 := Heap.size_push ..
  have eS : h0.get? s.heap.objs.size = some { cls := .type "list", data := .seq #[] } := Heap.get?_push_size _ rfl
  refine callType_codes (Q₁ := fun v s1 => v = .ref s.heap.objs.size ∧ s1 = { s with heap := h0 }) F.called_list (F.typeCall_list_1 _) F.entry_list_init (code_list_new (.ref z) ⟨rfl, rfl⟩) ?_
  rintro obj s1 ⟨rfl, rfl⟩
  refine ⟨⟨_, eS, rfl⟩, F.args_list_init_2 _ _, ?_⟩
  have st : Z0G κ₁ κ₂ h0 z TI TO i1 i2 l1 l2 s.heap.objs.size xs ys := by
    obtain ⟨a, b, hto⟩ := ito
    refine ⟨kp _ _ iz, ⟨a, b, kp _ _ hto⟩, kp _ _ iti, ?_, ?_, ?_, ?_, ⟨_, eS⟩⟩
    · exact p1.at fun o e => kp _ _ e
    · exact p2.at fun o e => kp _ _ e
    · exact q1.at fun o e => kp _ _ e
    · exact q2.at fun o e => kp _ _ e
  refine zip_initG (A := A.in1) hA ap ⟨Nat.ne_of_gt lz, Nat.ne_of_gt lTI, Nat.ne_of_gt lTO, Nat.ne_of_gt li1, Nat.ne_of_gt li2, Nat.ne_of_gt ll1, Nat.ne_of_gt ll2⟩ ⟨?_, ?_, ?_, ?_, ?_⟩ hn st fun h tk acc hl hs hf he hdi => ?_
  · rw [sz]; exact Nat.lt_succ_of_lt lz
  · rw [sz]; exact Nat.lt_succ_self _
  · rw [sz]; exact Nat.lt_succ_of_lt lTO
  · rw [sz]; exact Nat.lt_succ_of_lt li1
  · rw [sz]; exact Nat.lt_succ_of_lt li2
  · refine ⟨rfl, fin h tk acc hl hs (fun c o c1 c2 c3 c4 e => hf c o (Nat.ne_of_lt (Heap.lt_size e)) c1 c2 c3 c4 (kp c o e)) (fun j hj => ?_) hdi⟩
    obtain ⟨T, x, y, a1, a2, a3, a4, a5⟩ := he j hj
    exact ⟨T, x, y, a1, Nat.lt_of_lt_of_le (by rw [sz]; exact Nat.lt_succ_self _) a2, a3, a4, a5⟩
def SqG (κ : Bool) (K : PySem.W.Frag) (H : Hp) (a : Addr) (xs : List V) : Prop := if κ = true then SqT K H a xs else SqL K H a xs
theorem sqG_ob {κ : Bool} {X : Cx} {pins : List (Addr × Obj)} {σ : L2.St} {H : Hp} {s : Shared} {a : Addr} {xs : List V} (I : L2.Inv X pins σ H s) (h : SqG κ X.K H a xs) : ∃ ia, Vals xs ia ∧ SqOb κ s.heap a ia.toArray ∧ xs.length ≤ sizeLine := by
  cases κ with
  | true =>
    obtain ⟨ia, va, la, za⟩ := I.tuple (show SqT X.K H a xs from h)
    exact ⟨ia, va, (show s.heap.IsTuple a ia.toArray from la), za⟩
  | false =>
    obtain ⟨ia, va, la, za⟩ := I.list (show SqL X.K H a xs from h)
    exact ⟨ia, va, la.isList, za⟩
def tTZG (K : PySem.W.Frag) (ta : TA) : TE := fun σ H Q => ta σ H fun vs H1 => ∃ κ₁ κ₂ a b xs ys, vs = [V.ref a, V.ref b] ∧ SqG κ₁ K H1 a xs ∧ SqG κ₂ K H1 b ys ∧
  ∀ (ps : List (Addr × V × V)) (H2 : Hp) (l : Addr), (ps.map fun p => (p.2.1, p.2.2)) = xs.zip ys → AddP H1 ps H2 → H2 l = none → Q (.ref l) (upd H2 l (.tup (ps.map fun p => V.ref p.1)))
theorem pe_tuplezipG {X : Cx} {e1 e2 : Expr} {ta : TA} {p1 p2 pos1 pos2 : Pos} (hex : X.ex = []) (hc : X.calm = true) (hgl : Gl X "tuple") (hml : X.mg "tuple" = none) (hgz : Gl X "zip") (hmz : X.mg "zip" = none) (ha : PA X [e1, e2] ta)
    (hs : starEach [e1, e2] X.env = (false, eval e1 X.env) :: starEach [e2] X.env := by rfl) (hs2 : ((backTo pos2 (starEach [e2] X.env)).any fun x => x.fst) = false := by rfl)
    (hs3 : starEach [.Call (.Name "zip" p2) [e1, e2] [] pos2] X.env = (false, eval (.Call (.Name "zip" p2) [e1, e2] [] pos2) X.env) :: starEach [] X.env := by rfl) :
    PE X (.Call (.Name "tuple" p1) [.Call (.Name "zip" p2) [e1, e2] [] pos2] [] pos1) (tTZG X.K ta) := by
  refine ⟨fun pins s σ H Q I hh => ?_⟩
  refine Call_ (ld_blt I hgl hml boot_tuple (PyProof.Rows.callWith_type1 (spliced_more ?_ hs3) hs3 rfl))
  refine Call_ (ld_blt I hgz hmz boot_zip (PyProof.Rows.callWith_type1 (thn (ha.run pos2 pins s σ H _ I hh) fun us s1 ⟨vs, H1, I1, r1, q1⟩ => ?_) hs hs2))
  obtain ⟨κ₁, κ₂, a, b, xs, ys, ev, hqa, hqb, q⟩ := q1
  subst ev
  cases r1 with
  | cons ra rr =>
    cases rr with
    | cons rb rn =>
      cases rn
      cases ra
      cases rb
      obtain ⟨ia, va, la, za⟩ := sqG_ob I1 hqa
      obtain ⟨ib, vb, lb, zb⟩ := sqG_ob I1 hqb
      have lta : a < s1.heap.objs.size := la.lt
      have ltb : b < s1.heap.objs.size := lb.lt
      refine call_zipG la lb fun h' iz iti ito pi1 pi2 hsz kp => ?_
      refine spliced_none ?_
      generalize hsn : s1.heap.objs.size = m at *
      have lm : ∀ {c : Addr} {o : Obj}, s1.heap.get? c = some o → c < m := fun e => hsn ▸ Heap.lt_size e
      have N : ∀ {x y : Nat}, x < y → (x : Addr) ≠ y := fun h => Nat.ne_of_lt h
      have N' : ∀ {x y : Nat}, y < x → (x : Addr) ≠ y := fun h => Nat.ne_of_gt h
      have lta' : (a : Nat) < m := lta
      have ltb' : (b : Nat) < m := ltb
      have ap : ZipApart (m + 4) (m + 2) (m + 3) m (m + 1) a b :=
        ⟨N (by omega), N (by omega), N (by omega), N (by omega), N (by omega), N' (by omega), N' (by omega), N' (by omega), N' (by omega), N (by omega),
          N (Nat.lt_add_right _ lta'), N (Nat.lt_add_right _ lta'), N lta', N (Nat.lt_add_right _ lta'), N (Nat.lt_add_right _ ltb'), N (Nat.lt_add_right _ ltb'), N ltb', N (Nat.lt_add_right _ ltb')⟩
      have ka : SqOb κ₁ h' a ia.toArray := la.at fun o e => kp _ _ e
      have kb : SqOb κ₂ h' b ib.toArray := lb.at fun o e => kp _ _ e
      have lena : ia.length = xs.length := va.length.symm
      have lenb : ib.length = ys.length := vb.length.symm
      refine call_tuple_zipG (I1.ok.hd hc) ap (by simp; omega) iz ⟨_, _, ito⟩ iti pi1 pi2 ka kb fun h tk acc ze => ?_
      have hsz2 := ze.size
      have hf := ze.keep
      have he := ze.els
      have hdi := ze.dis
      have keep : ∀ (c : Addr) (o : Obj), s1.heap.get? c = some o → h.get? c = some o := fun c o e => by
        have := lm e
        exact hf c o (N (Nat.lt_add_right _ this)) (N (Nat.lt_add_right _ this)) (N this) (N (Nat.lt_add_right _ this)) (kp c o e)
      have I2 : L2.Inv X pins σ H1 { s1 with heap := h, toks := tk } := I1.kept (t' := tk) keep
      have fresh : ∀ c : Addr, m ≤ c → FpOk X pins H1 c ∧ X.s_0.heap.get? c = none := fun c hcm => by
        have hcm' : s1.heap.objs.size ≤ c := by rw [hsn]; exact hcm
        refine ⟨I1.fpOk hcm' (I1.hok.fresh hcm'), ?_⟩
        cases q0 : X.s_0.heap.get? c with
        | none => rfl
        | some o =>
          obtain ⟨o', e'⟩ := I1.base.there c o q0 (by rw [hex]; simp)
          exact absurd (Heap.lt_size e') (Nat.not_lt.mpr hcm')
      let n : Nat := min xs.length ys.length
      have hn : acc.size = n := by rw [hsz2]; simp [n, lena, lenb]
      let tt : Nat → Addr := fun j => match acc[j]? with
        | some (.ref t) => t
        | _ => 0
      let ps : List (Addr × V × V) := (List.range n).map fun j => (tt j, xs.getD j .non, ys.getD j .non)
      have hat : ∀ j, j < n → ∃ u1 u2, acc[j]? = some (.ref (tt j)) ∧ h'.objs.size < tt j ∧ IsPair h (tt j) u1 u2 ∧ L2.RelV (xs.getD j .non) u1 ∧ L2.RelV (ys.getD j .non) u2 := fun j hj => by
        obtain ⟨t, x, y, a1, a2, a3, a4, a5⟩ := he j (by omega)
        have et : tt j = t := by simp only [tt, a1]
        have hjx : j < xs.length := by omega
        have hjy : j < ys.length := by omega
        obtain ⟨u1, hu1, r1⟩ := va.get (List.getElem?_eq_getElem hjx)
        obtain ⟨u2, hu2, r2⟩ := vb.get (List.getElem?_eq_getElem hjy)
        have e1 : x = u1 := by rw [List.getElem?_toArray, hu1] at a3; exact (Option.some.inj a3).symm
        have e2 : y = u2 := by rw [List.getElem?_toArray, hu2] at a4; exact (Option.some.inj a4).symm
        refine ⟨x, y, by rw [et]; exact a1, by rw [et]; exact a2, by rw [et]; exact a5, ?_, ?_⟩
        · rw [List.getD_eq_getElem?_getD, List.getElem?_eq_getElem hjx, e1]; exact r1
        · rw [List.getD_eq_getElem?_getD, List.getElem?_eq_getElem hjy, e2]; exact r2
      have nd : (ps.map (·.1)).Nodup := by
        rw [List.map_map]
        rw [List.nodup_iff_pairwise_ne, List.pairwise_map]
        refine List.Pairwise.imp_of_mem (R := fun i j => i < j) (fun {i j} hi hj hij z => ?_) (List.pairwise_lt_range)
        obtain ⟨_, _, a1, _⟩ := hat i (List.mem_range.mp hi)
        obtain ⟨_, _, b1, _⟩ := hat j (List.mem_range.mp hj)
        have z' : tt i = tt j := z
        rw [z'] at a1
        exact hdi i j (tt j) hij (by have := List.mem_range.mp hj; omega) a1 b1
      have hle : m ≤ h'.objs.size := by rw [hsz]; exact Nat.le_add_right _ _
      obtain ⟨H2, ad, I3, oth⟩ := inv_adds hex ps I2 (fun p hp => by
        obtain ⟨j, hj, rfl⟩ := List.mem_map.mp hp
        obtain ⟨u1, u2, b1, b2, b3, b4, b5⟩ := hat j (List.mem_range.mp hj)
        obtain ⟨f1, f2⟩ := fresh (tt j) (Nat.le_of_lt (Nat.lt_of_le_of_lt hle b2))
        exact ⟨f1, f2, u1, u2, b3, b4, b5⟩) nd
      have len_ps : ps.length = n := by simp [ps]
      have hz : (ps.map fun p => (p.2.1, p.2.2)) = xs.zip ys := by
        rw [List.map_map]
        refine List.ext_getElem (by simp [n]) fun j h1 h2 => ?_
        rw [List.length_zip] at h2
        have hjx : j < xs.length := by omega
        have hjy : j < ys.length := by omega
        simp only [List.getElem_map, List.getElem_range, Function.comp, List.getElem_zip, List.getD_eq_getElem?_getD, List.getElem?_eq_getElem hjx, List.getElem?_eq_getElem hjy, Option.getD_some]
      have vals : Vals (ps.map fun p => V.ref p.1) acc.toList := by
        refine paired_of (by rw [List.length_map, len_ps, Array.length_toList, hn]) fun j x y h1 h2 => ?_
        have hj : j < n := by
          have := (List.getElem?_eq_some_iff.mp h1).1
          rw [List.length_map, len_ps] at this
          exact this
        obtain ⟨_, _, b1, _⟩ := hat j hj
        rw [Array.getElem?_toList, b1] at h2
        cases h2
        rw [List.map_map, List.getElem?_map, List.getElem?_range hj] at h1
        cases h1
        rfl
      have hHS : H2 h.objs.size = none := I3.hok.fresh (Nat.le_refl _)
      have I4 : L2.Inv X pins σ (upd H2 h.objs.size (.tup (ps.map fun p => V.ref p.1))) { s1 with heap := h.push { cls := .type "tuple", data := .seq acc }, toks := tk } :=
        I3.laid (t' := tk) (fun b o e => Heap.get?_push_of_some _ e) (Nat.le_refl _) (show ObjOk X.prog X.w _ _ _ (.tup (ps.map fun p => V.ref p.1)) from ⟨by rw [List.length_map, len_ps]; omega, acc.toList, vals, by
          have := IsTup.new h acc
          simpa using this⟩)
      exact ⟨.ref h.objs.size, _, I4, rfl, q ps H2 _ hz ad hHS⟩
def tLZG (K : PySem.W.Frag) (ta : TA) : TE := fun σ H Q => ta σ H fun vs H1 => ∃ κ₁ κ₂ a b xs ys, vs = [V.ref a, V.ref b] ∧ SqG κ₁ K H1 a xs ∧ SqG κ₂ K H1 b ys ∧
  ∀ (ps : List (Addr × V × V)) (H2 : Hp) (l : Addr), (ps.map fun p => (p.2.1, p.2.2)) = xs.zip ys → AddP H1 ps H2 → H2 l = none → Q (.ref l) (upd H2 l (.lst (ps.map fun p => V.ref p.1)))
theorem pe_listzipG {X : Cx} {e1 e2 : Expr} {ta : TA} {p1 p2 pos1 pos2 : Pos} (hex : X.ex = []) (hc : X.calm = true) (hgl : Gl X "list") (hml : X.mg "list" = none) (hgz : Gl X "zip") (hmz : X.mg "zip" = none) (ha : PA X [e1, e2] ta)
    (hs : starEach [e1, e2] X.env = (false, eval e1 X.env) :: starEach [e2] X.env := by rfl) (hs2 : ((backTo pos2 (starEach [e2] X.env)).any fun x => x.fst) = false := by rfl)
    (hs3 : starEach [.Call (.Name "zip" p2) [e1, e2] [] pos2] X.env = (false, eval (.Call (.Name "zip" p2) [e1, e2] [] pos2) X.env) :: starEach [] X.env := by rfl) :
    PE X (.Call (.Name "list" p1) [.Call (.Name "zip" p2) [e1, e2] [] pos2] [] pos1) (tLZG X.K ta) := by
  refine ⟨fun pins s σ H Q I hh => ?_⟩
  refine Call_ (ld_blt I hgl hml boot_list (PyProof.Rows.callWith_type1 (spliced_more ?_ hs3) hs3 rfl))
  refine Call_ (ld_blt I hgz hmz boot_zip (PyProof.Rows.callWith_type1 (thn (ha.run pos2 pins s σ H _ I hh) fun us s1 ⟨vs, H1, I1, r1, q1⟩ => ?_) hs hs2))
  obtain ⟨κ₁, κ₂, a, b, xs, ys, ev, hqa, hqb, q⟩ := q1
  subst ev
  cases r1 with
  | cons ra rr =>
    cases rr with
    | cons rb rn =>
      cases rn
      cases ra
      cases rb
      obtain ⟨ia, va, la, za⟩ := sqG_ob I1 hqa
      obtain ⟨ib, vb, lb, zb⟩ := sqG_ob I1 hqb
      have lta : a < s1.heap.objs.size := la.lt
      have ltb : b < s1.heap.objs.size := lb.lt
      refine call_zipG la lb fun h' iz iti ito pi1 pi2 hsz kp => ?_
      refine spliced_none ?_
      generalize hsn : s1.heap.objs.size = m at *
      have lm : ∀ {c : Addr} {o : Obj}, s1.heap.get? c = some o → c < m := fun e => hsn ▸ Heap.lt_size e
      have N : ∀ {x y : Nat}, x < y → (x : Addr) ≠ y := fun h => Nat.ne_of_lt h
      have N' : ∀ {x y : Nat}, y < x → (x : Addr) ≠ y := fun h => Nat.ne_of_gt h
      have lta' : (a : Nat) < m := lta
      have ltb' : (b : Nat) < m := ltb
      have ap : ZipApart (m + 4) (m + 2) (m + 3) m (m + 1) a b :=
        ⟨N (by omega), N (by omega), N (by omega), N (by omega), N (by omega), N' (by omega), N' (by omega), N' (by omega), N' (by omega), N (by omega),
          N (Nat.lt_add_right _ lta'), N (Nat.lt_add_right _ lta'), N lta', N (Nat.lt_add_right _ lta'), N (Nat.lt_add_right _ ltb'), N (Nat.lt_add_right _ ltb'), N ltb', N (Nat.lt_add_right _ ltb')⟩
      have ka : SqOb κ₁ h' a ia.toArray := la.at fun o e => kp _ _ e
      have kb : SqOb κ₂ h' b ib.toArray := lb.at fun o e => kp _ _ e
      have lena : ia.length = xs.length := va.length.symm
      have lenb : ib.length = ys.length := vb.length.symm
      refine call_list_zipG (I1.ok.hd hc) ap (by simp; omega) iz ⟨_, _, ito⟩ iti pi1 pi2 ka kb fun h tk acc hl hsz2 hf he hdi => ?_
      have keep : ∀ (c : Addr) (o : Obj), s1.heap.get? c = some o → h.get? c = some o := fun c o e => by
        have := lm e
        exact hf c o (N (Nat.lt_add_right _ this)) (N (Nat.lt_add_right _ this)) (N this) (N (Nat.lt_add_right _ this)) (kp c o e)
      have I2 : L2.Inv X pins σ H1 { s1 with heap := h, toks := tk } := I1.kept (t' := tk) keep
      have fresh : ∀ c : Addr, m ≤ c → FpOk X pins H1 c ∧ X.s_0.heap.get? c = none := fun c hcm => by
        have hcm' : s1.heap.objs.size ≤ c := by rw [hsn]; exact hcm
        refine ⟨I1.fpOk hcm' (I1.hok.fresh hcm'), ?_⟩
        cases q0 : X.s_0.heap.get? c with
        | none => rfl
        | some o =>
          obtain ⟨o', e'⟩ := I1.base.there c o q0 (by rw [hex]; simp)
          exact absurd (Heap.lt_size e') (Nat.not_lt.mpr hcm')
      let n : Nat := min xs.length ys.length
      have hn : acc.size = n := by rw [hsz2]; simp [n, lena, lenb]
      let tt : Nat → Addr := fun j => match acc[j]? with
        | some (.ref t) => t
        | _ => 0
      let ps : List (Addr × V × V) := (List.range n).map fun j => (tt j, xs.getD j .non, ys.getD j .non)
      have hat : ∀ j, j < n → ∃ u1 u2, acc[j]? = some (.ref (tt j)) ∧ h'.objs.size < tt j ∧ IsPair h (tt j) u1 u2 ∧ L2.RelV (xs.getD j .non) u1 ∧ L2.RelV (ys.getD j .non) u2 := fun j hj => by
        obtain ⟨t, x, y, a1, a2, a3, a4, a5⟩ := he j (by omega)
        have et : tt j = t := by simp only [tt, a1]
        have hjx : j < xs.length := by omega
        have hjy : j < ys.length := by omega
        obtain ⟨u1, hu1, r1⟩ := va.get (List.getElem?_eq_getElem hjx)
        obtain ⟨u2, hu2, r2⟩ := vb.get (List.getElem?_eq_getElem hjy)
        have e1 : x = u1 := by rw [List.getElem?_toArray, hu1] at a3; exact (Option.some.inj a3).symm
        have e2 : y = u2 := by rw [List.getElem?_toArray, hu2] at a4; exact (Option.some.inj a4).symm
        refine ⟨x, y, by rw [et]; exact a1, by rw [et]; exact a2, by rw [et]; exact a5, ?_, ?_⟩
        · rw [List.getD_eq_getElem?_getD, List.getElem?_eq_getElem hjx, e1]; exact r1
        · rw [List.getD_eq_getElem?_getD, List.getElem?_eq_getElem hjy, e2]; exact r2
      have nd : (ps.map (·.1)).Nodup := by
        rw [List.map_map]
        rw [List.nodup_iff_pairwise_ne, List.pairwise_map]
        refine List.Pairwise.imp_of_mem (R := fun i j => i < j) (fun {i j} hi hj hij z => ?_) (List.pairwise_lt_range)
        obtain ⟨_, _, a1, _⟩ := hat i (List.mem_range.mp hi)
        obtain ⟨_, _, b1, _⟩ := hat j (List.mem_range.mp hj)
        have z' : tt i = tt j := z
        rw [z'] at a1
        exact hdi i j (tt j) hij (by have := List.mem_range.mp hj; omega) a1 b1
      have hle : m ≤ h'.objs.size := by rw [hsz]; exact Nat.le_add_right _ _
      obtain ⟨H2, ad, I3, oth⟩ := inv_adds hex ps I2 (fun p hp => by
        obtain ⟨j, hj, rfl⟩ := List.mem_map.mp hp
        obtain ⟨u1, u2, b1, b2, b3, b4, b5⟩ := hat j (List.mem_range.mp hj)
        obtain ⟨f1, f2⟩ := fresh (tt j) (Nat.le_of_lt (Nat.lt_of_le_of_lt hle b2))
        exact ⟨f1, f2, u1, u2, b3, b4, b5⟩) nd
      -- the list
      obtain ⟨f1, f2⟩ := fresh h'.objs.size hle
      have nS : h'.objs.size ∉ ps.map (·.1) := fun z => by
        obtain ⟨p, hp, e⟩ := List.mem_map.mp z
        obtain ⟨j, hj, rfl⟩ := List.mem_map.mp hp
        obtain ⟨_, _, _, b2, _⟩ := hat j (List.mem_range.mp hj)
        have e' : tt j = h'.objs.size := e
        rw [e'] at b2
        exact absurd b2 (Nat.lt_irrefl _)
      have hHS : H2 h'.objs.size = none := (oth _ nS).trans f1.1
      obtain ⟨ep, hl⟩ := hl
      have len_ps : ps.length = n := by simp [ps]
      have hz : (ps.map fun p => (p.2.1, p.2.2)) = xs.zip ys := by
        rw [List.map_map]
        refine List.ext_getElem (by simp [n]) fun j h1 h2 => ?_
        rw [List.length_zip] at h2
        have hjx : j < xs.length := by omega
        have hjy : j < ys.length := by omega
        simp only [List.getElem_map, List.getElem_range, Function.comp, List.getElem_zip, List.getD_eq_getElem?_getD, List.getElem?_eq_getElem hjx, List.getElem?_eq_getElem hjy, Option.getD_some]
      have vals : Vals (ps.map fun p => V.ref p.1) acc.toList := by
        refine paired_of (by rw [List.length_map, len_ps, Array.length_toList, hn]) fun j x y h1 h2 => ?_
        have hj : j < n := by
          have := (List.getElem?_eq_some_iff.mp h1).1
          rw [List.length_map, len_ps] at this
          exact this
        obtain ⟨_, _, b1, _⟩ := hat j hj
        rw [Array.getElem?_toList, b1] at h2
        cases h2
        rw [List.map_map, List.getElem?_map, List.getElem?_range hj] at h1
        cases h1
        rfl
      have okL : ObjOk X.prog X.w (upd H2 h'.objs.size (.lst (ps.map fun p => V.ref p.1))) h h'.objs.size (.lst (ps.map fun p => V.ref p.1)) :=
        ⟨by rw [List.length_map, len_ps]; omega, acc.toList, ep, vals, hl⟩
      have I4 := inv_add (u := .lst (ps.map fun p => V.ref p.1)) I3 hex f2 ⟨hHS, f1.2⟩ okL
      exact ⟨.ref h'.objs.size, _, I4, rfl, q ps H2 _ hz ad hHS⟩
end Sb
end
section
set_option Elab.async false
set_option linter.all false
set_option maxRecDepth 100000
set_option maxHeartbeats 4000000
/-! list(zip(xs, ys)), tuple(zip(xs, ys)), each a list or a tuple: over data. -/
namespace Sb
open PySem PySem.Spec PyProof.Rows L2
section
variable {X : Cx} {T : Tb} {W : WX} {pos : Pos} {ra : AF}
/-- a list or a tuple -/
def sqD (S : Sto) : D → Option (List D)
  | .tup ds => some ds
  | d => lisD S d
theorem sq_of {K : PySem.W.Frag} {φ : List Addr} {S : Sto} {H : Hp} {d : D} {v : V} {ds : List D} (R : Rel T φ S H) (r : RD T H φ d v) (h : sqD S d = some ds) : ∃ κ a vs, v = .ref a ∧ SqG κ K H a vs ∧ RDs T H φ ds vs := by
  unfold sqD at h
  split at h
  · cases h
    obtain ⟨a, xs, rfl, ha, sa⟩ := r
    exact ⟨true, a, xs, rfl, (show SqT K H a xs from .inl ha), sa⟩
  · obtain ⟨a, xs, rfl, ha, sa⟩ := lis_sq R r h
    exact ⟨false, a, xs, rfl, (show SqL K H a xs from .inl (.inl ha)), sa⟩
def eLZG (ra : AF) : EF := fun τ => (ra τ).bnd fun ds S => match ds with
  | [x, y] => (sqD S x).bind fun ds => (sqD S y).bind fun es => some (.ok (.loc S.length) (S ++ [.lst (zipD ds es)]))
  | _ => none
def eTZG (ra : AF) : EF := fun τ => (ra τ).bnd fun ds S => match ds with
  | [x, y] => (sqD S x).bind fun ds => (sqD S y).bind fun es => some (.ok (.tup (zipD ds es)) S)
  | _ => none
theorem d_listzipG {e1 e2 : Expr} {p1 p2 pos1 pos2 : Pos} (hex : X.ex = []) (hc : X.calm = true) (hgl : Gl X "list") (hml : X.mg "list" = none) (hgz : Gl X "zip") (hmz : X.mg "zip" = none) (ha : PA X [e1, e2] (rdA T W ra))
    (hs : starEach [e1, e2] X.env = (false, eval e1 X.env) :: starEach [e2] X.env := by rfl) (hs2 : ((backTo pos2 (starEach [e2] X.env)).any fun x => x.fst) = false := by rfl)
    (hs3 : starEach [.Call (.Name "zip" p2) [e1, e2] [] pos2] X.env = (false, eval (.Call (.Name "zip" p2) [e1, e2] [] pos2) X.env) :: starEach [] X.env := by rfl) :
    PE X (.Call (.Name "list" p1) [.Call (.Name "zip" p2) [e1, e2] [] pos2] [] pos1) (rdE T W (eLZG ra)) :=
  (pe_listzipG hex hc hgl hml hgz hmz ha hs hs2 hs3).imp fun σ H Q h => by
    obtain ⟨φ, S, τ, o, R, r, e, q⟩ := h
    refine rdA_bnd R r e q fun ds S1 vs H1 φ1 E1 R1 r1 e1 q1 => ?_
    split at e1
    · rename_i x y
      simp only [Option.bind_eq_some_iff] at e1
      obtain ⟨as, ea, bs, eb, e1⟩ := e1
      cases e1
      obtain ⟨v1, l1, rfl, rx, r2⟩ := r1
      obtain ⟨v2, l2, rfl, ry, r3⟩ := r2
      cases r3
      obtain ⟨κ₁, a, xs, rfl, ha1, sa⟩ := sq_of (K := X.K) R1 rx ea
      obtain ⟨κ₂, b, ys, rfl, hb1, sb⟩ := sq_of (K := X.K) R1 ry eb
      refine ⟨κ₁, κ₂, a, b, xs, ys, rfl, ha1, hb1, fun ps H2 l hz ad hl => ?_⟩
      obtain ⟨R2, E2, rs⟩ := zip_rds R1 sa sb hz ad
      have E3 : Ext φ1 H2 (φ1 ++ [l]) (upd H2 l (.lst (ps.map fun p => V.ref p.1))) := Ext.freshL hl
      obtain ⟨R3, _⟩ := R2.new (o := .lst (zipD as bs)) hl ⟨_, upd_same, rs.ext E3 _ _⟩
      exact q1 _ _ _ (E2.trans E3) R3 ⟨l, rfl, by rw [← R2.len]; simp⟩
    · cases e1
theorem d_tuplezipG {e1 e2 : Expr} {p1 p2 pos1 pos2 : Pos} (hex : X.ex = []) (hc : X.calm = true) (hgl : Gl X "tuple") (hml : X.mg "tuple" = none) (hgz : Gl X "zip") (hmz : X.mg "zip" = none) (ha : PA X [e1, e2] (rdA T W ra))
    (hs : starEach [e1, e2] X.env = (false, eval e1 X.env) :: starEach [e2] X.env := by rfl) (hs2 : ((backTo pos2 (starEach [e2] X.env)).any fun x => x.fst) = false := by rfl)
    (hs3 : starEach [.Call (.Name "zip" p2) [e1, e2] [] pos2] X.env = (false, eval (.Call (.Name "zip" p2) [e1, e2] [] pos2) X.env) :: starEach [] X.env := by rfl) :
    PE X (.Call (.Name "tuple" p1) [.Call (.Name "zip" p2) [e1, e2] [] pos2] [] pos1) (rdE T W (eTZG ra)) :=
  (pe_tuplezipG hex hc hgl hml hgz hmz ha hs hs2 hs3).imp fun σ H Q h => by
    obtain ⟨φ, S, τ, o, R, r, e, q⟩ := h
    refine rdA_bnd R r e q fun ds S1 vs H1 φ1 E1 R1 r1 e1 q1 => ?_
    split at e1
    · rename_i x y
      simp only [Option.bind_eq_some_iff] at e1
      obtain ⟨as, ea, bs, eb, e1⟩ := e1
      cases e1
      obtain ⟨v1, l1, rfl, rx, r2⟩ := r1
      obtain ⟨v2, l2, rfl, ry, r3⟩ := r2
      cases r3
      obtain ⟨κ₁, a, xs, rfl, ha1, sa⟩ := sq_of (K := X.K) R1 rx ea
      obtain ⟨κ₂, b, ys, rfl, hb1, sb⟩ := sq_of (K := X.K) R1 ry eb
      refine ⟨κ₁, κ₂, a, b, xs, ys, rfl, ha1, hb1, fun ps H2 l hz ad hl => ?_⟩
      obtain ⟨R2, E2, rs⟩ := zip_rds R1 sa sb hz ad
      obtain ⟨R3, E3⟩ := R2.garb (u := .tup (ps.map fun p => V.ref p.1)) hl
      exact q1 _ _ _ (E2.trans E3) R3 ⟨l, ps.map fun p => V.ref p.1, rfl, (.inl upd_same), rs.ext E3 _ _⟩
    · cases e1
end
end Sb
end
section
set_option Elab.async false
set_option linter.all false
set_option maxRecDepth 100000
namespace Sb
open PySem PySem.Spec PyProof.Rows L2
/-! meanings of the decks that are known to be new, and of what is none (prefix n_) -/
end Sb
end
section
set_option Elab.async false
set_option linter.all false
set_option maxRecDepth 100000
namespace Sb
open PySem PySem.Spec PyProof.Rows L2
noncomputable section
end
end Sb
end
section
set_option Elab.async false
set_option linter.all false
set_option maxRecDepth 100000
namespace Sb
open PySem PySem.Spec PyProof.Rows L2
noncomputable section
end
end Sb
end
section
set_option Elab.async false
set_option linter.all false
set_option maxRecDepth 100000
set_option maxHeartbeats 4000000
namespace Sb
open PySem PySem.Spec PyProof.Rows L2
/-! ## gcd, told by the module's own name -/
end Sb
end
section
set_option Elab.async false
set_option linter.all false
set_option maxRecDepth 100000
set_option maxHeartbeats 4000000
namespace Sb
open PySem PySem.Spec PyProof.Rows L2
/-! ## for k in d, d a told dict: it stays locked from then on -/
section
variable {X : Cx} {T : Tb} {W : WX} {tg e : Expr} {td : TE} {fa : EF}
end
end Sb
end
section
set_option Elab.async false
set_option linter.all false
set_option maxRecDepth 100000
set_option maxHeartbeats 4000000
namespace Sb
open PySem PySem.Spec PyProof.Rows L2
section
variable {X : Cx} {T : Tb} {W : WX} {o e f : Expr} {apos cpos : Pos} {fo fk fd : EF}
end
end Sb
end
section
set_option Elab.async false
set_option linter.all false
set_option maxRecDepth 100000
set_option maxHeartbeats 4000000
namespace Sb
open PySem PySem.Spec PyProof.Rows L2
section
variable {X : Cx} {T : Tb}
/-! ## a dict unlike the empty one -/
end
end Sb
end
section
set_option Elab.async false
set_option linter.all false
set_option maxRecDepth 100000
set_option maxHeartbeats 4000000
namespace Sb
open PySem PySem.Spec PyProof.Rows L2
/-! ## range(i, j, -1) -/
section
variable {X : Cx} {T : Tb} {W : WX} {ra : AF}
end
end Sb
end
section
set_option Elab.async false
set_option linter.all false
set_option maxRecDepth 100000
set_option maxHeartbeats 4000000
namespace Sb
open PySem PySem.Spec PyProof.Rows L2
section
variable {X : Cx} {T : Tb} {W : WX} {pos : Pos}
/-! ## five names as a target -/
end
end Sb
end
section
set_option Elab.async false
set_option linter.all false
set_option maxRecDepth 100000
set_option maxHeartbeats 4000000
namespace Sb
open PySem PySem.Spec PyProof.Rows L2
section
variable {X : Cx} {T : Tb}
/-! ## tuple * n -/
end
end Sb
end
section
set_option Elab.async false
set_option linter.all false
set_option maxRecDepth 100000
set_option maxHeartbeats 4000000
namespace Sb
open PySem PySem.Spec PyProof.Rows L2
section
variable {X : Cx} {T : Tb} {W : WX}
/-! ## sorted of a list of texts -/
end
end Sb
end
section
set_option Elab.async false
set_option linter.all false
set_option maxRecDepth 100000
set_option maxHeartbeats 4000000
namespace Sb
open PySem PySem.Spec PyProof.Rows L2
/-! ## while -/
section
variable {X : Cx} {T : Tb} {W : WX} {pos : Pos} {c : Expr} {body : List Stmt} {t : BF} {f : SF}
end
end Sb
end
section
set_option Elab.async false
set_option linter.all false
set_option maxRecDepth 100000
namespace Sb
open PySem PySem.Spec PyProof.Rows L2
noncomputable section
end
end Sb
end
section
set_option Elab.async false
set_option linter.all false
set_option maxRecDepth 100000
namespace Sb
open PySem PySem.Spec PyProof.Rows L2
noncomputable section
end
end Sb
end
section
set_option Elab.async false
set_option linter.all false
set_option maxRecDepth 100000
namespace Sb
open PySem PySem.Spec PyProof.Rows L2
noncomputable section
end
end Sb
end
section
set_option Elab.async false
set_option linter.all false
set_option maxRecDepth 100000
set_option maxHeartbeats 0
namespace K59
open PySem PySem.Spec PyProof.Rows L2 Sb
def top (i : Nat) : Stmt := PySem.Challenge.pw_slideback_k59_whole_rows_go_on_by_one_na.main.body.getD i (.Pass ⟨0, 0, 0, 0⟩)
abbrev s_is_whole : Stmt := top 10
abbrev s_is_number : Stmt := top 11
abbrev s_require_number : Stmt := top 12
abbrev s_is_depth : Stmt := top 13
abbrev s_is_listed : Stmt := top 14
abbrev s_is_name : Stmt := top 15
abbrev s_is_card : Stmt := top 16
abbrev s_deck_of : Stmt := top 20
abbrev s_reach_of : Stmt := top 21
abbrev s_step_of : Stmt := top 22
abbrev s_row_seen : Stmt := top 23
abbrev s_require_names : Stmt := top 26
abbrev s_require_row : Stmt := top 27
abbrev s_require_depths : Stmt := top 28
abbrev s_depths_let : Stmt := top 29
abbrev s_in_order : Stmt := top 30
abbrev s_many_unlike : Stmt := top 31
abbrev s_reaches_let : Stmt := top 32
abbrev s_all_depths : Stmt := top 33
abbrev s_bag_bag : Stmt := top 35
abbrev s_bag_stir : Stmt := top 36
abbrev s_bag_draw : Stmt := top 37
abbrev s_bag_mixed : Stmt := top 38
abbrev s_bag_names : Stmt := top 39
abbrev s_law : Stmt := top 40
def d_is_whole : He.DefD := ⟨("is_whole", none), "is_whole", "is_whole", defArgs s_is_whole, defBody s_is_whole, defScope s_is_whole, [], []⟩
def d_is_number : He.DefD := ⟨("is_number", none), "is_number", "is_number", defArgs s_is_number, defBody s_is_number, defScope s_is_number, [], []⟩
def d_require_number : He.DefD := ⟨("require_number", none), "require_number", "require_number", defArgs s_require_number, defBody s_require_number, defScope s_require_number, [], []⟩
def d_is_depth : He.DefD := ⟨("is_depth", none), "is_depth", "is_depth", defArgs s_is_depth, defBody s_is_depth, defScope s_is_depth, [], []⟩
def d_is_listed : He.DefD := ⟨("is_listed", none), "is_listed", "is_listed", defArgs s_is_listed, defBody s_is_listed, defScope s_is_listed, [], []⟩
def d_is_name : He.DefD := ⟨("is_name", none), "is_name", "is_name", defArgs s_is_name, defBody s_is_name, defScope s_is_name, [], []⟩
def d_is_card : He.DefD := ⟨("is_card", none), "is_card", "is_card", defArgs s_is_card, defBody s_is_card, defScope s_is_card, [], []⟩
def d_deck_of : He.DefD := ⟨("deck_of", none), "deck_of", "deck_of", defArgs s_deck_of, defBody s_deck_of, defScope s_deck_of, [], []⟩
def d_reach_of : He.DefD := ⟨("reach_of", none), "reach_of", "reach_of", defArgs s_reach_of, defBody s_reach_of, defScope s_reach_of, [], []⟩
def d_step_of : He.DefD := ⟨("step_of", none), "step_of", "step_of", defArgs s_step_of, defBody s_step_of, defScope s_step_of, [], []⟩
def d_row_seen : He.DefD := ⟨("row_seen", none), "row_seen", "row_seen", defArgs s_row_seen, defBody s_row_seen, defScope s_row_seen, [], []⟩
def d_require_names : He.DefD := ⟨("require_names", none), "require_names", "require_names", defArgs s_require_names, defBody s_require_names, defScope s_require_names, [], []⟩
def d_require_row : He.DefD := ⟨("require_row", none), "require_row", "require_row", defArgs s_require_row, defBody s_require_row, defScope s_require_row, [], []⟩
def d_require_depths : He.DefD := ⟨("require_depths", none), "require_depths", "require_depths", defArgs s_require_depths, defBody s_require_depths, defScope s_require_depths, [], []⟩
def d_depths_let : He.DefD := ⟨("depths_let", none), "depths_let", "depths_let", defArgs s_depths_let, defBody s_depths_let, defScope s_depths_let, [], []⟩
def d_in_order : He.DefD := ⟨("in_order", none), "in_order", "in_order", defArgs s_in_order, defBody s_in_order, defScope s_in_order, [], []⟩
def d_many_unlike : He.DefD := ⟨("many_unlike", none), "many_unlike", "many_unlike", defArgs s_many_unlike, defBody s_many_unlike, defScope s_many_unlike, [], []⟩
def d_reaches_let : He.DefD := ⟨("reaches_let", none), "reaches_let", "reaches_let", defArgs s_reaches_let, defBody s_reaches_let, defScope s_reaches_let, [], []⟩
def d_all_depths : He.DefD := ⟨("all_depths", none), "all_depths", "all_depths", defArgs s_all_depths, defBody s_all_depths, defScope s_all_depths, [], []⟩
def d_bag_bag : He.DefD := ⟨("_law_bag", none), "_law_bag", "_law_bag", defArgs s_bag_bag, defBody s_bag_bag, defScope s_bag_bag, [], []⟩
def d_bag_stir : He.DefD := ⟨("_law_stir", none), "_law_stir", "_law_stir", defArgs s_bag_stir, defBody s_bag_stir, defScope s_bag_stir, [], []⟩
def d_bag_draw : He.DefD := ⟨("_law_draw", none), "_law_draw", "_law_draw", defArgs s_bag_draw, defBody s_bag_draw, defScope s_bag_draw, [], []⟩
def d_bag_mixed : He.DefD := ⟨("_law_mixed", none), "_law_mixed", "_law_mixed", defArgs s_bag_mixed, defBody s_bag_mixed, defScope s_bag_mixed, [], []⟩
def d_bag_names : He.DefD := ⟨("_law_names", none), "_law_names", "_law_names", defArgs s_bag_names, defBody s_bag_names, defScope s_bag_names, [], []⟩
def d_law : He.DefD := ⟨("law", none), "law", "law", defArgs s_law, defBody s_law, defScope s_law, [], []⟩
def fn : List He.DefD := [d_is_whole, d_is_number, d_require_number, d_is_depth, d_is_listed, d_is_name, d_is_card, d_deck_of, d_reach_of, d_step_of, d_row_seen, d_require_names, d_require_row, d_require_depths, d_depths_let, d_in_order, d_many_unlike, d_reaches_let, d_all_depths, d_bag_bag, d_bag_stir, d_bag_draw, d_bag_mixed, d_bag_names, d_law]
def fa0 : List He.Fa := [.glo "is_whole", .glo "is_number", .glo "require_number", .glo "is_depth", .glo "is_listed", .glo "is_name", .glo "is_card", .glo "deck_of", .glo "reach_of", .glo "step_of", .glo "row_seen", .glo "require_names", .glo "require_row", .glo "require_depths", .glo "depths_let", .glo "in_order", .glo "many_unlike", .glo "reaches_let", .glo "all_depths", .glo "_law_bag", .glo "_law_stir", .glo "_law_draw", .glo "_law_mixed", .glo "_law_names", .glo "law", .free "all", .free "bool", .free "dict", .free "enumerate", .free "int"]
def fa1 : List He.Fa := [.free "isinstance", .free "len", .free "list", .free "min", .free "range", .free "set", .free "sorted", .free "str", .free "tuple", .free "zip", .int "MOST_LETTERS" 8, .int "MOST_CARDS" 40, .int "MOST_STEPS" 2000, .int "MOST_DEPTHS" 1000, .glo "DeckError", .exc "DeckError", .glo "NoDeck", .exc "NoDeck", .glo "NoNumber", .exc "NoNumber", .glo "NoNames", .exc "NoNames", .glo "NoRow", .exc "NoRow", .glo "NoDepths", .exc "NoDepths", .glo "TooMany", .exc "TooMany"]
def fa : List He.Fa := fa0 ++ fa1
def tf : List He.Defn := [("is_name", none), ("deck_of", none), ("require_names", none), ("require_row", none), ("require_depths", none), ("reaches_let", none)]
abbrev R : PySem.W.OpenRow := PySem.W.OpenLaw.row PySem.Challenge.rw_slideback_k59_whole_rows_go_on_by_one_na
abbrev hk : PySem.W.Hook := Sb.hookS 4 fa fn tf (Sb.clsB [])
def ob (s : PySem.W.SharedT) : He.AlX × Bool := Sb.obsS 4 fa fn tf (Sb.clsB []) (HandSHeadRun.getT s)
theorem ob_eq (s : PySem.W.SharedT) : ob s = hk.obs s.abs := Sb.obsS_eq (HandSHeadRun.getT_eq s)
def lo0 : List PySem.Str := ["DeckError", "NoDeck", "NoNumber", "NoNames", "NoRow", "NoDepths", "TooMany", "MOST_LETTERS", "MOST_CARDS", "MOST_STEPS", "MOST_DEPTHS", "is_whole", "is_number", "require_number", "is_depth", "is_listed", "is_name", "is_card", "deck_of", "reach_of", "step_of", "row_seen", "require_names", "require_row", "require_depths", "depths_let", "in_order", "many_unlike", "reaches_let", "all_depths"]
def lo1 : List PySem.Str := ["_law_bag", "_law_stir", "_law_draw", "_law_mixed", "_law_names"]
def loose : List PySem.Str := lo0 ++ lo1
abbrev lawAt : Nat := 40
abbrev steps : Nat := 3260
theorem run (w : World) : HandSHeadRun.RunEq R (PySem.W.view R.prog [40]) hk ob 3260 loose w := by
  intro os
  kernel_rfl
structure Ev (P : Program) (w : World) (mg : Str → Option Value) (base : Heap) (K : PySem.W.Frag) : Prop where
  says : He.SaysD fa fn K
  kin : K.In base
  ns : base.Ns mainGlobals mg
  tbs : ∀ p ∈ tf.map (He.cT K), GxR.TabB base mg p.1 p.2
  sys : ∃ o, base.get? sysModules = some o
abbrev TT (P : Program) (w : World) (K : PySem.W.Frag) : Sb.Tb := ⟨P, w, K, (tf.map (He.cT K)).map (·.2), []⟩
section
variable {P : Program} {w : World} {mg : Str → Option Value} {base : Heap} {K : PySem.W.Frag}
theorem Ev.tb (e : Ev P w mg base K) (p : He.Defn) (h : p ∈ tf) : GxR.TabB base mg (He.codeOf K p) (He.tabOf K (He.codeOf K p)) := e.tbs (He.cT K p) (List.mem_map_of_mem h)
theorem Ev.tbm (e : Ev P w mg base K) (p : He.Defn) (h : p ∈ tf) : He.tabOf K (He.codeOf K p) ∈ (TT P w K).tabs := List.mem_map_of_mem (f := (·.2)) (List.mem_map_of_mem (f := He.cT K) h)
theorem Ev.gl_is_whole (e : Ev P w mg base K) : mg "is_whole" = some (.ref (He.ga K "is_whole")) := He.glo_ok e.kin e.ns (e.says.fact 0 (f := .glo "is_whole") rfl)
theorem Ev.gl_is_number (e : Ev P w mg base K) : mg "is_number" = some (.ref (He.ga K "is_number")) := He.glo_ok e.kin e.ns (e.says.fact 1 (f := .glo "is_number") rfl)
theorem Ev.gl_require_number (e : Ev P w mg base K) : mg "require_number" = some (.ref (He.ga K "require_number")) := He.glo_ok e.kin e.ns (e.says.fact 2 (f := .glo "require_number") rfl)
theorem Ev.gl_is_depth (e : Ev P w mg base K) : mg "is_depth" = some (.ref (He.ga K "is_depth")) := He.glo_ok e.kin e.ns (e.says.fact 3 (f := .glo "is_depth") rfl)
theorem Ev.gl_is_listed (e : Ev P w mg base K) : mg "is_listed" = some (.ref (He.ga K "is_listed")) := He.glo_ok e.kin e.ns (e.says.fact 4 (f := .glo "is_listed") rfl)
theorem Ev.gl_is_name (e : Ev P w mg base K) : mg "is_name" = some (.ref (He.ga K "is_name")) := He.glo_ok e.kin e.ns (e.says.fact 5 (f := .glo "is_name") rfl)
theorem Ev.gl_is_card (e : Ev P w mg base K) : mg "is_card" = some (.ref (He.ga K "is_card")) := He.glo_ok e.kin e.ns (e.says.fact 6 (f := .glo "is_card") rfl)
theorem Ev.gl_deck_of (e : Ev P w mg base K) : mg "deck_of" = some (.ref (He.ga K "deck_of")) := He.glo_ok e.kin e.ns (e.says.fact 7 (f := .glo "deck_of") rfl)
theorem Ev.gl_reach_of (e : Ev P w mg base K) : mg "reach_of" = some (.ref (He.ga K "reach_of")) := He.glo_ok e.kin e.ns (e.says.fact 8 (f := .glo "reach_of") rfl)
theorem Ev.gl_step_of (e : Ev P w mg base K) : mg "step_of" = some (.ref (He.ga K "step_of")) := He.glo_ok e.kin e.ns (e.says.fact 9 (f := .glo "step_of") rfl)
theorem Ev.gl_row_seen (e : Ev P w mg base K) : mg "row_seen" = some (.ref (He.ga K "row_seen")) := He.glo_ok e.kin e.ns (e.says.fact 10 (f := .glo "row_seen") rfl)
theorem Ev.gl_require_names (e : Ev P w mg base K) : mg "require_names" = some (.ref (He.ga K "require_names")) := He.glo_ok e.kin e.ns (e.says.fact 11 (f := .glo "require_names") rfl)
theorem Ev.gl_require_row (e : Ev P w mg base K) : mg "require_row" = some (.ref (He.ga K "require_row")) := He.glo_ok e.kin e.ns (e.says.fact 12 (f := .glo "require_row") rfl)
theorem Ev.gl_require_depths (e : Ev P w mg base K) : mg "require_depths" = some (.ref (He.ga K "require_depths")) := He.glo_ok e.kin e.ns (e.says.fact 13 (f := .glo "require_depths") rfl)
theorem Ev.gl_depths_let (e : Ev P w mg base K) : mg "depths_let" = some (.ref (He.ga K "depths_let")) := He.glo_ok e.kin e.ns (e.says.fact 14 (f := .glo "depths_let") rfl)
theorem Ev.gl_in_order (e : Ev P w mg base K) : mg "in_order" = some (.ref (He.ga K "in_order")) := He.glo_ok e.kin e.ns (e.says.fact 15 (f := .glo "in_order") rfl)
theorem Ev.gl_many_unlike (e : Ev P w mg base K) : mg "many_unlike" = some (.ref (He.ga K "many_unlike")) := He.glo_ok e.kin e.ns (e.says.fact 16 (f := .glo "many_unlike") rfl)
theorem Ev.gl_reaches_let (e : Ev P w mg base K) : mg "reaches_let" = some (.ref (He.ga K "reaches_let")) := He.glo_ok e.kin e.ns (e.says.fact 17 (f := .glo "reaches_let") rfl)
theorem Ev.gl_all_depths (e : Ev P w mg base K) : mg "all_depths" = some (.ref (He.ga K "all_depths")) := He.glo_ok e.kin e.ns (e.says.fact 18 (f := .glo "all_depths") rfl)
theorem Ev.gl__law_bag (e : Ev P w mg base K) : mg "_law_bag" = some (.ref (He.ga K "_law_bag")) := He.glo_ok e.kin e.ns (e.says.fact 19 (f := .glo "_law_bag") rfl)
theorem Ev.gl__law_stir (e : Ev P w mg base K) : mg "_law_stir" = some (.ref (He.ga K "_law_stir")) := He.glo_ok e.kin e.ns (e.says.fact 20 (f := .glo "_law_stir") rfl)
theorem Ev.gl__law_draw (e : Ev P w mg base K) : mg "_law_draw" = some (.ref (He.ga K "_law_draw")) := He.glo_ok e.kin e.ns (e.says.fact 21 (f := .glo "_law_draw") rfl)
theorem Ev.gl__law_mixed (e : Ev P w mg base K) : mg "_law_mixed" = some (.ref (He.ga K "_law_mixed")) := He.glo_ok e.kin e.ns (e.says.fact 22 (f := .glo "_law_mixed") rfl)
theorem Ev.gl__law_names (e : Ev P w mg base K) : mg "_law_names" = some (.ref (He.ga K "_law_names")) := He.glo_ok e.kin e.ns (e.says.fact 23 (f := .glo "_law_names") rfl)
theorem Ev.fr_all (e : Ev P w mg base K) : mg "all" = none := He.free_ok e.kin e.ns (e.says.fact 25 (f := .free "all") rfl)
theorem Ev.fr_bool (e : Ev P w mg base K) : mg "bool" = none := He.free_ok e.kin e.ns (e.says.fact 26 (f := .free "bool") rfl)
theorem Ev.fr_dict (e : Ev P w mg base K) : mg "dict" = none := He.free_ok e.kin e.ns (e.says.fact 27 (f := .free "dict") rfl)
theorem Ev.fr_enumerate (e : Ev P w mg base K) : mg "enumerate" = none := He.free_ok e.kin e.ns (e.says.fact 28 (f := .free "enumerate") rfl)
theorem Ev.fr_int (e : Ev P w mg base K) : mg "int" = none := He.free_ok e.kin e.ns (e.says.fact 29 (f := .free "int") rfl)
theorem Ev.fr_isinstance (e : Ev P w mg base K) : mg "isinstance" = none := He.free_ok e.kin e.ns (e.says.fact 30 (f := .free "isinstance") rfl)
theorem Ev.fr_len (e : Ev P w mg base K) : mg "len" = none := He.free_ok e.kin e.ns (e.says.fact 31 (f := .free "len") rfl)
theorem Ev.fr_list (e : Ev P w mg base K) : mg "list" = none := He.free_ok e.kin e.ns (e.says.fact 32 (f := .free "list") rfl)
theorem Ev.fr_min (e : Ev P w mg base K) : mg "min" = none := He.free_ok e.kin e.ns (e.says.fact 33 (f := .free "min") rfl)
theorem Ev.fr_range (e : Ev P w mg base K) : mg "range" = none := He.free_ok e.kin e.ns (e.says.fact 34 (f := .free "range") rfl)
theorem Ev.fr_set (e : Ev P w mg base K) : mg "set" = none := He.free_ok e.kin e.ns (e.says.fact 35 (f := .free "set") rfl)
theorem Ev.fr_sorted (e : Ev P w mg base K) : mg "sorted" = none := He.free_ok e.kin e.ns (e.says.fact 36 (f := .free "sorted") rfl)
theorem Ev.fr_str (e : Ev P w mg base K) : mg "str" = none := He.free_ok e.kin e.ns (e.says.fact 37 (f := .free "str") rfl)
theorem Ev.fr_tuple (e : Ev P w mg base K) : mg "tuple" = none := He.free_ok e.kin e.ns (e.says.fact 38 (f := .free "tuple") rfl)
theorem Ev.fr_zip (e : Ev P w mg base K) : mg "zip" = none := He.free_ok e.kin e.ns (e.says.fact 39 (f := .free "zip") rfl)
theorem Ev.ct_MOST_LETTERS (e : Ev P w mg base K) : ∃ t, mg "MOST_LETTERS" = some (.int 8 t) := He.int_ok e.kin e.ns (e.says.fact 40 (f := .int "MOST_LETTERS" 8) rfl)
theorem Ev.ct_MOST_CARDS (e : Ev P w mg base K) : ∃ t, mg "MOST_CARDS" = some (.int 40 t) := He.int_ok e.kin e.ns (e.says.fact 41 (f := .int "MOST_CARDS" 40) rfl)
theorem Ev.ct_MOST_STEPS (e : Ev P w mg base K) : ∃ t, mg "MOST_STEPS" = some (.int 2000 t) := He.int_ok e.kin e.ns (e.says.fact 42 (f := .int "MOST_STEPS" 2000) rfl)
theorem Ev.ct_MOST_DEPTHS (e : Ev P w mg base K) : ∃ t, mg "MOST_DEPTHS" = some (.int 1000 t) := He.int_ok e.kin e.ns (e.says.fact 43 (f := .int "MOST_DEPTHS" 1000) rfl)
theorem Ev.gl_NoDeck (e : Ev P w mg base K) : mg "NoDeck" = some (.ref (He.ga K "NoDeck")) := He.glo_ok e.kin e.ns (e.says.fact 46 (f := .glo "NoDeck") rfl)
theorem Ev.ex_NoDeck (e : Ev P w mg base K) : PySem.W.excIn K (He.ga K "NoDeck") He.veBase "ValueError.__new__" = true ∧ PySem.W.keepIn K (.ref (He.ga K "NoDeck")) = true ∧ PySem.W.subIn K (.ref (He.ga K "NoDeck")) (.type "BaseException") = some true ∧ PySem.W.typeIn K (.ref (He.ga K "NoDeck")) = some (.type "type") := He.exc_ok (e.says.fact 47 (f := .exc "NoDeck") rfl)
theorem Ev.gl_NoNumber (e : Ev P w mg base K) : mg "NoNumber" = some (.ref (He.ga K "NoNumber")) := He.glo_ok e.kin e.ns (e.says.fact 48 (f := .glo "NoNumber") rfl)
theorem Ev.ex_NoNumber (e : Ev P w mg base K) : PySem.W.excIn K (He.ga K "NoNumber") He.veBase "ValueError.__new__" = true ∧ PySem.W.keepIn K (.ref (He.ga K "NoNumber")) = true ∧ PySem.W.subIn K (.ref (He.ga K "NoNumber")) (.type "BaseException") = some true ∧ PySem.W.typeIn K (.ref (He.ga K "NoNumber")) = some (.type "type") := He.exc_ok (e.says.fact 49 (f := .exc "NoNumber") rfl)
theorem Ev.gl_NoNames (e : Ev P w mg base K) : mg "NoNames" = some (.ref (He.ga K "NoNames")) := He.glo_ok e.kin e.ns (e.says.fact 50 (f := .glo "NoNames") rfl)
theorem Ev.ex_NoNames (e : Ev P w mg base K) : PySem.W.excIn K (He.ga K "NoNames") He.veBase "ValueError.__new__" = true ∧ PySem.W.keepIn K (.ref (He.ga K "NoNames")) = true ∧ PySem.W.subIn K (.ref (He.ga K "NoNames")) (.type "BaseException") = some true ∧ PySem.W.typeIn K (.ref (He.ga K "NoNames")) = some (.type "type") := He.exc_ok (e.says.fact 51 (f := .exc "NoNames") rfl)
theorem Ev.gl_NoRow (e : Ev P w mg base K) : mg "NoRow" = some (.ref (He.ga K "NoRow")) := He.glo_ok e.kin e.ns (e.says.fact 52 (f := .glo "NoRow") rfl)
theorem Ev.ex_NoRow (e : Ev P w mg base K) : PySem.W.excIn K (He.ga K "NoRow") He.veBase "ValueError.__new__" = true ∧ PySem.W.keepIn K (.ref (He.ga K "NoRow")) = true ∧ PySem.W.subIn K (.ref (He.ga K "NoRow")) (.type "BaseException") = some true ∧ PySem.W.typeIn K (.ref (He.ga K "NoRow")) = some (.type "type") := He.exc_ok (e.says.fact 53 (f := .exc "NoRow") rfl)
theorem Ev.gl_NoDepths (e : Ev P w mg base K) : mg "NoDepths" = some (.ref (He.ga K "NoDepths")) := He.glo_ok e.kin e.ns (e.says.fact 54 (f := .glo "NoDepths") rfl)
theorem Ev.ex_NoDepths (e : Ev P w mg base K) : PySem.W.excIn K (He.ga K "NoDepths") He.veBase "ValueError.__new__" = true ∧ PySem.W.keepIn K (.ref (He.ga K "NoDepths")) = true ∧ PySem.W.subIn K (.ref (He.ga K "NoDepths")) (.type "BaseException") = some true ∧ PySem.W.typeIn K (.ref (He.ga K "NoDepths")) = some (.type "type") := He.exc_ok (e.says.fact 55 (f := .exc "NoDepths") rfl)
theorem Ev.gl_TooMany (e : Ev P w mg base K) : mg "TooMany" = some (.ref (He.ga K "TooMany")) := He.glo_ok e.kin e.ns (e.says.fact 56 (f := .glo "TooMany") rfl)
theorem Ev.ex_TooMany (e : Ev P w mg base K) : PySem.W.excIn K (He.ga K "TooMany") He.veBase "ValueError.__new__" = true ∧ PySem.W.keepIn K (.ref (He.ga K "TooMany")) = true ∧ PySem.W.subIn K (.ref (He.ga K "TooMany")) (.type "BaseException") = some true ∧ PySem.W.typeIn K (.ref (He.ga K "TooMany")) = some (.type "type") := He.exc_ok (e.says.fact 57 (f := .exc "TooMany") rfl)
end
/-! is_whole: 0 thing -/
theorem sc_is_whole : FnScope ["thing"] ["thing"] (defScope s_is_whole) := ⟨rfl, rfl, rfl, by decide +kernel, rfl, by decide +kernel, by decide +kernel⟩
abbrev lv_is_whole : Nat := 1
theorem ok_is_whole {P : Program} {w : World} {mg : Str → Option Value} {base : Heap} {K : PySem.W.Frag} (e : Ev P w mg base K) : CalG P w mg base (TT P w K) lv_is_whole 1 "is_whole" (M_is_whole) := by
  obtain ⟨fd, F⟩ := e.says.def_ 0 (d := d_is_whole) rfl
  refine cal_ofG (T := TT P w K) (p := ("is_whole", none)) (N := ["thing"]) (ps := ["thing"]) (k := 0) F sc_is_whole e.gl_is_whole (fun _ _ _ _ _ _ us hl => match us, hl with | [_], _ => rfl) (fun A outer s H E hr hq => ?_)
  exact b_one (s_ret (d_and (d_is (by rfl) e.fr_isinstance (by rfl) e.fr_int (by decide +kernel) (d_var 0)) (d_one (d_not (d_is (by rfl) e.fr_isinstance (by rfl) e.fr_bool (by decide +kernel) (d_var 0))))))
/-! is_number: 0 thing, 1 most -/
theorem sc_is_number : FnScope ["thing", "most"] ["thing", "most"] (defScope s_is_number) := ⟨rfl, rfl, rfl, by decide +kernel, rfl, by decide +kernel, by decide +kernel⟩
abbrev lv_is_number : Nat := 2
theorem ok_is_number {P : Program} {w : World} {mg : Str → Option Value} {base : Heap} {K : PySem.W.Frag} (e : Ev P w mg base K) : CalG P w mg base (TT P w K) lv_is_number 2 "is_number" (M_is_number) := by
  obtain ⟨fd, F⟩ := e.says.def_ 1 (d := d_is_number) rfl
  refine cal_ofG (T := TT P w K) (p := ("is_number", none)) (N := ["thing", "most"]) (ps := ["thing", "most"]) (k := 1) F sc_is_number e.gl_is_number (fun _ _ _ _ _ _ us hl => match us, hl with | [_, _], _ => rfl) (fun A outer s H E hr hq => ?_)
  exact b_one (s_ret (d_and (d_callCG (k := lv_is_whole) (ok_is_whole e) (by rfl) (hr.mono (by decide)) hq bX_takes (d_cons (d_var 0) (d_nil))) (d_one (d_chain o_le o_le (d_int) (d_var 0) (d_var 1)))))
/-! require_number: 0 thing, 1 most -/
theorem sc_require_number : FnScope ["thing", "most"] ["thing", "most"] (defScope s_require_number) := ⟨rfl, rfl, rfl, by decide +kernel, rfl, by decide +kernel, by decide +kernel⟩
abbrev lv_require_number : Nat := 3
theorem ok_require_number {P : Program} {w : World} {mg : Str → Option Value} {base : Heap} {K : PySem.W.Frag} (e : Ev P w mg base K) : CalG P w mg base (TT P w K) lv_require_number 2 "require_number" (M_require_number K) := by
  obtain ⟨fd, F⟩ := e.says.def_ 2 (d := d_require_number) rfl
  refine cal_ofG (T := TT P w K) (p := ("require_number", none)) (N := ["thing", "most"]) (ps := ["thing", "most"]) (k := 2) F sc_require_number e.gl_require_number (fun _ _ _ _ _ _ us hl => match us, hl with | [_, _], _ => rfl) (fun A outer s H E hr hq => ?_)
  exact b_one (s_if (t_not (t_val (d_callCG (k := lv_is_number) (ok_is_number e) (by rfl) (hr.mono (by decide)) hq bX_takes (d_cons (d_var 0) (d_cons (d_var 1) (d_nil)))))) (b_one (s_raise (by rfl) bX_takes e.gl_NoNumber e.ex_NoNumber)) (b_nil))
/-! is_depth: 0 thing -/
theorem sc_is_depth : FnScope ["thing"] ["thing"] (defScope s_is_depth) := ⟨rfl, rfl, rfl, by decide +kernel, rfl, by decide +kernel, by decide +kernel⟩
abbrev lv_is_depth : Nat := 2
theorem ok_is_depth {P : Program} {w : World} {mg : Str → Option Value} {base : Heap} {K : PySem.W.Frag} (e : Ev P w mg base K) : CalG P w mg base (TT P w K) lv_is_depth 1 "is_depth" (M_is_depth) := by
  obtain ⟨fd, F⟩ := e.says.def_ 3 (d := d_is_depth) rfl
  refine cal_ofG (T := TT P w K) (p := ("is_depth", none)) (N := ["thing"]) (ps := ["thing"]) (k := 1) F sc_is_depth e.gl_is_depth (fun _ _ _ _ _ _ us hl => match us, hl with | [_], _ => rfl) (fun A outer s H E hr hq => ?_)
  exact b_one (s_ret (d_and (d_callCG (k := lv_is_whole) (ok_is_whole e) (by rfl) (hr.mono (by decide)) hq bX_takes (d_cons (d_var 0) (d_nil))) (d_one (d_cmp o_ge (d_var 0) (d_int) (by first | exact nobehind _ (by decide) (by decide) | rfl)))))
/-! is_listed: 0 thing -/
theorem sc_is_listed : FnScope ["thing"] ["thing"] (defScope s_is_listed) := ⟨rfl, rfl, rfl, by decide +kernel, rfl, by decide +kernel, by decide +kernel⟩
abbrev lv_is_listed : Nat := 1
theorem ok_is_listed {P : Program} {w : World} {mg : Str → Option Value} {base : Heap} {K : PySem.W.Frag} (e : Ev P w mg base K) : CalG P w mg base (TT P w K) lv_is_listed 1 "is_listed" (M_is_listed) := by
  obtain ⟨fd, F⟩ := e.says.def_ 4 (d := d_is_listed) rfl
  refine cal_ofG (T := TT P w K) (p := ("is_listed", none)) (N := ["thing"]) (ps := ["thing"]) (k := 0) F sc_is_listed e.gl_is_listed (fun _ _ _ _ _ _ us hl => match us, hl with | [_], _ => rfl) (fun A outer s H E hr hq => ?_)
  exact b_one (s_ret (d_is2 (by rfl) e.fr_isinstance (by rfl) e.fr_list (by decide +kernel) (by rfl) e.fr_tuple (by decide +kernel) (d_var 0)))
/-! is_name: 0 thing, 1 sign -/
theorem sc_is_name : FnScope ["thing", "sign"] ["thing"] (defScope s_is_name) := ⟨rfl, rfl, rfl, by decide +kernel, rfl, by decide +kernel, by decide +kernel⟩
abbrev lv_is_name : Nat := 2
theorem ok_is_name {P : Program} {w : World} {mg : Str → Option Value} {base : Heap} {K : PySem.W.Frag} (e : Ev P w mg base K) : CalG P w mg base (TT P w K) lv_is_name 1 "is_name" (M_is_name) := by
  obtain ⟨fd, F⟩ := e.says.def_ 5 (d := d_is_name) rfl
  obtain ⟨t_MOST_LETTERS, hc_MOST_LETTERS⟩ := e.ct_MOST_LETTERS
  refine cal_ofG (T := TT P w K) (p := ("is_name", none)) (N := ["thing", "sign"]) (ps := ["thing"]) (k := 1) F sc_is_name e.gl_is_name (fun _ _ _ _ _ _ us hl => match us, hl with | [_], _ => rfl) (fun A outer s H E hr hq => ?_)
  exact b_cons (s_if (ptw (w_or (t_not (t_val (d_is (by rfl) e.fr_isinstance (by rfl) e.fr_str (by decide +kernel) (d_var 0)))) (w_or1 (t_not (t_chain o_le o_le (d_int) (d_callB (c_lenX (by rfl) (by rfl) (by rfl)) (by rfl) e.fr_len (by decide +kernel) (d_cons (d_var 0) (d_nil))) (d_num (by rfl) hc_MOST_LETTERS)))))) (b_one (s_ret (d_bl))) (b_nil))
      (b_one (s_ret (d_all (k := 0) rfl (hr.mono (by decide)) (by rfl) e.fr_all (e.tb _ (by decide)) (e.tbm _ (by decide)) rfl ⟨rfl, rfl, by decide +kernel, by decide +kernel, by decide +kernel⟩ (i_seq (d_var 0)) (fun _ _ _ _ _ _ _ _ _ => g_name (i := 1) sc_is_name.nd (by rfl) (by first | exact Or.inl rfl | exact Or.inr rfl)) (fun _ _ _ _ _ _ _ hr2 hq2 => d_chain o_le o_le (d_str) (d_var 1) (d_str)))))
/-! is_card: 0 thing -/
theorem sc_is_card : FnScope ["thing"] ["thing"] (defScope s_is_card) := ⟨rfl, rfl, rfl, by decide +kernel, rfl, by decide +kernel, by decide +kernel⟩
abbrev lv_is_card : Nat := 3
theorem ok_is_card {P : Program} {w : World} {mg : Str → Option Value} {base : Heap} {K : PySem.W.Frag} (e : Ev P w mg base K) : CalG P w mg base (TT P w K) lv_is_card 1 "is_card" (M_is_card) := by
  obtain ⟨fd, F⟩ := e.says.def_ 6 (d := d_is_card) rfl
  refine cal_ofG (T := TT P w K) (p := ("is_card", none)) (N := ["thing"]) (ps := ["thing"]) (k := 2) F sc_is_card e.gl_is_card (fun _ _ _ _ _ _ us hl => match us, hl with | [_], _ => rfl) (fun A outer s H E hr hq => ?_)
  exact b_cons (s_if (ptw (w_or (t_not (t_val (d_callCG (k := lv_is_listed) (ok_is_listed e) (by rfl) (hr.mono (by decide)) hq bX_takes (d_cons (d_var 0) (d_nil))))) (w_or1 (t_cmp (o_ne hr.u64) (d_callB (c_lenX (by rfl) (by rfl) (by rfl)) (by rfl) e.fr_len (by decide +kernel) (d_cons (d_var 0) (d_nil))) (d_int) (by first | exact nobehind _ (by decide) (by decide) | rfl))))) (b_one (s_ret (d_bl))) (b_nil))
      (b_one (s_ret (d_and (d_callCG (k := lv_is_name) (ok_is_name e) (by rfl) (hr.mono (by decide)) hq bX_takes (d_cons (d_ix (x_ix (by rfl)) (d_var 0) (d_int)) (d_nil))) (d_one (d_callCG (k := lv_is_depth) (ok_is_depth e) (by rfl) (hr.mono (by decide)) hq bX_takes (d_cons (d_ix (x_ix (by rfl)) (d_var 0) (d_int)) (d_nil)))))))
/-! deck_of: 0 cards, 1 card, 2 deck, 3 name, 4 depth -/
theorem sc_deck_of : FnScope ["cards", "card", "deck", "name", "depth"] ["cards"] (defScope s_deck_of) := ⟨rfl, rfl, rfl, by decide +kernel, rfl, by decide +kernel, by decide +kernel⟩
abbrev lv_deck_of : Nat := 5
theorem ok_deck_of {P : Program} {w : World} {mg : Str → Option Value} {base : Heap} {K : PySem.W.Frag} (e : Ev P w mg base K) : CalG P w mg base (TT P w K) lv_deck_of 1 "deck_of" (M_deck_of K) := by
  obtain ⟨fd, F⟩ := e.says.def_ 7 (d := d_deck_of) rfl
  obtain ⟨t_MOST_CARDS, hc_MOST_CARDS⟩ := e.ct_MOST_CARDS
  refine cal_ofG (T := TT P w K) (p := ("deck_of", none)) (N := ["cards", "card", "deck", "name", "depth"]) (ps := ["cards"]) (k := 4) F sc_deck_of e.gl_deck_of (fun _ _ _ _ _ _ us hl => match us, hl with | [_], _ => rfl) (fun A outer s H E hr hq => ?_)
  exact b_cons (s_if (ptw (w_or (t_not (t_val (d_callCG (k := lv_is_listed) (ok_is_listed e) (by rfl) (hr.mono (by decide)) hq bX_takes (d_cons (d_var 0) (d_nil))))) (w_or1 (t_not (t_chain o_le o_le (d_int) (d_callB (c_lenX (by rfl) (by rfl) (by rfl)) (by rfl) e.fr_len (by decide +kernel) (d_cons (d_var 0) (d_nil))) (d_num (by rfl) hc_MOST_CARDS)))))) (b_one (s_raise (by rfl) bX_takes e.gl_NoDeck e.ex_NoDeck)) (b_nil))
      (b_cons (s_if (t_not (t_val (d_all (k := 3) rfl (hr.mono (by decide)) (by rfl) e.fr_all (e.tb _ (by decide)) (e.tbm _ (by decide)) rfl ⟨rfl, rfl, by decide +kernel, by decide +kernel, by decide +kernel⟩ (i_seq (d_var 0)) (fun _ _ _ _ _ _ _ _ _ => g_name (i := 1) sc_deck_of.nd (by rfl) (by first | exact Or.inl rfl | exact Or.inr rfl)) (fun _ _ _ _ _ _ _ hr2 hq2 => d_callCG (k := lv_is_card) (ok_is_card e) (by rfl) (hr2.mono (by decide)) (hq2 hq) takes0 (d_cons (d_var 1) (d_nil)))))) (b_one (s_raise (by rfl) bX_takes e.gl_NoDeck e.ex_NoDeck)) (b_nil))
      (b_cons (s_set (i := 2) sc_deck_of.nd (by rfl) (by first | exact Or.inl rfl | exact Or.inr rfl) (d_callTy (c_tuple (by rfl)) (by rfl) e.fr_tuple (by decide +kernel) (d_cons (d_lc (own := [("name", 3), ("depth", 4)]) (by rfl) sc_deck_of.nd (i_seq (d_var 0)) (blkOk_by (by kernel_rfl)) (fun _ _ _ _ _ => g_two (i := 3) (j := 4) (by rfl) (by rfl) sc_deck_of.nd (by rfl) (by first | exact Or.inl rfl | exact Or.inr rfl) (by rfl) (by first | exact Or.inl rfl | exact Or.inr rfl)) (fun _ _ _ _ _ => ts_nil) (fun _ _ _ _ _ => d_tup (d_cons (d_var 3) (d_cons (d_var 4) (d_nil))))) (d_nil))))
      (b_cons (s_if (t_cmp o_lt (d_callB (c_lenX (by rfl) (by rfl) (by rfl)) (by rfl) e.fr_len (by decide +kernel) (d_cons (d_sc (own := [("card", 1)]) (by rfl) (by rfl) (by rfl) sc_deck_of.nd (i_seq (d_var 2)) (blkOk_by (by kernel_rfl)) (fun _ _ _ _ _ => g_name (i := 1) sc_deck_of.nd (by rfl) (by first | exact Or.inl rfl | exact Or.inr rfl)) (fun _ _ _ _ _ => d_ix (x_ix (by rfl)) (d_var 1) (d_int))) (d_nil))) (d_callB (c_lenX (by rfl) (by rfl) (by rfl)) (by rfl) e.fr_len (by decide +kernel) (d_cons (d_var 2) (d_nil))) (by first | exact nobehind _ (by decide) (by decide) | rfl)) (b_one (s_raise (by rfl) bX_takes e.gl_NoDeck e.ex_NoDeck)) (b_nil))
      (b_one (s_ret (d_var 2))))))
/-! reach_of: 0 card, 1 many -/
theorem sc_reach_of : FnScope ["card", "many"] ["card", "many"] (defScope s_reach_of) := ⟨rfl, rfl, rfl, by decide +kernel, rfl, by decide +kernel, by decide +kernel⟩
abbrev lv_reach_of : Nat := 1
theorem ok_reach_of {P : Program} {w : World} {mg : Str → Option Value} {base : Heap} {K : PySem.W.Frag} (e : Ev P w mg base K) : CalG P w mg base (TT P w K) lv_reach_of 2 "reach_of" (M_reach_of) := by
  obtain ⟨fd, F⟩ := e.says.def_ 8 (d := d_reach_of) rfl
  refine cal_ofG (T := TT P w K) (p := ("reach_of", none)) (N := ["card", "many"]) (ps := ["card", "many"]) (k := 0) F sc_reach_of e.gl_reach_of (fun _ _ _ _ _ _ us hl => match us, hl with | [_, _], _ => rfl) (fun A outer s H E hr hq => ?_)
  exact b_one (s_ret (d_callB (c_min2 (by rfl)) (by rfl) e.fr_min (by decide +kernel) (d_cons (d_ix (x_ix (by rfl)) (d_var 0) (d_int)) (d_cons (d_bin o_sub (d_var 1) (d_int)) (d_nil)))))
/-! step_of: 0 deck, 1 place -/
theorem sc_step_of : FnScope ["deck", "place"] ["deck"] (defScope s_step_of) := ⟨rfl, rfl, rfl, by decide +kernel, rfl, by decide +kernel, by decide +kernel⟩
abbrev lv_step_of : Nat := 2
theorem ok_step_of {P : Program} {w : World} {mg : Str → Option Value} {base : Heap} {K : PySem.W.Frag} (e : Ev P w mg base K) : CalG P w mg base (TT P w K) lv_step_of 1 "step_of" (M_step_of) := by
  obtain ⟨fd, F⟩ := e.says.def_ 9 (d := d_step_of) rfl
  refine cal_ofG (T := TT P w K) (p := ("step_of", none)) (N := ["deck", "place"]) (ps := ["deck"]) (k := 1) F sc_step_of e.gl_step_of (fun _ _ _ _ _ _ us hl => match us, hl with | [_], _ => rfl) (fun A outer s H E hr hq => ?_)
  exact b_cons (s_set (i := 1) sc_step_of.nd (by rfl) (by first | exact Or.inl rfl | exact Or.inr rfl) (d_callCG (k := lv_reach_of) (ok_reach_of e) (by rfl) (hr.mono (by decide)) hq bX_takes (d_cons (d_ix (x_ix (by rfl)) (d_var 0) (d_int)) (d_cons (d_callB (c_lenX (by rfl) (by rfl) (by rfl)) (by rfl) e.fr_len (by decide +kernel) (d_cons (d_var 0) (d_nil))) (d_nil)))))
      (b_one (s_ret (d_bin o_add (d_bin o_add (d_sl (by rfl) (d_var 0) (d_part (d_int)) (d_part (d_bin o_add (d_var 1) (d_int)))) (d_sl (by rfl) (d_var 0) (d_noPart) (d_part (d_int)))) (d_sl (by rfl) (d_var 0) (d_part (d_bin o_add (d_var 1) (d_int))) (d_noPart)))))
/-! row_seen: 0 deck, 1 steps, 2 now, 3 names, 4 _ -/
theorem sc_row_seen : FnScope ["deck", "steps", "now", "names", "_"] ["deck", "steps"] (defScope s_row_seen) := ⟨rfl, rfl, rfl, by decide +kernel, rfl, by decide +kernel, by decide +kernel⟩
abbrev lv_row_seen : Nat := 6
theorem ok_row_seen {P : Program} {w : World} {mg : Str → Option Value} {base : Heap} {K : PySem.W.Frag} (e : Ev P w mg base K) : CalG P w mg base (TT P w K) lv_row_seen 2 "row_seen" (M_row_seen K) := by
  obtain ⟨fd, F⟩ := e.says.def_ 10 (d := d_row_seen) rfl
  obtain ⟨t_MOST_STEPS, hc_MOST_STEPS⟩ := e.ct_MOST_STEPS
  refine cal_ofG (T := TT P w K) (p := ("row_seen", none)) (N := ["deck", "steps", "now", "names", "_"]) (ps := ["deck", "steps"]) (k := 5) F sc_row_seen e.gl_row_seen (fun _ _ _ _ _ _ us hl => match us, hl with | [_, _], _ => rfl) (fun A outer s H E hr hq => ?_)
  exact b_cons (s_set (i := 2) sc_row_seen.nd (by rfl) (by first | exact Or.inl rfl | exact Or.inr rfl) (d_callCG (k := lv_deck_of) (ok_deck_of e) (by rfl) (hr.mono (by decide)) hq bX_takes (d_cons (d_var 0) (d_nil))))
      (b_cons (s_expr (d_callCG (k := lv_require_number) (ok_require_number e) (by rfl) (hr.mono (by decide)) hq bX_takes (d_cons (d_var 1) (d_cons (d_num (by rfl) hc_MOST_STEPS) (d_nil)))))
      (b_cons (s_set (i := 3) sc_row_seen.nd (by rfl) (by first | exact Or.inl rfl | exact Or.inr rfl) (d_lst (d_nil)))
      (b_cons (s_for bX_passes (by rfl) (i_rg1 (by rfl) e.fr_range (d_cons (d_var 1) (d_nil))) (g_name (i := 4) sc_row_seen.nd (by rfl) (by first | exact Or.inl rfl | exact Or.inr rfl))
      (b_cons (s_expr (d_bm PySem.F.plainAttrs_list PySem.F.slot_list_append PySem.F.type_list_append (m_append) (d_var 3) (d_cons (d_ix (x_ix (by rfl)) (d_ix (x_ix (by rfl)) (d_var 2) (d_int)) (d_int)) (d_nil))))
      (b_one (s_set (i := 2) sc_row_seen.nd (by rfl) (by first | exact Or.inl rfl | exact Or.inr rfl) (d_callCG (k := lv_step_of) (ok_step_of e) (by rfl) (hr.mono (by decide)) hq bX_takes (d_cons (d_var 2) (d_nil)))))))
      (b_one (s_ret (d_var 3))))))
/-! require_names: 0 names, 1 name -/
def m_require_names (K : PySem.W.Frag) : SF := sSeq (sIf (tOr' (tNt (tB (eCl (M_is_listed) 1 (aCons (eVar 0) (aNil))))) (tNt (tB (eCh gLe gLe (eC (.int 1)) (eCB gLenX (aCons (eVar 0) (aNil))) (eC (.int 40)))))) (sRaise (He.ga K "NoNames")) (sNop)) (sIf (tOr' (tNt (tB (eAll 2 (iSeq (eVar 0)) (tN 1) (eCl (M_is_name) 1 (aCons (eVar 1) (aNil)))))) (tB (eB gLtI (eCB gLenSet (aCons (eVar 0) (aNil))) (eCB gLenX (aCons (eVar 0) (aNil)))))) (sRaise (He.ga K "NoNames")) (sNop))
abbrev M_require_names (K : PySem.W.Frag) : List D → M D := fnM 2 (m_require_names K)
theorem sc_require_names : FnScope ["names", "name"] ["names"] (defScope s_require_names) := ⟨rfl, rfl, rfl, by decide +kernel, rfl, by decide +kernel, by decide +kernel⟩
abbrev lv_require_names : Nat := 4
theorem ok_require_names {P : Program} {w : World} {mg : Str → Option Value} {base : Heap} {K : PySem.W.Frag} (e : Ev P w mg base K) : CalG P w mg base (TT P w K) lv_require_names 1 "require_names" (M_require_names K) := by
  obtain ⟨fd, F⟩ := e.says.def_ 11 (d := d_require_names) rfl
  obtain ⟨t_MOST_CARDS, hc_MOST_CARDS⟩ := e.ct_MOST_CARDS
  refine cal_ofG (T := TT P w K) (p := ("require_names", none)) (N := ["names", "name"]) (ps := ["names"]) (k := 3) F sc_require_names e.gl_require_names (fun _ _ _ _ _ _ us hl => match us, hl with | [_], _ => rfl) (fun A outer s H E hr hq => ?_)
  exact b_cons (s_if (ptw (w_or (t_not (t_val (d_callCG (k := lv_is_listed) (ok_is_listed e) (by rfl) (hr.mono (by decide)) hq bX_takes (d_cons (d_var 0) (d_nil))))) (w_or1 (t_not (t_chain o_le o_le (d_int) (d_callB (c_lenX (by rfl) (by rfl) (by rfl)) (by rfl) e.fr_len (by decide +kernel) (d_cons (d_var 0) (d_nil))) (d_num (by rfl) hc_MOST_CARDS)))))) (b_one (s_raise (by rfl) bX_takes e.gl_NoNames e.ex_NoNames)) (b_nil))
      (b_one (s_if (ptw (w_or (t_not (t_val (d_all (k := 2) rfl (hr.mono (by decide)) (by rfl) e.fr_all (e.tb _ (by decide)) (e.tbm _ (by decide)) rfl ⟨rfl, rfl, by decide +kernel, by decide +kernel, by decide +kernel⟩ (i_seq (d_var 0)) (fun _ _ _ _ _ _ _ _ _ => g_name (i := 1) sc_require_names.nd (by rfl) (by first | exact Or.inl rfl | exact Or.inr rfl)) (fun _ _ _ _ _ _ _ hr2 hq2 => d_callCG (k := lv_is_name) (ok_is_name e) (by rfl) (hr2.mono (by decide)) (hq2 hq) takes0 (d_cons (d_var 1) (d_nil)))))) (w_or1 (t_cmp o_lt (d_lenSet (by rfl) (by rfl) (by rfl) e.fr_len (by decide +kernel) (by rfl) e.fr_set (by decide +kernel) (d_cons (d_var 0) (d_nil))) (d_callB (c_lenX (by rfl) (by rfl) (by rfl)) (by rfl) e.fr_len (by decide +kernel) (d_cons (d_var 0) (d_nil))) (by first | exact nobehind _ (by decide) (by decide) | rfl))))) (b_one (s_raise (by rfl) bX_takes e.gl_NoNames e.ex_NoNames)) (b_nil)))
/-! require_row: 0 names, 1 row, 2 name -/
def m_require_row (K : PySem.W.Frag) : SF := sIf (tOr' (tNt (tB (eCl (M_is_listed) 1 (aCons (eVar 1) (aNil))))) (tNt (tB (eEvr [0] (iSeq (eVar 1)) (tN 2) (eB (gIn false) (eVar 2) (eVar 0)))))) (sRaise (He.ga K "NoRow")) (sNop)
abbrev M_require_row (K : PySem.W.Frag) : List D → M D := fnM 3 (m_require_row K)
theorem sc_require_row : FnScope ["names", "row", "name"] ["names", "row"] (defScope s_require_row) := ⟨rfl, rfl, rfl, by decide +kernel, rfl, by decide +kernel, by decide +kernel⟩
abbrev lv_require_row : Nat := 3
theorem ok_require_row {P : Program} {w : World} {mg : Str → Option Value} {base : Heap} {K : PySem.W.Frag} (e : Ev P w mg base K) : CalG P w mg base (TT P w K) lv_require_row 2 "require_row" (M_require_row K) := by
  obtain ⟨fd, F⟩ := e.says.def_ 12 (d := d_require_row) rfl
  refine cal_ofG (T := TT P w K) (p := ("require_row", none)) (N := ["names", "row", "name"]) (ps := ["names", "row"]) (k := 2) F sc_require_row e.gl_require_row (fun _ _ _ _ _ _ us hl => match us, hl with | [_, _], _ => rfl) (fun A outer s H E hr hq => ?_)
  exact b_one (s_if (ptw (w_or (t_not (t_val (d_callCG (k := lv_is_listed) (ok_is_listed e) (by rfl) (hr.mono (by decide)) hq bX_takes (d_cons (d_var 1) (d_nil))))) (w_or1 (t_not (t_val (d_evr (k := 1) (fv := [0]) (us := [2]) rfl (hr.mono (by decide)) (by rfl) e.fr_all (e.tb _ (by decide)) (e.tbm _ (by decide)) rfl ⟨rfl, rfl, by decide +kernel, (show ∀ y : PySem.Str × NameKind, y ∈ _ → y.2 = NameKind.free → List.lookup y.1 (d_require_row.scope).names = some NameKind.cell by decide +kernel), by decide +kernel, fun i hi => by simp only [List.mem_cons, List.not_mem_nil, or_false] at hi; rcases hi with rfl <;> exact ⟨_, rfl, rfl⟩⟩ (by decide) (i_seq (d_var 1)) (fun _ _ _ _ _ _ _ _ _ => g_name (i := 2) sc_require_row.nd (by rfl) (by first | exact Or.inl rfl | exact Or.inr rfl)) (fun _ _ _ _ _ _ _ hr2 hq2 => d_cmp (o_in hr2.u65) (d_var 2) (d_var 0) (by first | exact nobehind _ (by decide) (by decide) | rfl)))))))) (b_one (s_raise (by rfl) bX_takes e.gl_NoRow e.ex_NoRow)) (b_nil))
/-! require_depths: 0 names, 1 depths, 2 depth -/
def m_require_depths (K : PySem.W.Frag) : SF := sIf (tOr' (tNt (tB (eCl (M_is_listed) 1 (aCons (eVar 1) (aNil))))) (tOr' (tB (eB (gEq true) (eCB gLenX (aCons (eVar 1) (aNil))) (eCB gLenX (aCons (eVar 0) (aNil))))) (tNt (tB (eAll 3 (iSeq (eVar 1)) (tN 2) (eCl (M_is_depth) 1 (aCons (eVar 2) (aNil)))))))) (sRaise (He.ga K "NoDepths")) (sNop)
abbrev M_require_depths (K : PySem.W.Frag) : List D → M D := fnM 3 (m_require_depths K)
theorem sc_require_depths : FnScope ["names", "depths", "depth"] ["names", "depths"] (defScope s_require_depths) := ⟨rfl, rfl, rfl, by decide +kernel, rfl, by decide +kernel, by decide +kernel⟩
abbrev lv_require_depths : Nat := 4
theorem ok_require_depths {P : Program} {w : World} {mg : Str → Option Value} {base : Heap} {K : PySem.W.Frag} (e : Ev P w mg base K) : CalG P w mg base (TT P w K) lv_require_depths 2 "require_depths" (M_require_depths K) := by
  obtain ⟨fd, F⟩ := e.says.def_ 13 (d := d_require_depths) rfl
  refine cal_ofG (T := TT P w K) (p := ("require_depths", none)) (N := ["names", "depths", "depth"]) (ps := ["names", "depths"]) (k := 3) F sc_require_depths e.gl_require_depths (fun _ _ _ _ _ _ us hl => match us, hl with | [_, _], _ => rfl) (fun A outer s H E hr hq => ?_)
  exact b_one (s_if (ptw (w_or (t_not (t_val (d_callCG (k := lv_is_listed) (ok_is_listed e) (by rfl) (hr.mono (by decide)) hq bX_takes (d_cons (d_var 1) (d_nil))))) (w_or (t_cmp (o_ne hr.u64) (d_callB (c_lenX (by rfl) (by rfl) (by rfl)) (by rfl) e.fr_len (by decide +kernel) (d_cons (d_var 1) (d_nil))) (d_callB (c_lenX (by rfl) (by rfl) (by rfl)) (by rfl) e.fr_len (by decide +kernel) (d_cons (d_var 0) (d_nil))) (by first | exact nobehind _ (by decide) (by decide) | rfl)) (w_or1 (t_not (t_val (d_all (k := 2) rfl (hr.mono (by decide)) (by rfl) e.fr_all (e.tb _ (by decide)) (e.tbm _ (by decide)) rfl ⟨rfl, rfl, by decide +kernel, by decide +kernel, by decide +kernel⟩ (i_seq (d_var 1)) (fun _ _ _ _ _ _ _ _ _ => g_name (i := 2) sc_require_depths.nd (by rfl) (by first | exact Or.inl rfl | exact Or.inr rfl)) (fun _ _ _ _ _ _ _ hr2 hq2 => d_callCG (k := lv_is_depth) (ok_is_depth e) (by rfl) (hr2.mono (by decide)) (hq2 hq) takes0 (d_cons (d_var 2) (d_nil)))))))))) (b_one (s_raise (by rfl) bX_takes e.gl_NoDepths e.ex_NoDepths)) (b_nil))
/-! depths_let: 0 names, 1 row, 2 depths, 3 deck, 4 name -/
def m_depths_let (K : PySem.W.Frag) : SF := sSeq (sEx (fz (eCl (M_require_names K) 1 (aCons (eVar 0) (aNil))))) (sSeq (sEx (eCl (M_require_row K) 2 (aCons (eVar 0) (aCons (eVar 1) (aNil))))) (sSeq (sEx (eCl (M_require_depths K) 2 (aCons (eVar 0) (aCons (eVar 2) (aNil))))) (sSeq (sSet 3 (eTZG (aCons (eVar 0) (aCons (eVar 2) (aNil))))) (sSeq (sFor (iSeq (eVar 1)) (tN 4) (sSeq (sIf (tB (eB (gEq true) (eB gIx (eB gIx (eVar 3) (eC (.int 0))) (eC (.int 0))) (eVar 4))) (sRt (eC (.bl false))) (sNop)) (sSet 3 (eCl (M_step_of) 1 (aCons (eVar 3) (aNil)))))) (sRt (eC (.bl true)))))))
abbrev M_depths_let (K : PySem.W.Frag) : List D → M D := fnM 5 (m_depths_let K)
theorem sc_depths_let : FnScope ["names", "row", "depths", "deck", "name"] ["names", "row", "depths"] (defScope s_depths_let) := ⟨rfl, rfl, rfl, by decide +kernel, rfl, by decide +kernel, by decide +kernel⟩
abbrev lv_depths_let : Nat := 5
theorem ok_depths_let {P : Program} {w : World} {mg : Str → Option Value} {base : Heap} {K : PySem.W.Frag} (e : Ev P w mg base K) : CalG P w mg base (TT P w K) lv_depths_let 3 "depths_let" (M_depths_let K) := by
  obtain ⟨fd, F⟩ := e.says.def_ 14 (d := d_depths_let) rfl
  refine cal_ofG (T := TT P w K) (p := ("depths_let", none)) (N := ["names", "row", "depths", "deck", "name"]) (ps := ["names", "row", "depths"]) (k := 4) F sc_depths_let e.gl_depths_let (fun _ _ _ _ _ _ us hl => match us, hl with | [_, _, _], _ => rfl) (fun A outer s H E hr hq => ?_)
  exact b_cons (s_expr (d_fz (d_callCG (k := lv_require_names) (ok_require_names e) (by rfl) (hr.mono (by decide)) hq bX_takes (d_cons (d_var 0) (d_nil)))))
      (b_cons (s_expr (d_callCG (k := lv_require_row) (ok_require_row e) (by rfl) (hr.mono (by decide)) hq bX_takes (d_cons (d_var 0) (d_cons (d_var 1) (d_nil)))))
      (b_cons (s_expr (d_callCG (k := lv_require_depths) (ok_require_depths e) (by rfl) (hr.mono (by decide)) hq bX_takes (d_cons (d_var 0) (d_cons (d_var 2) (d_nil)))))
      (b_cons (s_set (i := 3) sc_depths_let.nd (by rfl) (by first | exact Or.inl rfl | exact Or.inr rfl) (d_tuplezipG rfl rfl (by rfl) e.fr_tuple (by rfl) e.fr_zip (d_cons (d_var 0) (d_cons (d_var 2) (d_nil)))))
      (b_cons (s_for bX_passes (by rfl) (i_seq (d_var 1)) (g_name (i := 4) sc_depths_let.nd (by rfl) (by first | exact Or.inl rfl | exact Or.inr rfl))
      (b_cons (s_if (t_cmp (o_ne hr.u64) (d_ix (x_ix (by rfl)) (d_ix (x_ix (by rfl)) (d_var 3) (d_int)) (d_int)) (d_var 4) (by first | exact nobehind _ (by decide) (by decide) | rfl)) (b_one (s_ret (d_bl))) (b_nil))
      (b_one (s_set (i := 3) sc_depths_let.nd (by rfl) (by first | exact Or.inl rfl | exact Or.inr rfl) (d_callCG (k := lv_step_of) (ok_step_of e) (by rfl) (hr.mono (by decide)) hq bX_takes (d_cons (d_var 3) (d_nil)))))))
      (b_one (s_ret (d_bl)))))))
/-! in_order: 0 names, 1 row, 2 first, 3 step, 4 name -/
def m_in_order : SF := sSeq (sSet 2 (fz (eLc (iEnX (aCons (eVar 1) (aNil))) (tN2 3 4) (tB (eB (gIn true) (eVar 4) (eSl (eVar 1) (oNo) (oSo (eVar 3))))) (eVar 4) [3, 4]))) (sRt (eB (gEq false) (eVar 2) (fz (eCB gList (aCons (eSl (eVar 0) (oNo) (oSo (eCB gLenX (aCons (eVar 2) (aNil))))) (aNil))))))
abbrev M_in_order : List D → M D := fnM 5 (m_in_order)
theorem sc_in_order : FnScope ["names", "row", "first", "step", "name"] ["names", "row"] (defScope s_in_order) := ⟨rfl, rfl, rfl, by decide +kernel, rfl, by decide +kernel, by decide +kernel⟩
abbrev lv_in_order : Nat := 1
theorem ok_in_order {P : Program} {w : World} {mg : Str → Option Value} {base : Heap} {K : PySem.W.Frag} (e : Ev P w mg base K) : CalG P w mg base (TT P w K) lv_in_order 2 "in_order" (M_in_order) := by
  obtain ⟨fd, F⟩ := e.says.def_ 15 (d := d_in_order) rfl
  refine cal_ofG (T := TT P w K) (p := ("in_order", none)) (N := ["names", "row", "first", "step", "name"]) (ps := ["names", "row"]) (k := 0) F sc_in_order e.gl_in_order (fun _ _ _ _ _ _ us hl => match us, hl with | [_, _], _ => rfl) (fun A outer s H E hr hq => ?_)
  exact b_cons (s_setLcF (i := 2) (own := [("step", 3), ("name", 4)]) (by rfl) sc_in_order.nd (by rfl) (by rfl) (by rfl) (i_enumX (by rfl) (by rfl) e.fr_enumerate (d_cons (d_var 1) (d_nil))) (blkOk_by (by kernel_rfl)) (fun _ _ _ _ _ => g_two (i := 3) (j := 4) (by rfl) (by rfl) sc_in_order.nd (by rfl) (by first | exact Or.inl rfl | exact Or.inr rfl) (by rfl) (by first | exact Or.inl rfl | exact Or.inr rfl)) (fun _ _ _ _ _ => ts_one (t_cmp (o_notIn hr.u65) (d_var 4) (d_sl (by rfl) (d_var 1) (d_noPart) (d_part (d_var 3))) (by first | exact nobehind _ (by decide) (by decide) | rfl))) (fun _ _ _ _ _ => d_var 4))
      (b_one (s_ret (d_cmp (o_eq hr.u64) (d_var 2) (d_fz (d_callTy (c_list (by rfl)) (by rfl) e.fr_list (by decide +kernel) (d_cons (d_sl (by rfl) (d_var 0) (d_noPart) (d_part (d_callB (c_lenX (by rfl) (by rfl) (by rfl)) (by rfl) e.fr_len (by decide +kernel) (d_cons (d_var 2) (d_nil))))) (d_nil)))) (by first | exact nobehind _ (by decide) (by decide) | rfl))))
/-! many_unlike: 0 row -/
def m_many_unlike : SF := sRt (eCB gLenSet (aCons (eVar 0) (aNil)))
abbrev M_many_unlike : List D → M D := fnM 1 (m_many_unlike)
theorem sc_many_unlike : FnScope ["row"] ["row"] (defScope s_many_unlike) := ⟨rfl, rfl, rfl, by decide +kernel, rfl, by decide +kernel, by decide +kernel⟩
abbrev lv_many_unlike : Nat := 1
theorem ok_many_unlike {P : Program} {w : World} {mg : Str → Option Value} {base : Heap} {K : PySem.W.Frag} (e : Ev P w mg base K) : CalG P w mg base (TT P w K) lv_many_unlike 1 "many_unlike" (M_many_unlike) := by
  obtain ⟨fd, F⟩ := e.says.def_ 16 (d := d_many_unlike) rfl
  refine cal_ofG (T := TT P w K) (p := ("many_unlike", none)) (N := ["row"]) (ps := ["row"]) (k := 0) F sc_many_unlike e.gl_many_unlike (fun _ _ _ _ _ _ us hl => match us, hl with | [_], _ => rfl) (fun A outer s H E hr hq => ?_)
  exact b_one (s_ret (d_lenSet (by rfl) (by rfl) (by rfl) e.fr_len (by decide +kernel) (by rfl) e.fr_set (by decide +kernel) (d_cons (d_var 0) (d_nil))))
/-! reaches_let: 0 names, 1 row, 2 name, 3 steps, 4 step, 5 seen, 6 just, 7 again, 8 least, 9 reach, 10 one -/
def m_reaches_let : SF := sSeq (sSet 3 (fz (eLc (iEnX (aCons (eVar 1) (aNil))) (tN2 4 5) (tB (eB (gEq false) (eVar 5) (eVar 2))) (eVar 4) [4, 5]))) (sSeq (sIf (tNt (tTr (eVar 3))) (sRt (fz (eCB gListR (aCons (eCB gRange (aCons (eCB gLenX (aCons (eVar 0) (aNil))) (aNil))) (aNil))))) (sNop)) (sSeq (sSet 6 (fz (eLc (iZp (aCons (eVar 3) (aCons (eSl (eVar 3) (oSo (eC (.int 1))) (oNo)) (aNil)))) (tN2 4 7) (tAll) (fz (eCl (M_many_unlike) 1 (aCons (eSl (eVar 1) (oSo (eB gAdd (eVar 4) (eC (.int 1)))) (oSo (eVar 7))) (aNil)))) [4, 7]))) (sSeq (sSet 8 (fz (eCl (M_many_unlike) 1 (aCons (eSl (eVar 1) (oSo (eB gAdd (eB gIx (eVar 3) (eNeg (eC (.int 1)))) (eC (.int 1)))) (oNo)) (aNil))))) (sRt (fz (eLc (iRg2 (aCons (eVar 8) (aCons (eCB gLenX (aCons (eVar 0) (aNil))) (aNil)))) (tN 9) (tB (eEvr [9] (iSeq (eVar 6)) (tN 10) (eB (gEq false) (eVar 9) (eVar 10)))) (eVar 9) [9]))))))
abbrev M_reaches_let : List D → M D := fnM 11 (m_reaches_let)
theorem sc_reaches_let : FnScope ["names", "row", "name", "steps", "step", "seen", "just", "again", "least", "reach", "one"] ["names", "row", "name"] (defScope s_reaches_let) := ⟨rfl, rfl, rfl, by decide +kernel, rfl, by decide +kernel, by decide +kernel⟩
abbrev lv_reaches_let : Nat := 3
theorem ok_reaches_let {P : Program} {w : World} {mg : Str → Option Value} {base : Heap} {K : PySem.W.Frag} (e : Ev P w mg base K) : CalG P w mg base (TT P w K) lv_reaches_let 3 "reaches_let" (M_reaches_let) := by
  obtain ⟨fd, F⟩ := e.says.def_ 17 (d := d_reaches_let) rfl
  refine cal_ofG (T := TT P w K) (p := ("reaches_let", none)) (N := ["names", "row", "name", "steps", "step", "seen", "just", "again", "least", "reach", "one"]) (ps := ["names", "row", "name"]) (k := 2) F sc_reaches_let e.gl_reaches_let (fun _ _ _ _ _ _ us hl => match us, hl with | [_, _, _], _ => rfl) (fun A outer s H E hr hq => ?_)
  exact b_cons (s_setLcF (i := 3) (own := [("step", 4), ("seen", 5)]) (by rfl) sc_reaches_let.nd (by rfl) (by rfl) (by rfl) (i_enumX (by rfl) (by rfl) e.fr_enumerate (d_cons (d_var 1) (d_nil))) (blkOk_by (by kernel_rfl)) (fun _ _ _ _ _ => g_two (i := 4) (j := 5) (by rfl) (by rfl) sc_reaches_let.nd (by rfl) (by first | exact Or.inl rfl | exact Or.inr rfl) (by rfl) (by first | exact Or.inl rfl | exact Or.inr rfl)) (fun _ _ _ _ _ => ts_one (t_cmp (o_eq hr.u64) (d_var 5) (d_var 2) (by first | exact nobehind _ (by decide) (by decide) | rfl))) (fun _ _ _ _ _ => d_var 4))
      (b_cons (s_if (t_not (t_tru (d_var 3))) (b_one (s_ret (d_fz (d_callTy (c_listR (by rfl)) (by rfl) e.fr_list (by decide +kernel) (d_cons (d_callTy (c_range) (by rfl) e.fr_range (by decide +kernel) (d_cons (d_callB (c_lenX (by rfl) (by rfl) (by rfl)) (by rfl) e.fr_len (by decide +kernel) (d_cons (d_var 0) (d_nil))) (d_nil))) (d_nil)))))) (b_nil))
      (b_cons (s_set (i := 6) sc_reaches_let.nd (by rfl) (by first | exact Or.inl rfl | exact Or.inr rfl) (d_fz (d_lc (own := [("step", 4), ("again", 7)]) (by rfl) sc_reaches_let.nd (i_zp (by rfl) (by rfl) e.fr_zip (d_cons (d_var 3) (d_cons (d_sl (by rfl) (d_var 3) (d_part (d_int)) (d_noPart)) (d_nil)))) (blkOk_by (by kernel_rfl)) (fun _ _ _ _ _ => g_two (i := 4) (j := 7) (by rfl) (by rfl) sc_reaches_let.nd (by rfl) (by first | exact Or.inl rfl | exact Or.inr rfl) (by rfl) (by first | exact Or.inl rfl | exact Or.inr rfl)) (fun _ _ _ _ _ => ts_nil) (fun _ _ _ _ _ => d_fz (d_callCG (k := lv_many_unlike) (ok_many_unlike e) (by rfl) (hr.mono (by decide)) hq takes0 (d_cons (d_sl (by rfl) (d_var 1) (d_part (d_bin o_add (d_var 4) (d_int))) (d_part (d_var 7))) (d_nil)))))))
      (b_cons (s_set (i := 8) sc_reaches_let.nd (by rfl) (by first | exact Or.inl rfl | exact Or.inr rfl) (d_fz (d_callCG (k := lv_many_unlike) (ok_many_unlike e) (by rfl) (hr.mono (by decide)) hq bX_takes (d_cons (d_sl (by rfl) (d_var 1) (d_part (d_bin o_add (d_ix (x_ix (by rfl)) (d_var 3) (d_neg (d_int))) (d_int))) (d_noPart)) (d_nil)))))
      (b_one (s_ret (d_fz (d_lc (own := [("reach", 9)]) (by rfl) sc_reaches_let.nd (i_rg2 (by rfl) e.fr_range (d_cons (d_var 8) (d_cons (d_callB (c_lenX (by rfl) (by rfl) (by rfl)) (by rfl) e.fr_len (by decide +kernel) (d_cons (d_var 0) (d_nil))) (d_nil)))) (blkOk_by (by kernel_rfl)) (fun _ _ _ _ _ => g_name (i := 9) sc_reaches_let.nd (by rfl) (by first | exact Or.inl rfl | exact Or.inr rfl)) (fun _ _ _ _ _ => ts_one (t_val (d_evr (k := 1) (fv := [9]) (us := [10]) rfl (hr.mono (by decide)) (by rfl) e.fr_all (e.tb _ (by decide)) (e.tbm _ (by decide)) rfl ⟨rfl, rfl, by decide +kernel, (fun y hy hf => by dsimp only at hy; simp only [List.mem_cons, List.not_mem_nil, or_false] at hy; rcases hy with rfl | rfl | rfl <;> first | rfl | cases hf), by decide +kernel, fun i hi => by simp only [List.mem_cons, List.not_mem_nil, or_false] at hi; rcases hi with rfl <;> exact ⟨_, rfl, rfl⟩⟩ (by decide) (i_seq (d_var 6)) (fun _ _ _ _ _ _ _ _ _ => g_name (i := 10) sc_reaches_let.nd (by rfl) (by first | exact Or.inl rfl | exact Or.inr rfl)) (fun _ _ _ _ _ _ _ hr2 hq2 => d_cmp (o_eq hr2.u64) (d_var 9) (d_var 10) (by first | exact nobehind _ (by decide) (by decide) | rfl))))) (fun _ _ _ _ _ => d_var 9))))))))
/-! all_depths: 0 names, 1 row, 2 choices, 3 name, 4 many, 5 reaches, 6 told, 7 depths, 8 reach -/
def m_all_depths (K : PySem.W.Frag) : SF := sSeq (sEx (fz (eCl (M_require_names K) 1 (aCons (eVar 0) (aNil))))) (sSeq (sEx (eCl (M_require_row K) 2 (aCons (eVar 0) (aCons (eVar 1) (aNil))))) (sSeq (sIf (tNt (tB (eCl (M_in_order) 2 (aCons (eVar 0) (aCons (eVar 1) (aNil)))))) (sRt (fz (eLst (aNil)))) (sNop)) (sSeq (sSet 2 (fz (eLc (iSeq (eVar 0)) (tN 3) (tAll) (eCl (M_reaches_let) 3 (aCons (eVar 0) (aCons (eVar 1) (aCons (eVar 3) (aNil))))) [3]))) (sSeq (sSet 4 (eC (.int 1))) (sSeq (sFor (iSeq (eVar 2)) (tN 5) (sSet 4 (eB gMul (eVar 4) (eCB gLenX (aCons (eVar 5) (aNil)))))) (sSeq (sIf (tB (eB gGtI (eVar 4) (eC (.int 1000)))) (sRaise (He.ga K "TooMany")) (sNop)) (sSeq (sIf (tB (eB (gEq false) (eVar 4) (eC (.int 0)))) (sRt (fz (eLst (aNil)))) (sNop)) (sSeq (sSet 6 (fz (eLst (aCons (eTup (aNil)) (aNil))))) (sSeq (sFor (iSeq (eVar 2)) (tN 5) (sSet 6 (fz (eLc2 (iSeq (eVar 6)) (tN 7) (tAll) (iSeq (eVar 5)) (tN 8) (tAll) (eB gAdd (eVar 7) (eTup (aCons (eVar 8) (aNil)))) [7, 8] [8])))) (sRt (eVar 6)))))))))))
abbrev M_all_depths (K : PySem.W.Frag) : List D → M D := fnM 9 (m_all_depths K)
theorem sc_all_depths : FnScope ["names", "row", "choices", "name", "many", "reaches", "told", "depths", "reach"] ["names", "row"] (defScope s_all_depths) := ⟨rfl, rfl, rfl, by decide +kernel, rfl, by decide +kernel, by decide +kernel⟩
abbrev lv_all_depths : Nat := 5
theorem ok_all_depths {P : Program} {w : World} {mg : Str → Option Value} {base : Heap} {K : PySem.W.Frag} (e : Ev P w mg base K) : CalG P w mg base (TT P w K) lv_all_depths 2 "all_depths" (M_all_depths K) := by
  obtain ⟨fd, F⟩ := e.says.def_ 18 (d := d_all_depths) rfl
  obtain ⟨t_MOST_DEPTHS, hc_MOST_DEPTHS⟩ := e.ct_MOST_DEPTHS
  refine cal_ofG (T := TT P w K) (p := ("all_depths", none)) (N := ["names", "row", "choices", "name", "many", "reaches", "told", "depths", "reach"]) (ps := ["names", "row"]) (k := 4) F sc_all_depths e.gl_all_depths (fun _ _ _ _ _ _ us hl => match us, hl with | [_, _], _ => rfl) (fun A outer s H E hr hq => ?_)
  exact b_cons (s_expr (d_fz (d_callCG (k := lv_require_names) (ok_require_names e) (by rfl) (hr.mono (by decide)) hq bX_takes (d_cons (d_var 0) (d_nil)))))
      (b_cons (s_expr (d_callCG (k := lv_require_row) (ok_require_row e) (by rfl) (hr.mono (by decide)) hq bX_takes (d_cons (d_var 0) (d_cons (d_var 1) (d_nil)))))
      (b_cons (s_if (t_not (t_val (d_callCG (k := lv_in_order) (ok_in_order e) (by rfl) (hr.mono (by decide)) hq bX_takes (d_cons (d_var 0) (d_cons (d_var 1) (d_nil)))))) (b_one (s_ret (d_fz (d_lst (d_nil))))) (b_nil))
      (b_cons (s_setLcF (i := 2) (own := [("name", 3)]) (by rfl) sc_all_depths.nd (by rfl) (by rfl) (by rfl) (i_seq (d_var 0)) (blkOk_by (by kernel_rfl)) (fun _ _ _ _ _ => g_name (i := 3) sc_all_depths.nd (by rfl) (by first | exact Or.inl rfl | exact Or.inr rfl)) (fun _ _ _ _ _ => ts_nil) (fun _ _ _ _ _ => d_callCG (k := lv_reaches_let) (ok_reaches_let e) (by rfl) (hr.mono (by decide)) hq takes0 (d_cons (d_var 0) (d_cons (d_var 1) (d_cons (d_var 3) (d_nil))))))
      (b_cons (s_set (i := 4) sc_all_depths.nd (by rfl) (by first | exact Or.inl rfl | exact Or.inr rfl) (d_int))
      (b_cons (s_for bX_passes (by rfl) (i_seq (d_var 2)) (g_name (i := 5) sc_all_depths.nd (by rfl) (by first | exact Or.inl rfl | exact Or.inr rfl))
      (b_one (s_augN (i := 4) sc_all_depths.nd (by rfl) (by first | exact Or.inl rfl | exact Or.inr rfl) io_mul (d_callB (c_lenX (by rfl) (by rfl) (by rfl)) (by rfl) e.fr_len (by decide +kernel) (d_cons (d_var 5) (d_nil))))))
      (b_cons (s_if (t_cmp o_gt (d_var 4) (d_num (by rfl) hc_MOST_DEPTHS) (by first | exact nobehind _ (by decide) (by decide) | rfl)) (b_one (s_raise (by rfl) bX_takes e.gl_TooMany e.ex_TooMany)) (b_nil))
      (b_cons (s_if (t_cmp (o_eq hr.u64) (d_var 4) (d_int) (by first | exact nobehind _ (by decide) (by decide) | rfl)) (b_one (s_ret (d_fz (d_lst (d_nil))))) (b_nil))
      (b_cons (s_set (i := 6) sc_all_depths.nd (by rfl) (by first | exact Or.inl rfl | exact Or.inr rfl) (d_fz (d_lst (d_cons (d_tup (d_nil)) (d_nil)))))
      (b_cons (s_for bX_passes (by rfl) (i_seq (d_var 2)) (g_name (i := 5) sc_all_depths.nd (by rfl) (by first | exact Or.inl rfl | exact Or.inr rfl))
      (b_one (s_setLc2F (vs1 := [8]) (i := 6) (own := [("depths", 7), ("reach", 8)]) (by rfl) sc_all_depths.nd (by rfl) (by rfl) (by rfl) (i_seq (d_var 6)) (blkOk_by (by kernel_rfl)) (by decide) (fun _ _ _ _ _ => g_name (i := 7) sc_all_depths.nd (by rfl) (by first | exact Or.inl rfl | exact Or.inr rfl)) (fun _ _ _ _ _ => ts_nil) (fun _ _ _ _ _ => i_seq (d_var 5)) (fun _ _ _ _ _ => g_name (i := 8) sc_all_depths.nd (by rfl) (by first | exact Or.inl rfl | exact Or.inr rfl)) (fun _ _ _ _ _ => ts_nil) (fun _ _ _ _ _ => d_bin o_add (d_var 7) (d_tup (d_cons (d_var 8) (d_nil)))))))
      (b_one (s_ret (d_var 6))))))))))))
/-! _law_bag: 0 script, 1 total, 2 cell -/
theorem sc_bag_bag : FnScope ["script", "total", "cell"] ["script"] (defScope s_bag_bag) := ⟨rfl, rfl, rfl, by decide +kernel, rfl, by decide +kernel, by decide +kernel⟩
abbrev lv_bag_bag : Nat := 1
/-! _law_bag: 0 script, 1 total, 2 cell -/
theorem ok_x_bag_bag {P : Program} {w : World} {mg : Str → Option Value} {base : Heap} {K : PySem.W.Frag} (e : Ev P w mg base K) : CalG P w mg base (TT P w K) lv_bag_bag 1 "_law_bag" (M_x_bag_bag) := by
  obtain ⟨fd, F⟩ := e.says.def_ 19 (d := d_bag_bag) rfl
  refine cal_ofG (T := TT P w K) (p := ("_law_bag", none)) (N := ["script", "total", "cell"]) (ps := ["script"]) (k := 0) F sc_bag_bag e.gl__law_bag (fun _ _ _ _ _ _ us hl => match us, hl with | [_], _ => rfl) (fun A outer s H E hr hq => ?_)
  exact b_cons (s_set (i := 1) sc_bag_bag.nd (by rfl) (by first | exact Or.inl rfl | exact Or.inr rfl) (d_int))
      (b_cons (s_for bX_passes (by rfl) (i_scr rfl (d_var 0)) (g_name (i := 2) sc_bag_bag.nd (by rfl) (by first | exact Or.inl rfl | exact Or.inr rfl))
      (b_one (s_set (i := 1) sc_bag_bag.nd (by rfl) (by first | exact Or.inl rfl | exact Or.inr rfl) (d_bin o_mod (d_bin o_add (d_bin o_add (d_bin o_mulX (d_var 1) (d_int)) (d_bin o_mod (d_var 2) (d_int))) (d_int)) (d_int)))))
      (b_one (s_ret (d_lst (d_cons (d_fz (d_callTy (c_list (by rfl)) (by rfl) e.fr_list (by decide +kernel) (d_cons (d_var 0) (d_nil)))) (d_cons (d_int) (d_cons (d_int) (d_cons (d_int) (d_cons (d_var 1) (d_nil))))))))))
/-! _law_stir: 0 number, 1 place, 2 one, 3 two -/
theorem sc_bag_stir : FnScope ["number", "place", "one", "two"] ["number", "place"] (defScope s_bag_stir) := ⟨rfl, rfl, rfl, by decide +kernel, rfl, by decide +kernel, by decide +kernel⟩
abbrev lv_bag_stir : Nat := 1
theorem ok_bag_stir {P : Program} {w : World} {mg : Str → Option Value} {base : Heap} {K : PySem.W.Frag} (e : Ev P w mg base K) : CalG P w mg base (TT P w K) lv_bag_stir 2 "_law_stir" (M_bag_stir) := by
  obtain ⟨fd, F⟩ := e.says.def_ 20 (d := d_bag_stir) rfl
  refine cal_ofG (T := TT P w K) (p := ("_law_stir", none)) (N := ["number", "place", "one", "two"]) (ps := ["number", "place"]) (k := 0) F sc_bag_stir e.gl__law_stir (fun _ _ _ _ _ _ us hl => match us, hl with | [_, _], _ => rfl) (fun A outer s H E hr hq => ?_)
  exact b_cons (s_set (i := 2) sc_bag_stir.nd (by rfl) (by first | exact Or.inl rfl | exact Or.inr rfl) (d_bin o_mod (d_bin o_add (d_bin o_add (d_bin o_mulX (d_var 0) (d_int)) (d_bin o_mulX (d_var 1) (d_int))) (d_int)) (d_int)))
      (b_cons (s_set (i := 3) sc_bag_stir.nd (by rfl) (by first | exact Or.inl rfl | exact Or.inr rfl) (d_bin o_mod (d_bin o_mulX (d_var 2) (d_var 2)) (d_int)))
      (b_one (s_ret (d_bin o_div (d_bin o_mod (d_bin o_add (d_bin o_add (d_bin o_mulX (d_var 3) (d_int)) (d_bin o_mulX (d_bin o_mulX (d_var 1) (d_var 1)) (d_int))) (d_bin o_div (d_var 2) (d_int))) (d_int)) (d_int)))))
/-! _law_draw: 0 bag, 1 many, 2 cell, 3 found -/
theorem sc_bag_draw : FnScope ["bag", "many", "cell", "found"] ["bag", "many"] (defScope s_bag_draw) := ⟨rfl, rfl, rfl, by decide +kernel, rfl, by decide +kernel, by decide +kernel⟩
abbrev lv_bag_draw : Nat := 2
theorem ok_bag_draw {P : Program} {w : World} {mg : Str → Option Value} {base : Heap} {K : PySem.W.Frag} (e : Ev P w mg base K) : CalG P w mg base (TT P w K) lv_bag_draw 2 "_law_draw" (M_bag_draw) := by
  obtain ⟨fd, F⟩ := e.says.def_ 21 (d := d_bag_draw) rfl
  refine cal_ofG (T := TT P w K) (p := ("_law_draw", none)) (N := ["bag", "many", "cell", "found"]) (ps := ["bag", "many"]) (k := 1) F sc_bag_draw e.gl__law_draw (fun _ _ _ _ _ _ us hl => match us, hl with | [_, _], _ => rfl) (fun A outer s H E hr hq => ?_)
  exact b_cons (s_if (t_cmp (o_eq hr.u64) (d_var 1) (d_int) (by first | exact nobehind _ (by decide) (by decide) | rfl)) (b_one (s_ret (d_int))) (b_nil))
      (b_cons (s_put (d_bin o_add (d_ix (x_ix (by rfl)) (d_var 0) (d_int)) (d_int)) (d_var 0) (d_int))
      (b_cons (s_if (ptw (w_and (t_cmp o_lt (d_ix (x_ix (by rfl)) (d_var 0) (d_int)) (d_int) (by first | exact nobehind _ (by decide) (by decide) | rfl)) (w_and1 (t_cmp (o_eq hr.u64) (d_ix (x_ix (by rfl)) (d_var 0) (d_int)) (d_callB (c_lenX (by rfl) (by rfl) (by rfl)) (by rfl) e.fr_len (by decide +kernel) (d_cons (d_ix (x_ix (by rfl)) (d_var 0) (d_int)) (d_nil))) (by first | exact nobehind _ (by decide) (by decide) | rfl))))) (b_one (s_ret (d_bin o_mod (d_callCG (k := lv_bag_stir) (ok_bag_stir e) (by rfl) (hr.mono (by decide)) hq bX_takes (d_cons (d_ix (x_ix (by rfl)) (d_var 0) (d_int)) (d_cons (d_ix (x_ix (by rfl)) (d_var 0) (d_int)) (d_nil)))) (d_var 1)))) (b_nil))
      (b_cons (s_if (t_cmp o_lt (d_ix (x_ix (by rfl)) (d_var 0) (d_int)) (d_int) (by first | exact nobehind _ (by decide) (by decide) | rfl)) (b_cons (s_set (i := 2) sc_bag_draw.nd (by rfl) (by first | exact Or.inl rfl | exact Or.inr rfl) (d_ix (x_ix (by rfl)) (d_ix (x_ix (by rfl)) (d_var 0) (d_int)) (d_ix (x_ix (by rfl)) (d_var 0) (d_int))))
      (b_cons (s_put (d_bin o_add (d_ix (x_ix (by rfl)) (d_var 0) (d_int)) (d_int)) (d_var 0) (d_int))
      (b_cons (s_if (t_cmp o_lt (d_var 2) (d_bin o_pow (d_int) (d_int)) (by first | exact nobehind _ (by decide) (by decide) | rfl)) (b_one (s_ret (d_bin o_mod (d_callCG (k := lv_bag_stir) (ok_bag_stir e) (by rfl) (hr.mono (by decide)) hq bX_takes (d_cons (d_bin o_mod (d_var 2) (d_int)) (d_cons (d_ix (x_ix (by rfl)) (d_var 0) (d_int)) (d_nil)))) (d_var 1)))) (b_nil))
      (b_one (s_put (d_bin o_sub (d_var 2) (d_bin o_pow (d_int) (d_int))) (d_var 0) (d_int)))))) (b_nil))
      (b_cons (s_set (i := 3) sc_bag_draw.nd (by rfl) (by first | exact Or.inl rfl | exact Or.inr rfl) (d_bin o_mod (d_ix (x_ix (by rfl)) (d_var 0) (d_int)) (d_var 1)))
      (b_cons (s_put (d_bin o_div (d_ix (x_ix (by rfl)) (d_var 0) (d_int)) (d_var 1)) (d_var 0) (d_int))
      (b_one (s_ret (d_var 3))))))))
/-! _law_mixed: 0 bag, 1 row, 2 left, 3 k -/
theorem sc_bag_mixed : FnScope ["bag", "row", "left", "k"] ["bag", "row"] (defScope s_bag_mixed) := ⟨rfl, rfl, rfl, by decide +kernel, rfl, by decide +kernel, by decide +kernel⟩
abbrev lv_bag_mixed : Nat := 3
theorem ok_bag_mixed {P : Program} {w : World} {mg : Str → Option Value} {base : Heap} {K : PySem.W.Frag} (e : Ev P w mg base K) : CalG P w mg base (TT P w K) lv_bag_mixed 2 "_law_mixed" (M_bag_mixed) := by
  obtain ⟨fd, F⟩ := e.says.def_ 22 (d := d_bag_mixed) rfl
  refine cal_ofG (T := TT P w K) (p := ("_law_mixed", none)) (N := ["bag", "row", "left", "k"]) (ps := ["bag", "row"]) (k := 2) F sc_bag_mixed e.gl__law_mixed (fun _ _ _ _ _ _ us hl => match us, hl with | [_, _], _ => rfl) (fun A outer s H E hr hq => ?_)
  exact b_cons (s_set (i := 2) sc_bag_mixed.nd (by rfl) (by first | exact Or.inl rfl | exact Or.inr rfl) (d_callTy (c_list (by rfl)) (by rfl) e.fr_list (by decide +kernel) (d_cons (d_var 1) (d_nil))))
      (b_one (s_ret (d_fz (d_lc (own := [("k", 3)]) (by rfl) sc_bag_mixed.nd (i_rg1 (by rfl) e.fr_range (d_cons (d_callB (c_lenX (by rfl) (by rfl) (by rfl)) (by rfl) e.fr_len (by decide +kernel) (d_cons (d_var 1) (d_nil))) (d_nil))) (blkOk_by (by kernel_rfl)) (fun _ _ _ _ _ => g_name (i := 3) sc_bag_mixed.nd (by rfl) (by first | exact Or.inl rfl | exact Or.inr rfl)) (fun _ _ _ _ _ => ts_nil) (fun _ _ _ _ _ => d_bm PySem.F.plainAttrs_list PySem.F.slot_list_pop PySem.F.type_list_pop (m_popAt) (d_var 2) (d_cons (d_callCG (k := lv_bag_draw) (ok_bag_draw e) (by rfl) (hr.mono (by decide)) hq takes0 (d_cons (d_var 0) (d_cons (d_callB (c_lenX (by rfl) (by rfl) (by rfl)) (by rfl) e.fr_len (by decide +kernel) (d_cons (d_var 2) (d_nil))) (d_nil)))) (d_nil)))))))
/-! _law_names: 0 bag, 1 many, 2 letters, 3 some, 4 k, 5 at, 6 letter -/
theorem sc_bag_names : FnScope ["bag", "many", "letters", "some", "k", "at", "letter"] ["bag", "many"] (defScope s_bag_names) := ⟨rfl, rfl, rfl, by decide +kernel, rfl, by decide +kernel, by decide +kernel⟩
abbrev lv_bag_names : Nat := 4
theorem ok_bag_names {P : Program} {w : World} {mg : Str → Option Value} {base : Heap} {K : PySem.W.Frag} (e : Ev P w mg base K) : CalG P w mg base (TT P w K) lv_bag_names 2 "_law_names" (M_bag_names) := by
  obtain ⟨fd, F⟩ := e.says.def_ 23 (d := d_bag_names) rfl
  refine cal_ofG (T := TT P w K) (p := ("_law_names", none)) (N := ["bag", "many", "letters", "some", "k", "at", "letter"]) (ps := ["bag", "many"]) (k := 3) F sc_bag_names e.gl__law_names (fun _ _ _ _ _ _ us hl => match us, hl with | [_, _], _ => rfl) (fun A outer s H E hr hq => ?_)
  exact b_cons (s_set (i := 2) sc_bag_names.nd (by rfl) (by first | exact Or.inl rfl | exact Or.inr rfl) (d_str))
      (b_cons (s_set (i := 3) sc_bag_names.nd (by rfl) (by first | exact Or.inl rfl | exact Or.inr rfl) (d_bin o_add (d_fz (d_lc (own := [("k", 4)]) (by rfl) sc_bag_names.nd (i_rg1 (by rfl) e.fr_range (d_cons (d_int) (d_nil))) (blkOk_by (by kernel_rfl)) (fun _ _ _ _ _ => g_name (i := 4) sc_bag_names.nd (by rfl) (by first | exact Or.inl rfl | exact Or.inr rfl)) (fun _ _ _ _ _ => ts_nil) (fun _ _ _ _ _ => d_bin o_mulX (d_ix (x_ix (by rfl)) (d_var 2) (d_bin o_mod (d_var 4) (d_int))) (d_bin o_add (d_int) (d_bin o_div (d_var 4) (d_int)))))) (d_fz (d_lst (d_cons (d_str) (d_cons (d_str) (d_nil)))))))
      (b_cons (s_if (ptw (w_and (t_cmp o_lt (d_var 1) (d_int) (by first | exact nobehind _ (by decide) (by decide) | rfl)) (w_and1 (t_cmp (o_eq hr.u64) (d_callCG (k := lv_bag_draw) (ok_bag_draw e) (by rfl) (hr.mono (by decide)) hq bX_takes (d_cons (d_var 0) (d_cons (d_int) (d_nil)))) (d_int) (by first | exact nobehind _ (by decide) (by decide) | rfl))))) (b_cons (s_set (i := 5) sc_bag_names.nd (by rfl) (by first | exact Or.inl rfl | exact Or.inr rfl) (d_callCG (k := lv_bag_draw) (ok_bag_draw e) (by rfl) (hr.mono (by decide)) hq bX_takes (d_cons (d_var 0) (d_cons (d_int) (d_nil)))))
      (b_cons (s_setLcF (i := 3) (own := [("letter", 6)]) (by rfl) sc_bag_names.nd (by rfl) (by rfl) (by rfl) (i_seq (d_var 2)) (blkOk_by (by kernel_rfl)) (fun _ _ _ _ _ => g_name (i := 6) sc_bag_names.nd (by rfl) (by first | exact Or.inl rfl | exact Or.inr rfl)) (fun _ _ _ _ _ => ts_nil) (fun _ _ _ _ _ => d_bin o_add (d_bin o_add (d_slX (by rfl) (d_str) (d_noPart) (d_part (d_var 5))) (d_var 6)) (d_slX (by rfl) (d_str) (d_part (d_var 5)) (d_noPart))))
      (b_one (s_if (ptw (w_and (t_cmp o_lt (d_var 1) (d_int) (by first | exact nobehind _ (by decide) (by decide) | rfl)) (w_and1 (t_cmp (o_eq hr.u64) (d_callCG (k := lv_bag_draw) (ok_bag_draw e) (by rfl) (hr.mono (by decide)) hq bX_takes (d_cons (d_var 0) (d_cons (d_int) (d_nil)))) (d_int) (by first | exact nobehind _ (by decide) (by decide) | rfl))))) (b_one (s_set (i := 3) sc_bag_names.nd (by rfl) (by first | exact Or.inl rfl | exact Or.inr rfl) (d_bin o_add (d_fz (d_lc (own := [("k", 4)]) (by rfl) sc_bag_names.nd (i_rg1 (by rfl) e.fr_range (d_cons (d_int) (d_nil))) (blkOk_by (by kernel_rfl)) (fun _ _ _ _ _ => g_name (i := 4) sc_bag_names.nd (by rfl) (by first | exact Or.inl rfl | exact Or.inr rfl)) (fun _ _ _ _ _ => ts_nil) (fun _ _ _ _ _ => d_bin o_add (d_slX (by rfl) (d_str) (d_part (d_var 4)) (d_noPart)) (d_slX (by rfl) (d_str) (d_noPart) (d_part (d_var 4)))))) (d_fz (d_lc (own := [("k", 4)]) (by rfl) sc_bag_names.nd (i_rg2 (by rfl) e.fr_range (d_cons (d_int) (d_cons (d_int) (d_nil)))) (blkOk_by (by kernel_rfl)) (fun _ _ _ _ _ => g_name (i := 4) sc_bag_names.nd (by rfl) (by first | exact Or.inl rfl | exact Or.inr rfl)) (fun _ _ _ _ _ => ts_nil) (fun _ _ _ _ _ => d_slX (by rfl) (d_str) (d_noPart) (d_part (d_var 4)))))))) (b_nil))))) (b_nil))
      (b_one (s_ret (d_slX (by rfl) (d_fz (d_callCG (k := lv_bag_mixed) (ok_bag_mixed e) (by rfl) (hr.mono (by decide)) hq bX_takes (d_cons (d_var 0) (d_cons (d_var 3) (d_nil))))) (d_noPart) (d_part (d_var 1)))))))
/-! law: 0 script, 1 bag, 2 turn, 3 many, 4 names, 5 own, 6 name, 7 row, 8 left, 9 long, 10 parted, 11 later, 12 some, 13 depths, 14 others, 15 calls -/
def m_law (K : PySem.W.Frag) : SF := sSeq (sSet 1 (eCl (M_x_bag_bag) 1 (aCons (eVar 0) (aNil)))) (sSeq (sFor (iRg1 (aCons (eB gAdd (eC (.int 2)) (eCB gMin2 (aCons (eC (.int 3)) (aCons (eCB gLenX (aCons (eVar 0) (aNil))) (aNil))))) (aNil))) (tN 2) (sSeq (sSet 3 (eB gAdd (eC (.int 2)) (eCl (M_bag_draw) 2 (aCons (eVar 1) (aCons (eC (.int 3)) (aNil)))))) (sSeq (sSet 4 (eCl (M_bag_names) 2 (aCons (eVar 1) (aCons (eVar 3) (aNil))))) (sSeq (sSet 5 (eCB gTuple (aCons (fz (eLc (iSeq (eVar 4)) (tN 6) (tAll) (eCl (M_bag_draw) 2 (aCons (eVar 1) (aCons (eVar 3) (aNil)))) [6])) (aNil)))) (sSeq (sSet 7 (fz (eCl (M_row_seen K) 2 (aCons (eCB gTuple (aCons (fz (eLZG (aCons (eVar 4) (aCons (eVar 5) (aNil))))) (aNil))) (aCons (eC (.int 40)) (aNil)))))) (sSeq (sSet 8 (eCl (M_all_depths K) 2 (aCons (eVar 4) (aCons (fz (eLst (aNil))) (aNil))))) (sSeq (sFor (iRg1 (aCons (eC (.int 24)) (aNil))) (tN 9) (sSeq (sSet 10 (eLst (aNil))) (sSeq (sSet 11 (fz (eLst (aNil)))) (sSeq (sFor (iSeq (eVar 4)) (tN 6) (sSeq (sSet 12 (eCl (M_all_depths K) 2 (aCons (eVar 4) (aCons (eB gAdd (eSl (eVar 7) (oNo) (oSo (eVar 9))) (fz (eLst (aCons (eVar 6) (aNil))))) (aNil))))) (sSeq (sIf (tB (eB (gEq false) (eVar 6) (eB gIx (eVar 7) (eVar 9)))) (sSet 11 (eVar 12)) (sNop)) (sEx (eBM "list" gExtendX (eVar 10) (aCons (eVar 12) (aNil))))))) (sSeq (sIf (tOr' (tB (eB (gEq true) (fz (eCB gSorted (aCons (eVar 10) (aNil)))) (eVar 8))) (tB (eB (gIn true) (eVar 5) (eVar 11)))) (sRt (eC (.bl false))) (sNop)) (sSet 8 (eVar 11))))))) (sSeq (sFor (iSeq (eSl (eVar 8) (oNo) (oSo (eC (.int 20))))) (tN 13) (sIf (tOr' (tB (eB (gEq true) (fz (eCl (M_row_seen K) 2 (aCons (eCB gTuple (aCons (fz (eLZG (aCons (eVar 4) (aCons (eVar 13) (aNil))))) (aNil))) (aCons (eC (.int 24)) (aNil))))) (eSl (eVar 7) (oNo) (oSo (eC (.int 24)))))) (tNt (tB (eCl (M_depths_let K) 3 (aCons (eVar 4) (aCons (eSl (eVar 7) (oNo) (oSo (eC (.int 24)))) (aCons (eVar 13) (aNil)))))))) (sRt (eC (.bl false))) (sNop))) (sSeq (sSet 14 (eCl (M_bag_names) 2 (aCons (eVar 1) (aCons (eVar 3) (aNil))))) (sSeq (sSet 15 (fz (eCB gDict (aCons (eLZG (aCons (eVar 4) (aCons (eVar 14) (aNil)))) (aNil))))) (sSeq (sIf (tB (eB (gEq true) (eCl (M_all_depths K) 2 (aCons (eVar 14) (aCons (fz (eLc (iSeq (eSl (eVar 7) (oNo) (oSo (eC (.int 24))))) (tN 6) (tAll) (eB gGetX (eVar 15) (eVar 6)) [6])) (aNil)))) (eVar 8))) (sRt (eC (.bl false))) (sNop)) (sIf (tB (eB (gEq true) (eCl (M_all_depths K) 2 (aCons (eVar 4) (aCons (eVar 7) (aNil)))) (fz (eLc (iSeq (eVar 8)) (tN 13) (tB (eCl (M_depths_let K) 3 (aCons (eVar 4) (aCons (eVar 7) (aCons (eVar 13) (aNil)))))) (eVar 13) [13])))) (sRt (eC (.bl false))) (sNop))))))))))))) (sRt (eC (.bl true))))
abbrev M_law (K : PySem.W.Frag) : List D → M D := fnM 16 (m_law K)
theorem sc_law : FnScope ["script", "bag", "turn", "many", "names", "own", "name", "row", "left", "long", "parted", "later", "some", "depths", "others", "calls"] ["script"] (defScope s_law) := ⟨rfl, rfl, rfl, by decide +kernel, rfl, by decide +kernel, by decide +kernel⟩
abbrev lv_law : Nat := 7
theorem fo_law {P : Program} {w : World} {mg : Str → Option Value} {base : Heap} {K : PySem.W.Frag} (e : Ev P w mg base K) {fd : FuncData} (F : FunD K d_law.name d_law.qual d_law.params d_law.body d_law.scope [] [] (He.fAd K ("law", none)) fd) : FnOkG P w K mg base (L2.CX P w) lv_law (He.fAd K ("law", none)) fd ["script"] (spM (TT P w K) (M_law K) 1) := by
  refine fn_sbG (T := TT P w K) (p := ("law", none)) (N := ["script", "bag", "turn", "many", "names", "own", "name", "row", "left", "long", "parted", "later", "some", "depths", "others", "calls"]) (ps := ["script"]) (k := 6) (g := m_law K) F sc_law (fun A outer s H E hr hq => ?_)
  exact b_cons (s_set (i := 1) sc_law.nd (by rfl) (by first | exact Or.inl rfl | exact Or.inr rfl) (d_callCG (k := lv_bag_bag) (ok_x_bag_bag e) (by rfl) (hr.mono (by decide)) hq bX_takes (d_cons (d_var 0) (d_nil))))
      (b_cons (s_for bX_passes (by rfl) (i_rg1 (by rfl) e.fr_range (d_cons (d_bin o_add (d_int) (d_callB (c_min2 (by rfl)) (by rfl) e.fr_min (by decide +kernel) (d_cons (d_int) (d_cons (d_callB (c_lenX (by rfl) (by rfl) (by rfl)) (by rfl) e.fr_len (by decide +kernel) (d_cons (d_var 0) (d_nil))) (d_nil))))) (d_nil))) (g_name (i := 2) sc_law.nd (by rfl) (by first | exact Or.inl rfl | exact Or.inr rfl))
      (b_cons (s_set (i := 3) sc_law.nd (by rfl) (by first | exact Or.inl rfl | exact Or.inr rfl) (d_bin o_add (d_int) (d_callCG (k := lv_bag_draw) (ok_bag_draw e) (by rfl) (hr.mono (by decide)) hq bX_takes (d_cons (d_var 1) (d_cons (d_int) (d_nil))))))
      (b_cons (s_set (i := 4) sc_law.nd (by rfl) (by first | exact Or.inl rfl | exact Or.inr rfl) (d_callCG (k := lv_bag_names) (ok_bag_names e) (by rfl) (hr.mono (by decide)) hq bX_takes (d_cons (d_var 1) (d_cons (d_var 3) (d_nil)))))
      (b_cons (s_set (i := 5) sc_law.nd (by rfl) (by first | exact Or.inl rfl | exact Or.inr rfl) (d_callTy (c_tuple (by rfl)) (by rfl) e.fr_tuple (by decide +kernel) (d_cons (d_fz (d_lc (own := [("name", 6)]) (by rfl) sc_law.nd (i_seq (d_var 4)) (blkOk_by (by kernel_rfl)) (fun _ _ _ _ _ => g_name (i := 6) sc_law.nd (by rfl) (by first | exact Or.inl rfl | exact Or.inr rfl)) (fun _ _ _ _ _ => ts_nil) (fun _ _ _ _ _ => d_callCG (k := lv_bag_draw) (ok_bag_draw e) (by rfl) (hr.mono (by decide)) hq takes0 (d_cons (d_var 1) (d_cons (d_var 3) (d_nil)))))) (d_nil))))
      (b_cons (s_set (i := 7) sc_law.nd (by rfl) (by first | exact Or.inl rfl | exact Or.inr rfl) (d_fz (d_callCG (k := lv_row_seen) (ok_row_seen e) (by rfl) (hr.mono (by decide)) hq bX_takes (d_cons (d_callTy (c_tuple (by rfl)) (by rfl) e.fr_tuple (by decide +kernel) (d_cons (d_fz (d_listzipG rfl rfl (by rfl) e.fr_list (by rfl) e.fr_zip (d_cons (d_var 4) (d_cons (d_var 5) (d_nil))))) (d_nil))) (d_cons (d_int) (d_nil))))))
      (b_cons (s_set (i := 8) sc_law.nd (by rfl) (by first | exact Or.inl rfl | exact Or.inr rfl) (d_callCG (k := lv_all_depths) (ok_all_depths e) (by rfl) (hr.mono (by decide)) hq bX_takes (d_cons (d_var 4) (d_cons (d_fz (d_lst (d_nil))) (d_nil)))))
      (b_cons (s_for bX_passes (by rfl) (i_rg1 (by rfl) e.fr_range (d_cons (d_int) (d_nil))) (g_name (i := 9) sc_law.nd (by rfl) (by first | exact Or.inl rfl | exact Or.inr rfl))
      (b_cons (s_set (i := 10) sc_law.nd (by rfl) (by first | exact Or.inl rfl | exact Or.inr rfl) (d_lst (d_nil)))
      (b_cons (s_set (i := 11) sc_law.nd (by rfl) (by first | exact Or.inl rfl | exact Or.inr rfl) (d_fz (d_lst (d_nil))))
      (b_cons (s_for bX_passes (by rfl) (i_seq (d_var 4)) (g_name (i := 6) sc_law.nd (by rfl) (by first | exact Or.inl rfl | exact Or.inr rfl))
      (b_cons (s_set (i := 12) sc_law.nd (by rfl) (by first | exact Or.inl rfl | exact Or.inr rfl) (d_callCG (k := lv_all_depths) (ok_all_depths e) (by rfl) (hr.mono (by decide)) hq bX_takes (d_cons (d_var 4) (d_cons (d_bin o_add (d_sl (by rfl) (d_var 7) (d_noPart) (d_part (d_var 9))) (d_fz (d_lst (d_cons (d_var 6) (d_nil))))) (d_nil)))))
      (b_cons (s_if (t_cmp (o_eq hr.u64) (d_var 6) (d_ix (x_ix (by rfl)) (d_var 7) (d_var 9)) (by first | exact nobehind _ (by decide) (by decide) | rfl)) (b_one (s_set (i := 11) sc_law.nd (by rfl) (by first | exact Or.inl rfl | exact Or.inr rfl) (d_var 12))) (b_nil))
      (b_one (s_expr (d_bm PySem.F.plainAttrs_list PySem.F.slot_list_extend PySem.F.type_list_extend (m_extendX) (d_var 10) (d_cons (d_var 12) (d_nil))))))))
      (b_cons (s_if (ptw (w_or (t_cmp (o_ne hr.u64) (d_fz (d_callB (c_sorted (by rfl) hr.u64) (by rfl) e.fr_sorted (by decide +kernel) (d_cons (d_var 10) (d_nil)))) (d_var 8) (by first | exact nobehind _ (by decide) (by decide) | rfl)) (w_or1 (t_cmp (o_notIn hr.u65) (d_var 5) (d_var 11) (by first | exact nobehind _ (by decide) (by decide) | rfl))))) (b_one (s_ret (d_bl))) (b_nil))
      (b_one (s_set (i := 8) sc_law.nd (by rfl) (by first | exact Or.inl rfl | exact Or.inr rfl) (d_var 11))))))))
      (b_cons (s_for bX_passes (by rfl) (i_seq (d_sl (by rfl) (d_var 8) (d_noPart) (d_part (d_int)))) (g_name (i := 13) sc_law.nd (by rfl) (by first | exact Or.inl rfl | exact Or.inr rfl))
      (b_one (s_if (ptw (w_or (t_cmp (o_ne hr.u64) (d_fz (d_callCG (k := lv_row_seen) (ok_row_seen e) (by rfl) (hr.mono (by decide)) hq bX_takes (d_cons (d_callTy (c_tuple (by rfl)) (by rfl) e.fr_tuple (by decide +kernel) (d_cons (d_fz (d_listzipG rfl rfl (by rfl) e.fr_list (by rfl) e.fr_zip (d_cons (d_var 4) (d_cons (d_var 13) (d_nil))))) (d_nil))) (d_cons (d_int) (d_nil))))) (d_sl (by rfl) (d_var 7) (d_noPart) (d_part (d_int))) (by first | exact nobehind _ (by decide) (by decide) | rfl)) (w_or1 (t_not (t_val (d_callCG (k := lv_depths_let) (ok_depths_let e) (by rfl) (hr.mono (by decide)) hq bX_takes (d_cons (d_var 4) (d_cons (d_sl (by rfl) (d_var 7) (d_noPart) (d_part (d_int))) (d_cons (d_var 13) (d_nil)))))))))) (b_one (s_ret (d_bl))) (b_nil))))
      (b_cons (s_set (i := 14) sc_law.nd (by rfl) (by first | exact Or.inl rfl | exact Or.inr rfl) (d_callCG (k := lv_bag_names) (ok_bag_names e) (by rfl) (hr.mono (by decide)) hq bX_takes (d_cons (d_var 1) (d_cons (d_var 3) (d_nil)))))
      (b_cons (s_set (i := 15) sc_law.nd (by rfl) (by first | exact Or.inl rfl | exact Or.inr rfl) (d_fz (d_callTy (c_dict (by rfl)) (by rfl) e.fr_dict (by decide +kernel) (d_cons (d_listzipG rfl rfl (by rfl) e.fr_list (by rfl) e.fr_zip (d_cons (d_var 4) (d_cons (d_var 14) (d_nil)))) (d_nil)))))
      (b_cons (s_if (t_cmp (o_ne hr.u64) (d_callCG (k := lv_all_depths) (ok_all_depths e) (by rfl) (hr.mono (by decide)) hq bX_takes (d_cons (d_var 14) (d_cons (d_fz (d_lc (own := [("name", 6)]) (by rfl) sc_law.nd (i_seq (d_sl (by rfl) (d_var 7) (d_noPart) (d_part (d_int)))) (blkOk_by (by kernel_rfl)) (fun _ _ _ _ _ => g_name (i := 6) sc_law.nd (by rfl) (by first | exact Or.inl rfl | exact Or.inr rfl)) (fun _ _ _ _ _ => ts_nil) (fun _ _ _ _ _ => d_dgetX hr.u1 (d_var 15) (d_var 6)))) (d_nil)))) (d_var 8) (by first | exact nobehind _ (by decide) (by decide) | rfl)) (b_one (s_ret (d_bl))) (b_nil))
      (b_one (s_if (t_cmp (o_ne hr.u64) (d_callCG (k := lv_all_depths) (ok_all_depths e) (by rfl) (hr.mono (by decide)) hq bX_takes (d_cons (d_var 4) (d_cons (d_var 7) (d_nil)))) (d_fz (d_lc (own := [("depths", 13)]) (by rfl) sc_law.nd (i_seq (d_var 8)) (blkOk_by (by kernel_rfl)) (fun _ _ _ _ _ => g_name (i := 13) sc_law.nd (by rfl) (by first | exact Or.inl rfl | exact Or.inr rfl)) (fun _ _ _ _ _ => ts_one (t_val (d_callCG (k := lv_depths_let) (ok_depths_let e) (by rfl) (hr.mono (by decide)) hq takes0 (d_cons (d_var 4) (d_cons (d_var 7) (d_cons (d_var 13) (d_nil))))))) (fun _ _ _ _ _ => d_var 13))) (by first | exact nobehind _ (by decide) (by decide) | rfl)) (b_one (s_ret (d_bl))) (b_nil))))))))))))))
      (b_one (s_ret (d_bl))))
end K59
end
section
set_option Elab.async false
set_option linter.all false
set_option maxRecDepth 100000
set_option maxHeartbeats 4000000
namespace Sb
open PySem PySem.Spec PyProof.Rows L2
variable {K : PySem.W.Frag} {S : Sto}
theorem cut_flf {ds : List D} {a : Nat} : gSl (.fl ds) (some (a : Nat)) none S = some (.fl (ds.drop a), S) := by
  have : cutD ds (some (a : Int)) none = ds.drop a := by
    unfold Sb.cutD
    rw [HT.sIx_nat, HT.sIx_none]
    by_cases h : a ≤ ds.length
    · rw [Nat.min_eq_left h, List.take_of_length_le (by simp)]
    · rw [Nat.min_eq_right (by omega), List.drop_of_length_le (by omega), List.drop_of_length_le (by omega)]; simp
  simp only [gSl, this]
theorem stps_perm (l : List Card) : ∀ n, (stps n l).Perm l
  | 0 => .refl _
  | n + 1 => (stp_perm _).trans (stps_perm l n)
end Sb
end
section
set_option Elab.async false
set_option linter.all false
set_option maxRecDepth 100000
set_option maxHeartbeats 4000000
namespace Sb
open PySem PySem.Spec PyProof.Rows L2
variable {K : PySem.W.Frag} {S : Sto}
/-! ## the reel -/
end Sb
end
section
set_option Elab.async false
set_option linter.all false
set_option maxRecDepth 100000
set_option maxHeartbeats 4000000
namespace Sb
open PySem PySem.Spec PyProof.Rows L2
variable {K : PySem.W.Frag} {S : Sto}
abbrev cF (c : Card) : D := .fl [.str c.1, .int c.2]
theorem turnsB {τ : Sl} {S : Sto} (x y : Nat) {i : Nat} {d : D} {m : Nat} (hxy : x + y ≤ 1000) (h : gLenX [d] S = some (.int (m : Nat), S)) (hv : eVar i τ S = some (.ok d S)) : ∃ T : Nat, T ≤ x + y ∧ iRg1 (aCons (eB gAdd (eC (.int (x : Nat))) (eCB gMin2 (aCons (eC (.int (y : Nat))) (aCons (eCB gLenX (aCons (eVar i) (aNil))) (aNil))))) (aNil)) τ S = some (.ok (wkR 0 T) S) := by
  refine ⟨x + min m y, by omega, iRg1_ok (a1_ok (eB_ok rfl (eCB_ok (a2_ok rfl (eCB_ok (a1_ok hv) h)) (d := .int (min m y : Nat)) (S2 := S) ?_) ?_)) ?_⟩
  · simp only [gMin2]
    congr 3; split <;> omega
  · rw [gAdd_i]; congr 3
  · omega
end Sb
end
section
set_option Elab.async false
set_option linter.all false
set_option maxRecDepth 100000
set_option maxHeartbeats 4000000
namespace Sb
open PySem PySem.Spec PyProof.Rows L2
variable {K : PySem.W.Frag} {S : Sto}
/-! ## pops drawn -/
end Sb
end
section
set_option Elab.async false
set_option linter.all false
set_option maxRecDepth 100000
set_option maxHeartbeats 4000000
namespace Sb
open PySem PySem.Spec PyProof.Rows L2
variable {K : PySem.W.Frag} {S : Sto}
end Sb
end
section
set_option Elab.async false
set_option linter.all false
set_option maxRecDepth 100000
set_option maxHeartbeats 4000000
namespace Sb
open PySem PySem.Spec PyProof.Rows L2
variable {K : PySem.W.Frag} {S : Sto}
abbrev natL (l : List Nat) : List Int := l.map fun i : Nat => (i : Int)
end Sb
end
section
set_option Elab.async false
set_option linter.all false
set_option maxRecDepth 100000
set_option maxHeartbeats 4000000
namespace Sb
open PySem PySem.Spec PyProof.Rows L2
variable {K : PySem.W.Frag} {S : Sto}
theorem reel_reach_ok {l : List Card} {c : Card} (h : 0 ≤ c.2) (hl : 1 ≤ l.length) : M_reel_reach [dK l, dC c] S = some (.ok (.int (rch l.length c : Nat)) S) := by
  have e1 : gIx (dC c) (.int 1) S = some (.int c.2, S) := by simp [gIx, seqD, atI, ixN]
  exact fnM_rt (sRt_ok (eCB_ok (a2_ok (eB_ok rfl rfl e1) (eB_ok (eCB_ok (a1_ok rfl) len_deck) rfl (gSub_nat (i := l.length) (j := 1) hl))) (min_rch h hl)))
/-! ## dressed -/
def Dr1 (c : Card) (e : D) : Prop := e = dC c ∨ e = cF c
def DrsX (l : List Card) (d : D) : Prop := ∃ es : List D, (d = .tup es ∨ d = .fl es) ∧ es.length = l.length ∧ ∀ (i : Nat) (e : D) (c : Card), es[i]? = some e → l[i]? = some c → Dr1 c e
theorem DrsX.bd {l : List Card} {d : D} (h : DrsX l d) {k : Nat} : bd k d = true := by
  obtain ⟨es, h1, h2, h3⟩ := h
  have : bds k es = true := bds_all.mpr fun e he => by
    obtain ⟨i, hi, rfl⟩ := List.getElem_of_mem he
    rcases h3 i _ _ (List.getElem?_eq_getElem hi) (List.getElem?_eq_getElem (by omega)) with q | q <;> rw [q] <;> rfl
  rcases h1 with rfl | rfl <;> simpa [Sb.bd] using this
end Sb
end
section
set_option Elab.async false
set_option linter.all false
set_option maxRecDepth 100000
set_option maxHeartbeats 4000000
namespace Sb
open PySem PySem.Spec PyProof.Rows L2
variable {K : PySem.W.Frag} {S : Sto}
end Sb
end
section
set_option Elab.async false
set_option linter.all false
set_option maxRecDepth 100000
set_option maxHeartbeats 4000000
namespace Sb
open PySem PySem.Spec PyProof.Rows L2
variable {K : PySem.W.Frag} {S : Sto}
/-! ## the program's rows, stretches, decks far on -/
/-- stretches of a deck: head, level, length -/
abbrev Strt := List Card × Nat × Option Nat
theorem aw_head {l : List Card} {q : Nat} {r : List Nat} (ok : DeckOk l) (h : aw l = q :: r) : q < clo l ∧ ra l q < q ∧ HomeTo l q := by
  have A := clo_is ok.lo
  have hq : (aw l)[0]? = some q := by rw [h]; rfl
  unfold aw at hq
  obtain ⟨h1, h2, h3⟩ := filt_at _ _ _ hq
  have h2' : ¬ (q ≤ ra l q) := by simpa using h2
  refine ⟨h1, by omega, by have := A.hi; omega, fun i hi => ?_⟩
  have h4 := List.eq_nil_of_length_eq_zero h3
  rw [List.filter_eq_nil_iff] at h4
  have := h4 i (List.mem_range.mpr hi)
  simpa using this
theorem aw_nil {l : List Card} (ok : DeckOk l) (h : aw l = []) : HomeTo l (clo l - 1) ∧ ∀ s, Within l (clo l - 1) s := by
  have A := clo_is ok.lo
  have h1 := A.lo
  have h2 := A.hi
  unfold aw at h
  rw [List.filter_eq_nil_iff] at h
  have hom : ∀ i, i < clo l → i ≤ ra l i := fun i hi => by
    have := h i (List.mem_range.mpr hi)
    simpa using this
  have both : ∀ (n : Nat) (k : List Card), k.length = l.length → (∀ i, i < clo l → i ≤ ra k i ∧ ra k i < clo l) → (∀ i, i < clo l → i ≤ ra (stps n k) i ∧ ra (stps n k) i < clo l) := by
    intro n
    induction n with
    | zero => exact fun k _ hk => hk
    | succ n ih =>
      intro k hkl hk
      rw [stps_front]
      have hl : 1 ≤ k.length := by rw [hkl]; exact ok.lo
      refine ih (stp k) (by rw [stp_len]; exact hkl) fun i hi => ?_
      have h0 := (hk 0 (by omega)).2
      rw [ra_stp hl]
      split
      · rename_i q
        have := hk (i + 1) (by omega); omega
      · split
        · rename_i q; omega
        · exact hk i hi
  have all := both
  refine ⟨⟨by omega, fun i hi => hom i (by omega)⟩, fun s t ht => .inr ?_⟩
  have := both t l rfl fun i hi => ⟨hom i hi, A.all i hi⟩
  have a := this (clo l - 1) (by omega)
  have b := this 0 (by omega)
  omega
/-! ### stretches gone -/
end Sb
end
section
set_option Elab.async false
set_option linter.all false
set_option maxRecDepth 100000
set_option maxHeartbeats 4000000
namespace Sb
open PySem PySem.Spec PyProof.Rows L2
variable {K : PySem.W.Frag} {S : Sto}
end Sb
end
section
set_option Elab.async false
set_option linter.all false
set_option maxRecDepth 100000
set_option maxHeartbeats 4000000
namespace Sb
open PySem PySem.Spec PyProof.Rows L2
variable {K : PySem.W.Frag} {S : Sto}
end Sb
end
section
set_option Elab.async false
set_option linter.all false
set_option maxRecDepth 100000
set_option maxHeartbeats 4000000
namespace Sb
open PySem PySem.Spec PyProof.Rows L2
variable {K : PySem.W.Frag} {S : Sto}
/-! ## a ring told: its size, the names at its phases, its holes -/
def kvs : Nat → Pat → List (Key × D)
  | _, [] => []
  | i, none :: r => kvs (i + 1) r
  | i, some x :: r => (.inl ((i : Nat) : Int), .str x) :: kvs (i + 1) r
theorem zip_fs {α β : Type} : ∀ l : List (α × β), (l.map (·.1)).zip (l.map (·.2)) = l
  | [] => rfl
  | p :: r => by simp [zip_fs r]
end Sb
end
section
set_option Elab.async false
set_option linter.all false
set_option maxRecDepth 100000
set_option maxHeartbeats 4000000
namespace Sb
open PySem PySem.Spec PyProof.Rows L2
variable {K : PySem.W.Frag} {S : Sto}
theorem wks_rg2 {a N : Nat} {P : Sto → Prop} : Wks (wkR (a : Nat) N) ((List.range N).map fun i : Nat => D.int (a + i : Nat)) P := ⟨fun i S _ => by
  show (if i < N then _ else _) = _
  by_cases q : i < N
  · rw [if_pos q, List.getElem?_map, List.getElem?_range q]
    simp only [Option.map_some]
    congr 3
  · rw [if_neg q, List.getElem?_eq_none (by simp; omega)], by simp [wkR]⟩
theorem reaches_ok {l : List Card} {τ : Sl} (w : Wf S) (ok : DeckOk l) (h : τ = [some (dK l), none, none, none]) : fz (eLc (iSeq (eVar 0)) (tN 2) (tAll) (eCl (M_reel_reach) 2 (aCons (eVar 0) (aCons (eVar 2) (aNil)))) [2]) τ S = some (.ok (.fl ((l.map fun c : Card => ((rch l.length c : Nat) : Int)).map D.int)) S) := by
  subst h
  have h2 := ok.hi
  have e := lc_pu (fi := iSeq (eVar 0)) (g := tN 2) (t := tAll) (fe := eCl (M_reel_reach) 2 (aCons (eVar 0) (aCons (eVar 2) (aNil)))) (vs := [2]) (τ := [some (dK l), none, none, none]) (S := S) (ds := l.map dC)
    (fun _ => true) (fun d => match d with | .tup [.str x, .int i] => .int (rch l.length (x, i) : Nat) | _ => .non) w (iSeq_ok rfl wk_tup) wks_ds (by simp; omega)
    (fun d hd _ => by obtain ⟨c, _, rfl⟩ := List.mem_map.mp hd; rfl)
    (fun d hd S'' _ _ => by
      obtain ⟨c, hc, rfl⟩ := List.mem_map.mp hd
      exact ⟨_, rfl, rfl, fun _ => eCl_ok (a2_ok rfl rfl) rfl (reel_reach_ok (ok.dep c hc) ok.lo)⟩)
  rw [filter_tt, List.map_map] at e
  rw [e, List.map_map]
  rfl
end Sb
end
section
set_option Elab.async false
set_option linter.all false
set_option maxRecDepth 100000
set_option maxHeartbeats 4000000
namespace Sb
open PySem PySem.Spec PyProof.Rows L2
variable {K : PySem.W.Frag} {S : Sto}
theorem rb_dct {S : Sto} {k m n : Nat} {kv : List (Key × D)} (h : ¬ (bd k (.loc n) = true)) (e : S[n]? = some (.dct kv)) : rb S k (m + 1) (.loc n) = ((kv.map (·.2)).mapM (rb S k m)).map (.fd (kv.map (·.1))) := by
  conv => lhs; unfold rb
  simp only [if_neg h, e]
end Sb
end
section
set_option Elab.async false
set_option linter.all false
set_option maxRecDepth 100000
set_option maxHeartbeats 4000000
namespace Sb
open PySem PySem.Spec PyProof.Rows L2
variable {K : PySem.W.Frag} {S : Sto}
end Sb
end
section
set_option Elab.async false
set_option linter.all false
set_option maxRecDepth 100000
set_option maxHeartbeats 4000000
namespace Sb
open PySem PySem.Spec PyProof.Rows L2
variable {K : PySem.W.Frag} {S : Sto}
end Sb
end
section
set_option Elab.async false
set_option linter.all false
set_option maxRecDepth 100000
set_option maxHeartbeats 4000000
namespace Sb
open PySem PySem.Spec PyProof.Rows L2
variable {K : PySem.W.Frag} {S : Sto}
end Sb
end
section
set_option Elab.async false
set_option linter.all false
set_option maxRecDepth 100000
set_option maxHeartbeats 4000000
namespace Sb
open PySem PySem.Spec PyProof.Rows L2
variable {K : PySem.W.Frag} {S : Sto}
/-! ## a home deck of the reel -/
end Sb
end
section
set_option Elab.async false
set_option linter.all false
set_option maxRecDepth 100000
set_option maxHeartbeats 4000000
namespace Sb
open PySem PySem.Spec PyProof.Rows L2
variable {K : PySem.W.Frag} {S : Sto}
/-! ## whether a thing is a paper -/
end Sb
end
section
set_option Elab.async false
set_option linter.all false
set_option maxRecDepth 100000
set_option maxHeartbeats 4000000
namespace Sb
open PySem PySem.Spec PyProof.Rows L2
variable {K : PySem.W.Frag} {S : Sto}
end Sb
end
section
set_option Elab.async false
set_option linter.all false
set_option maxRecDepth 100000
set_option maxHeartbeats 4000000
namespace Sb
open PySem PySem.Spec PyProof.Rows L2
variable {K : PySem.W.Frag} {S : Sto}
/-! ## how often, when: rows -/
/-! ## settled decks -/
end Sb
end
section
set_option Elab.async false
set_option linter.all false
set_option maxRecDepth 100000
set_option maxHeartbeats 4000000
namespace Sb
open PySem PySem.Spec PyProof.Rows L2
variable {K : PySem.W.Frag} {S : Sto}
end Sb
end
section
set_option Elab.async false
set_option linter.all false
set_option maxRecDepth 100000
set_option maxHeartbeats 4000000
namespace Sb
open PySem PySem.Spec PyProof.Rows L2
variable {K : PySem.W.Frag} {S : Sto}
end Sb
end
section
set_option Elab.async false
set_option linter.all false
set_option maxRecDepth 100000
set_option maxHeartbeats 4000000
namespace Sb
open PySem PySem.Spec PyProof.Rows L2
variable {K : PySem.W.Frag} {S : Sto}
end Sb
end
section
set_option Elab.async false
set_option linter.all false
set_option maxRecDepth 100000
set_option maxHeartbeats 4000000
namespace Sb
open PySem PySem.Spec PyProof.Rows L2
variable {K : PySem.W.Frag} {S : Sto}
/-! ## how often a name is on top -/
abbrev topN (l : List Card) (j : Nat) : Option Str := some (at0 (stps j l) 0).1
end Sb
end
section
set_option Elab.async false
set_option linter.all false
set_option maxRecDepth 100000
set_option maxHeartbeats 4000000
namespace Sb
open PySem PySem.Spec PyProof.Rows L2
variable {K : PySem.W.Frag} {S : Sto}
/-! ## when a name is seen for the so-manieth time, any deck -/
end Sb
end
section
set_option Elab.async false
set_option linter.all false
set_option maxRecDepth 100000
set_option maxHeartbeats 4000000
namespace Sb
open PySem PySem.Spec PyProof.Rows L2
variable {K : PySem.W.Frag} {S : Sto}
/-! ## when_seen of any deck -/
end Sb
end
section
set_option Elab.async false
set_option linter.all false
set_option maxRecDepth 100000
set_option maxHeartbeats 4000000
namespace Sb
open PySem PySem.Spec PyProof.Rows L2
variable {K : PySem.W.Frag} {S : Sto}
/-! ## spans of any deck -/
end Sb
end
section
set_option Elab.async false
set_option linter.all false
set_option maxRecDepth 100000
set_option maxHeartbeats 4000000
namespace Sb
open PySem PySem.Spec PyProof.Rows L2
/-! ## what stays within a stretch -/
theorem clo_all_n {l : List Card} (hl : 1 ≤ l.length) {m : Nat} (hm : 1 ≤ m) (h : ∀ i, i < m → ra l i < m) : ∀ n i, i < m → ra (stps n l) i < m
  | 0 => h
  | n + 1 => clo_all (l := stps n l) (by rw [stps_len]; exact hl) m hm (clo_all_n hl hm h n)
theorem clo_mono {l : List Card} (ok : DeckOk l) (n : Nat) : clo (stps n l) ≤ clo l := by
  have A := clo_is ok.lo
  have B := clo_is (stps_ok ok n).lo
  apply Classical.byContradiction
  intro q
  obtain ⟨i, h1, h2⟩ := B.no (clo l) A.lo (by omega)
  have := clo_all_n ok.lo A.lo A.all n i h1
  omega
section
variable {h : List Card} {q : Nat} {r : List Nat}
theorem str_at (ok : DeckOk h) (ha : aw h = q :: r) : ∀ t, t ≤ stl h q → ∀ p, q ≤ p → at0 (stps t h) p = at0 h p := by
  obtain ⟨h1, h2, h3⟩ := aw_head ok ha
  obtain ⟨hb, _⟩ := stretch ok h3 h1
  intro t
  induction t with
  | zero => exact fun _ _ _ => rfl
  | succ t ih =>
    intro ht p hp
    have := hb t (by omega)
    show at0 (stp (stps t h)) p = _
    rw [stp_at0 (stps_ok ok t).lo, if_neg (by omega), if_neg (by omega)]
    exact ih (by omega) p hp
theorem str_home (ok : DeckOk h) (ha : aw h = q :: r) {t : Nat} (ht : t ≤ stl h q) : ∀ i, i < q → i ≤ ra (stps t h) i := by
  obtain ⟨h1, h2, h3⟩ := aw_head ok ha
  obtain ⟨hb, _⟩ := stretch ok h3 h1
  exact (within_all t h3 fun s hs => .inl (hb s (by omega))).1.2
theorem str_in (ok : DeckOk h) (ha : aw h = q :: r) : ∀ t, t ≤ stl h q → ∀ i, i < q → ∃ j, j < q ∧ at0 (stps t h) j = at0 h i := by
  obtain ⟨h1, h2, h3⟩ := aw_head ok ha
  obtain ⟨hb, _⟩ := stretch ok h3 h1
  intro t
  induction t with
  | zero => exact fun _ i hi => ⟨i, hi, rfl⟩
  | succ t ih =>
    intro ht i hi
    obtain ⟨j, hj, e⟩ := ih (by omega) i hi
    have hk := hb t (by omega)
    have hl := (stps_ok ok t).lo
    by_cases z : j = 0
    · refine ⟨ra (stps t h) 0, hk, ?_⟩
      show at0 (stp (stps t h)) _ = _
      rw [stp_at0 hl, if_neg (by omega), if_pos rfl, ← e, z]
    · by_cases z2 : j ≤ ra (stps t h) 0
      · refine ⟨j - 1, by omega, ?_⟩
        show at0 (stp (stps t h)) _ = _
        rw [stp_at0 hl, if_pos (by omega), ← e, show j - 1 + 1 = j by omega]
      · refine ⟨j, hj, ?_⟩
        show at0 (stp (stps t h)) _ = _
        rw [stp_at0 hl, if_neg (by omega), if_neg (by omega), ← e]
theorem ra_of_at {a b : List Card} (hl : a.length = b.length) {i j : Nat} (e : at0 a i = at0 b j) : ra a i = ra b j := by unfold ra; rw [e, hl]
theorem str_clo (ok : DeckOk h) (ha : aw h = q :: r) {t : Nat} (ht : t ≤ stl h q) : clo (stps t h) = clo h := by
  obtain ⟨h1, h2, h3⟩ := aw_head ok ha
  obtain ⟨hb, hlast⟩ := stretch ok h3 h1
  have A := clo_is ok.lo
  have okt := stps_ok ok t
  have B := clo_is okt.lo
  refine B.uniq (d := clo h) ⟨A.lo, by rw [stps_len]; exact A.hi, clo_all_n ok.lo A.lo A.all t, fun m m1 m2 => ?_⟩
  apply Classical.byContradiction
  intro no
  have all : ∀ i, i < m → ra (stps t h) i < m := fun i hi => Nat.lt_of_not_le fun z => no ⟨i, hi, z⟩
  by_cases z : m ≤ q
  · have := clo_all_n okt.lo m1 all (stl h q - t) 0 (by omega)
    rw [stps_add, show t + (stl h q - t) = stl h q by omega] at this
    omega
  · obtain ⟨i, hi, hri⟩ := A.no m m1 m2
    by_cases zi : q ≤ i
    · have := all i hi
      rw [ra_of_at (stps_len h t) (str_at ok ha t ht i zi)] at this
      omega
    · obtain ⟨j, hj, e⟩ := str_in ok ha t ht i (by omega)
      have := all j (by omega)
      rw [ra_of_at (stps_len h t) e] at this
      omega
theorem str_aw (ok : DeckOk h) (ha : aw h = q :: r) {t : Nat} (ht : t ≤ stl h q) : aw (stps t h) = aw h := by
  obtain ⟨h1, h2, h3⟩ := aw_head ok ha
  unfold aw
  rw [str_clo ok ha ht]
  refine List.filter_congr fun i hi => ?_
  by_cases z : i < q
  · have a := str_home ok ha ht i z
    have b := h3.2 i z
    simp [a, b]
  · rw [ra_of_at (stps_len h t) (str_at ok ha t ht i (by omega))]
end
/-! ## the spans, told by the steps -/
inductive Spn (l : List Card) : Nat → List (Nat × Strt) → Prop
  | last {g : Nat} : aw (stps g l) = [] → Spn l g [(g, stps g l, clo (stps g l) - 1, none)]
  | step {g q : Nat} {r : List Nat} {xs : List (Nat × Strt)} : aw (stps g l) = q :: r → Spn l (g + (stl (stps g l) q + 1)) xs → Spn l g ((g, stps g l, q, some (stl (stps g l) q + 1)) :: xs)
/-- behind how many steps none is away -/
def snd (xs : List (Nat × Strt)) : Nat := match xs.getLast? with
  | some y => y.1
  | none => 0
theorem Spn.ne {l : List Card} {g : Nat} {xs : List (Nat × Strt)} (h : Spn l g xs) : xs ≠ [] := by cases h <;> simp
theorem Spn.le {l : List Card} {g : Nat} {xs : List (Nat × Strt)} (h : Spn l g xs) : g ≤ snd xs := by
  induction h with
  | last _ => exact Nat.le_refl _
  | step ha hx ih =>
    have e : ∀ y : Nat × Strt, ∀ zs : List (Nat × Strt), zs ≠ [] → snd (y :: zs) = snd zs := fun y zs hz => by
      cases zs with
      | nil => exact absurd rfl hz
      | cons z zs => simp only [snd, List.getLast?_cons_cons]
    rw [e _ _ hx.ne]
    omega
/-! ## comings home, by steps -/
def hmn (l : List Card) : List Str := ((List.range l.length).filter fun i => decide (i ≤ ra l i)).map fun i => (at0 l i).1
theorem Spn.head {l : List Card} {g : Nat} {xs : List (Nat × Strt)} (h : Spn l g xs) : ∃ y zs, xs = y :: zs ∧ y.1 = g ∧ y.2.1 = stps g l := by
  cases h with
  | last ha => exact ⟨_, _, rfl, rfl, rfl⟩
  | step ha hx => exact ⟨_, _, rfl, rfl, rfl⟩
end Sb
end
section
set_option Elab.async false
set_option linter.all false
set_option maxRecDepth 100000
set_option maxHeartbeats 4000000
namespace Sb
open PySem PySem.Spec PyProof.Rows L2
variable {K : PySem.W.Frag} {S : Sto}
/-! ## two spans in a row: what comes home -/
/-! ## all comings -/
theorem Spn.all {l : List Card} {g : Nat} {xs : List (Nat × Strt)} (h : Spn l g xs) : ∀ y ∈ xs, y.2.1 = stps y.1 l ∧ g ≤ y.1 := by
  induction h with
  | last ha => intro y hy; rw [List.mem_singleton.mp hy]; exact ⟨rfl, Nat.le_refl _⟩
  | step ha hx ih =>
    intro y hy
    rcases List.mem_cons.mp hy with z | z
    · rw [z]; exact ⟨rfl, Nat.le_refl _⟩
    · have := ih y z
      exact ⟨this.1, by omega⟩
theorem Spn.pos {l : List Card} {g : Nat} {xs : List (Nat × Strt)} (h : Spn l g xs) : ∀ y ∈ xs.tail, g + 1 ≤ y.1 := by
  cases h with
  | last ha => intro y hy; cases hy
  | step ha hx =>
    intro y hy
    have := hx.all y hy
    omega
theorem ix_lastG {ds : List D} {d : D} (h : ds.getLast? = some d) : gIx (.fl ds) (.int (-1)) S = some (d, S) := by
  have hne : ds ≠ [] := fun z => by rw [z] at h; cases h
  have hl : 1 ≤ ds.length := by cases ds with | nil => exact absurd rfl hne | cons _ _ => simp
  have e : ds[ds.length - 1]? = some d := by rw [← List.getLast?_eq_getElem?]; exact h
  have h0 : ¬ ((0 : Int) ≤ -1) := by decide
  have h1 : (-(ds.length : Int) ≤ -1) := by omega
  have h2 : ((ds.length : Int) + -1).toNat = ds.length - 1 := by omega
  have h3 : (-1 + (ds.length : Int)).toNat = ds.length - 1 := by omega
  have h4 : (1 : Int) ≤ (ds.length : Int) := by omega
  simp [gIx, seqD, atI, ixN, h0, h1, h2, h3, h4, e]
end Sb
end
section
set_option Elab.async false
set_option linter.all false
set_option maxRecDepth 100000
set_option maxHeartbeats 4000000
namespace Sb
open PySem PySem.Spec PyProof.Rows L2
variable {K : PySem.W.Frag} {S : Sto}
/-! ## closings -/
/-! ## fates -/
/-- the last step ahead of n that shows a name -/
def lst (f : Nat → Option Str) (x : Str) : Nat → Option Nat
  | 0 => none
  | n + 1 => if f n = some x then some n else lst f x n
theorem Spn.at {l : List Card} {g : Nat} {xs : List (Nat × Strt)} (h : Spn l g xs) : ∀ i, (hi : i + 1 < xs.length) → ∃ q r, aw (stps (xs[i]'(by omega)).1 l) = q :: r ∧ (xs[i]'(by omega)).2 = (stps (xs[i]'(by omega)).1 l, q, some (stl (stps (xs[i]'(by omega)).1 l) q + 1)) ∧ (xs[i + 1]).1 = (xs[i]'(by omega)).1 + (stl (stps (xs[i]'(by omega)).1 l) q + 1) := by
  induction h with
  | last ha => intro i hi; simp at hi
  | @step g q r xs ha hx ih =>
    intro i hi
    cases i with
    | zero =>
      obtain ⟨y, zs, rfl, e1, e2⟩ := hx.head
      exact ⟨q, r, ha, rfl, e1⟩
    | succ i => exact ih i (by simpa using hi)
end Sb
end
section
set_option Elab.async false
set_option linter.all false
set_option maxRecDepth 100000
set_option maxHeartbeats 4000000
namespace Sb
open PySem PySem.Spec PyProof.Rows L2
variable {K : PySem.W.Frag} {S : Sto}
theorem fz_dct {f : EF} {τ : Sl} {X : Sto} {n : Nat} {kvs : List (Key × D)} (w : Wf S) (e : f τ S = some (.ok (.loc n) (S ++ X))) (e2 : (S ++ X)[n]? = some (.dct kvs)) (hn : S.length ≤ n) (h : bds S.length (kvs.map (·.2)) = true) : fz f τ S = some (.ok (.fd (kvs.map (·.1)) (kvs.map (·.2))) S) := by
  have nb : ¬ (bd S.length (.loc n) = true) := by simp [bd]; omega
  have e1 : rb (S ++ X) S.length 8 (.loc n) = some (.fd (kvs.map (·.1)) (kvs.map (·.2))) := by
    rw [rb_dct nb e2]
    have : (kvs.map (·.2)).mapM (rb (S ++ X) S.length 7) = some (kvs.map (·.2)) := by
      have : ∀ ds : List D, bds S.length ds = true → ds.mapM (rb (S ++ X) S.length 7) = some ds := by
        intro ds
        induction ds with
        | nil => intro _; rfl
        | cons d ds ih =>
          intro hb
          simp only [bds, Bool.and_eq_true] at hb
          rw [List.mapM_cons, rb_bd hb.1, ih hb.2]; rfl
      exact this _ h
    rw [this]; rfl
  have ww : wfk S.length ((S ++ X).take S.length) = true := by rw [take_app]; exact w
  rw [fz_eq, e]
  simp only [fzR, if_pos ww, e1, Option.map_some]
  rw [take_app]
/-! ## those that are seen for ever -/
end Sb
end
section
set_option Elab.async false
set_option linter.all false
set_option maxRecDepth 100000
set_option maxHeartbeats 4000000
namespace Sb
open PySem PySem.Spec PyProof.Rows L2
variable {K : PySem.W.Frag} {S : Sto}
/-! the reel's names are not "qqqqqqqq" -/
end Sb
end
section
set_option Elab.async false
set_option linter.all false
set_option maxRecDepth 100000
set_option maxHeartbeats 4000000
namespace Sb
open PySem PySem.Spec PyProof.Rows L2
variable {K : PySem.W.Frag} {S : Sto}
end Sb
end
section
set_option Elab.async false
set_option linter.all false
set_option maxRecDepth 100000
set_option maxHeartbeats 4000000
namespace Sb
open PySem PySem.Spec PyProof.Rows L2
variable {K : PySem.W.Frag} {S : Sto}
/-! ## things equal to themselves -/
theorem shp_of {p : PyData} (h1 : p.canLay0 = true) (h2 : p.depth ≤ 64) : SeqAt.shaped p = true := by
  show (PyData.canLay0 p && decide (PyData.depth p ≤ 64)) = true
  rw [h1, Bool.true_and]; exact decide_eq_true h2
/-! ## the deck gone on -/
/-! ### fates of the deck gone on -/
end Sb
end
section
set_option Elab.async false
set_option linter.all false
set_option maxRecDepth 100000
set_option maxHeartbeats 4000000
namespace Sb
open PySem PySem.Spec PyProof.Rows L2
/-! ## a card beneath a closed place -/
structure Lng (l : List Card) (z : Card) : Prop where
  ok : DeckOk l
  lt : l.length < 40
  clo : Sb.clo l < l.length
  dep : ∀ c ∈ l, c.2 < l.length
  nm : Nm z.1
  dz : 0 ≤ z.2
  fresh : ∀ c ∈ l, c.1 ≠ z.1
section
variable {l : List Card} {z : Card}
theorem Lng.ok' (h : Lng l z) : DeckOk (l ++ [z]) := by
  have hl : (l ++ [z]).length = l.length + 1 := by simp
  have h1 := h.ok.lo
  have h2 := h.lt
  refine ⟨by omega, by omega, fun c hc => ?_, fun c hc => ?_, ?_⟩
  · rcases List.mem_append.mp hc with q | q
    · exact h.ok.nm c q
    · rw [List.mem_singleton.mp q]; exact h.nm
  · rcases List.mem_append.mp hc with q | q
    · exact h.ok.dep c q
    · rw [List.mem_singleton.mp q]; exact h.dz
  · rw [List.map_append, List.nodup_append]
    refine ⟨h.ok.nd, by simp, fun a ha b hb e => ?_⟩
    obtain ⟨c, hc, rfl⟩ := List.mem_map.mp ha
    have : b = z.1 := by simpa using hb
    exact h.fresh c hc (e.trans this)
theorem Lng.stps (h : Lng l z) (n : Nat) : Sb.stps n (l ++ [z]) = Sb.stps n l ++ [z] := stps_last (fun e => by have := h.ok.lo; rw [e] at this; simp at this) (fun c hc => by have := h.dep c hc; omega) n
theorem Lng.at (h : Lng l z) (n : Nat) {i : Nat} (hi : i < l.length) : at0 (Sb.stps n (l ++ [z])) i = at0 (Sb.stps n l) i := by
  rw [h.stps]
  unfold at0
  rw [List.getD_eq_getElem?_getD, List.getD_eq_getElem?_getD, List.getElem?_append_left (by rw [stps_len]; exact hi)]
theorem Lng.ra (h : Lng l z) (n : Nat) {i : Nat} (hi : i < l.length) : Sb.ra (Sb.stps n (l ++ [z])) i = Sb.ra (Sb.stps n l) i := by
  unfold Sb.ra
  rw [h.at n hi, stps_len, stps_len, List.length_append, List.length_singleton]
  have hm := at0_mem (l := Sb.stps n l) (show i < (Sb.stps n l).length by rw [stps_len]; exact hi)
  have := h.dep _ (stps_mem n _ hm)
  unfold rch
  omega
theorem Lng.cl (h : Lng l z) (n : Nat) : Sb.clo (Sb.stps n (l ++ [z])) = Sb.clo (Sb.stps n l) := by
  have A := clo_is (stps_ok h.ok n).lo
  have B := clo_is (stps_ok h.ok' n).lo
  have hc : Sb.clo (Sb.stps n l) < l.length := Nat.lt_of_le_of_lt (clo_mono h.ok n) h.clo
  refine B.uniq ⟨A.lo, by rw [stps_len, List.length_append]; omega, fun i hi => ?_, fun m m1 m2 => ?_⟩
  · rw [h.ra n (by omega)]; exact A.all i hi
  · obtain ⟨i, h1, h2⟩ := A.no m m1 m2
    exact ⟨i, h1, by rw [h.ra n (by omega)]; exact h2⟩
theorem Lng.aw (h : Lng l z) (n : Nat) : Sb.aw (Sb.stps n (l ++ [z])) = Sb.aw (Sb.stps n l) := by
  have hc : Sb.clo (Sb.stps n l) < l.length := Nat.lt_of_le_of_lt (clo_mono h.ok n) h.clo
  unfold Sb.aw
  rw [h.cl n]
  refine List.filter_congr fun i hi => ?_
  rw [h.ra n (by have := List.mem_range.mp hi; omega)]
theorem Lng.hm (h : Lng l z) (n : Nat) {x : Str} (hx : x ≠ z.1) : x ∈ hmn (Sb.stps n (l ++ [z])) ↔ x ∈ hmn (Sb.stps n l) := by
  have e1 : (Sb.stps n (l ++ [z])).length = l.length + 1 := by rw [stps_len]; simp
  have e2 : (Sb.stps n l).length = l.length := stps_len l n
  have key : ∀ k : List Card, x ∈ hmn k ↔ ∃ i, i < k.length ∧ i ≤ Sb.ra k i ∧ (at0 k i).1 = x := fun k => by
    unfold hmn
    rw [List.mem_map]
    constructor
    · rintro ⟨i, hi, e⟩
      obtain ⟨a, b⟩ := List.mem_filter.mp hi
      exact ⟨i, List.mem_range.mp a, of_decide_eq_true b, e⟩
    · rintro ⟨i, a, b, e⟩
      exact ⟨i, List.mem_filter.mpr ⟨List.mem_range.mpr a, decide_eq_true b⟩, e⟩
  rw [key, key, e1, e2]
  constructor
  · rintro ⟨i, a, b, e⟩
    by_cases q : i < l.length
    · exact ⟨i, q, by rw [← h.ra n q]; exact b, by rw [← h.at n q]; exact e⟩
    · have : i = l.length := by omega
      subst this
      exfalso
      apply hx
      rw [← e, h.stps]
      unfold at0
      rw [List.getD_eq_getElem?_getD, List.getElem?_append_right (by rw [stps_len]; exact Nat.le_refl _), stps_len]
      simp
  · rintro ⟨i, a, b, e⟩
    exact ⟨i, by omega, by rw [h.ra n a]; exact b, by rw [h.at n a]; exact e⟩
theorem Lng.top (h : Lng l z) (t : Nat) : topN (l ++ [z]) t = topN l t := by
  show some (at0 _ 0).1 = some (at0 _ 0).1
  rw [h.at t (by have := h.ok.lo; omega)]
end
end Sb
end
section
set_option Elab.async false
set_option linter.all false
set_option maxRecDepth 100000
set_option maxHeartbeats 4000000
namespace Sb
open PySem PySem.Spec PyProof.Rows L2
/-! ## one card away, one place beneath its reach -/
structure OneA (l : List Card) (p : Nat) : Prop where
  ok : DeckOk l
  aw : Sb.aw l = [p]
  dp : (at0 l p).2 = (p : Int) - 1
section
variable {l : List Card} {p : Nat}
theorem OneA.mem (h : OneA l p) {i : Nat} (hi : i < clo l) (hne : i ≠ p) : i ≤ ra (stps (stl l p) l) i := by
  apply Classical.byContradiction
  intro z
  have e := str_aw h.ok h.aw (Nat.le_refl (stl l p))
  have : i ∈ Sb.aw (stps (stl l p) l) := by
    unfold Sb.aw
    refine List.mem_filter.mpr ⟨List.mem_range.mpr (by rw [str_clo h.ok h.aw (Nat.le_refl _)]; exact hi), by simpa using z⟩
  rw [e, h.aw] at this
  exact hne (by simpa using this)
theorem OneA.lo (h : OneA l p) : 1 ≤ p ∧ p < clo l ∧ p ≤ ra (stps (stl l p) l) 0 ∧ ra (stps (stl l p) l) 0 < clo l := by
  obtain ⟨h1, h2, h3⟩ := aw_head h.ok h.aw
  have B := clo_is (stps_ok h.ok (stl l p)).lo
  have := B.all 0 B.lo
  rw [str_clo h.ok h.aw (Nat.le_refl _)] at this
  exact ⟨by omega, h1, (stretch h.ok h3 h1).2, this⟩
end
/-! ## beneath the closed place -/
end Sb
end
section
set_option Elab.async false
set_option linter.all false
set_option maxRecDepth 100000
set_option maxHeartbeats 4000000
namespace Sb
open PySem PySem.Spec PyProof.Rows L2
variable {K : PySem.W.Frag} {S : Sto}
/-! ## how long a round is -/
/-! ## behind a round all is the same -/
/-! ## shares -/
end Sb
end
section
set_option Elab.async false
set_option linter.all false
set_option maxRecDepth 100000
set_option maxHeartbeats 4000000
namespace Sb
open PySem PySem.Spec PyProof.Rows L2
/-! ## by how many steps rows turn into others -/
def Spec (ps as : List Pat) : Option Nat → Prop
  | some r => trn ps r = as ∧ ∀ n, trn ps n = as → r ≤ n
  | none => ∀ n, trn ps n ≠ as
/-! ## decks -/
end Sb
end
section
set_option Elab.async false
set_option linter.all false
set_option maxRecDepth 100000
set_option maxHeartbeats 4000000
namespace Sb
open PySem PySem.Spec PyProof.Rows L2
/-! ## a round is the least that leads back -/
end Sb
end
section
set_option Elab.async false
set_option linter.all false
set_option maxRecDepth 100000
set_option maxHeartbeats 4000000
namespace Sb
open PySem PySem.Spec PyProof.Rows L2
/-! ## how many comings there are, and how far on -/
end Sb
end
section
set_option Elab.async false
set_option linter.all false
set_option maxRecDepth 100000
set_option maxHeartbeats 4000000
/-! Two decks beside each other: what the stretches tell, whatever the law. -/
namespace Sb
open PySem PySem.Spec PyProof.Rows L2
variable {K : PySem.W.Frag} {S : Sto}
theorem Spn.row {l : List Card} (ok : DeckOk l) {g : Nat} {xs : List (Nat × Strt)} (h : Spn l g xs) : ∀ s, g ≤ s → ∃ g' q o, (xs.filter fun y => decide (y.1 ≤ s)).getLast? = some (g', stps g' l, q, o) ∧ g' ≤ s ∧ HomeTo (stps g' l) q ∧ Within (stps g' l) q (s - g') := by
  induction h with
  | @last g ha =>
    intro s hs
    obtain ⟨h1, h2⟩ := aw_nil (stps_ok ok g) ha
    exact ⟨g, clo (stps g l) - 1, none, by simp [hs], hs, h1, h2 _⟩
  | @step g q r xs ha hr ih =>
    intro s hs
    obtain ⟨h1, h2, h3⟩ := aw_head (stps_ok ok g) ha
    obtain ⟨hb, _⟩ := stretch (stps_ok ok g) h3 h1
    by_cases q1 : s < g + (stl (stps g l) q + 1)
    · refine ⟨g, q, some (stl (stps g l) q + 1), ?_, hs, h3, fun t ht => .inl (hb t (by omega))⟩
      have : xs.filter (fun y => decide (y.1 ≤ s)) = [] := List.filter_eq_nil_iff.mpr fun y hy => by
        have := (hr.all y hy).2
        simp; omega
      rw [List.filter_cons, if_pos (by simpa using hs), this]
      rfl
    · obtain ⟨g', q', o, e, i1, i2, i3⟩ := ih s (by omega)
      refine ⟨g', q', o, ?_, i1, i2, i3⟩
      rw [List.filter_cons, if_pos (by simpa using hs), List.getLast?_cons, e]
      rfl
/-! ## sorted({..}) over data -/
end Sb
end
section
set_option Elab.async false
set_option linter.all false
set_option maxRecDepth 100000
set_option maxHeartbeats 4000000
/-! Rows beside each other: where they are unlike, unlike names are shown. -/
namespace Sb
open PySem PySem.Spec PyProof.Rows L2
variable {K : PySem.W.Frag} {S : Sto}
/-- each row has the holes of its level, and the next one is as long as they are many, and one more; the last one has none -/
def ChR : List Pat → Prop
  | [] => True
  | p :: r => 1 ≤ p.length ∧ (∀ x : Str, p.count (some x) ≤ 1) ∧ (match r with
    | [] => p.count none = 0
    | p' :: _ => 1 ≤ p.count none ∧ p'.length = p.count none + 1) ∧ ChR r
/-! ## the first unlike level -/
theorem ChR.tail : ∀ {a b : List Pat}, ChR (a ++ b) → ChR b
  | [], _, h => h
  | _ :: a, _, h => ChR.tail (a := a) h.2.2.2
theorem ChR.len : ∀ {a : List Pat} {p q : Pat} {r s : List Pat}, ChR (a ++ p :: r) → ChR (a ++ q :: s) → (a = [] → p.length = q.length) → p.length = q.length
  | [], _, _, _, _, _, _, h => h rfl
  | x :: a, p, q, r, s, hp, hq, _ => by
    obtain ⟨_, _, m1, c1⟩ := hp
    obtain ⟨_, _, m2, c2⟩ := hq
    refine ChR.len c1 c2 fun e => ?_
    subst e
    rw [m1.2, m2.2]
/-! ## the rows of a deck -/
end Sb
end
section
set_option Elab.async false
set_option linter.all false
set_option maxRecDepth 100000
set_option maxHeartbeats 4000000
namespace Sb
open PySem PySem.Spec PyProof.Rows L2
end Sb
end
section
set_option Elab.async false
set_option linter.all false
set_option maxRecDepth 100000
set_option maxHeartbeats 4000000
/-! What is seen between two sights of a name; in which order names are first seen. -/
namespace Sb
open PySem PySem.Spec PyProof.Rows L2
def tpN (l : List Card) (s : Nat) : Str := (at0 (stps s l) 0).1
abbrev nmL (l : List Card) : List Str := l.map (·.1)
def abv (x : Str) (N : List Str) : List Str := N.takeWhile fun y => decide (y ≠ x)
theorem nmL_stp {c : Card} {r : List Card} : nmL (stp (c :: r)) = (nmL r).take (ra (c :: r) 0) ++ c.1 :: (nmL r).drop (ra (c :: r) 0) := by
  rw [stp_k]; simp [nmL, List.map_take, List.map_drop]
theorem abv_ins {x y : Str} (h : y ≠ x) : ∀ (A B : List Str) (z : Str), (z ∈ abv x (A ++ y :: B) → z = y ∨ z ∈ abv x (A ++ B)) ∧ (z ∈ abv x (A ++ B) → z ∈ abv x (A ++ y :: B))
  | [], B, z => by
    unfold abv
    rw [List.nil_append, List.nil_append, List.takeWhile_cons, if_pos (by simpa using h)]
    exact ⟨fun q => List.mem_cons.mp q, fun q => List.mem_cons_of_mem _ q⟩
  | a :: A, B, z => by
    obtain ⟨h1, h2⟩ := abv_ins h A B z
    unfold abv at *
    rw [List.cons_append, List.cons_append, List.takeWhile_cons, List.takeWhile_cons]
    by_cases q : a = x
    · have d : decide (a ≠ x) = false := by simp [q]
      simp only [d, Bool.false_eq_true, if_false]
      exact ⟨.inr, id⟩
    · have d : decide (a ≠ x) = true := by simp [q]
      simp only [d, if_true]
      constructor
      · intro m
        rcases List.mem_cons.mp m with rfl | m
        · exact .inr List.mem_cons_self
        · exact (h1 m).imp id (List.mem_cons_of_mem _)
      · intro m
        rcases List.mem_cons.mp m with rfl | m
        · exact List.mem_cons_self
        · exact List.mem_cons_of_mem _ (h2 m)
theorem abv_own {x : Str} : ∀ {A B : List Str}, x ∉ A → abv x (A ++ x :: B) = A
  | [], B, _ => by unfold abv; rw [List.nil_append, List.takeWhile_cons, if_neg (by simp)]
  | a :: A, B, h => by
    have i := abv_own (x := x) (A := A) (B := B) fun z => h (List.mem_cons_of_mem _ z)
    unfold abv at *
    rw [List.cons_append, List.takeWhile_cons, if_pos (by simpa using fun z : a = x => h (z ▸ List.mem_cons_self)), i]
/-- those above a name that was just slid back -/
def btA (l : List Card) (b : Nat) : List Str := (nmL (stps b l)).tail.take (ra (stps b l) 0)
theorem btw_iff {l : List Card} (ok : DeckOk l) (b : Nat) : ∀ t, (∀ s, b < s → s < b + 1 + t → tpN l s ≠ tpN l b) → ∀ z, z ∈ btA l b ↔ (z ∈ abv (tpN l b) (nmL (stps (b + 1 + t) l)) ∨ ∃ s, b < s ∧ s < b + 1 + t ∧ tpN l s = z)
  | 0, _, z => by
    obtain ⟨c, r, e⟩ := stps_ne (l := l) (by intro q; have := ok.lo; rw [q] at this; simp at this) b
    have nd := (stps_ok ok b).nd
    rw [e] at nd
    have hx : tpN l b = c.1 := by unfold tpN; rw [e]; rfl
    have hs : stps (b + 1 + 0) l = stp (stps b l) := rfl
    have hA : btA l b = (nmL r).take (ra (c :: r) 0) := by unfold btA; rw [e]; rfl
    rw [hs, e, nmL_stp, hx, abv_own, hA]
    · exact ⟨.inl, fun h => h.elim id fun ⟨s, h1, h2, _⟩ => by omega⟩
    · intro m
      exact (List.nodup_cons.mp nd).1 (List.mem_of_mem_take m)
  | t + 1, h, z => by
    have ih := btw_iff ok b t (fun s h1 h2 => h s h1 (by omega))
    have hn := h (b + 1 + t) (by omega) (by omega)
    obtain ⟨c, r, e⟩ := stps_ne (l := l) (by intro q; have := ok.lo; rw [q] at this; simp at this) (b + 1 + t)
    have hc : tpN l (b + 1 + t) = c.1 := by unfold tpN; rw [e]; rfl
    have hs : stps (b + 1 + (t + 1)) l = stp (stps (b + 1 + t) l) := rfl
    rw [hc] at hn
    have ii := fun z => abv_ins hn ((nmL r).take (ra (c :: r) 0)) ((nmL r).drop (ra (c :: r) 0)) z
    rw [List.take_append_drop] at ii
    have hab : abv (tpN l b) (nmL (stps (b + 1 + t) l)) = c.1 :: abv (tpN l b) (nmL r) := by
      rw [e]; unfold abv nmL; rw [List.map_cons, List.takeWhile_cons, if_pos (by simpa using hn)]
    rw [hs, e, nmL_stp, ih z, hab]
    constructor
    · rintro (m | ⟨s, h1, h2, h3⟩)
      · rcases List.mem_cons.mp m with rfl | m
        · exact .inr ⟨b + 1 + t, by omega, by omega, hc⟩
        · exact .inl ((ii z).2 m)
      · exact .inr ⟨s, h1, by omega, h3⟩
    · rintro (m | ⟨s, h1, h2, h3⟩)
      · rcases (ii z).1 m with rfl | m
        · exact .inl List.mem_cons_self
        · exact .inl (List.mem_cons_of_mem _ m)
      · by_cases q : s = b + 1 + t
        · subst q
          rw [hc] at h3
          exact .inl (h3 ▸ List.mem_cons_self)
        · exact .inr ⟨s, h1, by omega, h3⟩
theorem btA_nd {l : List Card} (ok : DeckOk l) (b : Nat) : (btA l b).Nodup ∧ (btA l b).length = ra (stps b l) 0 := by
  have nd := (stps_ok ok b).nd
  have hl := (stps_ok ok b).lo
  refine ⟨(nd.sublist (List.tail_sublist _)).sublist (List.take_sublist _ _), ?_⟩
  unfold btA nmL
  rw [List.length_take, List.length_tail, List.length_map]
  have : ra (stps b l) 0 ≤ (stps b l).length - 1 := by unfold ra rch; omega
  omega
theorem foldK_nodup (ks : List Key) : (foldK ks).Nodup := by
  have nd : ∀ (ks acc : List Key), acc.Nodup → (ks.foldl stepK acc).Nodup := fun ks => by
    induction ks with
    | nil => intro acc h; exact h
    | cons k ks ih =>
      intro acc h
      refine ih _ ?_
      unfold stepK
      split
      · exact h
      · rename_i q
        refine List.nodup_append.mpr ⟨h, by simp, fun a ha b hb e => ?_⟩
        rw [List.mem_singleton.mp hb] at e
        exact q (e ▸ ha)
  exact nd ks [] List.nodup_nil
theorem foldK_mem' (ks : List Key) (j : Key) : j ∈ foldK ks ↔ j ∈ ks := by
  have : ∀ (ks acc : List Key), j ∈ ks.foldl stepK acc ↔ j ∈ acc ∨ j ∈ ks := fun ks => by
    induction ks with
    | nil => intro acc; simp
    | cons k ks ih =>
      intro acc
      rw [List.foldl_cons, ih, stepK_mem, List.mem_cons, or_assoc]
  rw [foldK, this]; simp
theorem nd_len {α : Type} [DecidableEq α] : ∀ {a b : List α}, a.Nodup → b.Nodup → (∀ z, z ∈ a ↔ z ∈ b) → a.length = b.length := fun {a b} ha hb h => by
  have le : ∀ {a b : List α}, a.Nodup → (∀ z ∈ a, z ∈ b) → a.length ≤ b.length := fun {a b} ha => by
    induction a generalizing b with
    | nil => intro _; simp
    | cons x a ih =>
      intro h
      obtain ⟨h1, h2⟩ := List.nodup_cons.mp ha
      have := ih (b := b.erase x) h2 fun z hz => (List.mem_erase_of_ne (fun q : z = x => h1 (by rw [← q]; exact hz))).mpr (h z (List.mem_cons_of_mem _ hz))
      have hx := h x List.mem_cons_self
      rw [List.length_erase_of_mem hx] at this
      have := List.length_pos_of_mem hx
      simp only [List.length_cons]
      omega
  exact Nat.le_antisymm (le ha fun z hz => (h z).mp hz) (le hb fun z hz => (h z).mpr hz)
/-- between two sights of a name as many others are seen as its reach tells -/
theorem btw_len {l : List Card} (ok : DeckOk l) {b a : Nat} (hba : b < a) (h : ∀ s, b < s → s < a → tpN l s ≠ tpN l b) (ha : tpN l a = tpN l b) {ks : List Key}
    (hk : ∀ z : Str, Sum.inr z ∈ ks ↔ ∃ s, b < s ∧ s < a ∧ tpN l s = z) (hs : ∀ k ∈ ks, ∃ z : Str, k = Sum.inr z) : (foldK ks).length = ra (stps b l) 0 := by
  obtain ⟨nd, le⟩ := btA_nd ok b
  rw [← le, ← List.length_map (f := fun z : Str => (Sum.inr z : Key))]
  have e0 : abv (tpN l b) (nmL (stps a l)) = [] := by
    obtain ⟨c, r, e⟩ := stps_ne (l := l) (by intro q; have := ok.lo; rw [q] at this; simp at this) a
    have hx : tpN l a = c.1 := by unfold tpN; rw [e]; rfl
    rw [e, ← ha, hx]
    unfold abv nmL
    rw [List.map_cons, List.takeWhile_cons, if_neg (by simp)]
  have it := btw_iff ok b (a - b - 1) (fun s h1 h2 => h s h1 (by omega))
  rw [show b + 1 + (a - b - 1) = a by omega] at it
  refine nd_len (foldK_nodup ks) ?_ fun k => ?_
  · exact List.Pairwise.map _ (fun _ _ h q => h (Sum.inr.inj q)) nd
  · rw [foldK_mem']
    constructor
    · intro hm
      obtain ⟨z, rfl⟩ := hs k hm
      exact List.mem_map_of_mem ((it z).mpr (.inr ((hk z).mp hm)))
    · intro hm
      obtain ⟨z, hz, rfl⟩ := List.mem_map.mp hm
      rcases (it z).mp hz with q | q
      · rw [e0] at q; cases q
      · exact (hk z).mpr q
/-! ## the order of the first sights -/
def fo (l : List Card) : Nat → List Str
  | 0 => []
  | n + 1 => if tpN l n ∈ fo l n then fo l n else fo l n ++ [tpN l n]
theorem fo_left {l : List Card} (ok : DeckOk l) : ∀ n, fo l n ++ (nmL (stps n l)).filter (fun x => decide (x ∉ fo l n)) = nmL l
  | 0 => by
    show [] ++ (nmL l).filter _ = nmL l
    rw [List.nil_append]
    exact List.filter_eq_self.mpr fun x _ => by simp [fo]
  | n + 1 => by
    have ih := fo_left ok n
    obtain ⟨c, r, e⟩ := stps_ne (l := l) (by intro q; have := ok.lo; rw [q] at this; simp at this) n
    have nd := (stps_ok ok n).nd
    rw [e] at nd
    have hc : tpN l n = c.1 := by unfold tpN; rw [e]; rfl
    have hs : stps (n + 1) l = stp (stps n l) := rfl
    have hr : c.1 ∉ nmL r := (List.nodup_cons.mp nd).1
    rw [hs, e, nmL_stp]
    rw [e] at ih
    have ih : fo l n ++ (c.1 :: nmL r).filter (fun x => decide (x ∉ fo l n)) = nmL l := ih
    show (if tpN l n ∈ fo l n then fo l n else fo l n ++ [tpN l n]) ++ ((nmL r).take _ ++ c.1 :: (nmL r).drop _).filter (fun x => decide (x ∉ if tpN l n ∈ fo l n then fo l n else fo l n ++ [tpN l n])) = nmL l
    rw [hc]
    by_cases q : c.1 ∈ fo l n
    · simp only [if_pos q]
      rw [List.filter_cons, if_neg (by simpa using q)] at ih
      rw [List.filter_append, List.filter_cons, if_neg (by simpa using q), ← List.filter_append, List.take_append_drop]
      exact ih
    · simp only [if_neg q]
      rw [List.filter_cons, if_pos (by simpa using q)] at ih
      rw [List.filter_append, List.filter_cons, if_neg (by simp), ← List.filter_append, List.take_append_drop, List.append_assoc]
      rw [← ih]
      congr 1
      show c.1 :: _ = c.1 :: _
      congr 1
      refine List.filter_congr fun x hx => ?_
      have hne : x ≠ c.1 := fun z => hr (z ▸ hx)
      simp [hne]
theorem fo_mem {l : List Card} : ∀ n x, x ∈ fo l n ↔ ∃ s, s < n ∧ tpN l s = x
  | 0, x => by simp [fo]
  | n + 1, x => by
    have ih := fo_mem (l := l) n
    show x ∈ (if tpN l n ∈ fo l n then fo l n else fo l n ++ [tpN l n]) ↔ _
    split
    · rename_i h
      rw [ih x]
      constructor
      · rintro ⟨s, h1, h2⟩; exact ⟨s, by omega, h2⟩
      · rintro ⟨s, h1, h2⟩
        by_cases q : s = n
        · subst q; exact (ih x).mp (h2 ▸ h)
        · exact ⟨s, by omega, h2⟩
    · rw [List.mem_append, ih x, List.mem_singleton]
      constructor
      · rintro (⟨s, h1, h2⟩ | rfl)
        · exact ⟨s, by omega, h2⟩
        · exact ⟨n, by omega, rfl⟩
      · rintro ⟨s, h1, h2⟩
        by_cases q : s = n
        · subst q; exact .inr h2.symm
        · exact .inl ⟨s, by omega, h2⟩
/-! ## never seen -/
end Sb
end
section
set_option Elab.async false
set_option linter.all false
set_option maxRecDepth 100000
set_option maxHeartbeats 4000000
/-! What two decks show, side by side. -/
namespace Sb
open PySem PySem.Spec PyProof.Rows L2
/-- the first step of unlike names, or never -/
def Prt (l m : List Card) : Option Nat → Prop
  | none => ∀ s, tpN l s = tpN m s
  | some t => tpN l t ≠ tpN m t ∧ ∀ s, s < t → tpN l s = tpN m s
theorem Prt.symm {l m : List Card} : ∀ {o : Option Nat}, Prt l m o → Prt m l o
  | none, h => fun s => (h s).symm
  | some t, h => ⟨fun e => h.1 e.symm, fun s hs => (h.2 s hs).symm⟩
/-! ## rows that begin alike -/
end Sb
end
section
set_option Elab.async false
set_option linter.all false
set_option maxRecDepth 100000
set_option maxHeartbeats 4000000
/-! Sights of a name: the first one, those from a step on; the names still seen lie on top. -/
namespace Sb
open PySem PySem.Spec PyProof.Rows L2
/-! ## called otherwise -/
end Sb
end
section
set_option Elab.async false
set_option linter.all false
set_option maxRecDepth 100000
set_option maxHeartbeats 4000000
namespace Sb
open PySem PySem.Spec PyProof.Rows L2
/-! shares of a round -/
end Sb
end
section
set_option Elab.async false
set_option linter.all false
set_option maxRecDepth 100000
set_option maxHeartbeats 4000000
namespace Sb
open PySem PySem.Spec PyProof.Rows L2
/-! so-manieth times -/
/-- the card on top of a deck gone on, by its name -/
theorem ra_top {l : List Card} {i s : Nat} (ok : DeckOk l) (hi : i < l.length) (h : tpN l s = l[i].1) : ra (stps s l) 0 = rch l.length l[i] := by
  have oks := stps_ok ok s
  have hm : at0 (stps s l) 0 ∈ l := (stps_perm l s).mem_iff.mp (at0_mem oks.lo)
  have e : at0 (stps s l) 0 = l[i] := by
    have hp : l.Pairwise fun a b => a.1 ≠ b.1 := List.pairwise_map.mp ok.nd
    obtain ⟨j, hj, ej⟩ := List.getElem_of_mem hm
    have : j = i := by
      have hn : (l.map (·.1))[j]'(by simpa using hj) = (l.map (·.1))[i]'(by simpa using hi) := by
        rw [List.getElem_map, List.getElem_map, ej]; exact h
      exact (List.getElem_inj ok.nd).mp hn
    subst this
    exact ej.symm
  unfold ra
  rw [e, (stps_perm l s).length_eq]
end Sb
end
section
set_option Elab.async false
set_option linter.all false
set_option maxRecDepth 100000
set_option maxHeartbeats 4000000
/-! Which depths let a row: the program's way of telling it, and that it tells just the decks that show the row. -/
namespace Sb
open PySem PySem.Spec PyProof.Rows L2
abbrev gR (R : List Str) (s : Nat) : Str := R.getD s default
def sgt (R : List Str) (x : Str) : List Nat := (List.range R.length).filter fun s => decide (gR R s = x)
def cntU (R : List Str) : Nat := (foldK (R.map (Sum.inr : Str → Key))).length
def btwR (R : List Str) (a b : Nat) : List Str := (R.take b).drop (a + 1)
def okR (R : List Str) (x : Str) (e : Nat) : Prop := (∀ p ∈ (sgt R x).zip (sgt R x).tail, cntU (btwR R p.1 p.2) = e) ∧ ∀ a, (sgt R x).getLast? = some a → cntU (R.drop (a + 1)) ≤ e
def fsR (R : List Str) : List Str := ((List.range R.length).filter fun s => decide (gR R s ∉ R.take s)).map (gR R)
abbrev inO (N R : List Str) : Prop := fsR R = N.take (fsR R).length
theorem zt_snoc {α : Type} {n : α} : ∀ {L : List α}, (L ++ [n]).zip (L ++ [n]).tail = L.zip L.tail ++ L.getLast?.toList.map (·, n)
  | [] => rfl
  | [a] => rfl
  | a :: b :: L => by
    have ih := zt_snoc (n := n) (L := b :: L)
    have e1 : (a :: b :: L ++ [n]).zip (a :: b :: L ++ [n]).tail = (a, b) :: (b :: L ++ [n]).zip (b :: L ++ [n]).tail := rfl
    have e2 : (a :: b :: L).zip (a :: b :: L).tail = (a, b) :: (b :: L).zip (b :: L).tail := rfl
    have e3 : (a :: b :: L).getLast? = (b :: L).getLast? := by simp [List.getLast?_cons_cons]
    rw [e1, e2, e3, ih]; rfl
theorem sg_all (P : Nat → Bool) : ∀ n, (∀ a b, (a, b) ∈ ((List.range n).filter P).zip ((List.range n).filter P).tail ↔ a < b ∧ b < n ∧ P a = true ∧ P b = true ∧ ∀ c, a < c → c < b → P c = false) ∧
    ∀ a, ((List.range n).filter P).getLast? = some a ↔ a < n ∧ P a = true ∧ ∀ c, a < c → c < n → P c = false
  | 0 => ⟨fun a b => by simp, fun a => by simp⟩
  | n + 1 => by
    obtain ⟨z, g⟩ := sg_all P n
    rw [List.range_succ, List.filter_append]
    cases h : P n with
    | true =>
      have e : [n].filter P = [n] := by simp [h]
      rw [e]
      refine ⟨fun a b => ?_, fun a => ?_⟩
      · rw [zt_snoc, List.mem_append, z]
        have : (a, b) ∈ ((List.range n).filter P).getLast?.toList.map (·, n) ↔ ((List.range n).filter P).getLast? = some a ∧ b = n := by
          cases ((List.range n).filter P).getLast? with
          | none => simp
          | some v => simp [eq_comm]
        rw [this, g]
        constructor
        · rintro (⟨h1, h2, h3, h4, h5⟩ | ⟨⟨h1, h2, h3⟩, rfl⟩)
          · exact ⟨h1, by omega, h3, h4, h5⟩
          · exact ⟨h1, by omega, h2, h, fun c h4 h5 => h3 c h4 h5⟩
        · rintro ⟨h1, h2, h3, h4, h5⟩
          by_cases q : b = n
          · exact .inr ⟨⟨by omega, h3, fun c h6 h7 => h5 c h6 (by omega)⟩, q⟩
          · exact .inl ⟨h1, by omega, h3, h4, h5⟩
      · rw [List.getLast?_concat]
        constructor
        · intro q
          cases q
          exact ⟨by omega, h, fun c h1 h2 => by omega⟩
        · rintro ⟨h1, h2, h3⟩
          by_cases q : a = n
          · rw [q]
          · have := h3 n (by omega) (by omega)
            rw [h] at this; cases this
    | false =>
      have e : [n].filter P = [] := by simp [h]
      rw [e, List.append_nil]
      refine ⟨fun a b => ?_, fun a => ?_⟩
      · rw [z]
        constructor
        · rintro ⟨h1, h2, h3, h4, h5⟩; exact ⟨h1, by omega, h3, h4, h5⟩
        · rintro ⟨h1, h2, h3, h4, h5⟩
          have : b ≠ n := fun q => by rw [q, h] at h4; cases h4
          exact ⟨h1, by omega, h3, h4, h5⟩
      · rw [g]
        constructor
        · rintro ⟨h1, h2, h3⟩
          exact ⟨by omega, h2, fun c h4 h5 => if q : c = n then by rw [q]; exact h else h3 c h4 (by omega)⟩
        · rintro ⟨h1, h2, h3⟩
          have : a ≠ n := fun q => by rw [q, h] at h2; cases h2
          exact ⟨by omega, h2, fun c h4 h5 => h3 c h4 (by omega)⟩
theorem sgt_zip {R : List Str} {x : Str} {a b : Nat} : (a, b) ∈ (sgt R x).zip (sgt R x).tail ↔ a < b ∧ b < R.length ∧ gR R a = x ∧ gR R b = x ∧ ∀ c, a < c → c < b → gR R c ≠ x := by
  unfold sgt
  rw [(sg_all _ _).1]
  simp only [decide_eq_true_eq, decide_eq_false_iff_not, ne_eq]
theorem sgt_last {R : List Str} {x : Str} {a : Nat} : (sgt R x).getLast? = some a ↔ a < R.length ∧ gR R a = x ∧ ∀ c, a < c → c < R.length → gR R c ≠ x := by
  unfold sgt
  rw [(sg_all _ _).2]
  simp only [decide_eq_true_eq, decide_eq_false_iff_not, ne_eq]
theorem last_before {P : Nat → Prop} : ∀ {s : Nat}, (∃ t, t < s ∧ P t) → ∃ t, t < s ∧ P t ∧ ∀ c, t < c → c < s → ¬ P c
  | 0, h => by obtain ⟨t, h, _⟩ := h; omega
  | s + 1, h => by
    by_cases q : P s
    · exact ⟨s, by omega, q, fun c h1 h2 => by omega⟩
    · obtain ⟨t, h1, h2⟩ := h
      have hts : t ≠ s := fun e => q (e ▸ h2)
      obtain ⟨u, h3, h4, h5⟩ := last_before (s := s) ⟨t, by omega, h2⟩
      exact ⟨u, by omega, h4, fun c h6 h7 => if e : c = s then by rw [e]; exact q else h5 c h6 (by omega)⟩
theorem first_after {P : Nat → Prop} {s n : Nat} (h : ∃ t, s < t ∧ t < n ∧ P t) : ∃ t, s < t ∧ t < n ∧ P t ∧ ∀ c, s < c → c < t → ¬ P c := by
  obtain ⟨t, h1, h2, h3⟩ := h
  induction t using Nat.strongRecOn with
  | ind t ih =>
    by_cases q : ∃ c, s < c ∧ c < t ∧ P c
    · obtain ⟨c, q1, q2, q3⟩ := q
      exact ih c q2 q1 (by omega) q3
    · exact ⟨t, h1, h2, h3, fun c h4 h5 h6 => q ⟨c, h4, h5, h6⟩⟩
theorem nd_le {α : Type} [DecidableEq α] : ∀ {a b : List α}, a.Nodup → (∀ z ∈ a, z ∈ b) → a.length ≤ b.length := fun {a b} ha => by
  induction a generalizing b with
  | nil => intro _; simp
  | cons x a ih =>
    intro h
    obtain ⟨h1, h2⟩ := List.nodup_cons.mp ha
    have := ih (b := b.erase x) h2 fun z hz => (List.mem_erase_of_ne (fun q : z = x => h1 (by rw [← q]; exact hz))).mpr (h z (List.mem_cons_of_mem _ hz))
    have hx := h x List.mem_cons_self
    rw [List.length_erase_of_mem hx] at this
    have := List.length_pos_of_mem hx
    simp only [List.length_cons]
    omega
theorem key_nd {A : List Str} (h : A.Nodup) : (A.map (Sum.inr : Str → Key)).Nodup := List.Pairwise.map _ (fun _ _ h q => h (Sum.inr.inj q)) h
theorem cntU_le {R A : List Str} (h : ∀ z ∈ R, z ∈ A) : cntU R ≤ A.length := by
  unfold cntU
  rw [← List.length_map (as := A) (f := (Sum.inr : Str → Key))]
  refine nd_le (foldK_nodup _) fun k hk => ?_
  obtain ⟨z, hz, rfl⟩ := List.mem_map.mp ((foldK_mem' _ _).mp hk)
  exact List.mem_map_of_mem (h z hz)
theorem cntU_ge {R A : List Str} (nd : A.Nodup) (h : ∀ z ∈ A, z ∈ R) : A.length ≤ cntU R := by
  unfold cntU
  rw [← List.length_map (as := A) (f := (Sum.inr : Str → Key))]
  refine nd_le (key_nd nd) fun k hk => ?_
  obtain ⟨z, hz, rfl⟩ := List.mem_map.mp hk
  exact (foldK_mem' _ _).mpr (List.mem_map_of_mem (h z hz))
theorem cntU_mono {R Q : List Str} (h : ∀ z ∈ R, z ∈ Q) : cntU R ≤ cntU Q := by
  unfold cntU
  refine nd_le (foldK_nodup _) fun k hk => ?_
  obtain ⟨z, hz, rfl⟩ := List.mem_map.mp ((foldK_mem' _ _).mp hk)
  exact (foldK_mem' _ _).mpr (List.mem_map_of_mem (h z hz))
theorem btwR_mem {R : List Str} {a b : Nat} (hb : b ≤ R.length) {z : Str} : z ∈ btwR R a b ↔ ∃ s, a < s ∧ s < b ∧ gR R s = z := by
  unfold btwR
  constructor
  · intro h
    obtain ⟨i, hi, e⟩ := List.getElem_of_mem h
    rw [List.getElem_drop, List.getElem_take] at e
    rw [List.length_drop, List.length_take] at hi
    refine ⟨a + 1 + i, by omega, by omega, ?_⟩
    rw [gR, List.getD_eq_getElem?_getD, List.getElem?_eq_getElem (by omega)]
    exact e
  · rintro ⟨s, h1, h2, rfl⟩
    have : ((R.take b).drop (a + 1))[s - (a + 1)]? = some (gR R s) := by
      rw [List.getElem?_drop, show a + 1 + (s - (a + 1)) = s by omega, List.getElem?_take_of_lt h2, List.getElem?_eq_getElem (by omega), gR, List.getD_eq_getElem?_getD, List.getElem?_eq_getElem (by omega)]; rfl
    exact List.mem_of_getElem? this
theorem drop_btw {R : List Str} {a : Nat} : R.drop (a + 1) = btwR R a R.length := by unfold btwR; rw [List.take_length]
theorem gR_lt {R : List Str} {s : Nat} (h : s < R.length) : gR R s = R[s] := by rw [gR, List.getD_eq_getElem?_getD, List.getElem?_eq_getElem h]; rfl
/-! ## the order of the first sights -/
theorem fsR_snoc {R : List Str} {y : Str} : fsR (R ++ [y]) = if y ∈ R then fsR R else fsR R ++ [y] := by
  unfold fsR
  have e1 : (List.range (R ++ [y]).length).filter (fun s => decide (gR (R ++ [y]) s ∉ (R ++ [y]).take s)) = (List.range R.length).filter (fun s => decide (gR R s ∉ R.take s)) ++ [R.length].filter fun s => decide (gR (R ++ [y]) s ∉ (R ++ [y]).take s) := by
    rw [List.length_append, List.length_singleton, List.range_succ, List.filter_append]
    congr 1
    refine List.filter_congr fun s hs => ?_
    have hs := List.mem_range.mp hs
    have e : gR (R ++ [y]) s = gR R s := by rw [gR_lt (by simp; omega), gR_lt hs, List.getElem_append_left hs]
    rw [e, List.take_append_of_le_length (by omega)]
  have e2 : gR (R ++ [y]) R.length = y := by rw [gR_lt (by simp)]; simp
  have e3 : (R ++ [y]).take R.length = R := by simp
  have e4 : ((List.range R.length).filter (fun s => decide (gR R s ∉ R.take s))).map (gR (R ++ [y])) = ((List.range R.length).filter (fun s => decide (gR R s ∉ R.take s))).map (gR R) := by
    refine List.map_congr_left fun s hs => ?_
    have hs := List.mem_range.mp (List.mem_filter.mp hs).1
    rw [gR_lt (by simp; omega), gR_lt hs, List.getElem_append_left hs]
  rw [e1, List.map_append, e4]
  by_cases q : y ∈ R
  · rw [if_pos q, List.filter_cons, if_neg (by rw [e2, e3]; simp [q])]
    simp
  · rw [if_neg q, List.filter_cons, if_pos (by rw [e2, e3]; simp [q])]
    simp [e2]
theorem fsR_mem {x : Str} : ∀ {R : List Str}, x ∈ fsR R ↔ x ∈ R := fun {R} => by
  have : ∀ k, ∀ R : List Str, R.length = k → (x ∈ fsR R ↔ x ∈ R) := fun k => by
    induction k with
    | zero => intro R h; cases R with
      | nil => simp [fsR]
      | cons => simp at h
    | succ k ih =>
      intro R h
      have hne : R ≠ [] := fun q => by rw [q] at h; simp at h
      have e := List.dropLast_concat_getLast hne
      generalize R.dropLast = Q at e
      generalize R.getLast hne = y at e
      subst e
      have := ih Q (by simpa using h)
      rw [fsR_snoc, List.mem_append]
      split
      · rename_i q
        rw [this]
        constructor
        · exact .inl
        · rintro (h | h)
          · exact h
          · rw [List.mem_singleton.mp h]; exact q
      · rw [List.mem_append, this]
  exact this _ R rfl
theorem tops_tp {l : List Card} (ok : DeckOk l) {n : Nat} : tops l (n + 1) = tops l n ++ [tpN l n] := by
  rw [tops_succ]
  obtain ⟨c, r, e⟩ := stps_ne (l := l) (by intro q; have := ok.lo; rw [q] at this; simp at this) n
  unfold tpN
  rw [e]; rfl
theorem fs_fo {l : List Card} (ok : DeckOk l) : ∀ n, fsR (tops l n) = fo l n
  | 0 => rfl
  | n + 1 => by
    rw [tops_tp ok, fsR_snoc, fs_fo ok n]
    show _ = if tpN l n ∈ fo l n then fo l n else fo l n ++ [tpN l n]
    rw [← fs_fo ok n]
    simp only [fsR_mem]
theorem tops_g {l : List Card} (ok : DeckOk l) {n s : Nat} (h : s < n) : gR (tops l n) s = tpN l s := by
  rw [gR_lt (by rw [tops_len]; exact h)]
  unfold tops tpN
  rw [List.getElem_map, List.getElem_range]
  obtain ⟨c, r, e⟩ := stps_ne (l := l) (by intro q; have := ok.lo; rw [q] at this; simp at this) s
  rw [e]; rfl
theorem fsR_take {R : List Str} : ∀ k, ∃ Q, fsR R = fsR (R.take (R.length - k)) ++ Q := fun k => by
  induction k with
  | zero => exact ⟨[], by rw [Nat.sub_zero, List.take_length, List.append_nil]⟩
  | succ k ih =>
    obtain ⟨Q, e⟩ := ih
    by_cases q : R.length ≤ k
    · exact ⟨Q, by rw [e, show R.length - (k + 1) = R.length - k by omega]⟩
    · have : R.take (R.length - k) = R.take (R.length - (k + 1)) ++ [R[R.length - (k + 1)]'(by omega)] := by
        rw [show R.length - k = (R.length - (k + 1)) + 1 by omega, List.take_append_getElem]
      rw [this, fsR_snoc] at e
      split at e
      · exact ⟨Q, e⟩
      · exact ⟨_ :: Q, by rw [e, List.append_assoc]; rfl⟩
theorem fsR_pre {R : List Str} {s : Nat} (h : s ≤ R.length) : ∃ Q, fsR R = fsR (R.take s) ++ Q := by
  obtain ⟨Q, e⟩ := fsR_take (R := R) (R.length - s)
  rw [show R.length - (R.length - s) = s by omega] at e
  exact ⟨Q, e⟩
end Sb
end
section
set_option Elab.async false
set_option linter.all false
set_option maxRecDepth 100000
set_option maxHeartbeats 4000000
namespace Sb
open PySem PySem.Spec PyProof.Rows L2
theorem tops_in' {l : List Card} (ok : DeckOk l) {n : Nat} : ∀ x ∈ tops l n, x ∈ nmL l := fun x hx => by
  obtain ⟨i, _, rfl⟩ := List.mem_map.mp hx
  obtain ⟨c, r, e⟩ := stps_ne (l := l) (by intro q; have := ok.lo; rw [q] at this; simp at this) i
  have pm : (stps i l).Perm l := stps_perm l i
  rw [e]
  exact List.mem_map.mpr ⟨c, pm.mem_iff.mp (by rw [e]; exact List.mem_cons_self), rfl⟩
theorem top_abv {l : List Card} (ok : DeckOk l) (s : Nat) : abv (tpN l s) (nmL (stps s l)) = [] := by
  obtain ⟨c, r, e⟩ := stps_ne (l := l) (by intro q; have := ok.lo; rw [q] at this; simp at this) s
  have hx : tpN l s = c.1 := by unfold tpN; rw [e]; rfl
  rw [e, hx]
  unfold abv nmL
  rw [List.map_cons, List.takeWhile_cons, if_neg (by simp)]
theorem top_above {l : List Card} (ok : DeckOk l) {s : Nat} {y : Str} (h : y ≠ tpN l s) : tpN l s ∈ abv y (nmL (stps s l)) := by
  obtain ⟨c, r, e⟩ := stps_ne (l := l) (by intro q; have := ok.lo; rw [q] at this; simp at this) s
  have hx : tpN l s = c.1 := by unfold tpN; rw [e]; rfl
  rw [hx] at h
  rw [e, hx]
  unfold abv nmL
  rw [List.map_cons, List.takeWhile_cons, if_pos (by simpa using fun q => h q.symm)]
  exact List.mem_cons_self
theorem btw_at {l : List Card} (ok : DeckOk l) {b a : Nat} (h0 : b < a) (h : ∀ s, b < s → s < a → tpN l s ≠ tpN l b) (z : Str) : z ∈ btA l b ↔ (z ∈ abv (tpN l b) (nmL (stps a l)) ∨ ∃ s, b < s ∧ s < a ∧ tpN l s = z) := by
  have it := btw_iff ok b (a - b - 1) (fun s h1 h2 => h s h1 (by omega)) z
  rw [show b + 1 + (a - b - 1) = a by omega] at it
  exact it
theorem btA_rch {l : List Card} (ok : DeckOk l) {i b : Nat} (hi : i < l.length) (h : tpN l b = l[i].1) : (btA l b).length = rch l.length l[i] := by rw [(btA_nd ok b).2, ra_top ok hi h]
/-- what a deck shows keeps the conditions -/
theorem okR_of {l : List Card} (ok : DeckOk l) {n i : Nat} (hi : i < l.length) : okR (tops l n) l[i].1 (rch l.length l[i]) := by
  have ln := tops_len l n
  have g : ∀ {s}, s < n → gR (tops l n) s = tpN l s := fun h => tops_g ok h
  refine ⟨fun p hp => ?_, fun a ha => ?_⟩
  · obtain ⟨a, b⟩ := p
    obtain ⟨h1, h2, h3, h4, h5⟩ := sgt_zip.mp hp
    rw [ln] at h2
    rw [g (by omega)] at h3 h4
    have no : ∀ s, a < s → s < b → tpN l s ≠ tpN l a := fun s q1 q2 => by rw [h3, ← g (by omega : s < n)]; exact h5 s q1 q2
    have e := btw_len ok h1 no (h4.trans h3.symm) (ks := (btwR (tops l n) a b).map Sum.inr) (fun z => by
      rw [List.mem_map]
      constructor
      · rintro ⟨y, hy, e⟩
        cases e
        obtain ⟨s, q1, q2, q3⟩ := (btwR_mem (by rw [ln]; omega)).mp hy
        exact ⟨s, q1, q2, by rw [← g (by omega : s < n)]; exact q3⟩
      · rintro ⟨s, q1, q2, q3⟩
        exact ⟨z, (btwR_mem (by rw [ln]; omega)).mpr ⟨s, q1, q2, by rw [g (by omega : s < n)]; exact q3⟩, rfl⟩) (fun k hk => by
        obtain ⟨z, _, rfl⟩ := List.mem_map.mp hk
        exact ⟨z, rfl⟩)
    show cntU (btwR (tops l n) a b) = _
    unfold cntU
    rw [e, ra_top ok hi h3]
  · obtain ⟨h1, h2, h3⟩ := sgt_last.mp ha
    rw [ln] at h1 h3
    rw [g h1] at h2
    rw [← btA_rch ok hi h2]
    refine cntU_le fun z hz => ?_
    rw [drop_btw, btwR_mem (Nat.le_refl _), ln] at hz
    obtain ⟨s, q1, q2, q3⟩ := hz
    rw [g q2] at q3
    exact (btw_at ok h1 (fun s q1 q2 => by rw [h2, ← g q2]; exact h3 s q1 q2) z).mpr (.inr ⟨s, q1, q2, q3⟩)
theorem inO_of {l : List Card} (ok : DeckOk l) {n : Nat} : inO (nmL l) (tops l n) := by
  unfold inO
  rw [fs_fo ok]
  conv => rhs; rw [← fo_left ok n]
  simp
/-- conditions kept: shown by the deck -/
theorem tops_of {l : List Card} (ok : DeckOk l) {R : List Str} (hR : ∀ x ∈ R, x ∈ nmL l) (hin : inO (nmL l) R) (hok : ∀ i (h : i < l.length), okR R l[i].1 (rch l.length l[i])) : R = tops l R.length := by
  suffices key : ∀ s, s ≤ R.length → R.take s = tops l s by
    have := key R.length (Nat.le_refl _)
    rwa [List.take_length] at this
  intro s
  induction s with
  | zero => intro _; rfl
  | succ s ih =>
    intro hs
    have ih := ih (by omega)
    have g : ∀ {t}, t < s → gR R t = tpN l t := fun {t} h => by
      rw [← tops_g ok h, ← ih, gR_lt (by omega), gR_lt (by rw [List.length_take]; omega), List.getElem_take]
    rw [tops_tp ok, ← ih, ← List.take_append_getElem (by omega : s < R.length)]
    congr 1
    rw [← gR_lt (by omega : s < R.length)]
    generalize hy : gR R s = y
    have mem : ∀ {z}, z ∈ nmL l → ∃ i, ∃ h : i < l.length, l[i].1 = z := fun {z} h => by
      obtain ⟨i, hi, e⟩ := List.getElem_of_mem h
      rw [List.getElem_map] at e
      exact ⟨i, by simpa using hi, e⟩
    have hyN : y ∈ nmL l := by rw [← hy, gR_lt (by omega)]; exact hR _ (List.getElem_mem _)
    have hxN : tpN l s ∈ nmL l := by
      have := tops_in' ok (n := s + 1) (tpN l s) (by rw [tops_tp ok]; simp)
      exact this
    by_cases q : y = tpN l s
    · rw [q]
    exfalso
    -- a name seen last at t, not on top at s: what was above it was not all seen
    have late : ∀ t, t < s → gR R t = y → (∀ c, t < c → c < s → gR R c ≠ y) → ∃ c, t < c ∧ c < s ∧ tpN l c = tpN l s := fun t h1 h2 h3 => by
      obtain ⟨i, hi, ei⟩ := mem hyN
      have e2 : tpN l t = y := (g h1).symm.trans h2
      have no : ∀ c, t < c → c < s → tpN l c ≠ tpN l t := fun c q1 q2 => by rw [e2, ← g q2]; exact h3 c q1 q2
      have hc := (hok i hi).1 (t, s) (sgt_zip.mpr ⟨h1, by omega, by rw [ei]; exact h2, by rw [ei]; exact hy, fun c q1 q2 => by rw [ei]; exact h3 c q1 q2⟩)
      have hA := btA_rch ok hi (e2.trans ei.symm)
      obtain ⟨nd, _⟩ := btA_nd ok t
      have hx : tpN l s ∈ btA l t := (btw_at ok h1 no _).mpr (.inl (by rw [e2]; exact top_above ok q))
      refine Classical.byContradiction fun hno => ?_
      have hlt : cntU (btwR R t s) ≤ ((btA l t).erase (tpN l s)).length := cntU_le fun z hz => by
        obtain ⟨c, q1, q2, q3⟩ := (btwR_mem (by omega)).mp hz
        rw [g q2] at q3
        have : z ≠ tpN l s := fun e => hno ⟨c, q1, q2, q3.trans e⟩
        exact (List.mem_erase_of_ne this).mpr ((btw_at ok h1 no _).mpr (.inr ⟨c, q1, q2, q3⟩))
      rw [List.length_erase_of_mem hx] at hlt
      have := List.length_pos_of_mem hx
      have hc : cntU (btwR R t s) = rch l.length l[i] := hc
      omega
    by_cases sx : ∃ t, t < s ∧ tpN l t = tpN l s
    · -- the top was seen: last at t
      obtain ⟨t, h1, h2, h3⟩ := last_before sx
      obtain ⟨i, hi, ei⟩ := mem hxN
      have no : ∀ c, t < c → c < s → tpN l c ≠ tpN l t := fun c q1 q2 => by rw [h2]; exact h3 c q1 q2
      have hA := btA_rch ok hi (h2.trans ei.symm)
      obtain ⟨nd, _⟩ := btA_nd ok t
      have all : ∀ z, z ∈ btA l t → ∃ c, t < c ∧ c < s ∧ tpN l c = z := fun z hz => by
        rcases (btw_at ok h1 no z).mp hz with h | h
        · rw [h2, top_abv ok] at h; cases h
        · exact h
      -- up to and with s at most so many unlike names are seen
      have most : cntU (btwR R t (s + 1)) ≤ rch l.length l[i] := by
        have gt : gR R t = l[i].1 := (g h1).trans (h2.trans ei.symm)
        by_cases nx : ∃ r, t < r ∧ r < R.length ∧ gR R r = l[i].1
        · obtain ⟨r, n1, n2, n3, n4⟩ := first_after nx
          have hr : s < r := by
            refine Nat.lt_of_not_le fun hle => ?_
            by_cases e : r = s
            · rw [e, hy, ei] at n3; exact q n3
            · exact h3 r n1 (by omega) (by rw [← g (by omega : r < s), n3, ei])
          have := (hok i hi).1 (t, r) (sgt_zip.mpr ⟨n1, n2, gt, n3, n4⟩)
          have this : cntU (btwR R t r) = rch l.length l[i] := this
          rw [← this]
          refine cntU_mono fun z hz => ?_
          obtain ⟨c, q1, q2, q3⟩ := (btwR_mem (by omega)).mp hz
          exact (btwR_mem (by omega)).mpr ⟨c, q1, by omega, q3⟩
        · have := (hok i hi).2 t (sgt_last.mpr ⟨by omega, gt, fun c q1 q2 q3 => nx ⟨c, q1, q2, q3⟩⟩)
          refine Nat.le_trans (cntU_mono fun z hz => ?_) this
          obtain ⟨c, q1, q2, q3⟩ := (btwR_mem (by omega)).mp hz
          rw [drop_btw]
          exact (btwR_mem (Nat.le_refl _)).mpr ⟨c, q1, by omega, q3⟩
      -- so y is one of those seen since
      have hyA : y ∈ btA l t := Classical.byContradiction fun hno => by
        have nd' : (y :: btA l t).Nodup := List.nodup_cons.mpr ⟨hno, nd⟩
        have := cntU_ge (R := btwR R t (s + 1)) nd' fun z hz => by
          rcases List.mem_cons.mp hz with rfl | hz
          · exact (btwR_mem (by omega)).mpr ⟨s, h1, by omega, hy⟩
          · obtain ⟨c, q1, q2, q3⟩ := all z hz
            exact (btwR_mem (by omega)).mpr ⟨c, q1, by omega, (g q2).trans q3⟩
        simp only [List.length_cons] at this
        omega
      obtain ⟨c, q1, q2, q3⟩ := all y hyA
      obtain ⟨u, u1, u2, u3⟩ := last_before (P := fun c => t < c ∧ gR R c = y) ⟨c, q2, q1, (g q2).trans q3⟩
      obtain ⟨v, v1, v2, v3⟩ := late u u1 u2.2 fun d d1 d2 d3 => u3 d d1 d2 ⟨by omega, d3⟩
      exact h3 v (by omega) v2 v3
    · by_cases sy : ∃ t, t < s ∧ gR R t = y
      · obtain ⟨t, h1, h2, h3⟩ := last_before sy
        obtain ⟨c, q1, q2, q3⟩ := late t h1 h2 h3
        exact sx ⟨c, q2, q3⟩
      · -- neither was seen
        have e1 : fsR (R.take (s + 1)) = fo l s ++ [y] := by
          rw [← List.take_append_getElem (by omega : s < R.length), ← gR_lt (by omega : s < R.length), hy, fsR_snoc, if_neg, ih, fs_fo ok]
          intro hm
          obtain ⟨t, ht, e⟩ := List.getElem_of_mem hm
          rw [List.length_take] at ht
          rw [List.getElem_take] at e
          exact sy ⟨t, by omega, by rw [gR_lt (by omega)]; exact e⟩
        obtain ⟨Q, eQ⟩ := fsR_pre (R := R) (s := s + 1) hs
        unfold inO at hin
        have p1 : (nmL l)[(fo l s).length]? = some y := by
          have : (fsR R)[(fo l s).length]? = some y := by rw [eQ, e1, List.append_assoc, List.getElem?_append_right (Nat.le_refl _)]; simp
          rw [hin] at this
          rw [List.getElem?_take] at this
          split at this
          · exact this
          · cases this
        have p2 : (nmL l)[(fo l s).length]? = some (tpN l s) := by
          rw [← fo_left ok s, List.getElem?_append_right (Nat.le_refl _), Nat.sub_self]
          obtain ⟨c, r, e⟩ := stps_ne (l := l) (by intro q; have := ok.lo; rw [q] at this; simp at this) s
          have hx : tpN l s = c.1 := by unfold tpN; rw [e]; rfl
          have hno : c.1 ∉ fo l s := fun h => sx (by rw [hx]; exact (fo_mem s _).mp h)
          rw [e, hx]
          show ((c.1 :: nmL r).filter _)[0]? = _
          rw [List.filter_cons, if_pos (by simpa using hno)]; rfl
        rw [p1] at p2
        exact q (Option.some.inj p2)
theorem dep_iff {l : List Card} (ok : DeckOk l) {R : List Str} (hR : ∀ x ∈ R, x ∈ nmL l) : R = tops l R.length ↔ inO (nmL l) R ∧ ∀ i (h : i < l.length), okR R l[i].1 (rch l.length l[i]) := by
  constructor
  · intro h
    rw [h]
    exact ⟨inO_of ok, fun i hi => okR_of ok hi⟩
  · rintro ⟨h1, h2⟩
    exact tops_of ok hR h1 h2
end Sb
end
section
set_option Elab.async false
set_option linter.all false
set_option maxRecDepth 100000
set_option maxHeartbeats 4000000
/-! A deck out of the bag. -/
namespace Sb
open PySem PySem.Spec PyProof.Rows L2
variable {K : PySem.W.Frag} {S : Sto}
end Sb
namespace Sb
open PySem PySem.Spec PyProof.Rows L2
end Sb
end
section
set_option Elab.async false
set_option linter.all false
set_option maxRecDepth 100000
set_option maxHeartbeats 4000000
namespace Sb
open PySem PySem.Spec PyProof.Rows L2
variable {S : Sto}
def dN (l : List Card) : D := .ntu (l.map dC)
@[simp] theorem bd_dN {k : Nat} {l : List Card} : bd k (dN l) = true := by simp only [dN, bd, bds_dC]
end Sb
end
section
set_option Elab.async false
set_option linter.all false
set_option maxRecDepth 100000
set_option maxHeartbeats 4000000
namespace Sb
open PySem PySem.Spec PyProof.Rows L2
variable {K : PySem.W.Frag} {S : Sto}
end Sb
end
section
set_option Elab.async false
set_option linter.all false
set_option maxRecDepth 100000
set_option maxHeartbeats 4000000
namespace Sb
open PySem PySem.Spec PyProof.Rows L2
variable {K : PySem.W.Frag} {S : Sto}
/-! ## walks over a list of the store -/
/-! ## the word of a kept exception -/
/-! ## what is no deck -/
end Sb
end
section
set_option Elab.async false
set_option linter.all false
set_option maxRecDepth 100000
set_option maxHeartbeats 4000000
namespace Sb
open PySem PySem.Spec PyProof.Rows L2
variable {K : PySem.W.Frag} {S : Sto}
/-! ### the draw of it -/
end Sb
end
section
set_option Elab.async false
set_option linter.all false
set_option maxRecDepth 100000
set_option maxHeartbeats 4000000
namespace Sb
open PySem PySem.Spec PyProof.Rows L2
variable {K : PySem.W.Frag} {S : Sto}
/-! ## what is no deck, as the spring draws it -/
def w7 (k : Nat) : Str := ("w" : Str) ++ ⟨#[(("abcdefg" : Str).cps.toList).getD (k / 6) 0]⟩ ++ ⟨#[(("abcdef" : Str).cps.toList).getD (k % 6) 0]⟩
end Sb
end
section
set_option Elab.async false
set_option linter.all false
set_option maxRecDepth 100000
set_option maxHeartbeats 4000000
namespace Sb
open PySem PySem.Spec PyProof.Rows L2
variable {K : PySem.W.Frag} {S : Sto}
theorem ws_srt {f g : SF} {τ : Sl} {S S' : Sto} {d : D} {Q : Fl → Sto → Prop} (h : f τ S = some (.rt d, S')) (k : Q (.rt d) S') : Ws (sSeq f g τ S) Q := ⟨_, _, sSeq_rt h, k⟩
end Sb
end
section
set_option Elab.async false
set_option linter.all false
set_option maxRecDepth 100000
set_option maxHeartbeats 4000000
namespace K59
open PySem PySem.Spec PyProof.Rows L2 Sb
variable {K : PySem.W.Frag} {S : Sto}
theorem eCh3 {a b c : Nat} (h1 : a ≤ b) (h2 : b ≤ c) {τ : Sl} {f : EF} (hf : f τ S = some (.ok (.int (b : Nat)) S)) : eCh gLe gLe (eC (.int (a : Nat))) f (eC (.int (c : Nat))) τ S = some (.ok (.bl true) S) := by
  refine eCh_tt (x := .int (a : Nat)) (y := .int (b : Nat)) (z := .int (c : Nat)) (d := .bl true) (S3 := S) (S4 := S) rfl hf ?_ rfl ?_
  · rw [gLe_i, decide_eq_true (by omega)]
  · rw [gLe_i, decide_eq_true (by omega)]
theorem names_ok {nd : D} {N : List Str} (q : Sq nd (N.map D.str)) (nn : N.Nodup) (h1 : 1 ≤ N.length) (h2 : N.length ≤ 40) (hN : ∀ c ∈ N, Nm c) : M_require_names K [nd] S = some (.ok .non S) := by
  have ln : ∀ {S : Sto}, gLenX [nd] S = some (.int (N.length : Nat), S) := fun {S} => by rw [q.len, List.length_map]
  have eA : eAll 2 (iSeq (eVar 0)) (tN 1) (eCl (M_is_name) 1 (aCons (eVar 1) (aNil))) (ini 2 [nd]) S = some (.ok (.bl true) S) := by
    obtain ⟨S1, L, rfl⟩ := goA_inv (nxt := fun i _ => some (N.map D.str)[i]?) (g := tN 1) (fe := eCl (M_is_name) 1 (aCons (eVar 1) (aNil))) (k := 2) (n := N.length) (fun _ S' => S' = S) (fun i => .str (N.getD i default)) (fun i S' hi e => by
      subst e
      refine ⟨by rw [List.getElem?_map, List.getElem?_eq_getElem hi, List.getD_eq_getElem?_getD, List.getElem?_eq_getElem hi]; rfl, _, S', rfl, ?_, rfl⟩
      exact eCl_ok (a1_ok rfl) rfl (is_name_ok (hN _ (by rw [List.getD_eq_getElem?_getD, List.getElem?_eq_getElem hi]; exact List.getElem_mem hi)))) (fun S' _ => by simp) ((N.map D.str).length + 1) 0 S (Nat.zero_le _) (by simp) rfl
    unfold eAll
    rw [iSeq_ok (d := nd) (S1 := S1) rfl (q.wk S1)]
    simp only [L, Option.bind_some]
  have eS : (tB (eB gLtI (eCB gLenSet (aCons (eVar 0) (aNil))) (eCB gLenX (aCons (eVar 0) (aNil))))) (ini 2 [nd]) S = some (.ok false S) := by
    have g : gLenSet [nd] S = some (.int (N.length : Nat), S) := by
      have hs : seqD S nd = some (N.map D.str) := by rcases q with rfl | rfl <;> rfl
      have nk : (N.map (Sum.inr : Str → Key)).Nodup := key_nd nn
      have hl : N.length ≤ 1000 := by omega
      simp only [gLenSet, hs, Option.bind_some, keysOf_strs, foldK_nd nk, List.length_map, if_pos hl]
    exact tB_ok (eB_ok (eCB_ok (a1_ok rfl) g) (eCB_ok (a1_ok rfl) ln) (gLt_i.trans (by rw [decide_eq_false (by omega)])))
  have s1 : (sIf (tOr' (tNt (tB (eCl (M_is_listed) 1 (aCons (eVar 0) (aNil))))) (tNt (tB (eCh gLe gLe (eC (.int 1)) (eCB gLenX (aCons (eVar 0) (aNil))) (eC (.int 40)))))) (sRaise (He.ga K "NoNames")) (sNop)) (ini 2 [nd]) S = some (.nx (ini 2 [nd]), S) :=
    (sIf_f (S1 := S) (or_f (tNt_ok (b := true) (tB_ok (eCl_ok (a1_ok rfl) rfl (q.listed S)))) (tNt_ok (b := true) (tB_ok (eCh3 (a := 1) (c := 40) h1 h2 (eCB_ok (a1_ok rfl) ln)))))).trans rfl
  exact fnM_nx (τ := ini 2 [nd]) ((sSeq_nx s1).trans ((sIf_f (S1 := S) (or_f (tNt_ok (b := true) (tB_ok eA)) eS)).trans rfl))
theorem row_ok {N R : List Str} (hN : ∀ c ∈ N, Nm c) (hR : ∀ x ∈ R, x ∈ N) : M_require_row K [.fl (N.map D.str), .fl (R.map D.str)] S = some (.ok .non S) := by
  have q : Sq (.fl (R.map D.str)) (R.map D.str) := .inr rfl
  have eE : eEvr [0] (iSeq (eVar 1)) (tN 2) (eB (gIn false) (eVar 2) (eVar 0)) (ini 3 [.fl (N.map D.str), .fl (R.map D.str)]) S = some (.ok (.bl true) S) := by
    obtain ⟨r, e1, e2⟩ := goZ_inv (nxt := fun i _ => some (R.map D.str)[i]?) (g := tN 2) (fe := eB (gIn false) (eVar 2) (eVar 0)) (τ0 := [some (.fl (N.map D.str)), none, none]) (S := S) (n := R.length) (fun i => .str (R.getD i default)) (fun _ => true) (fun i hi => by
      refine ⟨by rw [List.getElem?_map, List.getElem?_eq_getElem hi, List.getD_eq_getElem?_getD, List.getElem?_eq_getElem hi]; rfl, _, rfl, ?_⟩
      have hm : R.getD i default ∈ N := hR _ (by rw [List.getD_eq_getElem?_getD, List.getElem?_eq_getElem hi]; exact List.getElem_mem hi)
      exact eB_ok rfl rfl ((gIn_fl (neg := false) (hN _ hm) hN).trans (by rw [decide_eq_true hm]; rfl))) (by simp) ((R.map D.str).length + 1) 0 (Nat.zero_le _) (by simp)
    have : r = true := e2.mpr fun _ _ _ => rfl
    subst this
    unfold eEvr
    rw [iSeq_ok (d := .fl (R.map D.str)) (S1 := S) rfl (q.wk S)]
    have ho : onlyD [0] (ini 3 [.fl (N.map D.str), .fl (R.map D.str)]) = [some (.fl (N.map D.str)), none, none] := rfl
    rw [ho]
    simp only [e1, Option.bind_some]
  exact fnM_nx ((sIf_f (or_f (tNt_ok (b := true) (tB_ok (eCl_ok (a1_ok rfl) rfl (q.listed S)))) (tNt_ok (b := true) (tB_ok eE)))).trans rfl)
/-! ## the row told with its steps -/
def enR (R : List Str) : List D := (List.range R.length).map fun s : Nat => .tup [.int (s : Nat), .str (gR R s)]
theorem wks_enR {R : List Str} {P : Sto → Prop} : Wks (wkE (R.map D.str)) (enR R) P := ⟨fun i S _ => by
  by_cases h : i < R.length
  · have h' : i < (R.map D.str).length := by simpa using h
    rw [wkE_nxt h', List.getElem_map]
    unfold enR
    rw [List.getElem?_map, List.getElem?_range h, ← gR_lt h]; rfl
  · show some ((R.map D.str)[i]?.map _) = _
    rw [List.getElem?_eq_none (by simpa using h)]
    unfold enR
    rw [List.getElem?_map, List.getElem?_eq_none (by simpa using h)]; rfl, by simp [wkE, enR]⟩
theorem in_order_ok {N R : List Str} (w : Wf S) (hN : ∀ c ∈ N, Nm c) (hR : ∀ x ∈ R, x ∈ N) (hl : R.length ≤ 1000) : M_in_order [.fl (N.map D.str), .fl (R.map D.str)] S = some (.ok (.bl (decide (inO N R))) S) := by
  refine fn_wt ?_
  have e := lc_pu (fi := iEnX (aCons (eVar 1) (aNil))) (g := tN2 3 4) (t := tB (eB (gIn true) (eVar 4) (eSl (eVar 1) (oNo) (oSo (eVar 3))))) (fe := eVar 4) (vs := [3, 4]) (τ := ini 5 [.fl (N.map D.str), .fl (R.map D.str)]) (S := S) (ds := enR R)
    (fun d => match d with | .tup [.int i, .str x] => decide (x ∉ R.take i.toNat) | _ => false) (fun d => match d with | .tup [_, x] => x | _ => .non) w (iEnX_fl (a1_ok rfl)) wks_enR (by simp [enR]; omega)
    (fun d hd _ => by obtain ⟨i, _, rfl⟩ := List.mem_map.mp hd; rfl)
    (fun d hd S' _ _ => by
      obtain ⟨i, hi, rfl⟩ := List.mem_map.mp hd
      have hi := List.mem_range.mp hi
      refine ⟨_, rfl, ?_, fun _ => rfl⟩
      have hm : ∀ c ∈ R.take i, Nm c := fun c hc => hN _ (hR _ (List.mem_of_mem_take hc))
      have hx : Nm (gR R i) := hN _ (hR _ (by rw [gR_lt hi]; exact List.getElem_mem hi))
      have c := cut_fl (S := S') (ds := R.map D.str) (b := i)
      rw [← List.map_take] at c
      refine (tB_ok (eB_ok rfl (eSl_ok rfl rfl (oSo_ok rfl) c) (gIn_fl (neg := true) hx hm))).trans ?_
      show _ = some (Rs.ok (decide (gR R i ∉ R.take ((i : Nat) : Int).toNat)) _)
      rw [Int.toNat_natCast]
      simp)
  have ef : ((enR R).filter (fun d => match d with | .tup [.int i, .str x] => decide (x ∉ R.take i.toNat) | _ => false)).map (fun d => match d with | .tup [_, x] => x | _ => .non) = (fsR R).map D.str := by
    unfold enR fsR
    rw [List.filter_map, List.map_map, List.map_map]
    rfl
  rw [ef] at e
  refine ws_set e ?_
  have hf : ∀ x ∈ fsR R, Nm x := fun x hx => hN _ (hR _ (fsR_mem.mp hx))
  have c := cut_fl (S := S) (ds := N.map D.str) (b := (fsR R).length)
  rw [← List.map_take] at c
  have e2 : fz (eCB gList (aCons (eSl (eVar 0) (oNo) (oSo (eCB gLenX (aCons (eVar 2) (aNil))))) (aNil))) [some (.fl (N.map D.str)), some (.fl (R.map D.str)), some (.fl ((fsR R).map D.str)), none, none] S = some (.ok (.fl ((N.take (fsR R).length).map D.str)) S) :=
    fz_lst (n := S.length) (X := [.lst ((N.take (fsR R).length).map D.str)]) w (eCB_ok (a1_ok (eSl_ok rfl rfl (oSo_ok (eCB_ok (a1_ok rfl) (len_fl.trans (by rw [List.length_map])))) c)) rfl) (get_last _ _) (Nat.le_refl _) (bds_map fun _ _ => rfl)
  refine ws_rt (d := .bl (decide (inO N R))) (S1 := S) (eB_ok rfl e2 (gEq_fl (neg := false) hf fun c hc => hN _ (List.mem_of_mem_take hc))) ⟨rfl, rfl⟩
theorem unlike_ok {R : List Str} (h : R.length ≤ 1000) : M_many_unlike [.fl (R.map D.str)] S = some (.ok (.int (cntU R : Nat)) S) := by
  refine fnM_rt (sRt_ok (eCB_ok (a1_ok rfl) ?_))
  simp only [gLenSet, seqD, Option.bind_some, keysOf_strs, List.length_map, if_pos h]
  rfl
end K59
end
section
set_option Elab.async false
set_option linter.all false
set_option maxRecDepth 100000
set_option maxHeartbeats 4000000
/-! a comprehension of two clauses over told things -/
namespace Sb
open PySem PySem.Spec PyProof.Rows L2
variable {S : Sto}
theorem goC2_pu {nxt : Nat → Sto → Option (Option D)} {g g1 : TF} {fi1 : IF} {fe : EF} {vs1 : List Nat} {τ0 : Sl} {ds : List D} (es : D → List D) (q : D → D → D) (w : Wf S) (hx : ∀ i X, nxt i (S ++ X) = some ds[i]?)
    (hb : ∀ d ∈ ds, ∀ e ∈ es d, bd S.length (q d e) = true) (hl : (ds.flatMap fun d => (es d).map (q d)).length ≤ 100000)
    (h : ∀ d ∈ ds, ∀ S', Wf S' → (∃ X, S' = S ++ X) → ∃ τ1, g d S' τ0 = some τ1 ∧ ∃ wk1, fi1 τ1 S' = some (.ok wk1 S') ∧ Wks wk1 (es d) (fun S'' => ∃ X, S'' = S ++ X) ∧ ∀ e ∈ es d, ∀ S'', Wf S'' → (∃ X, S'' = S ++ X) → ∃ τ2, g1 e S'' (wipeD τ1 vs1) = some τ2 ∧ fe τ2 S'' = some (.ok (q d e) S'')) :
    ∀ (m i : Nat), i ≤ ds.length → ds.length - i < m → goC2 nxt g tAll fi1 g1 tAll fe vs1 S.length τ0 m i (S ++ [.lst ((ds.take i).flatMap fun d => (es d).map (q d))]) = some (S ++ [.lst (ds.flatMap fun d => (es d).map (q d))])
  | 0, i, _, hm => absurd hm (Nat.not_lt_zero _)
  | m + 1, i, hi, hm => by
    have bdq : ∀ A : List D, (∀ x ∈ A, ∃ d ∈ ds, ∃ e ∈ es d, x = q d e) → bds S.length A = true := fun A hA => bds_all.mpr fun x hx => by
      obtain ⟨d, hd, e, he, rfl⟩ := hA x hx
      exact hb d hd e he
    have inA : ∀ j, ∀ x ∈ (ds.take j).flatMap fun d => (es d).map (q d), ∃ d ∈ ds, ∃ e ∈ es d, x = q d e := fun j x hx => by
      obtain ⟨d, hd, hx⟩ := List.mem_flatMap.mp hx
      obtain ⟨e, he, rfl⟩ := List.mem_map.mp hx
      exact ⟨d, List.mem_of_mem_take hd, e, he, rfl⟩
    unfold goC2
    rw [hx]
    by_cases hi' : i < ds.length
    · have e3 := List.getElem?_eq_getElem hi'
      rw [e3]
      have hmem : ds[i] ∈ ds := List.getElem_mem hi'
      have w1 : Wf (S ++ [.lst ((ds.take i).flatMap fun d => (es d).map (q d))]) := wf_app w (bds_mono (Nat.le_add_right _ _) _ (bdq _ (inA i)))
      obtain ⟨τ1, h1, wk1, h2, h3, h4⟩ := h ds[i] hmem _ w1 ⟨_, rfl⟩
      have et : (ds.take (i + 1)).flatMap (fun d => (es d).map (q d)) = ((ds.take i).flatMap fun d => (es d).map (q d)) ++ (es ds[i]).map (q ds[i]) := by
        rw [← List.take_append_getElem hi', List.flatMap_append]; simp
      have ln : (((ds.take i).flatMap fun d => (es d).map (q d)) ++ (es ds[i]).map (q ds[i])).length ≤ 100000 := by
        rw [← et]
        refine Nat.le_trans ?_ hl
        conv => rhs; rw [← List.take_append_drop (i + 1) ds, List.flatMap_append, List.length_append]
        omega
      rw [List.length_append, List.length_map] at ln
      obtain ⟨S3, L, rfl⟩ := goC_inv (nxt := wk1.nxt) (g := g1) (t := tAll) (fe := fe) (l := S.length) (τ0 := wipeD τ1 vs1) (n := (es ds[i]).length)
        (fun j S' => S' = S ++ [Ob.lst (List.append ((ds.take i).flatMap fun d => (es d).map (q d)) (((es ds[i]).take j).map (q ds[i])))]) (fun j => (es ds[i]).getD j default)
        (fun j S' hj e => by
          subst e
          have f3 := List.getElem?_eq_getElem hj
          have f4 : (es ds[i]).getD j default = (es ds[i])[j] := by rw [List.getD_eq_getElem?_getD, f3]; rfl
          have wj : Wf (S ++ [Ob.lst (List.append ((ds.take i).flatMap fun d => (es d).map (q d)) (((es ds[i]).take j).map (q ds[i])))]) := wf_app w (bds_mono (Nat.le_add_right _ _) _ (bdq _ fun x hx => by
            rcases List.mem_append.mp hx with hx | hx
            · exact inA i x hx
            · obtain ⟨e, he, rfl⟩ := List.mem_map.mp hx
              exact ⟨_, hmem, e, List.mem_of_mem_take he, rfl⟩))
          obtain ⟨τ2, k1, k2⟩ := h4 _ (List.getElem_mem hj) _ wj ⟨_, rfl⟩
          refine ⟨by rw [h3.nxt j _ ⟨_, rfl⟩, f4, f3], τ2, by rw [f4]; exact k1, .inr ⟨_, q ds[i] (es ds[i])[j], _, _, rfl, k2, get_last _ _, ?_, ?_⟩⟩
          · have := sizeLine_eq
            show (_ ++ _ : List D).length < _
            rw [List.length_append, List.length_map, List.length_take]
            omega
          · rw [set_last]
            show _ = S ++ [Ob.lst (_ ++ _)]
            rw [← List.take_append_getElem hj, List.map_append, ← List.append_assoc]; rfl)
        (fun S' e => by subst e; rw [h3.nxt _ _ ⟨_, rfl⟩, List.getElem?_eq_none (Nat.le_refl _)]) (wk1.bound + 1) 0 (S ++ [.lst ((ds.take i).flatMap fun d => (es d).map (q d))]) (Nat.zero_le _) (by have := h3.bound; omega) (by show _ = S ++ [Ob.lst (_ ++ _)]; simp)
      simp only [h1, tAll, h2]
      simp only [L]
      show goC2 nxt g tAll fi1 g1 tAll fe vs1 S.length τ0 m (i + 1) (S ++ [Ob.lst (_ ++ _)]) = _
      rw [List.take_length, ← et]
      exact goC2_pu es q w hx hb hl h m (i + 1) (by omega) (by omega)
    · have : i = ds.length := by omega
      subst this
      rw [List.getElem?_eq_none (Nat.le_refl _), List.take_length]
theorem lc2_pu {fi fi1 : IF} {g g1 : TF} {fe : EF} {vs vs1 : List Nat} {τ : Sl} {wk : Wk} {ds : List D} (es : D → List D) (q : D → D → D) (w : Wf S) (hi : fi τ S = some (.ok wk S)) (hw : Wks wk ds fun S' => ∃ X, S' = S ++ X)
    (hb : ∀ d ∈ ds, ∀ e ∈ es d, bd S.length (q d e) = true) (hl : (ds.flatMap fun d => (es d).map (q d)).length ≤ 100000)
    (h : ∀ d ∈ ds, ∀ S', Wf S' → (∃ X, S' = S ++ X) → ∃ τ1, g d S' (wipeD τ vs) = some τ1 ∧ ∃ wk1, fi1 τ1 S' = some (.ok wk1 S') ∧ Wks wk1 (es d) (fun S'' => ∃ X, S'' = S ++ X) ∧ ∀ e ∈ es d, ∀ S'', Wf S'' → (∃ X, S'' = S ++ X) → ∃ τ2, g1 e S'' (wipeD τ1 vs1) = some τ2 ∧ fe τ2 S'' = some (.ok (q d e) S'')) :
    fz (eLc2 fi g tAll fi1 g1 tAll fe vs vs1) τ S = some (.ok (.fl (ds.flatMap fun d => (es d).map (q d))) S) := by
  have L := goC2_pu (nxt := wk.nxt) (g := g) (g1 := g1) (fi1 := fi1) (fe := fe) (vs1 := vs1) (τ0 := wipeD τ vs) es q w (fun i X => hw.nxt i _ ⟨X, rfl⟩) hb hl h (wk.bound + 1) 0 (Nat.zero_le _) (by have := hw.bound; omega)
  rw [List.take_zero] at L
  refine fz_lst (n := S.length) (X := [.lst (ds.flatMap fun d => (es d).map (q d))]) w ?_ (get_last _ _) (Nat.le_refl _) (bds_all.mpr fun x hx => by
    obtain ⟨d, hd, hx⟩ := List.mem_flatMap.mp hx
    obtain ⟨e, he, rfl⟩ := List.mem_map.mp hx
    exact hb d hd e he)
  simp only [eLc2, hi]
  show (goC2 _ _ _ _ _ _ _ _ _ _ _ _ (S ++ [.lst []])).bind _ = _
  rw [show ([] : List D) = List.flatMap (fun d => (es d).map (q d)) [] from rfl, L]
  rfl
end Sb
end
section
set_option Elab.async false
set_option linter.all false
set_option maxRecDepth 100000
set_option maxHeartbeats 4000000
namespace K59
open PySem PySem.Spec PyProof.Rows L2 Sb
variable {K : PySem.W.Frag} {S : Sto}
def okRb (R : List Str) (x : Str) (e : Nat) : Bool := (((sgt R x).zip (sgt R x).tail).all fun p => decide (e = cntU (btwR R p.1 p.2))) && (match (sgt R x).getLast? with | none => true | some a => decide (cntU (R.drop (a + 1)) ≤ e))
theorem okRb_iff {R : List Str} {x : Str} {e : Nat} : okRb R x e = true ↔ okR R x e := by
  unfold okRb okR
  rw [Bool.and_eq_true, List.all_eq_true]
  refine and_congr ⟨fun h p hp => (of_decide_eq_true (h p hp)).symm, fun h p hp => decide_eq_true (h p hp).symm⟩ ?_
  cases (sgt R x).getLast? with
  | none => simp
  | some a => simp
/-- the reaches that a row lets a name have -/
def rcl (n : Nat) (R : List Str) (x : Str) : List Nat := (List.range n).filter (okRb R x)
abbrev nD (ns : List Nat) : List D := ns.map fun r : Nat => D.int (r : Nat)
theorem rg_filter {n l : Nat} {q : Nat → Bool} : ((List.range (n - l)).map (l + ·)).filter q = (List.range n).filter fun r => q r && decide (l ≤ r) := by
  by_cases h : l ≤ n
  · have e : n = l + (n - l) := by omega
    conv => rhs; rw [e, List.range_add]
    rw [List.filter_append]
    have e1 : (List.range l).filter (fun r => q r && decide (l ≤ r)) = [] := List.filter_eq_nil_iff.mpr fun r hr => by
      have := List.mem_range.mp hr
      simp; intro _; omega
    rw [e1, List.nil_append]
    refine List.filter_congr fun r hr => ?_
    obtain ⟨i, _, rfl⟩ := List.mem_map.mp hr
    simp
  · have e : n - l = 0 := by omega
    rw [e]
    symm
    refine List.filter_eq_nil_iff.mpr fun r hr => ?_
    have := List.mem_range.mp hr
    simp; intro _; omega
theorem cut_btw {R : List Str} {a b : Nat} (h1 : a < b) (h2 : b ≤ R.length) : gSl (.fl (R.map D.str)) (some ((a + 1 : Nat) : Int)) (some (b : Nat)) S = some (.fl ((btwR R a b).map D.str), S) := by
  have h : Sb.cutD (R.map D.str) (some ((a + 1 : Nat) : Int)) (some (b : Int)) = (btwR R a b).map D.str := by
    unfold Sb.cutD btwR
    rw [HT.sIx_nat, HT.sIx_nat, List.length_map, ← List.map_drop, ← List.map_take, Nat.min_eq_left (show a + 1 ≤ R.length by omega), Nat.min_eq_left h2, List.drop_take]
  simp only [gSl, h]
theorem wks_zip {A B : List Nat} {P : Sto → Prop} : Wks (wkZ (nD A) (nD B)) ((A.zip B).map fun p => D.tup [.int (p.1 : Nat), .int (p.2 : Nat)]) P := ⟨fun i S _ => by
  show some (zipAt (nD A) (nD B) i) = _
  unfold zipAt
  rw [List.getElem?_map, List.getElem?_map, List.getElem?_map]
  congr 1
  by_cases h1 : i < A.length
  · by_cases h2 : i < B.length
    · rw [List.getElem?_eq_getElem h1, List.getElem?_eq_getElem h2, List.getElem?_eq_getElem (by rw [List.length_zip]; omega), List.getElem_zip]; rfl
    · have z : (A.zip B)[i]? = none := List.getElem?_eq_none (by rw [List.length_zip]; omega)
      rw [z, show B[i]? = none from List.getElem?_eq_none (by omega)]
      cases A[i]? <;> rfl
  · have z : (A.zip B)[i]? = none := List.getElem?_eq_none (by rw [List.length_zip]; omega)
    rw [z, show A[i]? = none from List.getElem?_eq_none (by omega)]; rfl, by simp [wkZ, List.length_zip]⟩
theorem reaches_ok {N R : List Str} {x : Str} (w : Wf S) (hx : Nm x) (hR : ∀ x ∈ R, Nm x) (hl : R.length ≤ 1000) (hn : N.length ≤ 1000) :
    M_reaches_let [.fl (N.map D.str), .fl (R.map D.str), .str x] S = some (.ok (.fl (nD (rcl N.length R x))) S) := by
  refine fn_wt ?_
  have e := lc_pu (fi := iEnX (aCons (eVar 1) (aNil))) (g := tN2 4 5) (t := tB (eB (gEq false) (eVar 5) (eVar 2))) (fe := eVar 4) (vs := [4, 5]) (τ := ini 11 [.fl (N.map D.str), .fl (R.map D.str), .str x]) (S := S) (ds := enR R)
    (fun d => match d with | .tup [_, .str y] => decide (y = x) | _ => false) (fun d => match d with | .tup [i, _] => i | _ => .non) w (iEnX_fl (a1_ok rfl)) wks_enR (by simp [enR]; omega)
    (fun d hd _ => by obtain ⟨i, _, rfl⟩ := List.mem_map.mp hd; rfl)
    (fun d hd S' _ _ => by
      obtain ⟨i, hi, rfl⟩ := List.mem_map.mp hd
      have hi := List.mem_range.mp hi
      exact ⟨_, rfl, tB_ok (eB_ok rfl rfl (gEq_str (neg := false) (hR _ (by rw [gR_lt hi]; exact List.getElem_mem hi)) hx)), fun _ => rfl⟩)
  have ef : ((enR R).filter (fun d => match d with | .tup [_, .str y] => decide (y = x) | _ => false)).map (fun d => match d with | .tup [i, _] => i | _ => .non) = nD (sgt R x) := by
    unfold enR sgt
    rw [List.filter_map, List.map_map]
    rfl
  rw [ef] at e
  refine ws_set e ?_
  have hs : (sgt R x).length ≤ 1000 := by
    unfold sgt
    exact Nat.le_trans (List.length_filter_le _ _) (by simpa using hl)
  have hm : ∀ a ∈ sgt R x, a < R.length := fun a ha => List.mem_range.mp (List.mem_filter.mp ha).1
  cases hg : (sgt R x).getLast? with
  | none =>
    have h0 : sgt R x = [] := List.getLast?_eq_none_iff.mp hg
    rw [h0]
    have er : rcl N.length R x = List.range N.length := by
      unfold rcl
      refine List.filter_eq_self.mpr fun e _ => ?_
      unfold okRb
      rw [h0]; rfl
    rw [er]
    have el : fz (eCB gListR (aCons (eCB gRange (aCons (eCB gLenX (aCons (eVar 0) (aNil))) (aNil))) (aNil))) [some (.fl (N.map D.str)), some (.fl (R.map D.str)), some (.str x), some (.fl (nD [])), none, none, none, none, none, none, none] S = some (.ok (.fl (nD (List.range N.length))) S) := by
      have g1 : gRange [.int (N.length : Nat)] S = some (.rgo 0 (N.length : Nat), S) := by
        have : rgB ((N.length : Nat) : Int) = true := by simp [rgB]; omega
        simp only [gRange, this, if_true]
      have g2 : gListR [.rgo 0 (N.length : Nat)] S = some (.loc S.length, S ++ [.lst (nD (List.range N.length))]) := by
        simp only [gListR]
        rw [if_pos (by omega)]
        simp [rgD, nD]
      exact fz_lst (n := S.length) (X := [.lst (nD (List.range N.length))]) w (eCB_ok (a1_ok (eCB_ok (a1_ok (eCB_ok (a1_ok rfl) (len_fl.trans (by rw [List.length_map])))) g1)) g2) (get_last _ _) (Nat.le_refl _) (bds_map fun _ _ => rfl)
    exact ws_srt (d := .fl (nD (List.range N.length))) (S' := S) ((sIf_t (S1 := S) (tNt_ok (b := false) (tTr_ok rfl rfl))).trans (sRt_ok el)) ⟨rfl, rfl⟩
  | some a =>
    have hne : sgt R x ≠ [] := fun z => by rw [z] at hg; cases hg
    refine ws_no (tNt_ok (b := true) (tTr_ok (b := true) rfl (by
      show some (!(nD (sgt R x)).isEmpty) = some true
      cases h : sgt R x with
      | nil => exact absurd h hne
      | cons c r => rfl))) ?_
    have ct : gSl (.fl (nD (sgt R x))) (some ((1 : Nat) : Int)) none S = some (.fl (nD (sgt R x).tail), S) := by
      rw [cut_flf]
      simp [nD, List.map_drop]
    have e6 := lc_pu (fi := iZp (aCons (eVar 3) (aCons (eSl (eVar 3) (oSo (eC (.int 1))) (oNo)) (aNil)))) (g := tN2 4 7) (t := tAll) (fe := fz (eCl (M_many_unlike) 1 (aCons (eSl (eVar 1) (oSo (eB gAdd (eVar 4) (eC (.int 1)))) (oSo (eVar 7))) (aNil)))) (vs := [4, 7])
      (τ := [some (.fl (N.map D.str)), some (.fl (R.map D.str)), some (.str x), some (.fl (nD (sgt R x))), none, none, none, none, none, none, none]) (S := S) (ds := ((sgt R x).zip (sgt R x).tail).map fun p => D.tup [.int (p.1 : Nat), .int (p.2 : Nat)])
      (fun _ => true) (fun d => match d with | .tup [.int a, .int b] => .int (cntU (btwR R a.toNat b.toNat) : Nat) | _ => .non) w (iZp_fl (a2_ok rfl (eSl_ok rfl (oSo_ok rfl) rfl ct))) wks_zip (by simp; omega)
      (fun d hd _ => by obtain ⟨p, _, rfl⟩ := List.mem_map.mp hd; rfl)
      (fun d hd S' w' _ => by
        obtain ⟨⟨i, j⟩, hp, rfl⟩ := List.mem_map.mp hd
        obtain ⟨h1, h2, _⟩ := sgt_zip.mp hp
        refine ⟨_, rfl, rfl, fun _ => ?_⟩
        have lb : (btwR R i j).length ≤ 1000 := by unfold btwR; rw [List.length_drop, List.length_take]; omega
        refine fz_same w' (eCl_ok (a1_ok (eSl_ok rfl (oSo_ok (eB_ok rfl rfl (gAdd_nat (i := i) (j := 1)))) (oSo_ok rfl) (cut_btw h1 (by omega)))) rfl ?_) rfl
        refine (unlike_ok lb).trans ?_
        show _ = some (Rs.ok (D.int (cntU (btwR R ((i : Nat) : Int).toNat ((j : Nat) : Int).toNat) : Nat)) _)
        rw [Int.toNat_natCast, Int.toNat_natCast])
    have e6' : ((((sgt R x).zip (sgt R x).tail).map fun p => D.tup [.int (p.1 : Nat), .int (p.2 : Nat)]).filter fun _ => true).map (fun d => match d with | .tup [.int a, .int b] => .int (cntU (btwR R a.toNat b.toNat) : Nat) | _ => .non) = nD (((sgt R x).zip (sgt R x).tail).map fun p => cntU (btwR R p.1 p.2)) := by
      rw [filter_tt, List.map_map]
      unfold nD
      rw [List.map_map]
      rfl
    rw [e6'] at e6
    refine ws_set e6 ?_
    generalize hJ : ((sgt R x).zip (sgt R x).tail).map (fun p => cntU (btwR R p.1 p.2)) = J
    have ha : a < R.length := hm a (List.mem_of_getLast? hg)
    have il : gIx (.fl (nD (sgt R x))) (.int (-1)) S = some (.int (a : Nat), S) := ix_lastG (by unfold nD; rw [List.getLast?_map, hg]; rfl)
    have cl : gSl (.fl (R.map D.str)) (some ((a + 1 : Nat) : Int)) none S = some (.fl ((R.drop (a + 1)).map D.str), S) := by rw [cut_flf, List.map_drop]
    have e8 : fz (eCl (M_many_unlike) 1 (aCons (eSl (eVar 1) (oSo (eB gAdd (eB gIx (eVar 3) (eNeg (eC (.int 1)))) (eC (.int 1)))) (oNo)) (aNil))) [some (.fl (N.map D.str)), some (.fl (R.map D.str)), some (.str x), some (.fl (nD (sgt R x))), none, none, some (.fl (nD J)), none, none, none, none] S = some (.ok (.int (cntU (R.drop (a + 1)) : Nat)) S) :=
      fz_same w (eCl_ok (a1_ok (eSl_ok rfl (oSo_ok (eB_ok (eB_ok rfl (eNeg_ok rfl) il) rfl (gAdd_nat (i := a) (j := 1)))) rfl cl)) rfl (unlike_ok (by rw [List.length_drop]; omega))) rfl
    refine ws_set e8 ?_
    generalize hm' : cntU (R.drop (a + 1)) = m
    have hm1 : m ≤ 1000 := by
      rw [← hm']
      have := cntU_le (R := R.drop (a + 1)) (A := R.drop (a + 1)) fun z hz => hz
      rw [List.length_drop] at this; omega
    have e9 := lc_pu (fi := iRg2 (aCons (eVar 8) (aCons (eCB gLenX (aCons (eVar 0) (aNil))) (aNil)))) (g := tN 9) (t := tB (eEvr [9] (iSeq (eVar 6)) (tN 10) (eB (gEq false) (eVar 9) (eVar 10)))) (fe := eVar 9) (vs := [9])
      (τ := [some (.fl (N.map D.str)), some (.fl (R.map D.str)), some (.str x), some (.fl (nD (sgt R x))), none, none, some (.fl (nD J)), none, some (.int (m : Nat)), none, none]) (S := S) (ds := (List.range (N.length - m)).map fun i : Nat => D.int (m + i : Nat))
      (fun d => match d with | .int r => J.all fun j => decide (r.toNat = j) | _ => false) id w (iRg2_ok (a2_ok rfl (eCB_ok (a1_ok rfl) (len_fl.trans (by rw [List.length_map])))) (by omega) (by omega)) wks_rg2 (by simp; omega)
      (fun d hd _ => by obtain ⟨p, _, rfl⟩ := List.mem_map.mp hd; rfl)
      (fun d hd S' w' _ => by
        obtain ⟨i, _, rfl⟩ := List.mem_map.mp hd
        refine ⟨_, rfl, ?_, fun _ => rfl⟩
        refine tB_ok ?_
        obtain ⟨r, k1, k2⟩ := goZ_inv (nxt := fun i _ => some (nD J)[i]?) (g := tN 10) (fe := eB (gEq false) (eVar 9) (eVar 10)) (τ0 := [none, none, none, none, none, none, none, none, none, some (.int (m + i : Nat)), none]) (S := S') (n := J.length) (fun j => .int (J.getD j 0 : Nat)) (fun j => decide (m + i = J.getD j 0)) (fun j hj => by
          refine ⟨by rw [List.getElem?_map, List.getElem?_eq_getElem hj, List.getD_eq_getElem?_getD, List.getElem?_eq_getElem hj]; rfl, _, rfl, ?_⟩
          exact eB_ok rfl rfl (gEq_nat (i := m + i) (j := J.getD j 0))) (by simp [nD]) ((nD J).length + 1) 0 (Nat.zero_le _) (by simp [nD])
        unfold eEvr
        rw [iSeq_ok (d := .fl (nD J)) (S1 := S') (eVar_at rfl) wk_fl]
        have k1' : goZ (fun i _ => some (nD J)[i]?) (tN 10) (eB (gEq false) (eVar 9) (eVar 10)) (onlyD [9] ((wipeD [some (.fl (N.map D.str)), some (.fl (R.map D.str)), some (.str x), some (.fl (nD (sgt R x))), none, none, some (.fl (nD J)), none, some (.int (m : Nat)), none, none] [9]).set 9 (some (.int (m + i : Nat))))) ((nD J).length + 1) 0 S' = some (r, S') := k1
        simp only [k1', Option.bind_some]
        congr 3
        show r = J.all fun j => decide (((m + i : Nat) : Int).toNat = j)
        rw [Int.toNat_natCast]
        refine Bool.eq_iff_iff.mpr (k2.trans ?_)
        rw [List.all_eq_true]
        constructor
        · intro h y hy
          obtain ⟨j, hj, rfl⟩ := List.getElem_of_mem hy
          have := h j (Nat.zero_le _) hj
          rw [List.getD_eq_getElem?_getD, List.getElem?_eq_getElem hj] at this
          exact this
        · intro h j _ hj
          have := h _ (List.getElem_mem hj)
          rw [List.getD_eq_getElem?_getD, List.getElem?_eq_getElem hj]
          exact this)
    have e9' : (((List.range (N.length - m)).map fun i : Nat => D.int (m + i : Nat)).filter (fun d => match d with | .int r => J.all fun j => decide (r.toNat = j) | _ => false)).map id = nD (rcl N.length R x) := by
      have f : rcl N.length R x = (((List.range (N.length - m)).map (m + ·)).filter fun r => J.all fun j => decide (r = j)) := by
        rw [rg_filter]
        unfold rcl
        refine List.filter_congr fun r _ => ?_
        unfold okRb
        rw [hg, ← hJ, List.all_map]
        simp only [hm']
        rfl
      rw [f, List.map_id, List.filter_map, List.filter_map]
      unfold nD
      rw [List.map_map]
      congr 1
    rw [e9'] at e9
    exact ws_rt (d := .fl (nD (rcl N.length R x))) (S1 := S) e9 ⟨rfl, rfl⟩
end K59
end
section
set_option Elab.async false
set_option linter.all false
set_option maxRecDepth 100000
set_option maxHeartbeats 4000000
namespace K59
open PySem PySem.Spec PyProof.Rows L2 Sb
variable {K : PySem.W.Frag} {S : Sto}
def stepP (told : List (List Nat)) (rs : List Nat) : List (List Nat) := told.flatMap fun d => rs.map fun r => d ++ [r]
def prodL (cs : List (List Nat)) : List (List Nat) := cs.foldl stepP [[]]
abbrev tD (d : List Nat) : D := .tup (nD d)
theorem prodL_snoc {cs : List (List Nat)} {c : List Nat} : prodL (cs ++ [c]) = stepP (prodL cs) c := by unfold prodL; rw [List.foldl_append]; rfl
theorem stepP_len {A : List (List Nat)} {c : List Nat} : (stepP A c).length = A.length * c.length := by
  unfold stepP
  induction A with
  | nil => simp
  | cons a A ih => rw [List.flatMap_cons, List.length_append, ih, List.length_map, List.length_cons, Nat.add_mul, Nat.one_mul, Nat.add_comm]
theorem prodL_take {cs : List (List Nat)} {i : Nat} (h : i < cs.length) : prodL (cs.take (i + 1)) = stepP (prodL (cs.take i)) cs[i] := by rw [← List.take_append_getElem h, prodL_snoc]
theorem prodL_le {cs : List (List Nat)} {n : Nat} (h : ∀ c ∈ cs, c.length ≤ n) : ∀ i, i ≤ cs.length → (prodL (cs.take i)).length ≤ n ^ i
  | 0, _ => by simp [prodL]
  | i + 1, hi => by
    rw [prodL_take (by omega), stepP_len, Nat.pow_succ]
    exact Nat.mul_le_mul (prodL_le h i (by omega)) (h _ (List.getElem_mem _))
theorem add_tup {A B : List D} (h : A.length + B.length ≤ 1000) : gAdd (.tup A) (.tup B) S = some (.tup (A ++ B), S) := by
  have := sizeLine_eq
  simp only [gAdd]
  rw [if_pos (by omega)]
/-- all depths that let the row, the way the program finds them -/
def allD (N R : List Str) : List (List Nat) := if inO N R then prodL (N.map (rcl N.length R)) else []
theorem rcl_len {n : Nat} {R : List Str} {x : Str} : (rcl n R x).length ≤ n := by
  unfold rcl
  exact Nat.le_trans (List.length_filter_le _ _) (by simp)
theorem prodL_dl {cs : List (List Nat)} : ∀ i, i ≤ cs.length → ∀ d ∈ prodL (cs.take i), d.length = i
  | 0, _, d, hd => by
    have : d = [] := by simpa [prodL] using hd
    rw [this]; rfl
  | i + 1, hi, d, hd => by
    rw [prodL_take (by omega)] at hd
    obtain ⟨e, he, hd⟩ := List.mem_flatMap.mp hd
    obtain ⟨r, _, rfl⟩ := List.mem_map.mp hd
    rw [List.length_append, prodL_dl i (by omega) e he]; rfl
theorem all_depths_ok {N R : List Str} (w : Wf S) (nn : N.Nodup) (h1 : 1 ≤ N.length) (h2 : N.length ≤ 4) (hN : ∀ c ∈ N, Nm c) (hR : ∀ x ∈ R, x ∈ N) (hl : R.length ≤ 1000) :
    M_all_depths K [.fl (N.map D.str), .fl (R.map D.str)] S = some (.ok (.fl ((allD N R).map tD)) S) := by
  refine fn_wt ?_
  refine ws_ex (fz_same w (eCl_ok (a1_ok rfl) rfl (names_ok (.inr rfl) nn h1 (by omega) hN)) rfl) ?_
  refine ws_ex (eCl_ok (a2_ok rfl rfl) rfl (row_ok hN hR)) ?_
  have eo := in_order_ok w hN hR hl
  unfold allD
  by_cases ho : inO N R
  · rw [if_pos ho]
    rw [decide_eq_true ho] at eo
    refine ws_no (tNt_ok (b := true) (tB_ok (eCl_ok (a2_ok rfl rfl) rfl eo))) ?_
    have e2 := lc_pu (fi := iSeq (eVar 0)) (g := tN 3) (t := tAll) (fe := eCl (M_reaches_let) 3 (aCons (eVar 0) (aCons (eVar 1) (aCons (eVar 3) (aNil))))) (vs := [3]) (τ := ini 9 [.fl (N.map D.str), .fl (R.map D.str)]) (S := S) (ds := N.map D.str)
      (fun _ => true) (fun d => match d with | .str x => .fl (nD (rcl N.length R x)) | _ => .non) w (iSeq_ok rfl wk_fl) wks_ds (by simp; omega)
      (fun d hd _ => by
        obtain ⟨x, _, rfl⟩ := List.mem_map.mp hd
        exact (show bds _ _ = true from bds_map fun _ _ => rfl))
      (fun d hd S' w' _ => by
        obtain ⟨x, hx, rfl⟩ := List.mem_map.mp hd
        exact ⟨_, rfl, rfl, fun _ => eCl_ok (a3_ok rfl rfl rfl) rfl (reaches_ok w' (hN x hx) (fun y hy => hN y (hR y hy)) hl (by omega))⟩)
    rw [filter_tt, List.map_map] at e2
    refine ws_set e2 ?_
    generalize hcs : N.map (rcl N.length R) = cs
    have hd2 : (N.map ((fun d => match d with | .str x => .fl (nD (rcl N.length R x)) | _ => .non) ∘ D.str)) = cs.map fun c => D.fl (nD c) := by
      rw [← hcs, List.map_map]; rfl
    rw [hd2]
    have lc : ∀ c ∈ cs, c.length ≤ 4 := fun c hc => by
      rw [← hcs] at hc
      obtain ⟨x, _, rfl⟩ := List.mem_map.mp hc
      exact Nat.le_trans rcl_len h2
    have lcs : cs.length ≤ 4 := by rw [← hcs, List.length_map]; exact h2
    have lp : ∀ i, i ≤ cs.length → (prodL (cs.take i)).length ≤ 256 := fun i hi => Nat.le_trans (prodL_le lc i hi) (Nat.pow_le_pow_right (by decide : 4 > 0) (by omega : i ≤ 4))
    have at_ : ∀ {i}, i < cs.length → (cs.map fun c => D.fl (nD c))[i]? = some (.fl (nD (cs.getD i []))) := fun {i} hi => by
      rw [List.getElem?_map, List.getElem?_eq_getElem hi, List.getD_eq_getElem?_getD, List.getElem?_eq_getElem hi]; rfl
    have gd : ∀ {i} (hi : i < cs.length), cs.getD i [] = cs[i] := fun hi => by rw [List.getD_eq_getElem?_getD, List.getElem?_eq_getElem hi]; rfl
    refine ws_set (d := .int (1 : Nat)) (S1 := S) rfl ?_
    let T : D → Option D → Option D → Sl := fun m x5 x6 => [some (.fl (N.map D.str)), some (.fl (R.map D.str)), some (.fl (cs.map fun c => D.fl (nD c))), none, some m, x5, x6, none, none]
    refine ws_for cs.length (fun i τ S' => S' = S ∧ ∃ x5, τ = T (.int ((prodL (cs.take i)).length : Nat)) x5 none) (fun i => .fl (nD (cs.getD i []))) (iSeq_ok (S1 := S) rfl wk_fl) (by simp) ⟨rfl, _, rfl⟩ ?_ ?_ ?_
    · rintro i τ S' hi ⟨rfl, x5, rfl⟩
      refine ⟨by show some ((cs.map fun c => D.fl (nD c))[i]?) = _; rw [at_ hi], _, rfl, ?_⟩
      have hb := lp i (by omega)
      have hc : (cs.getD i []).length ≤ 4 := by rw [gd hi]; exact lc _ (List.getElem_mem hi)
      refine ws_set1 (eB_ok rfl (eCB_ok (a1_ok rfl) (len_fl.trans (by rw [List.length_map]))) (gMul_n (i := (prodL (cs.take i)).length) (j := (cs.getD i []).length) (Nat.lt_of_le_of_lt hb (by exact Nat.lt_of_lt_of_le (by decide : 256 < 2 ^ 9) (Nat.pow_le_pow_right (by decide) (by decide)))) (Nat.lt_of_le_of_lt hc (by exact Nat.lt_of_lt_of_le (by decide : 4 < 2 ^ 9) (Nat.pow_le_pow_right (by decide) (by decide)))))) ?_
      refine ⟨rfl, some (.fl (nD (cs.getD i []))), ?_⟩
      rw [prodL_take hi, stepP_len, gd hi]
      rfl
    · rintro τ S' ⟨rfl, _, _⟩
      show some ((cs.map fun c => D.fl (nD c))[cs.length]?) = _
      rw [List.getElem?_eq_none (by simp)]
    rintro τ S' ⟨rfl, x5, rfl⟩
    rw [List.take_of_length_le (Nat.le_refl _)]
    have lP : (prodL cs).length ≤ 256 := by have := lp cs.length (Nat.le_refl _); rwa [List.take_of_length_le (Nat.le_refl _)] at this
    refine ws_no (tB_ok (b := false) (eB_ok (d := .bl false) (S3 := S') rfl rfl (by
      rw [gGt_i, decide_eq_false (by omega)]))) ?_
    by_cases hz : (prodL cs).length = 0
    · have hp : prodL cs = [] := List.length_eq_zero_iff.mp hz
      rw [hp]
      exact ws_srt (d := .fl []) (S' := S') ((sIf_t (S1 := S') (tB_ok (b := true) (eB_ok (d := .bl true) (S3 := S') rfl rfl (gEq_nat (i := 0) (j := 0))))).trans (sRt_ok (fz_list (ds := []) (S1 := S') aNil_ok rfl w (by simp) rfl))) ⟨rfl, rfl⟩
    · refine ws_no (tB_ok (b := false) (eB_ok (d := .bl false) (S3 := S') rfl rfl ((gEq_nat (neg := false) (i := (prodL cs).length) (j := 0)).trans (by simp [hz])))) ?_
      refine ws_set (fz_list (ds := [.tup []]) (S1 := S') (a1_ok (eTup_ok aNil_ok (by simp))) rfl w (by simp) rfl) ?_
      refine ws_for cs.length (fun i τ S'' => S'' = S' ∧ ∃ x5, τ = T (.int ((prodL cs).length : Nat)) x5 (some (.fl ((prodL (cs.take i)).map tD)))) (fun i => .fl (nD (cs.getD i []))) (iSeq_ok (S1 := S') rfl wk_fl) (by simp) ⟨rfl, _, rfl⟩ ?_ ?_ ?_
      · rintro i τ S'' hi ⟨rfl, x5, rfl⟩
        refine ⟨by show some ((cs.map fun c => D.fl (nD c))[i]?) = _; rw [at_ hi], _, rfl, ?_⟩
        generalize hc : cs.getD i [] = c
        have hc' : cs[i] = c := by rw [← gd hi, hc]
        generalize hA : prodL (cs.take i) = A
        have hfm : (A.map tD).flatMap (fun d => (nD c).map fun e => match d with | .tup ds => .tup (ds ++ [e]) | _ => .non) = (stepP A c).map tD := by
          unfold stepP
          rw [List.flatMap_map, List.map_flatMap]
          congr 1
          funext d
          unfold nD
          rw [List.map_map, List.map_map]
          refine List.map_congr_left fun r _ => ?_
          show D.tup (d.map (fun r : Nat => D.int (r : Nat)) ++ [r].map fun r : Nat => D.int (r : Nat)) = D.tup ((d ++ [r]).map fun r : Nat => D.int (r : Nat))
          rw [List.map_append]
        have hln : (stepP A c).length ≤ 256 := by
          have := lp (i + 1) (by omega)
          rwa [prodL_take hi, hA, hc'] at this
        have dl : ∀ d ∈ A, d.length = i := fun d hd => prodL_dl (cs := cs) i (by omega) d (by rw [hA]; exact hd)
        have e := lc2_pu (fi := iSeq (eVar 6)) (g := tN 7) (fi1 := iSeq (eVar 5)) (g1 := tN 8) (fe := eB gAdd (eVar 7) (eTup (aCons (eVar 8) (aNil)))) (vs := [7, 8]) (vs1 := [8]) (τ := T (.int ((prodL cs).length : Nat)) (some (.fl (nD c))) (some (.fl (A.map tD)))) (S := S'') (ds := A.map tD)
          (fun _ => nD c) (fun d e => match d with | .tup ds => .tup (ds ++ [e]) | _ => .non) w (iSeq_ok rfl wk_fl) wks_ds
          (fun d hd e he => by
            obtain ⟨a, _, rfl⟩ := List.mem_map.mp hd
            obtain ⟨r, _, rfl⟩ := List.mem_map.mp he
            show bds _ (nD a ++ [D.int (r : Nat)]) = true
            exact bds_all.mpr fun x hx => by
              rcases List.mem_append.mp hx with hx | hx
              · obtain ⟨_, _, rfl⟩ := List.mem_map.mp hx; rfl
              · rw [List.mem_singleton.mp hx]; rfl)
          (by rw [hfm, List.length_map]; omega)
          (fun d hd S3 w3 _ => by
            obtain ⟨a, ha, rfl⟩ := List.mem_map.mp hd
            refine ⟨_, rfl, _, iSeq_ok rfl wk_fl, wks_ds, fun e he S4 w4 _ => ?_⟩
            obtain ⟨r, _, rfl⟩ := List.mem_map.mp he
            have la : (nD a).length + [D.int (r : Nat)].length ≤ 1000 := by
              have := dl a ha
              rw [List.length_map, List.length_singleton]; omega
            refine ⟨_, rfl, ?_⟩
            refine eB_ok (x := tD a) (y := .tup [.int (r : Nat)]) (S1 := S4) (S2 := S4) rfl ?_ (add_tup la)
            exact eTup_ok (a1_ok rfl) (by simp))
        rw [hfm] at e
        refine ws_set1 e ⟨rfl, some (.fl (nD c)), ?_⟩
        rw [prodL_take hi, hA, hc']
        rfl
      · rintro τ S'' ⟨rfl, _, _⟩
        show some ((cs.map fun c => D.fl (nD c))[cs.length]?) = _
        rw [List.getElem?_eq_none (by simp)]
      rintro τ S'' ⟨rfl, x5, rfl⟩
      rw [List.take_of_length_le (Nat.le_refl _)]
      exact ws_rt rfl ⟨rfl, rfl⟩
  · rw [if_neg ho]
    rw [decide_eq_false ho] at eo
    exact ws_srt (d := .fl []) (S' := S) ((sIf_t (S1 := S) (tNt_ok (b := false) (tB_ok (eCl_ok (a2_ok rfl rfl) rfl eo)))).trans (sRt_ok (fz_list (ds := []) (S1 := S) aNil_ok rfl w (by simp) rfl))) ⟨rfl, rfl⟩
end K59
end
section
set_option Elab.async false
set_option linter.all false
set_option maxRecDepth 100000
set_option maxHeartbeats 4000000
namespace Sb
open PySem PySem.Spec PyProof.Rows L2 PySem.W
variable {K : PySem.W.Frag} {S : Sto}
/-! ## the decks that come to a deck -/
/-- the card at a place laid on top -/
def hd (l : List Card) (i : Nat) : List Card := at0 l i :: (l.take i ++ l.drop (i + 1))
/-! ### lists of decks -/
end Sb
end
section
set_option Elab.async false
set_option linter.all false
set_option maxRecDepth 100000
set_option maxHeartbeats 4000000
namespace K59
open PySem PySem.Spec PyProof.Rows L2 Sb
variable {K : PySem.W.Frag} {S : Sto}
/-! ## the order of depths -/
def ltd : List Nat → List Nat → Prop
  | x :: xs, y :: ys => x < y ∨ (x = y ∧ ltd xs ys)
  | _, _ => False
theorem ltd_irr : ∀ {d : List Nat}, ¬ ltd d d
  | [], h => h
  | x :: xs, h => by
    rcases h with h | ⟨_, h⟩
    · omega
    · exact ltd_irr h
theorem ltd_app {r s : Nat} : ∀ {d e : List Nat}, ltd d e → ltd (d ++ [r]) (e ++ [s])
  | [], _, h => h.elim
  | _ :: _, [], h => h.elim
  | x :: xs, y :: ys, h => by
    rcases h with h | ⟨h1, h2⟩
    · exact .inl h
    · exact .inr ⟨h1, ltd_app h2⟩
theorem ltd_last {r s : Nat} (h : r < s) : ∀ {d : List Nat}, ltd (d ++ [r]) (d ++ [s])
  | [] => .inl h
  | _ :: _ => .inr ⟨rfl, ltd_last h⟩
theorem prodL_lt {cs : List (List Nat)} (h : ∀ c ∈ cs, c.Pairwise (· < ·)) : ∀ i, i ≤ cs.length → (prodL (cs.take i)).Pairwise ltd
  | 0, _ => by
    show List.Pairwise ltd [[]]
    exact List.pairwise_singleton _ _
  | i + 1, hi => by
    rw [prodL_take (by omega)]
    unfold stepP
    rw [List.pairwise_flatMap]
    refine ⟨fun d _ => ?_, (prodL_lt h i (by omega)).imp fun {d e} hde x hx y hy => ?_⟩
    · rw [List.pairwise_map]
      exact (h _ (List.getElem_mem _)).imp fun hrs => ltd_last hrs
    · obtain ⟨r, _, rfl⟩ := List.mem_map.mp hx
      obtain ⟨s, _, rfl⟩ := List.mem_map.mp hy
      exact ltd_app hde
theorem prodL_mem {cs : List (List Nat)} : ∀ i, (hi : i ≤ cs.length) → ∀ d, d ∈ prodL (cs.take i) ↔ d.length = i ∧ ∀ j (h : j < d.length) (h2 : j < cs.length), d[j] ∈ cs[j]
  | 0, _, d => by
    show d ∈ [[]] ↔ _
    rw [List.mem_singleton]
    constructor
    · rintro rfl; exact ⟨rfl, fun j h => absurd h (Nat.not_lt_zero _)⟩
    · rintro ⟨h, _⟩; exact List.length_eq_zero_iff.mp h
  | i + 1, hi, d => by
    rw [prodL_take (by omega)]
    unfold stepP
    rw [List.mem_flatMap]
    constructor
    · rintro ⟨e, he, hd⟩
      obtain ⟨r, hr, rfl⟩ := List.mem_map.mp hd
      obtain ⟨h1, h2⟩ := (prodL_mem i (by omega) e).mp he
      refine ⟨by rw [List.length_append, h1]; rfl, fun j hj hj2 => ?_⟩
      by_cases q : j < e.length
      · rw [List.getElem_append_left q]; exact h2 j q hj2
      · have : j = e.length := by rw [List.length_append, List.length_singleton] at hj; omega
        subst this
        rw [List.getElem_append_right (Nat.le_refl _)]
        simp only [Nat.sub_self, List.getElem_cons_zero]
        have e2 : cs[e.length] = cs[i] := by congr 1
        rw [e2]; exact hr
    · rintro ⟨h1, h2⟩
      have hne : d ≠ [] := fun q => by rw [q] at h1; simp at h1
      refine ⟨d.dropLast, (prodL_mem i (by omega) _).mpr ⟨by rw [List.length_dropLast, h1]; rfl, fun j hj hj2 => ?_⟩, List.mem_map.mpr ⟨d.getLast hne, ?_, List.dropLast_concat_getLast hne⟩⟩
      · rw [List.getElem_dropLast]
        exact h2 j (by rw [List.length_dropLast] at hj; omega) hj2
      · rw [List.getLast_eq_getElem]
        have := h2 (d.length - 1) (by omega) (by omega)
        have e2 : cs[d.length - 1] = cs[i] := by congr 1; omega
        rw [← e2]; exact this
/-! ## depths and decks -/
def zipC (N : List Str) (d : List Nat) : List Card := (N.zip d).map fun p => (p.1, ((p.2 : Nat) : Int))
theorem zipC_len {N : List Str} {d : List Nat} (h : d.length = N.length) : (zipC N d).length = N.length := by unfold zipC; rw [List.length_map, List.length_zip, h, Nat.min_self]
theorem zipC_nm {N : List Str} {d : List Nat} (h : d.length = N.length) : (zipC N d).map (·.1) = N := by
  unfold zipC
  rw [List.map_map]
  show (N.zip d).map (fun p => p.1) = N
  exact List.map_fst_zip (by omega)
theorem zipC_dp {N : List Str} {d : List Nat} (h : d.length = N.length) : (zipC N d).map (·.2) = natL d := by
  unfold zipC
  rw [List.map_map]
  show (N.zip d).map (fun p => ((p.2 : Nat) : Int)) = _
  have : (N.zip d).map (fun p => p.2) = d := List.map_snd_zip (by omega)
  conv => rhs; rw [← this, natL, List.map_map]
  rfl
theorem zipC_at {N : List Str} {d : List Nat} {i : Nat} (h : i < (zipC N d).length) : (zipC N d)[i] = (N[i]'(by unfold zipC at h; simp at h; omega), ((d[i]'(by unfold zipC at h; simp at h; omega) : Nat) : Int)) := by
  have e : (zipC N d)[i]? = some (N[i]'(by unfold zipC at h; simp at h; omega), ((d[i]'(by unfold zipC at h; simp at h; omega) : Nat) : Int)) := by
    have h1 : i < N.length := by unfold zipC at h; simp at h; omega
    have h2 : i < d.length := by unfold zipC at h; simp at h; omega
    unfold zipC
    rw [List.getElem?_map, List.getElem?_eq_getElem (by rw [List.length_zip]; omega), List.getElem_zip]; rfl
  rw [List.getElem?_eq_getElem h] at e
  exact Option.some.inj e
theorem zipC_ok {N : List Str} {d : List Nat} (h : d.length = N.length) (nn : N.Nodup) (h1 : 1 ≤ N.length) (h2 : N.length ≤ 40) (hN : ∀ c ∈ N, Nm c) : DeckOk (zipC N d) := by
  have hm : ∀ c ∈ zipC N d, c.1 ∈ N ∧ 0 ≤ c.2 := fun c hc => by
    refine ⟨by rw [← zipC_nm h]; exact List.mem_map_of_mem hc, ?_⟩
    obtain ⟨p, _, rfl⟩ := List.mem_map.mp hc
    exact Int.natCast_nonneg _
  refine ⟨by rw [zipC_len h]; exact h1, by rw [zipC_len h]; exact h2, fun c hc => hN _ (hm c hc).1, fun c hc => (hm c hc).2, by rw [zipC_nm h]; exact nn⟩
theorem mem_allD {N R : List Str} (nn : N.Nodup) (h1 : 1 ≤ N.length) (h2 : N.length ≤ 40) (hN : ∀ c ∈ N, Nm c) (hR : ∀ x ∈ R, x ∈ N) {d : List Nat} :
    d ∈ allD N R ↔ d.length = N.length ∧ (∀ x ∈ d, x < N.length) ∧ R = tops (zipC N d) R.length := by
  have mP : d ∈ prodL (N.map (rcl N.length R)) ↔ d.length = N.length ∧ ∀ j (h : j < d.length) (h2 : j < (N.map (rcl N.length R)).length), d[j] ∈ (N.map (rcl N.length R))[j] := by
    have := prodL_mem (cs := N.map (rcl N.length R)) (N.map (rcl N.length R)).length (Nat.le_refl _) d
    rw [List.take_length] at this
    rw [this]
    exact and_congr (by rw [List.length_map]) Iff.rfl
  constructor
  · intro hd
    unfold allD at hd
    split at hd
    · rename_i ho
      obtain ⟨hl, hj⟩ := mP.mp hd
      have hj' : ∀ j (h : j < d.length) (h3 : j < N.length), d[j] < N.length ∧ okR R N[j] d[j] := fun j h h3 => by
        have := hj j h (by rw [List.length_map]; exact h3)
        rw [List.getElem_map] at this
        obtain ⟨a, b⟩ := List.mem_filter.mp this
        exact ⟨List.mem_range.mp a, okRb_iff.mp b⟩
      refine ⟨hl, fun x hx => ?_, ?_⟩
      · obtain ⟨j, h, rfl⟩ := List.getElem_of_mem hx
        exact (hj' j h (by omega)).1
      · have ok := zipC_ok hl nn h1 h2 hN
        refine (dep_iff ok (by show ∀ x ∈ R, x ∈ (zipC N d).map (·.1); rw [zipC_nm hl]; exact hR)).mpr ⟨by show inO ((zipC N d).map (·.1)) R; rw [zipC_nm hl]; exact ho, fun i hi => ?_⟩
        have hi' : i < N.length := by rw [← zipC_len hl]; exact hi
        have := hj' i (by omega) hi'
        rw [zipC_at hi, zipC_len hl]
        have e : rch N.length (N[i], ((d[i]'(by omega) : Nat) : Int)) = d[i]'(by omega) := by
          unfold rch
          simp only [Int.toNat_natCast]
          omega
        rw [e]
        exact this.2
    · cases hd
  · rintro ⟨hl, hlt, ht⟩
    have ok := zipC_ok hl nn h1 h2 hN
    obtain ⟨ho, hk⟩ := (dep_iff ok (by show ∀ x ∈ R, x ∈ (zipC N d).map (·.1); rw [zipC_nm hl]; exact hR)).mp ht
    have ho' : inO N R := by
      have : inO ((zipC N d).map (·.1)) R := ho
      rwa [zipC_nm hl] at this
    unfold allD
    rw [if_pos ho']
    refine mP.mpr ⟨hl, fun j h h3 => ?_⟩
    rw [List.getElem_map]
    have hj : j < N.length := by rw [List.length_map] at h3; exact h3
    have hi : j < (zipC N d).length := by rw [zipC_len hl]; exact hj
    have := hk j hi
    rw [zipC_at hi, zipC_len hl] at this
    have e : rch N.length (N[j], ((d[j] : Nat) : Int)) = d[j] := by
      have := hlt _ (List.getElem_mem h)
      unfold rch
      simp only [Int.toNat_natCast]
      omega
    rw [e] at this
    exact List.mem_filter.mpr ⟨List.mem_range.mpr (hlt _ (List.getElem_mem h)), okRb_iff.mpr this⟩
theorem allD_lt {N R : List Str} : (allD N R).Pairwise ltd := by
  unfold allD
  split
  · have := prodL_lt (cs := N.map (rcl N.length R)) (fun c hc => by
      obtain ⟨x, _, rfl⟩ := List.mem_map.mp hc
      exact List.Pairwise.filter _ List.pairwise_lt_range) (N.map (rcl N.length R)).length (Nat.le_refl _)
    rwa [List.take_length] at this
  · exact List.Pairwise.nil
theorem ltd_trans : ∀ {a b c : List Nat}, ltd a b → ltd b c → ltd a c
  | [], _, _, h, _ => h.elim
  | _ :: _, [], _, h, _ => h.elim
  | _ :: _, _ :: _, [], _, h => h.elim
  | x :: xs, y :: ys, z :: zs, h1, h2 => by
    rcases h1 with h1 | ⟨h1, h3⟩
    · rcases h2 with h2 | ⟨h2, h4⟩
      · exact .inl (by omega)
      · exact .inl (by omega)
    · rcases h2 with h2 | ⟨h2, h4⟩
      · exact .inl (by omega)
      · exact .inr ⟨by omega, ltd_trans h3 h4⟩
/-- two lists in order with the same members are one -/
theorem ltd_ext {A B : List (List Nat)} (hA : A.Pairwise ltd) (hB : B.Pairwise ltd) (h : ∀ d, d ∈ A ↔ d ∈ B) : A = B := by
  have nA : A.Nodup := List.Pairwise.imp (fun {a b} (h : ltd a b) (e : a = b) => ltd_irr (d := b) (by rw [e] at h; exact h)) hA
  have nB : B.Nodup := List.Pairwise.imp (fun {a b} (h : ltd a b) (e : a = b) => ltd_irr (d := b) (by rw [e] at h; exact h)) hB
  have pm : A.Perm B := (List.perm_ext_iff_of_nodup nA nB).mpr h
  refine pm.eq_of_pairwise (le := ltd) (fun a b _ _ h1 h2 => (ltd_irr (ltd_trans h1 h2)).elim) hA hB
end K59
end
section
set_option Elab.async false
set_option linter.all false
set_option maxRecDepth 100000
set_option maxHeartbeats 4000000
namespace K59
open PySem PySem.Spec PyProof.Rows L2 Sb
open PySem.W
variable {K : PySem.W.Frag} {S : Sto}
abbrev pT (d : List Nat) : PyData := .tuple (d.map fun r : Nat => PyData.int (r : Nat))
theorem toPy_tD {d : List Nat} : toPy 8 S (tD d) = some (pT d) := by
  show ((nD d).mapM (toPy 7 S)).map PyData.tuple = _
  rw [List.mapM_map, mapM_some (f := toPy 7 S ∘ fun r : Nat => D.int (r : Nat)) (g := fun r : Nat => PyData.int (r : Nat)) fun x _ => rfl]
  rfl
theorem alike_pT : ∀ (a b : List Nat), alike (pT a) (pT b) = true := fun a b => by
  have h : ∀ xs ys : List Nat, alikeAll (xs.map fun r : Nat => PyData.int (r : Nat)) (ys.map fun r : Nat => PyData.int (r : Nat)) = true := fun xs => by
    induction xs with
    | nil => intro ys; cases ys <;> rfl
    | cons x xs ih =>
      intro ys
      cases ys with
      | nil => rfl
      | cons y ys => show (true && alikeAll _ _) = true; rw [ih]; rfl
  exact h a b
def leT (a b : List Nat) : Bool := dataLe false (fun b : D × PyData => b.2) (tD a, pT a) (tD b, pT b)
abbrev kt (d : List Nat) : List (Int ⊕ List Nat) := keyToks (pT d)
theorem kt_cons {x : Nat} {d : List Nat} : kt (x :: d) = .inl 1 :: .inl (x : Int) :: kt d := rfl
theorem kt_lt : ∀ {d e : List Nat}, ltd d e → PyProof.Rows.lexLt itemOrd (kt e) (kt d) = false
  | [], _, h => h.elim
  | _ :: _, [], h => h.elim
  | x :: d, y :: e, h => by
    rw [kt_cons, kt_cons]
    have a1 : itemLt (.inl 1) (.inl 1) = false := by decide
    rcases h with h | ⟨rfl, h⟩
    · have a2 : itemLt (.inl (y : Int)) (.inl (x : Int)) = false := by
        show decide ((y : Int) < (x : Int)) = false
        exact decide_eq_false (by omega)
      have a3 : itemLt (.inl (x : Int)) (.inl (y : Int)) = true := by
        show decide ((x : Int) < (y : Int)) = true
        exact decide_eq_true (by omega)
      simp only [PyProof.Rows.lexLt, a1, a2, a3, Bool.not_true, Bool.false_and, Bool.or_self, Bool.and_false]
    · have a2 : itemLt (.inl (x : Int)) (.inl (x : Int)) = false := by
        show decide ((x : Int) < (x : Int)) = false
        exact decide_eq_false (by omega)
      simp only [PyProof.Rows.lexLt, a1, a2, Bool.not_false, Bool.true_and, Bool.false_or]
      exact kt_lt h
theorem kt_inj : ∀ {d e : List Nat}, kt d = kt e → d = e
  | [], [], _ => rfl
  | [], y :: e, h => by
    rw [kt_cons] at h
    have h : ([.inl 0] : List (Int ⊕ List Nat)) = _ := h
    cases h
  | x :: d, [], h => by
    rw [kt_cons] at h
    have h : _ = ([.inl 0] : List (Int ⊕ List Nat)) := h
    cases h
  | x :: d, y :: e, h => by
    rw [kt_cons, kt_cons] at h
    injection h with _ h
    injection h with h1 h2
    injection h1 with h1
    rw [kt_inj h2, show x = y by omega]
theorem leT_lt {d e : List Nat} (h : ltd d e) : leT d e = true := by
  show (!PyProof.Rows.lexLt itemOrd (kt e) (kt d)) = true
  rw [kt_lt h]; rfl
theorem leT_anti {d e : List Nat} (h1 : leT d e = true) (h2 : leT e d = true) : d = e := by
  have h1 : (!PyProof.Rows.lexLt itemOrd (kt e) (kt d)) = true := h1
  have h2 : (!PyProof.Rows.lexLt itemOrd (kt d) (kt e)) = true := h2
  rw [Bool.not_eq_true'] at h1 h2
  exact kt_inj ((listOrd itemOrd).total (kt d) (kt e) h2 h1)
theorem sort_to {P L : List (List Nat)} (hp : P.Perm L) (hL : L.Pairwise ltd) : P.mergeSort leT = L := by
  have T := sortLe_total (listOrd itemOrd) false fun b : D × PyData => keyToks b.2
  have tr : ∀ a b c : List Nat, leT a b = true → leT b c = true → leT a c = true := fun a b c h1 h2 => T.trans (tD a, pT a) (tD b, pT b) (tD c, pT c) h1 h2
  have tt : ∀ a b : List Nat, (leT a b || leT b a) = true := fun a b => by
    rw [Bool.or_eq_true]; exact T.total (tD a, pT a) (tD b, pT b)
  refine ((List.mergeSort_perm P leT).trans hp).eq_of_pairwise (le := fun a b => leT a b = true) (fun a b _ _ h1 h2 => leT_anti h1 h2) (List.pairwise_mergeSort tr tt P) (hL.imp fun h => leT_lt h)
theorem sorted_tups {p : Nat} {P L : List (List Nat)} (h : S[p]? = some (.lst (P.map tD))) (hn : ∀ d ∈ P, 1 ≤ d.length) (hp : P.Perm L) (hL : L.Pairwise ltd) : gSorted [.loc p] S = some (.loc S.length, S ++ [.lst (L.map tD)]) := by
  have e1 : (P.map tD).mapM (toPy 8 S) = some (P.map pT) := by
    rw [List.mapM_map, mapM_some (f := toPy 8 S ∘ tD) (g := pT) fun d _ => toPy_tD]
  have e2 : sortB (P.map pT) = true := by
    simp only [sortB, Bool.and_eq_true, List.all_eq_true, List.mem_map]
    refine ⟨⟨?_, ?_⟩, ?_⟩
    · rintro _ ⟨a, _, rfl⟩ _ ⟨b, _, rfl⟩
      exact alike_pT a b
    · rintro _ ⟨a, ha, rfl⟩
      have := hn a ha
      cases a with
      | nil => simp at this
      | cons c r => rfl
    · rintro _ ⟨a, _, rfl⟩
      exact decide_eq_true (Nat.le_trans (Nat.succ_le_succ (depth_all (k := 0) fun c _ => Nat.le_refl 0)) (by decide))
  have e3 : (((P.map tD).zip (P.map pT)).mergeSort (dataLe false fun b => b.2)).map (·.1) = L.map tD := by
    have hz : (P.map tD).zip (P.map pT) = P.map fun d => (tD d, pT d) := by
      clear hp hn h e1 e2
      induction P with
      | nil => rfl
      | cons e E ih => rw [List.map_cons, List.map_cons, List.zip_cons_cons, ih]; rfl
    rw [hz, ← List.map_mergeSort (r := leT) (s := dataLe false fun b : D × PyData => b.2) (f := fun d : List Nat => (tD d, pT d)) (fun a _ b _ => rfl), List.map_map, sort_to hp hL]
    rfl
  have hs : seqD S (.loc p) = some (P.map tD) := by simp [seqD, h]
  simp only [gSorted, hs, Option.bind_some, e1, e2, if_true, e3]
/-! ## equal lists of depths, one of them -/
theorem eqv_pT (a b : List Nat) : PyData.eqv (pT a) (pT b) = decide (a = b) :=
  eqv_all (f := fun r : Nat => PyData.int (r : Nat)) (fun a b => by
    show (((a : Nat) : Int) == ((b : Nat) : Int)) = _
    refine Bool.eq_iff_iff.mpr ?_
    rw [beq_iff_eq, decide_eq_true_iff]
    exact ⟨fun h => by omega, fun h => by rw [h]⟩) a b
theorem lay_pT (d : List Nat) : PyData.canLay0 (pT d) = true := lay_all (f := fun r : Nat => PyData.int (r : Nat)) fun x hx => rfl
theorem dep_pT (d : List Nat) : PyData.depth (pT d) ≤ 1 := Nat.succ_le_succ (depth_all (k := 0) fun c _ => Nat.le_refl 0)
theorem shp_pT (d : List Nat) : SeqAt.shaped (pT d) = true := shp_of (lay_pT d) (Nat.le_trans (dep_pT d) (by decide))
theorem toPy_tDs {A : List (List Nat)} : toPy 8 S (.fl (A.map tD)) = some (.list (A.map pT)) := by
  have e : ∀ d : List Nat, toPy 7 S (tD d) = some (pT d) := fun d => by
    show ((nD d).mapM (toPy 6 S)).map PyData.tuple = _
    rw [List.mapM_map, mapM_some (f := toPy 6 S ∘ fun r : Nat => D.int (r : Nat)) (g := fun r : Nat => PyData.int (r : Nat)) fun x _ => rfl]
    rfl
  show ((A.map tD).mapM (toPy 7 S)).map PyData.list = _
  rw [List.mapM_map, mapM_some (f := toPy 7 S ∘ tD) (g := pT) fun d _ => e d]
  rfl
theorem shp_pTs (A : List (List Nat)) : SeqAt.shaped (.list (A.map pT)) = true :=
  shp_of (lay_all fun d _ => lay_pT d) (Nat.le_trans (Nat.succ_le_succ (depth_all (k := 1) fun d _ => dep_pT d)) (by decide))
theorem gEq_tups {neg : Bool} {A B : List (List Nat)} : gEq neg (.fl (A.map tD)) (.fl (B.map tD)) S = some (.bl (if neg then !decide (A = B) else decide (A = B)), S) := by
  have e : PyData.eqv (.list (A.map pT)) (.list (B.map pT)) = decide (A = B) := eqv_all eqv_pT A B
  simp only [gEq, toPy_tDs, shp_pTs, and_self, if_true, e]
theorem gIn_tups {neg : Bool} {A : List (List Nat)} {d : List Nat} : gIn neg (tD d) (.fl (A.map tD)) S = some (.bl (if neg then !decide (d ∈ A) else decide (d ∈ A)), S) := by
  have e : ((A.map pT).any fun z => PyData.eqv z (pT d)) = decide (d ∈ A) := by
    rw [List.any_map]
    refine Bool.eq_iff_iff.mpr ?_
    rw [List.any_eq_true, decide_eq_true_iff]
    constructor
    · rintro ⟨x, hx, h⟩
      have h : PyData.eqv (pT x) (pT d) = true := h
      rw [eqv_pT] at h
      exact of_decide_eq_true h ▸ hx
    · intro h
      refine ⟨d, h, ?_⟩
      show PyData.eqv (pT d) (pT d) = true
      rw [eqv_pT]; exact decide_eq_true rfl
  simp only [gIn, toPy_tD, toPy_tDs, shp_pT, shp_pTs, and_self, if_true, e]
end K59
end
section
set_option Elab.async false
set_option linter.all false
set_option maxRecDepth 100000
set_option maxHeartbeats 4000000
namespace K59
open PySem PySem.Spec PyProof.Rows L2 Sb
variable {K : PySem.W.Frag} {S : Sto}
theorem zip_deck : ∀ l : List Card, zipD ((l.map (·.1)).map D.str) ((l.map (·.2)).map D.int) = l.map dC
  | [] => rfl
  | c :: l => by
    show _ :: zipD _ _ = _
    rw [zip_deck l]; rfl
theorem nD_nat {d : List Nat} : (natL d).map D.int = nD d := by unfold natL nD; rw [List.map_map]; rfl
theorem zipD_C {N : List Str} {d : List Nat} (h : d.length = N.length) : zipD (N.map D.str) (nD d) = (zipC N d).map dC := by
  have := zip_deck (zipC N d)
  rw [zipC_nm h, zipC_dp h, nD_nat] at this
  exact this
theorem deck_zip {N : List Str} {d : List Nat} {τ : Sl} {i j : Nat} (w : Wf S) (h : d.length = N.length) (h0 : τ[i]? = some (some (.fl (N.map D.str)))) (h1 : τ[j]? = some (some (tD d))) :
    (eCB gTuple (aCons (fz (eLZG (aCons (eVar i) (aCons (eVar j) (aNil))))) (aNil))) τ S = some (.ok (dK (zipC N d)) S) := by
  have e : eLZG (aCons (eVar i) (aCons (eVar j) (aNil))) τ S = some (.ok (.loc S.length) (S ++ [.lst ((zipC N d).map dC)])) := by
    have a : (aCons (eVar i) (aCons (eVar j) (aNil))) τ S = some (.ok [.fl (N.map D.str), tD d] S) := a2_ok (eVar_at h0) (eVar_at h1)
    simp only [eLZG, M.bnd, a, sqD, lisD, Option.bind_some, zipD_C h]
  have e2 : fz (eLZG (aCons (eVar i) (aCons (eVar j) (aNil)))) τ S = some (.ok (.fl ((zipC N d).map dC)) S) := fz_lst (n := S.length) (X := [.lst ((zipC N d).map dC)]) w e (get_last _ _) (Nat.le_refl _) (bds_map fun _ _ => rfl)
  exact eCB_ok (a1_ok e2) rfl
theorem depths_ok {nd dd : D} {N : List Str} {E : List Int} (q : Sq nd (N.map D.str)) (p : Sq dd (E.map D.int)) (hl : E.length = N.length) (hE : ∀ i ∈ E, 0 ≤ i) : M_require_depths K [nd, dd] S = some (.ok .non S) := by
  have ln : gLenX [nd] S = some (.int (N.length : Nat), S) := by rw [q.len, List.length_map]
  have le : gLenX [dd] S = some (.int (N.length : Nat), S) := by rw [p.len, List.length_map, hl]
  have eA : eAll 3 (iSeq (eVar 1)) (tN 2) (eCl (M_is_depth) 1 (aCons (eVar 2) (aNil))) (ini 3 [nd, dd]) S = some (.ok (.bl true) S) := by
    obtain ⟨S1, L, rfl⟩ := goA_inv (nxt := fun i _ => some (E.map D.int)[i]?) (g := tN 2) (fe := eCl (M_is_depth) 1 (aCons (eVar 2) (aNil))) (k := 3) (n := E.length) (fun _ S' => S' = S) (fun i => .int (E.getD i default)) (fun i S' hi e => by
      subst e
      refine ⟨by rw [List.getElem?_map, List.getElem?_eq_getElem hi, List.getD_eq_getElem?_getD, List.getElem?_eq_getElem hi]; rfl, _, S', rfl, ?_, rfl⟩
      exact eCl_ok (a1_ok rfl) rfl (is_depth_ok (hE _ (by rw [List.getD_eq_getElem?_getD, List.getElem?_eq_getElem hi]; exact List.getElem_mem hi)))) (fun S' _ => by simp) ((E.map D.int).length + 1) 0 S (Nat.zero_le _) (by simp) rfl
    unfold eAll
    rw [iSeq_ok (d := dd) (S1 := S1) rfl (p.wk S1)]
    simp only [L, Option.bind_some]
  exact fnM_nx ((sIf_f (or_f (tNt_ok (b := true) (tB_ok (eCl_ok (a1_ok rfl) rfl (p.listed S)))) (or_f (tB_ok (eB_ok (eCB_ok (a1_ok rfl) le) (eCB_ok (a1_ok rfl) ln) (gEq_nat.trans (by simp)))) (tNt_ok (b := true) (tB_ok eA))))).trans rfl)
theorem top_head {l : List Card} (h : 1 ≤ l.length) : (l.headD ("", 0)).1 = (l[0]'(by omega)).1 := by
  cases l with
  | nil => simp at h
  | cons c r => rfl
theorem let_ok {N R : List Str} {d : List Nat} (w : Wf S) (hl : d.length = N.length) (nn : N.Nodup) (h1 : 1 ≤ N.length) (h2 : N.length ≤ 40) (hN : ∀ c ∈ N, Nm c) (hR : ∀ x ∈ R, x ∈ N) :
    M_depths_let K [.fl (N.map D.str), .fl (R.map D.str), tD d] S = some (.ok (.bl (decide (R = tops (zipC N d) R.length))) S) := by
  have ok := zipC_ok hl nn h1 h2 hN
  generalize hz : zipC N d = l at ok
  have e1 := names_ok (K := K) (S := S) (nd := .fl (N.map D.str)) (.inr rfl) nn h1 h2 hN
  have e2 := row_ok (K := K) (S := S) hN hR
  have e3 := depths_ok (K := K) (S := S) (nd := .fl (N.map D.str)) (dd := tD d) (N := N) (E := natL d) (.inr rfl) (.inl (by rw [nD_nat])) (by unfold natL; rw [List.length_map, hl]) (fun i hi => by obtain ⟨c, _, rfl⟩ := List.mem_map.mp hi; exact Int.natCast_nonneg _)
  refine fn_wt ?_
  refine ws_ex (fz_same w (eCl_ok (a1_ok rfl) rfl e1) rfl) ?_
  refine ws_ex (eCl_ok (a2_ok rfl rfl) rfl e2) ?_
  refine ws_ex (eCl_ok (a2_ok rfl rfl) rfl e3) ?_
  have tz : eTZG (aCons (eVar 0) (aCons (eVar 2) (aNil))) (ini 5 [.fl (N.map D.str), .fl (R.map D.str), tD d]) S = some (.ok (dK l) S) := by
    have a : (aCons (eVar 0) (aCons (eVar 2) (aNil))) (ini 5 [.fl (N.map D.str), .fl (R.map D.str), tD d]) S = some (.ok [.fl (N.map D.str), tD d] S) := a2_ok rfl rfl
    simp only [eTZG, M.bnd, a, sqD, lisD, Option.bind_some, zipD_C hl, hz]
  refine ws_set tz ?_
  refine ws_for R.length (fun i τ S' => S' = S ∧ (∃ x4, τ = [some (.fl (N.map D.str)), some (.fl (R.map D.str)), some (tD d), some (dK (stps i l)), x4]) ∧ R.take i = tops l i) (fun i => .str (R.getD i default)) (iSeq_ok (S1 := S) rfl wk_fl) (by simp) ⟨rfl, ⟨_, rfl⟩, rfl⟩ ?_ ?_ ?_
  · rintro i τ S' hi ⟨rfl, ⟨x4, rfl⟩, ht⟩
    have hg : R.getD i default = R[i] := by rw [List.getD_eq_getElem?_getD, List.getElem?_eq_getElem hi]; rfl
    rw [hg]
    refine ⟨by show some ((R.map D.str)[i]?) = _; rw [List.getElem?_map, List.getElem?_eq_getElem hi]; rfl, _, rfl, ?_⟩
    have ok' := stps_ok ok i
    have hl' : 1 ≤ (stps i l).length := ok'.lo
    have g0 : gIx (dK (stps i l)) (.int 0) S' = some (dC (stps i l)[0], S') := ix_deck (i := 0) (List.getElem?_eq_getElem (by omega))
    have nx : Nm R[i] := hN _ (hR _ (List.getElem_mem hi))
    have nt : Nm ((stps i l)[0]'(by omega)).1 := ok'.nm _ (List.getElem_mem _)
    have eq := gEq_str (neg := true) (S := S') nt nx
    by_cases z : ((stps i l)[0]'(by omega)).1 = R[i]
    · refine ws_no (tB_ok (b := false) (eB_ok (d := .bl false) (S3 := S') (eB_ok (eB_ok rfl rfl g0) rfl ix_name) rfl (eq.trans (by simp [z])))) ?_
      refine ws_set1 (eCl_ok (a1_ok rfl) rfl (step_ok ok')) ⟨rfl, ⟨_, rfl⟩, ?_⟩
      rw [tops_succ, ← ht, top_head hl', z, List.take_append_getElem hi]
    · have hne : ¬ R = tops l R.length := fun e => z (by
        have : R[i]? = (tops l R.length)[i]? := by rw [← e]
        rw [List.getElem?_eq_getElem hi] at this
        have h4 : (tops l R.length)[i]? = some ((stps i l).headD ("", 0)).1 := by
          unfold tops
          rw [List.getElem?_map, List.getElem?_range hi]; rfl
        rw [h4, top_head hl'] at this
        exact (Option.some.inj this).symm)
      refine ws_srt (d := .bl false) (S' := S') ((sIf_t (S1 := S') (tB_ok (b := true) (eB_ok (d := .bl true) (S3 := S') (eB_ok (eB_ok rfl rfl g0) rfl ix_name) rfl (eq.trans (by simp [z]))))).trans (sRt_ok rfl)) ⟨by rw [decide_eq_false hne], rfl⟩
  · rintro τ S' ⟨rfl, _, _⟩
    show some ((R.map D.str)[R.length]?) = _
    rw [List.getElem?_eq_none (by simp)]
  · rintro τ S' ⟨rfl, ⟨x4, rfl⟩, ht⟩
    rw [List.take_of_length_le (Nat.le_refl _)] at ht
    exact ws_rt rfl ⟨by rw [decide_eq_true ht], rfl⟩
/-! ## those that go on by one name -/
theorem parted_perm {N T : List Str} (nn : N.Nodup) (h1 : 1 ≤ N.length) (h2 : N.length ≤ 40) (hN : ∀ c ∈ N, Nm c) (hT : ∀ x ∈ T, x ∈ N) : (N.flatMap fun x => allD N (T ++ [x])).Perm (allD N T) := by
  have hTx : ∀ {x}, x ∈ N → ∀ y ∈ T ++ [x], y ∈ N := fun {x} hx y hy => by
    rcases List.mem_append.mp hy with h | h
    · exact hT y h
    · rw [List.mem_singleton.mp h]; exact hx
  have nd : ∀ {R : List Str}, (allD N R).Nodup := fun {R} => List.Pairwise.imp (fun {a b} (h : ltd a b) (e : a = b) => ltd_irr (d := b) (by rw [e] at h; exact h)) allD_lt
  have tp : ∀ {d : List Nat}, d.length = N.length → tops (zipC N d) (T.length + 1) = tops (zipC N d) T.length ++ [tpN (zipC N d) T.length] := fun h => tops_tp (zipC_ok h nn h1 h2 hN)
  refine (List.perm_ext_iff_of_nodup ?_ nd).mpr fun d => ?_
  · refine List.pairwise_flatMap.mpr ⟨fun x _ => nd, ?_⟩
    have : List.Pairwise (fun a b => a ∈ N ∧ b ∈ N ∧ a ≠ b) N := List.Pairwise.imp_of_mem (R := fun a b => a ≠ b) (fun ha hb h => ⟨ha, hb, h⟩) nn
    refine this.imp fun {x y} h d hd e he heq => ?_
    subst heq
    obtain ⟨hl, _, t1⟩ := (mem_allD nn h1 h2 hN (hTx h.1)).mp hd
    obtain ⟨_, _, t2⟩ := (mem_allD nn h1 h2 hN (hTx h.2.1)).mp he
    have e1 : (T ++ [x]).length = T.length + 1 := by simp
    have e2 : (T ++ [y]).length = T.length + 1 := by simp
    rw [e1] at t1
    rw [e2, ← t1] at t2
    have := List.append_cancel_left t2
    exact h.2.2 (List.cons.inj this).1.symm
  · rw [List.mem_flatMap, mem_allD nn h1 h2 hN hT]
    constructor
    · rintro ⟨x, hx, hd⟩
      obtain ⟨hl, hlt, t1⟩ := (mem_allD nn h1 h2 hN (hTx hx)).mp hd
      refine ⟨hl, hlt, ?_⟩
      rw [show (T ++ [x]).length = T.length + 1 by simp, tp hl] at t1
      exact (List.append_inj t1 (by rw [tops_len])).1
    · rintro ⟨hl, hlt, t1⟩
      have ok := zipC_ok hl nn h1 h2 hN
      have hx : tpN (zipC N d) T.length ∈ N := by
        have := tops_in' ok (n := T.length + 1) (tpN (zipC N d) T.length) (by rw [tops_tp ok]; simp)
        rwa [show nmL (zipC N d) = N from zipC_nm hl] at this
      refine ⟨_, hx, (mem_allD nn h1 h2 hN (hTx hx)).mpr ⟨hl, hlt, ?_⟩⟩
      rw [show (T ++ [tpN (zipC N d) T.length]).length = T.length + 1 by simp, tp hl, ← t1]
/-! ## other names -/
def ren (N N' : List Str) (x : Str) : Str := N'.getD (N.idxOf x) default
theorem ren_at {N N' : List Str} (nn : N.Nodup) {i : Nat} (h : i < N.length) : ren N N' N[i] = N'.getD i default := by
  unfold ren
  rw [nn.idxOf_getElem i h]
theorem stp_ren {f : Str → Str} : ∀ l : List Card, stp (l.map fun c => (f c.1, c.2)) = (stp l).map fun c => (f c.1, c.2)
  | [] => rfl
  | c :: r => by
    show (r.map _).take (min c.2.toNat (r.map _).length) ++ (f c.1, c.2) :: (r.map _).drop (min c.2.toNat (r.map _).length) = (r.take (min c.2.toNat r.length) ++ c :: r.drop (min c.2.toNat r.length)).map _
    rw [List.length_map, List.map_append, List.map_cons, List.map_take, List.map_drop]
theorem stps_ren {f : Str → Str} {l : List Card} : ∀ n, stps n (l.map fun c => (f c.1, c.2)) = (stps n l).map fun c => (f c.1, c.2)
  | 0 => rfl
  | n + 1 => by
    show stp (stps n _) = (stp (stps n l)).map _
    rw [stps_ren n, stp_ren]
theorem tops_ren {f : Str → Str} {l : List Card} (ok : DeckOk l) (n : Nat) : tops (l.map fun c => (f c.1, c.2)) n = (tops l n).map f := by
  unfold tops
  rw [List.map_map]
  refine List.map_congr_left fun i _ => ?_
  obtain ⟨c, r, e⟩ := stps_ne (l := l) (by intro q; have := ok.lo; rw [q] at this; simp at this) i
  rw [stps_ren, Function.comp, e]
  rfl
theorem zipC_ren {N N' : List Str} {d : List Nat} (nn : N.Nodup) (h : d.length = N.length) (h' : N'.length = N.length) : zipC N' d = (zipC N d).map fun c => (ren N N' c.1, c.2) := by
  refine List.ext_getElem (by rw [List.length_map, zipC_len h, zipC_len (by omega), h']) fun i h1 h2 => ?_
  have h3 : i < (zipC N d).length := by rw [List.length_map] at h2; exact h2
  have hi : i < N.length := by rw [zipC_len h] at h3; exact h3
  rw [List.getElem_map, zipC_at h1, zipC_at h3, ren_at nn hi, List.getD_eq_getElem?_getD, List.getElem?_eq_getElem (by omega)]
  rfl
theorem ren_inj {N N' : List Str} (nn : N.Nodup) (nn' : N'.Nodup) (h' : N'.length = N.length) {x y : Str} (hx : x ∈ N) (hy : y ∈ N) (e : ren N N' x = ren N N' y) : x = y := by
  obtain ⟨i, hi, rfl⟩ := List.getElem_of_mem hx
  obtain ⟨j, hj, rfl⟩ := List.getElem_of_mem hy
  rw [ren_at nn hi, ren_at nn hj, List.getD_eq_getElem?_getD, List.getD_eq_getElem?_getD, List.getElem?_eq_getElem (by omega), List.getElem?_eq_getElem (by omega)] at e
  have e : N'[i]'(by omega) = N'[j]'(by omega) := e
  have q : N'[i]? = some (N'[i]'(by omega)) := List.getElem?_eq_getElem (by omega)
  have q2 : N'[j]? = some (N'[i]'(by omega)) := by rw [e]; exact List.getElem?_eq_getElem (by omega)
  have := nodup_ix nn' q q2
  subst this; rfl
theorem ren_mem {N N' : List Str} (h' : N'.length = N.length) {x : Str} (hx : x ∈ N) : ren N N' x ∈ N' := by
  unfold ren
  have := List.idxOf_lt_length_iff.mpr hx
  rw [List.getD_eq_getElem?_getD, List.getElem?_eq_getElem (by omega)]
  exact List.getElem_mem _
theorem map_inj_on {f : Str → Str} {N : List Str} (hf : ∀ x ∈ N, ∀ y ∈ N, f x = f y → x = y) : ∀ {A B : List Str}, (∀ x ∈ A, x ∈ N) → (∀ x ∈ B, x ∈ N) → A.map f = B.map f → A = B
  | [], [], _, _, _ => rfl
  | [], _ :: _, _, _, h => by cases h
  | _ :: _, [], _, _, h => by cases h
  | a :: A, b :: B, hA, hB, h => by
    rw [List.map_cons, List.map_cons] at h
    injection h with h1 h2
    rw [hf a (hA a List.mem_cons_self) b (hB b List.mem_cons_self) h1, map_inj_on hf (fun x hx => hA x (List.mem_cons_of_mem _ hx)) (fun x hx => hB x (List.mem_cons_of_mem _ hx)) h2]
theorem allD_ren {N N' R : List Str} (nn : N.Nodup) (nn' : N'.Nodup) (h' : N'.length = N.length) (h1 : 1 ≤ N.length) (h2 : N.length ≤ 40) (hN : ∀ c ∈ N, Nm c) (hN' : ∀ c ∈ N', Nm c) (hR : ∀ x ∈ R, x ∈ N) : allD N' (R.map (ren N N')) = allD N R := by
  refine ltd_ext allD_lt allD_lt fun d => ?_
  rw [mem_allD nn' (by omega) (by omega) hN' (fun x hx => by obtain ⟨y, hy, rfl⟩ := List.mem_map.mp hx; exact ren_mem h' (hR y hy)), mem_allD nn h1 h2 hN hR, h', List.length_map]
  refine and_congr_right fun hl => and_congr_right fun _ => ?_
  have ok := zipC_ok hl nn h1 h2 hN
  rw [zipC_ren nn hl h', tops_ren ok]
  constructor
  · intro h
    refine map_inj_on (fun x hx y hy e => ren_inj nn nn' h' hx hy e) hR (fun x hx => ?_) h
    have := tops_in' ok x hx
    rwa [show nmL (zipC N d) = N from zipC_nm hl] at this
  · intro h
    rw [← h]
theorem allD_len {N R : List Str} (h2 : N.length ≤ 4) : (allD N R).length ≤ 256 := by
  unfold allD
  split
  · have lc : ∀ c ∈ N.map (rcl N.length R), c.length ≤ 4 := fun c hc => by
      obtain ⟨x, _, rfl⟩ := List.mem_map.mp hc
      exact Nat.le_trans rcl_len h2
    have := prodL_le lc (N.map (rcl N.length R)).length (Nat.le_refl _)
    rw [List.take_length, List.length_map] at this
    exact Nat.le_trans this (Nat.pow_le_pow_right (by decide : 4 > 0) h2)
  · simp
end K59
end
section
set_option Elab.async false
set_option linter.all false
set_option maxRecDepth 100000
set_option maxHeartbeats 4000000
namespace K59
open PySem PySem.Spec PyProof.Rows L2 Sb
variable {K : PySem.W.Frag} {S : Sto}
theorem tops_take {l : List Card} {a b : Nat} (h : b ≤ a) : (tops l a).take b = tops l b := by
  unfold tops
  rw [← List.map_take, List.take_range, Nat.min_eq_left h]
/-- depths drawn -/
theorem own_ok {n k m : Nat} {N : List Str} {τ : Sl} (w : Wf S) (sp : Bag n k S) (hk : k + N.length < 2 ^ 39) (hm : 1 ≤ m) (hm2 : m ≤ 40) (hN : N.length ≤ 40) (h1 : (wipeD τ [6])[1]? = some (some (.loc n))) (h3 : (wipeD τ [6])[3]? = some (some (.int (m : Nat)))) (h4 : τ[4]? = some (some (.fl (N.map D.str)))) :
    ∃ S2 d, fz (eLc (iSeq (eVar 4)) (tN 6) (tAll) (eCl (M_bag_draw) 2 (aCons (eVar 1) (aCons (eVar 3) (aNil)))) [6]) τ S = some (.ok (.fl (nD d)) S2) ∧ d.length = N.length ∧ (∀ x ∈ d, x < m) ∧ Bag n (k + N.length) S2 ∧ S2.length = S.length ∧ Wf S2 := by
  have hn := bag_src.lt sp
  have B : ∀ b : Nat, b ≤ 10 ^ 28 → b < 2 ^ 200 := fun b hb => Nat.lt_of_le_of_lt hb (by decide)
  obtain ⟨S2, acc, e, ⟨hb, ⟨d, rfl, hd, hx⟩, fr⟩, l2, w2, _⟩ := lc_gen (fi := iSeq (eVar 4)) (g := tN 6) (t := tAll) (fe := eCl (M_bag_draw) 2 (aCons (eVar 1) (aCons (eVar 3) (aNil)))) (vs := [6])
    (τ := τ) (S := S) (S1 := S) (ds := N.map D.str)
    (fun i acc S' => Bag n (k + i) S' ∧ (∃ d : List Nat, acc = nD d ∧ d.length = i ∧ ∀ x ∈ d, x < m) ∧ ∀ j, j < S.length → j ≠ n → S'[j]? = S[j]?)
    (iSeq_ok (eVar_at h4) wk_fl) rfl w wks_ds (by simp; omega)
    (fun i acc S' S'' q ⟨hb, hd, fr⟩ => ⟨bag_src.fr hb (q n (by omega)), hd, fun j hj hjn => (q j (by omega)).trans (fr j hj hjn)⟩)
    ⟨sp, ⟨[], rfl, rfl, fun x hx => by cases hx⟩, fun j hj _ => rfl⟩
    (fun acc S' ⟨hb, _, fr⟩ hlen => wfk_but (S1 := S) (fun i => i = n) (Nat.le_refl _) (by rw [List.take_length]; exact w) (by omega) (fun i hi hn' => fr i hi hn') fun i hi hA => by subst hA; exact bag_src.ex hb)
    (fun i acc S' hi ⟨hb, ⟨d, hacc, hd, hx⟩, fr⟩ hlen hat hwf => by
      have hi2 : i < N.length := by simpa using hi
      refine ⟨_, rfl, .inr ?_⟩
      obtain ⟨v, S'', e, v1, sp', sm⟩ := bag_draw_ok (n := n) (k := k + i) (S := S') (b := m) hwf hb (by omega) (by omega) (B _ (by omega))
      have g1 : ((wipeD τ [6]).set 6 (some (N.map D.str)[i]))[1]? = some (some (.loc n)) := by rw [List.getElem?_set_ne (by decide)]; exact h1
      have g3 : ((wipeD τ [6]).set 6 (some (N.map D.str)[i]))[3]? = some (some (.int (m : Nat))) := by rw [List.getElem?_set_ne (by decide)]; exact h3
      refine ⟨S', .int (v : Nat), S'', rfl, eCl_ok (a2_ok (eVar_at g1) (eVar_at g3)) rfl e, by rw [sm.len]; exact hlen, (sm.at_ _ (by omega)).trans hat, bag_src.wf sm hwf sp', rfl, ⟨sp', ⟨d ++ [v], by rw [hacc]; unfold nD; rw [List.map_append]; rfl, by rw [List.length_append, hd]; rfl, fun x hx' => ?_⟩, fun j hj hjn => (sm.at_ _ hjn).trans (fr j hj hjn)⟩⟩
      rcases List.mem_append.mp hx' with h | h
      · exact hx x h
      · rw [List.mem_singleton.mp h]; exact v1)
  rw [List.length_map] at hb hd
  exact ⟨S2, d, e, hd, hx, hb, l2, w2⟩
theorem zip_fs : ∀ ps : List (Key × D), (ps.map (·.1)).zip (ps.map (·.2)) = ps
  | [] => rfl
  | p :: ps => by simp [zip_fs ps]
theorem valD_nd {ks : List (Key × D)} {k : Key} {d : D} (nd : (ks.map (·.1)).Nodup) (h : (k, d) ∈ ks) : valD ks k = some d := by
  induction ks with
  | nil => cases h
  | cons p r ih =>
    obtain ⟨h1, h2⟩ := List.nodup_cons.mp nd
    rcases List.mem_cons.mp h with rfl | h
    · simp [valD, List.find?_cons]
    · have hne : p.1 ≠ k := fun z => h1 (show p.1 ∈ _ by rw [z]; exact List.mem_map_of_mem (f := Prod.fst) h)
      have := ih h2 h
      simp only [valD, List.find?_cons, decide_eq_false hne] at this ⊢
      exact this
/-- the pairs of old and new names -/
abbrev prs (N N' : List Str) : List (Key × D) := (N.zip N').map fun p => (.inr p.1, .str p.2)
theorem prs_nd {N N' : List Str} (nn : N.Nodup) (h' : N'.length = N.length) : ((prs N N').map (·.1)).Nodup := by
  have : (prs N N').map (·.1) = N.map fun x => (Sum.inr x : Key) := by
    unfold prs
    rw [List.map_map]
    have e : (N.zip N').map (fun p => p.1) = N := List.map_fst_zip (by omega)
    conv => rhs; rw [← e, List.map_map]
    rfl
  rw [this]
  exact key_nd nn
theorem prs_at {N N' : List Str} (nn : N.Nodup) (h' : N'.length = N.length) {x : Str} (hx : x ∈ N) : valD (prs N N') (.inr x) = some (.str (ren N N' x)) := by
  refine valD_nd (prs_nd nn h') ?_
  obtain ⟨i, hi, rfl⟩ := List.getElem_of_mem hx
  refine List.mem_map.mpr ⟨(N[i], N'[i]'(by omega)), ?_, ?_⟩
  · rw [← List.getElem_zip (h := by rw [List.length_zip]; omega)]
    exact List.getElem_mem _
  · rw [ren_at nn hi, List.getD_eq_getElem?_getD, List.getElem?_eq_getElem (by omega)]; rfl
theorem calls_fz {N N' : List Str} {τ : Sl} {i j : Nat} (w : Wf S) (nn : N.Nodup) (h' : N'.length = N.length) (h0 : τ[i]? = some (some (.fl (N.map D.str)))) (h1 : τ[j]? = some (some (.fl (N'.map D.str)))) :
    fz (eCB gDict (aCons (eLZG (aCons (eVar i) (aCons (eVar j) (aNil)))) (aNil))) τ S = some (.ok (.fd ((prs N N').map (·.1)) ((prs N N').map (·.2))) S) := by
  let ts : List D := (N.zip N').map fun p => D.tup [.str p.1, .str p.2]
  have ez : zipD (N.map D.str) (N'.map D.str) = ts := by
    unfold zipD
    rw [List.zipWith_map]
    show List.zipWith (fun x y => D.tup [.str x, .str y]) N N' = _
    have : ∀ A B : List Str, List.zipWith (fun x y => D.tup [.str x, .str y]) A B = (A.zip B).map fun p => D.tup [.str p.1, .str p.2] := by
      intro A
      induction A with
      | nil => intro B; simp
      | cons a A ih =>
        intro B
        cases B with
        | nil => simp
        | cons b B => simp [ih]
    exact this N N'
  have e : eLZG (aCons (eVar i) (aCons (eVar j) (aNil))) τ S = some (.ok (.loc S.length) (S ++ [.lst ts])) := by
    have a : (aCons (eVar i) (aCons (eVar j) (aNil))) τ S = some (.ok [.fl (N.map D.str), .fl (N'.map D.str)] S) := a2_ok (eVar_at h0) (eVar_at h1)
    simp only [eLZG, M.bnd, a, sqD, lisD, Option.bind_some, ez]
  have ep : pairsD (S ++ [.lst ts]) ts = some (prs N N') := by
    have : ∀ m : List (Str × Str), pairsD (S ++ [.lst ts]) (m.map fun p => D.tup [.str p.1, .str p.2]) = some (m.map fun p => (.inr p.1, .str p.2)) := by
      intro m
      induction m with
      | nil => rfl
      | cons c m ih => simp only [List.map_cons, pairsD, keyD, Option.bind_some, ih]
    exact this _
  have em : mergeD [] (prs N N') = prs N N' := (merge_new (by simpa using prs_nd nn h')).trans (by simp)
  have hl : (S ++ [Ob.lst ts] : Sto).length = S.length + 1 := by simp
  have eD : gDict [.loc S.length] (S ++ [.lst ts]) = some (.loc (S.length + 1), S ++ ([.lst ts] ++ [.dct (prs N N')])) := by
    simp only [gDict, get_last, ep, Option.bind_some, hl, em, List.append_assoc]
  refine fz_dct (kvs := prs N N') w (eCB_ok (a1_ok e) eD) (by rw [← List.append_assoc, ← hl]; exact get_last _ _) (by omega) ?_
  unfold prs
  rw [List.map_map]
  exact bds_map fun _ _ => rfl
/-- lists of depths, read back -/
def unD : D → List Nat
  | .tup ds => ds.map fun d => match d with | .int i => i.toNat | _ => 0
  | _ => []
theorem unD_t (d : List Nat) : unD (tD d) = d := by
  show (nD d).map _ = d
  unfold nD
  rw [List.map_map]
  exact (List.map_congr_left fun r _ => Int.toNat_natCast r).trans (List.map_id' d)
end K59
end
section
set_option Elab.async false
set_option linter.all false
set_option maxRecDepth 100000
set_option maxHeartbeats 1000000
namespace K59
open PySem PySem.Spec PyProof.Rows L2 Sb
variable {K : PySem.W.Frag} {S : Sto}
theorem ne_tups {A : List (List Nat)} : gEq true (.fl (A.map tD)) (.fl (A.map tD)) S = some (.bl false, S) := gEq_tups.trans (by simp)
theorem law_ok {d : D} {ns : List Int} (hd : seqD S d = some (ns.map D.int)) (hs : ∀ X, seqD (S ++ X) d = some (ns.map D.int)) (ht : ∀ ds, d ≠ .tup ds ∧ d ≠ .fl ds) (hx : ∀ X, gLenX [d] (S ++ X) = some (.int ns.length, S ++ X)) (w : Wf S) : ∃ S', M_law K [d] S = some (.ok (.bl true) S') := by
  obtain ⟨o, e1, sp, wX⟩ := bag_bag_ok hd ht w
  have hz := sizeLine_eq
  refine law_ws ?_
  refine ws_set (eCl_ok (a1_ok rfl) rfl e1) ?_
  generalize hn : S.length = n at *
  let T : Option D → Option D → Option D → Option D → Option D → Option D → Option D → Option D → Option D → Option D → Option D → Option D → Option D → Option D → Sl :=
    fun x2 x3 x4 x5 x6 x7 x8 x9 x10 x11 x12 x13 x14 x15 => [some d, some (.loc n), x2, x3, x4, x5, x6, x7, x8, x9, x10, x11, x12, x13, x14, x15]
  obtain ⟨R, hR, eR⟩ := turnsB (τ := T none none none none none none none none none none none none none none) (i := 0) 2 3 (by decide) (hx [o]) rfl
  refine ws_for R (fun i τ S' => (∃ x2 x3 x4 x5 x6 x7 x8 x9 x10 x11 x12 x13 x14 x15, τ = T x2 x3 x4 x5 x6 x7 x8 x9 x10 x11 x12 x13 x14 x15) ∧ Bag n (100 * i) S' ∧ Wf S') (fun i => .int (i : Nat)) eR (Nat.le_refl _) ⟨⟨none, none, none, none, none, none, none, none, none, none, none, none, none, none, rfl⟩, sp, wX⟩ ?_ (fun _ _ _ => rg_end) ?_
  · rintro i τ S1 hi ⟨⟨x2, x3, x4, x5, x6, x7, x8, x9, x10, x11, x12, x13, x14, x15, rfl⟩, sp1, w1⟩
    refine ⟨rg_nxt hi, _, rfl, ?_⟩
    have B : ∀ b : Nat, b ≤ 10 ^ 28 → b < 2 ^ 200 := fun b hb => Nat.lt_of_le_of_lt hb (by decide)
    obtain ⟨v, S2, e2, hv, sp2, sm2, w2⟩ := bag_drw (S := S1) (j := 1) (τ := T (some (.int (i : Nat))) x3 x4 x5 x6 x7 x8 x9 x10 x11 x12 x13 x14 x15) (fm := eC (.int 3)) (b := 3) w1 rfl rfl sp1 (by omega) (by omega) (B _ (by omega))
    refine ws_set (d := .int ((2 + v : Nat) : Nat)) (S1 := S2) (eB_ok rfl e2 (gAdd_nat (i := 2) (j := v))) ?_
    generalize hm : 2 + v = m
    obtain ⟨S3, N, e3, lN, nn, hN, sp3, sm3, w3⟩ := bag_names_ok (m := m) w2 sp2 (by omega) (by omega) (by omega)
    refine ws_set (eCl_ok (a2_ok rfl rfl) rfl e3) ?_
    have h1 : 1 ≤ N.length := by omega
    have h2 : N.length ≤ 4 := by omega
    have h40 : N.length ≤ 40 := by omega
    obtain ⟨S4, own, e4, lo, hlt, sp4, l4, w4⟩ := own_ok (n := n) (k := 100 * i + 1 + 43) (m := m) (N := N) (τ := T (some (.int (i : Nat))) (some (.int (m : Nat))) (some (.fl (N.map D.str))) x5 x6 x7 x8 x9 x10 x11 x12 x13 x14 x15) w3 sp3 (by omega) (by omega) (by omega) h40 rfl rfl rfl
    refine ws_set (d := tD own) (S1 := S4) (eCB_ok (a1_ok e4) rfl) ?_
    have ok := zipC_ok lo nn h1 h40 hN
    generalize hl : zipC N own = l at ok
    have nml : nmL l = N := by rw [← hl]; exact zipC_nm lo
    have hTn : ∀ k, ∀ x ∈ tops l k, x ∈ N := fun k x hx => by
      have := tops_in' ok x hx
      rwa [nml] at this
    have hTm : ∀ k, ∀ x ∈ tops l k, Nm x := fun k x hx => hN x (hTn k x hx)
    have e7 : (fz (eCl (M_row_seen K) 2 (aCons (eCB gTuple (aCons (fz (eLZG (aCons (eVar 4) (aCons (eVar 5) (aNil))))) (aNil))) (aCons (eC (.int 40)) (aNil))))) (T (some (.int (i : Nat))) (some (.int (m : Nat))) (some (.fl (N.map D.str))) (some (tD own)) x6 x7 x8 x9 x10 x11 x12 x13 x14 x15) S4 = some (.ok (.fl ((tops l 40).map D.str)) S4) :=
      row_fz (n := 40) (d := dK l) w4 (isDeck_dK l) ok (by omega) (a2_ok (by rw [← hl]; exact deck_zip w4 lo rfl rfl) rfl)
    refine ws_set e7 ?_
    have cut : ∀ {S : Sto} {k : Nat}, k ≤ 40 → gSl (.fl ((tops l 40).map D.str)) none (some (k : Nat)) S = some (.fl ((tops l k).map D.str), S) := fun {S k} hk => by
      rw [cut_fl, ← List.map_take, tops_take hk]
    have all : ∀ {S : Sto} {R : List Str}, Wf S → (∀ x ∈ R, x ∈ N) → R.length ≤ 1000 → M_all_depths K [.fl (N.map D.str), .fl (R.map D.str)] S = some (.ok (.fl ((allD N R).map tD)) S) := fun w hR hl => all_depths_ok w nn h1 h2 hN hR hl
    refine ws_set (d := .fl ((allD N (tops l 0)).map tD)) (S1 := S4) (eCl_ok (a2_ok rfl (fz_list (ds := []) (S1 := S4) aNil_ok rfl w4 (by simp) rfl)) rfl (all (R := []) w4 (fun x hx => by cases hx) (by simp))) ?_
    -- name by name
    have memL : ∀ {k : Nat} {e : List Nat}, e ∈ allD N (tops l k) ↔ e.length = N.length ∧ (∀ x ∈ e, x < N.length) ∧ tops l k = tops (zipC N e) k := fun {k e} => by
      rw [mem_allD nn h1 h40 hN (hTn k), tops_len]
    have own_in : ∀ k, own ∈ allD N (tops l k) := fun k => memL.mpr ⟨lo, fun x hx => by have := hlt x hx; omega, by rw [hl]⟩
    refine ws_for 24 (fun j τ S' => (∃ x6 x9 x10 x11 x12, τ = T (some (.int (i : Nat))) (some (.int (m : Nat))) (some (.fl (N.map D.str))) (some (tD own)) x6 (some (.fl ((tops l 40).map D.str))) (some (.fl ((allD N (tops l j)).map tD))) x9 x10 x11 x12 x13 x14 x15) ∧ Bag n (100 * i + 50) S' ∧ Wf S') (fun k => .int (k : Nat)) (iRg1_ok (n := 24) (a1_ok rfl) (by omega)) (Nat.le_refl _) ⟨⟨_, _, _, _, _, rfl⟩, bag_src.mono sp4 (by omega), w4⟩ ?_ (fun _ _ _ => rg_end) ?_
    · rintro j τ S5 hj ⟨⟨x6, x9, x10, x11, x12, rfl⟩, sp5, w5⟩
      refine ⟨rg_nxt hj, _, rfl, ?_⟩
      refine ws_set (eLst_ok (ds := []) (S1 := S5) aNil_ok (by simp)) ?_
      have w6 : Wf (S5 ++ [.lst []]) := wf_app w5 rfl
      refine ws_set (fz_list (ds := []) (S1 := S5 ++ [.lst []]) aNil_ok rfl w6 (by simp) rfl) ?_
      obtain ⟨p, hp⟩ : ∃ p, S5.length = p := ⟨_, rfl⟩
      let Tj : List Str := tops l j
      let tp : Str := tpN l j
      let U : Option D → Option D → Option D → Sl := fun x6 x11 x12 => T (some (.int (i : Nat))) (some (.int (m : Nat))) (some (.fl (N.map D.str))) (some (tD own)) x6 (some (.fl ((tops l 40).map D.str))) (some (.fl ((allD N (tops l j)).map tD))) (some (.int (j : Nat))) (some (.loc p)) x11 x12 x13 x14 x15
      let P : Nat → List (List Nat) := fun k => (N.take k).flatMap fun x => allD N (Tj ++ [x])
      let La : Nat → List (List Nat) := fun k => if tp ∈ N.take k then allD N (Tj ++ [tp]) else []
      have lP : ∀ k, (P k).length ≤ 256 * k := fun k => by
        have : ∀ A : List Str, (A.flatMap fun x => allD N (Tj ++ [x])).length ≤ 256 * A.length := fun A => by
          induction A with
          | nil => simp
          | cons a A ih =>
            rw [List.flatMap_cons, List.length_append, List.length_cons]
            have := allD_len (N := N) (R := Tj ++ [a]) h2
            omega
        have h := this (N.take k)
        have : (N.take k).length ≤ k := by rw [List.length_take]; omega
        exact Nat.le_trans h (Nat.mul_le_mul_left _ this)
      rw [hp]
      refine ws_for N.length (fun k τ S' => S' = S5 ++ [.lst ((P k).map tD)] ∧ ∃ x6 x12, τ = U x6 (some (.fl ((La k).map tD))) x12) (fun k => .str (N.getD k default)) (iSeq_ok (S1 := S5 ++ [.lst []]) rfl wk_fl) (by simp) ⟨rfl, _, _, rfl⟩ ?_ ?_ ?_
      · rintro k τ S' hk ⟨rfl, x6, x12, rfl⟩
        have hg : N.getD k default = N[k] := by rw [List.getD_eq_getElem?_getD, List.getElem?_eq_getElem hk]; rfl
        rw [hg]
        refine ⟨by show some ((N.map D.str)[k]?) = _; rw [List.getElem?_map, List.getElem?_eq_getElem hk]; rfl, _, rfl, ?_⟩
        have bdP : bds S5.length ((P k).map tD) = true := bds_map fun e _ => (show bds _ _ = true from bds_map fun _ _ => rfl)
        have wk : Wf (S5 ++ [.lst ((P k).map tD)]) := wf_app w5 (bds_mono (Nat.le_add_right _ _) _ bdP)
        have xm : N[k] ∈ N := List.getElem_mem hk
        have hTx : ∀ y ∈ Tj ++ [N[k]], y ∈ N := fun y hy => by
          rcases List.mem_append.mp hy with h | h
          · exact hTn j y h
          · rw [List.mem_singleton.mp h]; exact xm
        have lT : Tj.length = j := tops_len l j
        have one : fz (eLst (aCons (eVar 6) (aNil))) (U (some (.str N[k])) (some (.fl ((La k).map tD))) x12) (S5 ++ [.lst ((P k).map tD)]) = some (.ok (.fl ([N[k]].map D.str)) (S5 ++ [.lst ((P k).map tD)])) := fz_list (ds := [.str N[k]]) (S1 := S5 ++ [.lst ((P k).map tD)]) (a1_ok rfl) rfl wk (by simp) rfl
        refine ws_set (d := .fl ((allD N (Tj ++ [N[k]])).map tD)) (S1 := S5 ++ [.lst ((P k).map tD)]) (eCl_ok (a2_ok rfl (eB_ok (eSl_ok rfl rfl (oSo_ok rfl) (cut (by omega))) one ((fl_add (by rw [List.length_map, List.length_map, tops_len]; simp; omega)).trans (by rw [← List.map_append])))) rfl (all wk hTx (by rw [List.length_append, lT]; simp; omega))) ?_
        have gx : gIx (.fl ((tops l 40).map D.str)) (.int (j : Nat)) (S5 ++ [.lst ((P k).map tD)]) = some (.str tp, S5 ++ [.lst ((P k).map tD)]) := ix_seq' (c := "list") rfl rfl (by
          have := tops_g ok (n := 40) (s := j) (by omega)
          rw [gR_lt (by rw [tops_len]; omega)] at this
          rw [List.getElem?_map, List.getElem?_eq_getElem (by rw [tops_len]; omega), this]; rfl)
        have tpm : tp ∈ N := by
          have := hTn (j + 1) tp (by rw [tops_tp ok]; simp [tp])
          exact this
        have eq := gEq_str (neg := false) (S := S5 ++ [.lst ((P k).map tD)]) (hN _ xm) (hN _ tpm)
        have eP : P (k + 1) = P k ++ allD N (Tj ++ [N[k]]) := by
          show (N.take (k + 1)).flatMap _ = _
          rw [← List.take_append_getElem hk, List.flatMap_append, List.flatMap_singleton]
        have ext : gExtendX (.loc p) [.fl ((allD N (Tj ++ [N[k]])).map tD)] (S5 ++ [.lst ((P k).map tD)]) = some (.non, S5 ++ [.lst ((P (k + 1)).map tD)]) := by
          have hL : listD (S5 ++ [.lst ((P k).map tD)]) (.loc p) = some ((P k).map tD) := by rw [← hp]; simp [listD]
          have := lP k
          have := allD_len (N := N) (R := Tj ++ [N[k]]) h2
          have : k ≤ 4 := by omega
          simp only [gExtendX, hL, Option.bind_some]
          rw [if_pos (by rw [List.length_map, List.length_map, hz]; omega), ← hp, set_last, eP, List.map_append]
        have ty : tyD (S5 ++ [.lst ((P k).map tD)]) "list" (.loc p) = true := ty_list (acc := (P k).map tD) (by rw [← hp]; exact get_last _ _)
        have tk : N.take (k + 1) = N.take k ++ [N[k]] := (List.take_append_getElem hk).symm
        by_cases q : N[k] = tp
        · have eL : La (k + 1) = allD N (Tj ++ [N[k]]) := by
            show (if tp ∈ N.take (k + 1) then _ else _) = _
            rw [if_pos (by rw [tk, ← q]; exact List.mem_append_right _ (List.mem_singleton.mpr rfl)), q]
          refine ws_nx ((sIf_t (S1 := S5 ++ [.lst ((P k).map tD)]) (tB_ok (b := true) (eB_ok (d := .bl true) rfl (eB_ok rfl rfl gx) (eq.trans (by simp [q]))))).trans (sSet_ok rfl)) ?_
          refine bput (sEx_ok (eBM_ok (x := .loc p) rfl ty (a1_ok rfl) ext)) ⟨rfl, some (.str N[k]), some (.fl ((allD N (Tj ++ [N[k]])).map tD)), ?_⟩
          rw [eL]; rfl
        · have eL : La (k + 1) = La k := by
            show (if tp ∈ N.take (k + 1) then _ else _) = if tp ∈ N.take k then _ else _
            have : tp ∈ N.take (k + 1) ↔ tp ∈ N.take k := by
              rw [tk, List.mem_append, List.mem_singleton]
              exact ⟨fun h => h.elim id fun h => absurd h.symm q, .inl⟩
            simp only [this]
          refine ws_nx (τ1 := U (some (.str N[k])) (some (.fl ((La k).map tD))) (some (.fl ((allD N (Tj ++ [N[k]])).map tD)))) (S1 := S5 ++ [.lst ((P k).map tD)]) ((sIf_f (S1 := S5 ++ [.lst ((P k).map tD)]) (tB_ok (b := false) (eB_ok (d := .bl false) rfl (eB_ok rfl rfl gx) (eq.trans (by simp [q]))))).trans rfl) ?_
          refine bput (sEx_ok (eBM_ok (x := .loc p) rfl ty (a1_ok rfl) ext)) ⟨rfl, some (.str N[k]), some (.fl ((allD N (Tj ++ [N[k]])).map tD)), ?_⟩
          rw [eL]
      · rintro τ S' ⟨rfl, _, _, _⟩
        show some ((N.map D.str)[N.length]?) = _
        rw [List.getElem?_eq_none (by simp)]
      rintro τ S' ⟨rfl, x6', x12', rfl⟩
      have bdP : bds S5.length ((P N.length).map tD) = true := bds_map fun e _ => (show bds _ _ = true from bds_map fun _ _ => rfl)
      have w7 : Wf (S5 ++ [.lst ((P N.length).map tD)]) := wf_app w5 (bds_mono (Nat.le_add_right _ _) _ bdP)
      have hTN : ∀ {x}, x ∈ N → ∀ y ∈ Tj ++ [x], y ∈ N := fun {x} hx y hy => by
        rcases List.mem_append.mp hy with h | h
        · exact hTn j y h
        · rw [List.mem_singleton.mp h]; exact hx
      have pm : (P N.length).Perm (allD N Tj) := by
        show ((N.take N.length).flatMap _).Perm _
        rw [List.take_length]
        exact parted_perm nn h1 h40 hN (hTn j)
      have tpm : tp ∈ N := hTn (j + 1) tp (by rw [tops_tp ok]; simp [tp])
      have hLa : La N.length = allD N (tops l (j + 1)) := by
        show (if tp ∈ N.take N.length then _ else _) = _
        rw [List.take_length, if_pos tpm, tops_tp ok]
      have so := sorted_tups (S := S5 ++ [.lst ((P N.length).map tD)]) (p := p) (P := P N.length) (L := allD N Tj) (by rw [← hp]; exact get_last _ _) (fun e he => by
        have := (memL (k := j)).mp (pm.mem_iff.mp he)
        omega) pm allD_lt
      have es : fz (eCB gSorted (aCons (eVar 10) (aNil))) (U x6' (some (.fl ((La N.length).map tD))) x12') (S5 ++ [.lst ((P N.length).map tD)]) = some (.ok (.fl ((allD N Tj).map tD)) (S5 ++ [.lst ((P N.length).map tD)])) :=
        fz_lst (n := (S5 ++ [Ob.lst ((P N.length).map tD)] : Sto).length) (X := [Ob.lst ((allD N Tj).map tD)]) w7 (eCB_ok (a1_ok rfl) so) (get_last _ _) (Nat.le_refl _) (bds_map fun e _ => (show bds _ _ = true from bds_map fun _ _ => rfl))
      refine ws_no (or_f (tB_ok (b := false) (eB_ok (d := .bl false) es rfl ne_tups)) (tB_ok (b := false) (eB_ok (d := .bl false) rfl rfl ((gIn_tups (neg := true) (A := La N.length) (d := own)).trans (by rw [hLa]; simp [own_in (j + 1)]))))) ?_
      refine ws_set1 (d := .fl ((La N.length).map tD)) (S1 := S5 ++ [.lst ((P N.length).map tD)]) rfl ⟨⟨x6', some (.int (j : Nat)), some (.loc p), some (.fl ((La N.length).map tD)), x12', ?_⟩, bag_src.app sp5, w7⟩
      rw [← hLa]; rfl
    rintro τ S5 ⟨⟨x6, x9, x10, x11, x12, rfl⟩, sp5, w5⟩
    -- the first of them
    generalize hA : allD N (tops l 24) = A
    have memA : ∀ {e : List Nat}, e ∈ A ↔ e.length = N.length ∧ (∀ x ∈ e, x < N.length) ∧ tops l 24 = tops (zipC N e) 24 := fun {e} => by rw [← hA]; exact memL
    have lA : A.length ≤ 256 := by rw [← hA]; exact allD_len h2
    have c20 : gSl (.fl (A.map tD)) none (some ((20 : Nat) : Int)) S5 = some (.fl ((A.take 20).map tD), S5) := by rw [cut_fl, ← List.map_take]
    refine ws_for (A.take 20).length (fun k τ S' => (∃ x13, τ = T (some (.int (i : Nat))) (some (.int (m : Nat))) (some (.fl (N.map D.str))) (some (tD own)) x6 (some (.fl ((tops l 40).map D.str))) (some (.fl (A.map tD))) x9 x10 x11 x12 x13 x14 x15) ∧ S' = S5) (fun k => tD ((A.take 20).getD k [])) (iSeq_ok (S1 := S5) (eSl_ok rfl rfl (oSo_ok rfl) c20) wk_fl) (by simp) ⟨⟨_, rfl⟩, rfl⟩ ?_ ?_ ?_
    · rintro k τ S' hk ⟨⟨x13, rfl⟩, rfl⟩
      have hg : (A.take 20).getD k [] = (A.take 20)[k] := by rw [List.getD_eq_getElem?_getD, List.getElem?_eq_getElem hk]; rfl
      have hin : (A.take 20).getD k [] ∈ A := by rw [hg]; exact List.mem_of_mem_take (List.getElem_mem hk)
      refine ⟨by show some (((A.take 20).map tD)[k]?) = _; rw [List.getElem?_map, List.getElem?_eq_getElem hk, hg]; rfl, _, rfl, ?_⟩
      generalize (A.take 20).getD k [] = e at hin
      obtain ⟨le, _, te⟩ := memA.mp hin
      have oke := zipC_ok le nn h1 h40 hN
      have er : (fz (eCl (M_row_seen K) 2 (aCons (eCB gTuple (aCons (fz (eLZG (aCons (eVar 4) (aCons (eVar 13) (aNil))))) (aNil))) (aCons (eC (.int 24)) (aNil))))) (T (some (.int (i : Nat))) (some (.int (m : Nat))) (some (.fl (N.map D.str))) (some (tD own)) x6 (some (.fl ((tops l 40).map D.str))) (some (.fl (A.map tD))) x9 x10 x11 x12 (some (tD e)) x14 x15) S' = some (.ok (.fl ((tops l 24).map D.str)) S') := by
        rw [te]
        exact row_fz (n := 24) (d := dK (zipC N e)) w5 (isDeck_dK _) oke (by omega) (a2_ok (deck_zip w5 le rfl rfl) rfl)
      have el := let_ok (K := K) (R := tops l 24) w5 le nn h1 h40 hN (hTn 24)
      rw [tops_len, decide_eq_true te] at el
      refine bif_f (or_f (tB_ok (b := false) (eB_ok (d := .bl false) er (eSl_ok rfl rfl (oSo_ok rfl) (cut (k := 24) (by omega))) ((gEq_fl (neg := true) (hTm 24) (hTm 24)).trans (by simp)))) (tNt_ok (b := true) (tB_ok (eCl_ok (a3_ok rfl (eSl_ok rfl rfl (oSo_ok rfl) (cut (k := 24) (by omega))) rfl) rfl el)))) (ws_nop ⟨⟨_, rfl⟩, rfl⟩)
    · rintro τ S' ⟨⟨x13, rfl⟩, rfl⟩
      show some (((A.take 20).map tD)[(A.take 20).length]?) = _
      rw [List.getElem?_eq_none (by simp)]
    rintro τ S' ⟨⟨x13, rfl⟩, rfl⟩
    -- other names
    obtain ⟨S6, N', e6, lN', nn', hN', sp6, sm6, w6⟩ := bag_names_ok (m := m) w5 sp5 (by omega) (by omega) (by omega)
    have h' : N'.length = N.length := by omega
    refine ws_set (eCl_ok (a2_ok rfl rfl) rfl e6) ?_
    refine ws_set (calls_fz w6 nn h' rfl rfl) ?_
    have ec : fz (eLc (iSeq (eSl (eVar 7) (oNo) (oSo (eC (.int 24))))) (tN 6) (tAll) (eB gGetX (eVar 15) (eVar 6)) [6]) (T (some (.int (i : Nat))) (some (.int (m : Nat))) (some (.fl (N.map D.str))) (some (tD own)) x6 (some (.fl ((tops l 40).map D.str))) (some (.fl (A.map tD))) x9 x10 x11 x12 x13 (some (.fl (N'.map D.str))) (some (.fd ((prs N N').map (·.1)) ((prs N N').map (·.2))))) S6 = some (.ok (.fl (((tops l 24).map (ren N N')).map D.str)) S6) := by
      have e := lc_pu (fi := iSeq (eSl (eVar 7) (oNo) (oSo (eC (.int 24))))) (g := tN 6) (t := tAll) (fe := eB gGetX (eVar 15) (eVar 6)) (vs := [6]) (τ := T (some (.int (i : Nat))) (some (.int (m : Nat))) (some (.fl (N.map D.str))) (some (tD own)) x6 (some (.fl ((tops l 40).map D.str))) (some (.fl (A.map tD))) x9 x10 x11 x12 x13 (some (.fl (N'.map D.str))) (some (.fd ((prs N N').map (·.1)) ((prs N N').map (·.2))))) (S := S6) (ds := (tops l 24).map D.str)
        (fun _ => true) (fun d => match d with | .str x => .str (ren N N' x) | _ => .non) w6 (iSeq_ok (eSl_ok rfl rfl (oSo_ok rfl) (cut (k := 24) (by omega))) wk_fl) wks_ds (by rw [List.length_map, tops_len]; omega)
        (fun d hd _ => by obtain ⟨x, _, rfl⟩ := List.mem_map.mp hd; rfl)
        (fun d hd S'' _ _ => by
          obtain ⟨x, hx, rfl⟩ := List.mem_map.mp hd
          refine ⟨_, rfl, rfl, fun _ => eB_ok rfl rfl ?_⟩
          simp only [gGetX, dctD, List.length_map, if_true, zip_fs, Option.bind_some, keyD, prs_at nn h' (hTn 24 x hx)])
      rw [filter_tt, List.map_map] at e
      rw [List.map_map]
      exact e
    have hR' : ∀ y ∈ (tops l 24).map (ren N N'), y ∈ N' := fun y hy => by
      obtain ⟨x, hx, rfl⟩ := List.mem_map.mp hy
      exact ren_mem h' (hTn 24 x hx)
    have ea := all_depths_ok (K := K) (N := N') (R := (tops l 24).map (ren N N')) w6 nn' (by omega) (by omega) hN' hR' (by rw [List.length_map, tops_len]; omega)
    rw [allD_ren nn nn' h' h1 h40 hN hN' (hTn 24), hA] at ea
    refine ws_no (tB_ok (b := false) (eB_ok (d := .bl false) (eCl_ok (a2_ok rfl ec) rfl ea) rfl ne_tups)) ?_
    -- sixteen more steps
    have eb := all (S := S6) (R := tops l 40) w6 (hTn 40) (by rw [tops_len]; omega)
    have ef : fz (eLc (iSeq (eVar 8)) (tN 13) (tB (eCl (M_depths_let K) 3 (aCons (eVar 4) (aCons (eVar 7) (aCons (eVar 13) (aNil)))))) (eVar 13) [13]) (T (some (.int (i : Nat))) (some (.int (m : Nat))) (some (.fl (N.map D.str))) (some (tD own)) x6 (some (.fl ((tops l 40).map D.str))) (some (.fl (A.map tD))) x9 x10 x11 x12 x13 (some (.fl (N'.map D.str))) (some (.fd ((prs N N').map (·.1)) ((prs N N').map (·.2))))) S6 = some (.ok (.fl ((allD N (tops l 40)).map tD)) S6) := by
      have e := lc_pu (fi := iSeq (eVar 8)) (g := tN 13) (t := tB (eCl (M_depths_let K) 3 (aCons (eVar 4) (aCons (eVar 7) (aCons (eVar 13) (aNil)))))) (fe := eVar 13) (vs := [13]) (τ := T (some (.int (i : Nat))) (some (.int (m : Nat))) (some (.fl (N.map D.str))) (some (tD own)) x6 (some (.fl ((tops l 40).map D.str))) (some (.fl (A.map tD))) x9 x10 x11 x12 x13 (some (.fl (N'.map D.str))) (some (.fd ((prs N N').map (·.1)) ((prs N N').map (·.2))))) (S := S6) (ds := A.map tD)
        (fun dd => decide (tops l 40 = tops (zipC N (unD dd)) 40)) id w6 (iSeq_ok rfl wk_fl) wks_ds (by rw [List.length_map]; omega)
        (fun d hd _ => by
          obtain ⟨x, _, rfl⟩ := List.mem_map.mp hd
          exact (show bds _ _ = true from bds_map fun _ _ => rfl))
        (fun d hd S'' w'' _ => by
          obtain ⟨e, he, rfl⟩ := List.mem_map.mp hd
          obtain ⟨le, _, _⟩ := memA.mp he
          have el := let_ok (K := K) (S := S'') (R := tops l 40) w'' le nn h1 h40 hN (hTn 40)
          rw [tops_len] at el
          rw [unD_t]
          exact ⟨_, rfl, tB_ok (eCl_ok (a3_ok rfl rfl rfl) rfl el), fun _ => rfl⟩)
      have eq : A.filter (fun e => decide (tops l 40 = tops (zipC N e) 40)) = allD N (tops l 40) := by
        refine ltd_ext (by rw [← hA]; exact List.Pairwise.filter _ allD_lt) allD_lt fun e => ?_
        rw [List.mem_filter, memA, memL, decide_eq_true_iff]
        constructor
        · rintro ⟨⟨a, b, _⟩, c⟩; exact ⟨a, b, c⟩
        · rintro ⟨a, b, c⟩
          refine ⟨⟨a, b, ?_⟩, c⟩
          rw [← tops_take (l := l) (a := 40) (b := 24) (by omega), c, tops_take (by omega)]
      rw [← eq]
      rw [List.map_id, List.filter_map] at e
      have hc : ((fun dd => decide (tops l 40 = tops (zipC N (unD dd)) 40)) ∘ tD) = fun e => decide (tops l 40 = tops (zipC N e) 40) := by
        funext e
        show decide (tops l 40 = tops (zipC N (unD (tD e))) 40) = _
        rw [unD_t]
      rw [hc] at e
      exact e
    exact bif_f (tB_ok (b := false) (eB_ok (d := .bl false) (eCl_ok (a2_ok rfl rfl) rfl eb) ef ne_tups)) (ws_nop ⟨⟨_, _, _, _, _, _, _, _, _, _, _, _, _, _, rfl⟩, bag_src.mono sp6 (by omega), w6⟩)
  · rintro τ S1 _
    exact ws_rt rfl rfl
end K59
end
section
set_option Elab.async false
set_option linter.all false
set_option maxRecDepth 100000
set_option maxHeartbeats 4000000
namespace Sb
open PySem PySem.Spec PyProof.Rows L2
theorem bds_ints {k : Nat} : ∀ ns : List Int, bds k (ns.map D.int) = true
  | [] => rfl
  | n :: ns => by simp only [List.map_cons, bds, bd, bds_ints ns, Bool.and_self]
/-- the script in the heap, as data -/
theorem script_in {T : Tb} {H : Hp} {a : Addr} {ns : List Int} (hS : SqL T.K H a (ns.map V.int)) (ht : ∀ p ∈ T.tabs, H p = some (.tbl #[])) (hl : ∀ p ∈ T.lams, p.1 ∉ T.tabs ∧ H p.1 = some (.tbl #[]) := by intro p hp; cases hp) : ∃ (φ : List Addr) (S : Sto) (d : D), Rel T φ S H ∧ RDs T H φ [d] [.ref a] ∧
    seqD S d = some (ns.map D.int) ∧ (∀ X, seqD (S ++ X) d = some (ns.map D.int)) ∧ (∀ ds, d ≠ .tup ds ∧ d ≠ .fl ds) ∧ (∀ X, gLenX [d] (S ++ X) = some (.int ns.length, S ++ X)) ∧ wfk S.length S = true := by
  have tab : ∀ p ∈ T.tabs, GxR.TabG H p := fun p hp => ⟨#[], ht p hp, trivial⟩
  have lam : ∀ p ∈ T.lams, p.1 ∉ T.tabs ∧ LamT H p.1 p.2 := fun p hp => ⟨(hl p hp).1, #[], (hl p hp).2, trivial, fun pos cv hc => by simp [codeAmong] at hc⟩
  have rest : Scr T H a ns → ∃ (φ : List Addr) (S : Sto) (d : D), Rel T φ S H ∧ RDs T H φ [d] [.ref a] ∧
    seqD S d = some (ns.map D.int) ∧ (∀ X, seqD (S ++ X) d = some (ns.map D.int)) ∧ (∀ ds, d ≠ .tup ds ∧ d ≠ .fl ds) ∧ (∀ X, gLenX [d] (S ++ X) = some (.int ns.length, S ++ X)) ∧ wfk S.length S = true := fun z =>
    ⟨[], [], .scr ns, ⟨rfl, List.nodup_nil, fun n o b h => by simp at h, tab, lam⟩, ⟨_, [], rfl, ⟨a, rfl, z⟩, rfl⟩, rfl, fun _ => rfl, (fun _ => ⟨fun e => (by cases e), fun e => (by cases e)⟩), (fun X => by simp [gLenX, gLen, seqD]), rfl⟩
  rcases hS with (h | ⟨o, h⟩) | h
  · have e1 : ∀ X : Sto, seqD ([.lst (ns.map D.int)] ++ X) (.loc 0) = some (ns.map D.int) := fun X => by simp [seqD]
    refine ⟨[a], [.lst (ns.map D.int)], .loc 0, ⟨rfl, by simp, fun n o b h1 h2 => ?_, tab, lam⟩, ⟨_, [], rfl, ⟨a, rfl, rfl⟩, rfl⟩, by simp [seqD], e1, (fun _ => ⟨fun e => (by cases e), fun e => (by cases e)⟩), (fun X => by simp [gLenX, gLen, seqD]), by simp [wfk, bdO, bds_ints]⟩
    cases n with
    | zero =>
      simp at h1 h2
      subst h1 h2
      exact ⟨_, h, ints_rds ns⟩
    | succ n => simp at h1
  · exact rest (.inl ⟨o, h⟩)
  · exact rest (.inr h)
theorem cx_false {P : Program} {w : World} {H : Hp} {s : Shared} {e : Value} {s' : Shared} : L2.CX P w [] H s (fun _ _ _ => False) e s' → False := by
  rintro ⟨_, _, _, _, _, _, _, _, _, _, _, _, z⟩
  exact z
end Sb
end
section
set_option Elab.async false
set_option linter.all false
set_option maxRecDepth 100000
set_option maxHeartbeats 4000000
namespace Sb
open PySem PySem.Spec PyProof.Rows L2 LamX
/-- the law's call, its def promised where no print is under way -/
theorem law_callH {P : Program} {w : World} {K : PySem.W.Frag} {mg mb : Str → Option Value} {CX : CXT} {k : Nat} {fa a : Addr} {cs : List (Addr × Addr)} {fd : FuncData} {x : Str} {sp : Sp} {s1 : Shared} {vs : List Value} {ns : List Int}
    (inK : K.In s1.heap) (nsM : s1.heap.Ns mainGlobals mg) (nsB : s1.heap.Ns builtinsNs mb) (boot : ∀ x : Str, x ≠ "__name__" → mb x = bootBuiltins x) (noLim : s1.heap.NoLimit) (noGen : s1.gens = #[])
    (tabs : ∀ p ∈ cs, s1.heap.get? p.2 = some { cls := .none, data := .fields #[] }) (outK : ∀ p ∈ cs, K.lookup p.2 = none) (heads : ∀ p ∈ cs, PySem.W.CodeHd s1.heap p.1 p.2)
    (blt : ∃ (bm : Addr) (ob : Obj), mg "__builtins__" = some (.ref bm) ∧ bm ≠ builtinsNs ∧ s1.heap.get? bm = some ob ∧ ob.cls = .type "module" ∧ ob.dict = some builtinsNs ∧ ob.data = .plain)
    (isL : s1.heap.get? a = some { cls := .type "list", data := .seq vs.toArray }) (areInts : IntsAre vs ns) (short : ns.length ≤ sizeLine) (hsys : ∃ o es ep, s1.heap.get? sysModules = some o ∧ o.data = .dict es ep) (room : Room k callerA) (quiet : callerA.guards = some [])
    (F : ∀ base : Heap, K.In base → base.Ns mainGlobals mg → (∀ p ∈ cs, TabB base mg p.1 p.2) → (∃ o, base.get? sysModules = some o) → FnOkG P w K mg base CX k fa fd [x] sp) (bind : ∀ (s : Shared) (u : Value), BindsTo s fd ⟨[u], []⟩ [(x, u)])
    (wish : ∀ H : Hp, (∀ p ∈ cs, H p.2 = some (.tbl #[])) → SqL K H a (ns.map V.int) → sp [.ref a] H (fun v _ => v = .bl true) fun _ _ _ => False)
    (noX : ∀ H e s', CX [] H s1 (fun _ _ _ => False) e s' → False) :
    codeAny (model P w) callerA (.call (.ref fa) ⟨[.ref a], []⟩) (fun r s' => r = .ok (.ret (.bool true)) ∧ PySem.OldK s1.heap s'.heap ∧ s'.os = s1.os ∧ AllBare s'.gens) s1 := by
  have rel := vals_ints areInts
  have lenV := areInts.length
  have tabAt : ∀ b : Addr, b ∈ cs.map (·.2) → s1.heap.get? b = some { cls := .none, data := .fields #[] } := fun b hb => by
    obtain ⟨p, hp, rfl⟩ := List.mem_map.mp hb
    exact tabs p hp
  have notT : a ∉ cs.map (·.2) := fun z => by
    have z1 := congrArg (Option.map Obj.data) (isL.symm.trans (tabAt a z))
    cases z1
  have inT : ∀ p ∈ cs, p.2 ∈ cs.map (·.2) := fun p hp => List.mem_map_of_mem (f := (·.2)) hp
  have main : ∀ H : Hp, (∀ p ∈ cs, H p.2 = some (.tbl #[])) → (∀ b, H b = none ∨ b ∈ cs.map (·.2) ∨ ∃ o xs, H b = some (.frz o (.lst xs))) → SqL K H a (ns.map V.int) → HOk P w H s1.heap → (∀ b, H b ≠ none → b = a ∨ b ∈ cs.map (·.2)) → (H a ≠ none → K.lookup a = none) →
      codeAny (model P w) callerA (.call (.ref fa) ⟨[.ref a], []⟩) (fun r s' => r = .ok (.ret (.bool true)) ∧ PySem.OldK s1.heap s'.heap ∧ s'.os = s1.os ∧ AllBare s'.gens) s1 := by
    intro H tH oneOf sq okH only aK
    have free : ∀ {b : Addr} {o : Obj}, s1.heap.get? b = some o → (∀ vs n, o.data ≠ .seq vs n) → o.data ≠ .fields #[] → H b = none := fun {b o} e h1 h2 => by
      by_cases q : H b = none
      · exact q
      · rcases only b q with z | z
        · rw [z, isL] at e
          exact absurd (congrArg Obj.data (Option.some.inj e)).symm (h1 _ _)
        · rw [tabAt b z] at e
          exact absurd (congrArg Obj.data (Option.some.inj e)).symm h2
    have freeD : ∀ {b : Addr} {o : Obj} {es : Array DictEntry} {ep : Nat}, s1.heap.get? b = some o → o.data = .dict es ep → H b = none := fun {b o es ep} e d =>
      free e (fun vs n z => by rw [d] at z; cases z) fun z => by rw [d] at z; cases z
    have nsKept : ∀ {b : Addr} {m : Str → Option Value}, s1.heap.Ns b m → (hidT s1.heap H).Ns b m := fun {b m} ⟨o, es, ep, e, d, r⟩ => ⟨o, es, ep, hidT_get e (freeD e d), d, r⟩
    have inKb : K.In (hidT s1.heap H) := fun b o e => hidT_get (inK b o e) (by
      by_cases q : H b = none
      · exact q
      · rcases only b q with z | z
        · rw [z] at e q
          rw [aK q] at e; cases e
        · obtain ⟨p, hp, rfl⟩ := List.mem_map.mp z
          rw [outK p hp] at e; cases e)
    have md : L2.Mod K mg (hidT s1.heap H) := ⟨inKb, nsKept nsM, ⟨mb, nsKept nsB, boot⟩, let ⟨mc, h1, h2⟩ := noLim; ⟨mc, nsKept h1, h2⟩⟩
    have tb : ∀ p ∈ cs, TabB (hidT s1.heap H) mg p.1 p.2 := fun p hp => by
      have atP := tabs p hp
      refine ⟨?_, ?_, fun z => ?_⟩
      · obtain ⟨o, us, file, tf, flags, tg, inF, text, tt, e1, r1, r2, r3, rest⟩ := heads p hp
        refine ⟨o, us, file, tf, flags, tg, inF, text, tt, hidT_get e1 (free e1 (fun vs n z => by rw [r2] at z; cases z) fun z => ?_), r1, r2, r3, rest⟩
        rw [r2] at z
        cases z
        simp at r3
      · obtain ⟨bm, ob, b1, b2, b3, b4, b5, b6⟩ := blt
        have n1 : bm ≠ mainGlobals := fun q => by
          obtain ⟨o, es, ep, e, hd, _⟩ := nsM
          rw [q, e] at b3
          cases b3
          rw [hd] at b6; cases b6
        have n2 : bm ≠ p.2 := fun q => by
          rw [q, atP] at b3
          cases b3
          cases b6
        exact ⟨bm, ob, b1, b2, n1, n2, hidT_get b3 (free b3 (fun vs n z => by rw [b6] at z; cases z) fun z => by rw [b6] at z; cases z), b4, b5, b6⟩
      · obtain ⟨o, es, ep, e, hd, _⟩ := nsM
        rw [z, atP] at e
        cases e
        cases hd
    have env0 : Env0 P w K mg (hidT s1.heap H) callerA [] s1 H := ⟨rfl, md, fun b o e => of_hidT e, Nat.le_of_eq (hidT_size _ _), trivial, fun b hb => absurd (show b ∈ ([] : List Addr) from hb) (by simp), okH, .of_eq noGen⟩
    refine codeAny_mono ((F _ inKb (nsKept nsM) tb (let ⟨o, es, ep, e, d⟩ := hsys; ⟨o, hidT_get e (freeD e d)⟩)).run callerA [] s1 H ⟨[.ref a], []⟩ [.ref a] [.ref a] _ _ room quiet env0 (bind s1 (.ref a)) (.cons rfl .nil) (wish H tH sq)) fun r s' h => ?_
    cases r with
    | error e => exact (noX H e s' h).elim
    | ok fl =>
      cases fl with
      | next => exact False.elim h
      | brk => exact False.elim h
      | cont => exact False.elim h
      | ret u =>
        obtain ⟨v, H', os, bare, un, ok', r', q⟩ := h
        obtain rfl : v = .bl true := q
        obtain rfl : u = Value.bool true := r'
        have stay : ∀ b o, b ∉ cs.map (·.2) → s1.heap.get? b = some o → s'.heap.get? b = some o := fun b o nb e => by
          rcases oneOf b with z | z | ⟨ob, xs, z⟩
          · exact un.keep b o e z (fun y => absurd (show b ∈ ([] : List Addr) from y) (by simp)) (by simp)
          · exact absurd z nb
          · have o1 := (okH b _ z).1
            have o2 := (ok' b _ (un.frzs b ob _ z)).1
            rw [e] at o1; cases o1
            exact o2
        have more : ∀ p ∈ cs, ∃ ps : Array Value, s'.heap.get? p.2 = some { cls := .none, data := .fields ps } := fun p hp => by
          obtain ⟨ps, z⟩ := un.tbls p.2 #[] (tH p hp)
          exact ⟨_, ok' p.2 _ z⟩
        refine ⟨rfl, ⟨fun b o e => ?_, fun b o e => ?_⟩, os, bare⟩
        · by_cases hb : b ∈ cs.map (·.2)
          · obtain ⟨p, hp, rfl⟩ := List.mem_map.mp hb
            obtain ⟨ps, hm⟩ := more p hp
            rw [tabs p hp] at e
            cases e
            exact .inr (.inl ⟨((heads p hp).tab (tabs p hp)).isCodeTable, rfl, #[], ps, rfl, by rw [Array.empty_append]; exact hm⟩)
          · exact .inl (stay b o hb e)
        · by_cases hb : b ∈ cs.map (·.2)
          · obtain ⟨p, hp, rfl⟩ := List.mem_map.mp hb
            obtain ⟨ps, hm⟩ := more p hp
            exact ⟨_, hm⟩
          · exact ⟨o, stay b o hb e⟩
  cases hk : K.lookup a with
  | some o =>
    have e := inK a o hk
    rw [isL] at e
    cases e
    have hT : ∀ b, b ∈ cs.map (·.2) → (fun b => if b ∈ cs.map (·.2) then some (HO.tbl #[]) else none : Hp) b = some (.tbl #[]) := fun b hb => if_pos hb
    have hN : ∀ b, b ∉ cs.map (·.2) → (fun b => if b ∈ cs.map (·.2) then some (HO.tbl #[]) else none : Hp) b = none := fun b hb => if_neg hb
    refine main (fun b => if b ∈ cs.map (·.2) then some (HO.tbl #[]) else none) (fun p hp => hT _ (inT p hp)) (fun b => ?_) (.inr ⟨_, vs.toArray, _, hk, rfl, rfl, rfl, by rw [List.size_toArray, lenV]; exact short, by simpa using rel⟩) (fun b u z => ?_) (fun b z => ?_) fun z => absurd (hN a notT) z
    · by_cases hb : b ∈ cs.map (·.2)
      · exact .inr (.inl hb)
      · exact .inl (hN b hb)
    · by_cases hb : b ∈ cs.map (·.2)
      · rw [hT b hb] at z
        cases z
        exact tabAt b hb
      · rw [hN b hb] at z; cases z
    · by_cases hb : b ∈ cs.map (·.2)
      · exact .inr hb
      · exact absurd (hN b hb) z
  | none =>
    let He0 : Hp := fun b => if b = a then some (.frz { cls := .type "list", data := .seq vs.toArray } (.lst (ns.map V.int))) else if b ∈ cs.map (·.2) then some (.tbl #[]) else none
    have hA : He0 a = some (.frz { cls := .type "list", data := .seq vs.toArray } (.lst (ns.map V.int))) := if_pos rfl
    have hT : ∀ b, b ∈ cs.map (·.2) → He0 b = some (.tbl #[]) := fun b hb => (if_neg fun z => notT (by rw [← z]; exact hb)).trans (if_pos hb)
    have hN : ∀ b, b ≠ a → b ∉ cs.map (·.2) → He0 b = none := fun b h1 h2 => (if_neg h1).trans (if_neg h2)
    refine main He0 (fun p hp => hT _ (inT p hp)) (fun b => ?_) (.inl (.inr ⟨_, hA⟩)) (fun b u z => ?_) (fun b z => ?_) fun _ => hk
    · by_cases h1 : b = a
      · exact .inr (.inr ⟨_, _, by rw [h1]; exact hA⟩)
      · by_cases h2 : b ∈ cs.map (·.2)
        · exact .inr (.inl h2)
        · exact .inl (hN b h1 h2)
    · by_cases h1 : b = a
      · rw [h1, hA] at z
        cases z
        rw [h1]
        exact ⟨isL, by rw [List.length_map]; exact short, vs, _, rel, isL⟩
      · by_cases h2 : b ∈ cs.map (·.2)
        · rw [hT b h2] at z
          cases z
          exact tabAt b h2
        · rw [hN b h1 h2] at z; cases z
    · by_cases h1 : b = a
      · exact .inl h1
      · by_cases h2 : b ∈ cs.map (·.2)
        · exact .inr h2
        · exact absurd (hN b h1 h2) z
/-- what is known of the law at the head's heap -/
def LawAtH (l : PySem.W.OpenLaw) (w : World) (K : PySem.W.Frag) (CX : CXT) (k n : Nat) (x : Str) (mg : Str → Option Value) (fa : Addr) (h : Heap) : Prop :=
  ∃ (fd : FuncData) (cs : List (Addr × Addr)) (sp : Sp), (∀ p ∈ cs, h.get? p.2 = some { cls := .none, data := .fields #[] }) ∧ (∀ p ∈ cs, K.lookup p.2 = none) ∧ (∀ p ∈ cs, PySem.W.CodeHd h p.1 p.2) ∧ (∀ (s : Shared) (u : Value), BindsTo s fd ⟨[u], []⟩ [(x, u)]) ∧
    (∀ (H : Hp) (a : Addr) (ns : List Int), ns.length ≤ n → (∀ z ∈ ns, Builtin.Int.intBits z ≤ 1048576) → (∀ p ∈ cs, H p.2 = some (.tbl #[])) → SqL K H a (ns.map V.int) → sp [.ref a] H (fun v _ => v = .bl true) fun _ _ _ => False) ∧
    ∀ base : Heap, K.In base → base.Ns mainGlobals mg → (∀ p ∈ cs, TabB base mg p.1 p.2) → (∃ o, base.get? sysModules = some o) → FnOkG l.prog w K mg base CX k fa fd [x] sp
theorem walk_H {l : PySem.W.OpenLaw} {n k : Nat} {q : Program} {loose : List Str} {XP : (Str → Option Value) → Heap → Prop} {YP : World → Heap → Prop} {d : DefRec} {CX : World → CXT} {x : Str} (hn : l.most = some n) (hn2 : n ≤ sizeLine) (hdf : d.params.defaults = []) (room : Room k callerA) (quiet : callerA.guards = some [])
    (F : ∀ (w : World) (mg : Str → Option Value) (fa : Addr) (h : Heap), YP w h → h.Ns mainGlobals mg → mg d.name = some (.ref fa) → ∃ K : PySem.W.Frag, K.In h ∧ (∃ o es ep, h.get? sysModules = some o ∧ o.data = .dict es ep) ∧ LawAtH l w K (CX w) k n x mg fa h)
    (noX : ∀ (w : World) (H : Hp) (s : Shared) (e : Value) (s' : Shared), CX w [] H s (fun _ _ _ => False) e s' → False) : PySem.W.WalkO q loose XP YP l.row.toRowW d [] (fun f vs => PySem.call f vs) := by
  refine Att.attach_callB hn hdf fun w s0 s1 mg mb fa o pm cd doc a vs ns G Y ho hd hcd hmg hobj hints hlen hbits hg => ?_
  obtain ⟨K, inK, hsys, fd, cs, sp, h1, h2, h3, h4, h5, h6⟩ := F w mg fa _ Y G.T.g hmg
  exact law_callH inK G.T.g G.T.b G.T.builtins G.T.nolimit hg h1 h2 h3 G.T.bmain hobj hints (Nat.le_trans hlen hn2) hsys room quiet h6 h4 (fun H tH sq => h5 H a ns hlen hbits tH sq) fun H e s' => noX w H s1 e s'
end Sb
end
set_option Elab.async false
set_option linter.all false
set_option maxRecDepth 100000
set_option maxHeartbeats 0
namespace K59
open PySem PySem.Spec PyProof.Rows L2 Sb
theorem at_law {w : World} {K : PySem.W.Frag} {h : Heap} {mg : Str → Option Value} {f : Addr} (X : K.In h) (G : h.Ns mainGlobals mg) (hfa : mg "law" = some (.ref f)) (c : He.SaysX fa fn [] tf (Sb.clsB []) w h K) :
    Sb.LawAtH PySem.Challenge.rw_slideback_k59_whole_rows_go_on_by_one_na w K (L2.CX (PySem.Challenge.rw_slideback_k59_whole_rows_go_on_by_one_na).prog w) lv_law 63 "script" mg f h := by
  have cd := c.t.d
  obtain ⟨fd, F⟩ := cd.def_ 24 (d := d_law) rfl
  have gl := He.glo_ok X G (cd.fact 24 (f := .glo "law") rfl)
  have ef := hfa.symm.trans gl
  cases ef
  refine ⟨fd, tf.map (He.cT K), spM (TT (PySem.Challenge.rw_slideback_k59_whole_rows_go_on_by_one_na).prog w K) (M_law K) 1, fun p hp => ?_, fun p hp => ?_, fun p hp => ?_, ?_, fun H a ns _ _ hT hS => ?_, fun base Kb Gb hT Hs => ?_⟩
  · obtain ⟨q, hq, rfl⟩ := List.mem_map.mp hp
    exact c.empty q hq
  · obtain ⟨q, hq, rfl⟩ := List.mem_map.mp hp
    exact c.out q hq
  · obtain ⟨q, hq, rfl⟩ := List.mem_map.mp hp
    exact PySem.W.codeHd_of_K X (c.hd q hq)
  · have b := FunD.bindsA (ps := ["script"]) F fun _ _ _ _ _ _ us hl => match us, hl with | [_], _ => rfl
    exact fun s u => b s [u] rfl
  · obtain ⟨φ, S, d, R, r, h1, h2, h3, h4, h5⟩ := script_in (T := TT (PySem.Challenge.rw_slideback_k59_whole_rows_go_on_by_one_na).prog w K) hS (fun p hp => by
      obtain ⟨q, hq, rfl⟩ := List.mem_map.mp hp
      exact hT q hq)
    obtain ⟨S', e⟩ := law_ok (K := K) h1 h2 h3 h4 h5
    exact ⟨φ, S, [d], _, R, r, rfl, e, fun φ' H' v _ _ z => z⟩
  · exact fo_law ⟨cd, Kb, Gb, fun p hp => ⟨(hT p hp).code, (hT p hp).bm, (hT p hp).gP⟩, Hs⟩ F
end K59
open PySem PySem.W PySem.Calls PyProof.Rows
set_option maxRecDepth 100000 in
set_option maxHeartbeats 0 in
theorem PySem.Challenge.cw_slideback_k59_whole_rows_go_on_by_one_na_holds : PySem.Challenge.rw_slideback_k59_whole_rows_go_on_by_one_na.Holds := by
  w_on; o_law
  refine HandSHeadRun.head_any (r := K59.R) (q := view K59.R.prog [K59.lawAt]) (H := K59.hk) (ob := K59.ob) (M := K59.steps) (loose := K59.loose) (d := HandSHeadRun.topDef K59.R.prog K59.lawAt) (kwd := []) K59.ob_eq
    (by kernel_rfl) (fun s => by kernel_rfl) K59.run (by kernel_rfl) (by kernel_rfl) (by kernel_rfl) (by rfl) (by first | assumption | decide +kernel) (by decide +kernel) ⟨rfl, rfl, rfl, rfl, rfl, by decide +kernel⟩ ?hw ?hc
  case hw => w_witness2
  case hc =>
    refine Sb.walk_H (l := PySem.Challenge.rw_slideback_k59_whole_rows_go_on_by_one_na) (n := 63) (k := K59.lv_law) (x := "script") (CX := L2.CX (PySem.Challenge.rw_slideback_k59_whole_rows_go_on_by_one_na).prog) rfl (by decide) (by kernel_rfl) ⟨rfl, by decide, by decide⟩ rfl ?F (fun _ _ _ _ _ z => Sb.cx_false z)
    intro w mg fa h Y G hmg0
    obtain ⟨⟨K, KX, c⟩, Hs⟩ := Y
    have hmg : mg ("law" : PySem.Str) = some (.ref fa) := by
      have e : (HandSHeadRun.topDef K59.R.prog K59.lawAt).name = ("law" : PySem.Str) := by kernel_rfl
      rw [← e]
      exact hmg0
    exact ⟨K, KX, Hs, K59.at_law KX G hmg c⟩

