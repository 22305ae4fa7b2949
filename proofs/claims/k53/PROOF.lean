import PyProof.Rows.All
import Wide.All
import OpenK.AllK
import Wide.FinOn
import PyProof.EqAt
import PyProof.EqKinds
import PyProof.TupleCall
import HandS.ForMost
import HandS.ForExc
import HandS.Flow
import HandS.Wide
import HandS.TupAny
import HandS.AnyAll
import HandS.SetKeys
import HandS.Lambda
import HandS.IsInst
import HandS.Deep
import HandS.Text
import HandS.More
import HandS.SetFor
import HandS.GenList
import HandS.Defaults
import HandS.HeadHook4
import HandS.WordsExc
import HandS.ExcOwn
import HandS.SetBool
import HandS.Iter
import KE.GoesMore
import HandS.Sort
import KE.SortData
import PyProof.ReprRoads
import HandS.MakeKwOnly
import HandS.Dict
import HandS.DictComp
import HandS.Small
import HandS.Gcd
import HandS.SortKw
import KE.DataMinMax
import PyProof.Rows.SortWalkRead
import HandS.ExcIs
import HandS.HeadEnd
import PyProof.StrBlock2
import HandS.Style
import HandS.WideBits
import KE.SortKeyHeap
import KE.KLam
import KE.KSortKey
import HandS.Exc
import HandS.EndTab
import HandS.HeadWalk
import HandS.Rev
import KE.KDictZip
import KE.GoesZip
import HandS.Conv
import HandS.Zip
import HandS.List
import KE.KDictPairs
import PyProof.ListStr
import PyProof.ReprLen
import HandS.Strs
import PyProof.Rows.SortShellAny
import HandS.Nested
import HandS.Zip0
import HandS.TupMul
import PyProof.Rows.StrMeet
import PyProof.Rows.TmSorted
import KE.KStateDown
import HandS.Head0
import HandS.Head1
import HandS.Head2
import HandS.HeadHook1
import HandS.HeadHook2
import HandS.HeadHook3
import HandS.Head3
import PySem.Challenge.RW_slideback_k53_papers_of_never
section
set_option Elab.async false
set_option linter.all false
set_option maxRecDepth 100000
namespace Sb
open PySem PySem.Spec PyProof.Rows L2

/-! ## data, store, outcome -/
inductive D where
  | non | bl (b : Bool) | int (i : Int) | str (x : Str) | tup (ds : List D) | loc (n : Nat) | scr (ns : List Int) | fl (ds : List D) | exn (c : Addr) | fd (ks : List Key) (ds : List D) | rgo (lo hi : Int) | ntu (ds : List D)
  deriving Inhabited
inductive Ob where
  | lst (ds : List D) | dct (kvs : List (Key × D)) | ks (s : Key → Bool) (n : Nat)
  deriving Inhabited
abbrev Sto := List Ob
structure Exn where
  cls : Addr
  fs : Option (List (Str × V))
inductive Rs (α : Type) where
  | ok (a : α) (S : Sto)
  | ex (x : Exn) (S : Sto)
abbrev M (α : Type) := Sto → Option (Rs α)
def M.ret {α : Type} (a : α) : M α := fun S => some (.ok a S)
def M.bnd {α β : Type} (m : M α) (k : α → M β) : M β := fun S => match m S with
  | none => none
  | some (.ex x S1) => some (.ex x S1)
  | some (.ok a S1) => k a S1

/-! ## how data lie in the heap -/
/-- the written part, the tables of code objects that may grow -/
structure Tb where
  P : Program
  w : World
  K : PySem.W.Frag
  tabs : List Addr
  lams : List (Addr × Str)
/-- the script, an object that stands -/
def Scr (T : Tb) (H : Hp) (a : Addr) (ns : List Int) : Prop := (∃ o, H a = some (.frz o (.lst (ns.map V.int)))) ∨
  ∃ (o : Obj) (its : Array Value) (n : Nat), T.K.lookup a = some o ∧ o.cls = .type "list" ∧ o.dict = none ∧ o.data = .seq its n ∧ its.size ≤ sizeLine ∧ Vals (ns.map V.int) its.toList
theorem Scr.seq {T : Tb} {H : Hp} {a : Addr} {ns : List Int} (h : Scr T H a ns) : SqL T.K H a (ns.map V.int) := by
  rcases h with ⟨o, h⟩ | h
  · exact .inl (.inr ⟨o, h⟩)
  · exact .inr h
mutual
def RD (T : Tb) (H : Hp) (φ : List Addr) : D → V → Prop
  | .non, v => v = .non
  | .bl b, v => v = .bl b
  | .int i, v => v = .int i
  | .str x, v => v = .str x
  | .tup ds, v => ∃ a vs, v = .ref a ∧ Rd H a (.tup vs) ∧ RDs T H φ ds vs
  | .loc n, v => ∃ a, v = .ref a ∧ φ[n]? = some a
  | .scr ns, v => ∃ a, v = .ref a ∧ Scr T H a ns
  | .fl ds, v => ∃ a vs, v = .ref a ∧ a ∉ φ ∧ H a = some (.lst vs) ∧ RDs T H φ ds vs
  | .exn c, v => ∃ (a : Addr) (oe : Obj) (vs : Array Value), v = .ref a ∧ H a = some (.frz oe (.own a)) ∧ oe.cls = .ref c ∧ oe.dict = none ∧ oe.data = .fields vs
  | .fd ks ds, v => ∃ a ws, v = .ref a ∧ a ∉ φ ∧ Rd H a (.dK ws) ∧ ws.map (·.1) = ks ∧ RDs T H φ ds (ws.map (·.2))
  | .rgo lo hi, v => ∃ (a : Addr) (o : Obj), v = .ref a ∧ H a = some (.frz o (.rng lo hi))
  | .ntu ds, v => ∃ (a : Addr) (vs : List V) (o : Obj), v = .ref a ∧ H a = some (.frz o (.tup vs)) ∧ o.dict = none ∧ RDs T H φ ds vs
def RDs (T : Tb) (H : Hp) (φ : List Addr) : List D → List V → Prop
  | [], vs => vs = []
  | d :: ds, vs => ∃ v r, vs = v :: r ∧ RD T H φ d v ∧ RDs T H φ ds r
end
def RO (T : Tb) (H : Hp) (φ : List Addr) (a : Addr) : Ob → Prop
  | .lst ds => ∃ vs, H a = some (.lst vs) ∧ RDs T H φ ds vs
  | .dct kvs => ∃ ws, H a = some (.dK ws) ∧ ws.map (·.1) = kvs.map (·.1) ∧ RDs T H φ (kvs.map (·.2)) (ws.map (·.2))
  | .ks s n => H a = some (SetK T.P T.w a s n)
/-- the table of a def whose lambda alone is in it: its code objects bear the name q -/
def LamT (H : Hp) (P : Addr) (q : Str) : Prop := ∃ ps : Array Value, H P = some (.tbl ps) ∧ TriplesOk ps.toList ∧
  ∀ (pos : Pos) (cv : Value), codeAmong pos ps.toList = some cv → ∃ (c : Addr) (oc : Obj) (vs : Array Value) (t : Tok), cv = .ref c ∧ H c = some (.frz oc (.own c)) ∧ oc.data = .fields vs ∧ vs[1]? = some (.str q t)
/-- the store lies in the heap at φ; the tables at T stand -/
structure Rel (T : Tb) (φ : List Addr) (S : Sto) (H : Hp) : Prop where
  len : φ.length = S.length
  nd : φ.Nodup
  obj : ∀ (n : Nat) o a, S[n]? = some o → φ[n]? = some a → RO T H φ a o
  tab : ∀ p ∈ T.tabs, GxR.TabG H p
  lam : ∀ p ∈ T.lams, p.1 ∉ T.tabs ∧ LamT H p.1 p.2
structure Ext (φ : List Addr) (H : Hp) (φ' : List Addr) (H' : Hp) : Prop where
  pre : ∃ ψ, φ' = φ ++ ψ
  tup : ∀ a vs, H a = some (.tup vs) → H' a = some (.tup vs)
  frz : ∀ a o u, H a = some (.frz o u) → H' a = some (.frz o u)
  lst : ∀ a vs, a ∉ φ → H a = some (.lst vs) → H' a = some (.lst vs)
  dic : ∀ a ws, a ∉ φ → H a = some (.dK ws) → Rd H' a (.dK ws)
  nw : ∀ a, a ∈ φ' → a ∈ φ ∨ H a = none
  ded : ∀ a, H' a = none → H a = none
theorem Ext.refl {φ : List Addr} {H : Hp} : Ext φ H φ H := ⟨⟨[], by simp⟩, fun _ _ h => h, fun _ _ _ h => h, fun _ _ _ h => h, fun _ _ _ h => .inl h, fun _ h => .inl h, fun _ h => h⟩
theorem Ext.out {φ : List Addr} {H : Hp} {φ' : List Addr} {H' : Hp} (e : Ext φ H φ' H') {a : Addr} {u : HO} (ha : a ∉ φ) (h : H a = some u) : a ∉ φ' := fun z => (e.nw a z).elim ha fun q => by rw [h] at q; cases q
theorem Ext.trans {φ φ1 φ2 : List Addr} {H H1 H2 : Hp} (a : Ext φ H φ1 H1) (b : Ext φ1 H1 φ2 H2) : Ext φ H φ2 H2 := by
  have a0 := a
  obtain ⟨⟨x, rfl⟩, t1, f1, l1, k1, n1, d1⟩ := a
  obtain ⟨⟨y, rfl⟩, t2, f2, l2, k2, n2, d2⟩ := b
  exact ⟨⟨x ++ y, by simp⟩, fun p vs h => t2 p vs (t1 p vs h), fun p o u h => f2 p o u (f1 p o u h), fun p vs ha h => l2 p vs (a0.out ha h) (l1 p vs ha h), fun p ws ha h => (k1 p ws ha h).elim (fun z => k2 p ws (fun y => (n1 p y).elim ha fun q => by rw [h] at q; cases q) z) fun ⟨o, z⟩ => .inr ⟨o, f2 _ _ _ z⟩,
    fun p h => (n2 p h).elim (n1 p) fun q => .inr (d1 p q), fun p h => d1 p (d2 p h)⟩
theorem Ext.get {φ φ1 : List Addr} {H H1 : Hp} (e : Ext φ H φ1 H1) {n : Nat} {a : Addr} (h : φ[n]? = some a) : φ1[n]? = some a := by
  obtain ⟨⟨x, rfl⟩, _⟩ := e
  rw [List.getElem?_append_left (List.getElem?_eq_some_iff.mp h).1]
  exact h
theorem Ext.rdT {φ φ1 : List Addr} {H H1 : Hp} (e : Ext φ H φ1 H1) {a : Addr} {vs : List V} (h : Rd H a (.tup vs)) : Rd H1 a (.tup vs) := h.elim (fun h => .inl (e.tup a vs h)) fun ⟨o, h⟩ => .inr ⟨o, e.frz _ _ _ h⟩
mutual
theorem RD.ext {T : Tb} {φ φ1 : List Addr} {H H1 : Hp} (e : Ext φ H φ1 H1) : ∀ (d : D) (v : V), RD T H φ d v → RD T H1 φ1 d v
  | .non, v, h => h
  | .bl b, v, h => h
  | .int i, v, h => h
  | .str x, v, h => h
  | .tup ds, v, h => by
    obtain ⟨a, vs, e1, e2, e3⟩ := h
    exact ⟨a, vs, e1, e.rdT e2, RDs.ext e ds vs e3⟩
  | .loc n, v, h => by
    obtain ⟨a, e1, e2⟩ := h
    exact ⟨a, e1, e.get e2⟩
  | .scr ns, v, h => by
    obtain ⟨a, e1, e2⟩ := h
    exact ⟨a, e1, e2.imp (fun ⟨o, z⟩ => ⟨o, e.frz _ _ _ z⟩) id⟩
  | .fl ds, v, h => by
    obtain ⟨a, vs, e1, e2, e3, e4⟩ := h
    exact ⟨a, vs, e1, e.out e2 e3, e.lst a vs e2 e3, RDs.ext e ds vs e4⟩
  | .exn c, v, h => by
    obtain ⟨a, oe, vs, e1, e2, e3⟩ := h
    exact ⟨a, oe, vs, e1, e.frz _ _ _ e2, e3⟩
  | .fd ks ds, v, h => by
    obtain ⟨a, ws, e1, e2, e3, e4, e5⟩ := h
    refine ⟨a, ws, e1, ?_, ?_, e4, RDs.ext e ds _ e5⟩
    · rcases e3 with e3 | ⟨o, e3⟩
      · exact e.out e2 e3
      · exact e.out e2 e3
    · rcases e3 with e3 | ⟨o, e3⟩
      · exact e.dic a ws e2 e3
      · exact .inr ⟨o, e.frz _ _ _ e3⟩
  | .rgo lo hi, v, h => by
    obtain ⟨a, o, e1, e2⟩ := h
    exact ⟨a, o, e1, e.frz _ _ _ e2⟩
  | .ntu ds, v, h => by
    obtain ⟨a, vs, o, e1, e2, e3, e4⟩ := h
    exact ⟨a, vs, o, e1, e.frz _ _ _ e2, e3, RDs.ext e ds vs e4⟩
theorem RDs.ext {T : Tb} {φ φ1 : List Addr} {H H1 : Hp} (e : Ext φ H φ1 H1) : ∀ (ds : List D) (vs : List V), RDs T H φ ds vs → RDs T H1 φ1 ds vs
  | [], vs, h => h
  | d :: ds, vs, h => by
    obtain ⟨v, r, e1, e2, e3⟩ := h
    exact ⟨v, r, e1, RD.ext e d v e2, RDs.ext e ds r e3⟩
end
section
variable {T : Tb} {H : Hp} {φ : List Addr}
theorem RDs.length : ∀ {ds : List D} {vs : List V}, RDs T H φ ds vs → ds.length = vs.length
  | [], _, h => by cases h; rfl
  | d :: ds, _, h => by
    obtain ⟨v, r, rfl, _, h3⟩ := h
    simp [RDs.length h3]
theorem RDs.get : ∀ {ds : List D} {vs : List V} {i : Nat} {d : D}, RDs T H φ ds vs → ds[i]? = some d → ∃ v, vs[i]? = some v ∧ RD T H φ d v
  | [], _, i, d, h, e => by simp at e
  | d0 :: ds, _, 0, d, h, e => by
    obtain ⟨v, r, rfl, h2, h3⟩ := h
    simp at e; subst e
    exact ⟨v, by simp, h2⟩
  | d0 :: ds, _, i + 1, d, h, e => by
    obtain ⟨v, r, rfl, h2, h3⟩ := h
    obtain ⟨w, e1, e2⟩ := RDs.get (i := i) (d := d) h3 (by simpa using e)
    exact ⟨w, by simpa using e1, e2⟩
theorem RDs.app : ∀ {ds es : List D} {vs ws : List V}, RDs T H φ ds vs → RDs T H φ es ws → RDs T H φ (ds ++ es) (vs ++ ws)
  | [], es, vs, ws, h, h2 => by cases h; exact h2
  | d :: ds, es, vs, ws, h, h2 => by
    obtain ⟨v, r, rfl, e2, e3⟩ := h
    exact ⟨v, r ++ ws, rfl, e2, RDs.app e3 h2⟩
theorem RDs.one {d : D} {v : V} (h : RD T H φ d v) : RDs T H φ [d] [v] := ⟨v, [], rfl, h, rfl⟩
theorem RDs.take : ∀ {ds : List D} {vs : List V} (n : Nat), RDs T H φ ds vs → RDs T H φ (ds.take n) (vs.take n)
  | _, _, 0, h => by simp; rfl
  | [], _, n + 1, h => by cases h; simp; rfl
  | d :: ds, _, n + 1, h => by
    obtain ⟨v, r, rfl, h2, h3⟩ := h
    exact ⟨v, r.take n, by simp, h2, RDs.take n h3⟩
theorem RDs.drop : ∀ {ds : List D} {vs : List V} (n : Nat), RDs T H φ ds vs → RDs T H φ (ds.drop n) (vs.drop n)
  | _, _, 0, h => h
  | [], _, n + 1, h => by cases h; simp; rfl
  | d :: ds, _, n + 1, h => by
    obtain ⟨v, r, rfl, h2, h3⟩ := h
    exact RDs.drop n h3
theorem RDs.rev : ∀ {ds : List D} {vs : List V}, RDs T H φ ds vs → RDs T H φ ds.reverse vs.reverse
  | [], _, h => by cases h; simp; rfl
  | d :: ds, _, h => by
    obtain ⟨v, r, rfl, h2, h3⟩ := h
    simp only [List.reverse_cons]
    exact (RDs.rev h3).app (RDs.one h2)
theorem RDs.set : ∀ {ds : List D} {vs : List V} {d : D} {v : V} (i : Nat), RDs T H φ ds vs → RD T H φ d v → RDs T H φ (ds.set i d) (vs.set i v)
  | [], _, _, _, _, h, _ => by cases h; simp; rfl
  | d0 :: ds, _, d, v, 0, h, hd => by
    obtain ⟨w, r, rfl, h2, h3⟩ := h
    exact ⟨v, r, rfl, hd, h3⟩
  | d0 :: ds, _, d, v, i + 1, h, hd => by
    obtain ⟨w, r, rfl, h2, h3⟩ := h
    exact ⟨w, r.set i v, rfl, h2, RDs.set i h3 hd⟩
theorem RDs.eraseIdx : ∀ {ds : List D} {vs : List V} (i : Nat), RDs T H φ ds vs → RDs T H φ (ds.eraseIdx i) (vs.eraseIdx i)
  | [], _, i, h => by cases h; simp; rfl
  | d0 :: ds, _, 0, h => by
    obtain ⟨w, r, rfl, h2, h3⟩ := h
    exact h3
  | d0 :: ds, _, i + 1, h => by
    obtain ⟨w, r, rfl, h2, h3⟩ := h
    exact ⟨w, r.eraseIdx i, rfl, h2, RDs.eraseIdx i h3⟩
end
theorem RO.ext {T : Tb} {φ φ1 : List Addr} {H H1 : Hp} (e : Ext φ H φ1 H1) {a : Addr} (k : H1 a = H a) : ∀ {o : Ob}, RO T H φ a o → RO T H1 φ1 a o
  | .lst ds, ⟨vs, h, r⟩ => ⟨vs, k.trans h, r.ext e _ _⟩
  | .dct kvs, ⟨ws, h, q, r⟩ => ⟨ws, k.trans h, q, r.ext e _ _⟩
  | .ks s n, h => k.trans h
theorem RO.some {T : Tb} {H : Hp} {φ : List Addr} {a : Addr} : ∀ {o : Ob}, RO T H φ a o → ∃ u, H a = some u ∧ (∀ vs, u ≠ .tup vs) ∧ (∀ ps, u ≠ .tbl ps) ∧ ∀ o w, u ≠ .frz o w
  | .lst ds, ⟨vs, h, _⟩ => ⟨_, h, (fun _ z => by cases z), (fun _ z => by cases z), fun _ _ z => by cases z⟩
  | .dct kvs, ⟨ws, h, _, _⟩ => ⟨_, h, (fun _ z => by cases z), (fun _ z => by cases z), fun _ _ z => by cases z⟩
  | .ks s n, h => ⟨_, h, (fun _ z => by cases z), (fun _ z => by cases z), fun _ _ z => by cases z⟩
theorem upd_dead {H : Hp} {p a : Addr} {u : HO} (h : upd H p u a = none) : H a = none := by
  by_cases q : a = p
  · subst q; rw [upd_same] at h; cases h
  · rw [upd_ne q] at h; exact h
theorem Ext.fresh {φ : List Addr} {H : Hp} {p : Addr} {u : HO} (n : H p = none) : Ext φ H φ (upd H p u) :=
  ⟨⟨[], by simp⟩, fun a vs h => by rw [upd_ne (ne_of_none h n)]; exact h, fun a o w h => by rw [upd_ne (ne_of_none h n)]; exact h, fun a vs _ h => by rw [upd_ne (ne_of_none h n)]; exact h, fun a vs _ h => .inl (by rw [upd_ne (ne_of_none h n)]; exact h), fun _ h => .inl h, fun _ h => upd_dead h⟩
theorem Ext.freshL {φ : List Addr} {H : Hp} {p : Addr} {u : HO} (n : H p = none) : Ext φ H (φ ++ [p]) (upd H p u) :=
  ⟨⟨[p], rfl⟩, fun a vs h => by rw [upd_ne (ne_of_none h n)]; exact h, fun a o w h => by rw [upd_ne (ne_of_none h n)]; exact h, fun a vs _ h => by rw [upd_ne (ne_of_none h n)]; exact h, fun a vs _ h => .inl (by rw [upd_ne (ne_of_none h n)]; exact h),
    fun a h => (List.mem_append.mp h).imp id fun q => by simp at q; subst q; exact n, fun _ h => upd_dead h⟩
theorem LamT.ext {φ φ1 : List Addr} {H H1 : Hp} (e : Ext φ H φ1 H1) {P : Addr} {q : Str} (t : LamT H P q) (k : ∀ ps, H P = some (.tbl ps) → H1 P = some (.tbl ps)) : LamT H1 P q := by
  obtain ⟨ps, h1, h2, h3⟩ := t
  refine ⟨ps, k ps h1, h2, fun pos cv hc => ?_⟩
  obtain ⟨c, oc, vs, t, e1, e2, e3⟩ := h3 pos cv hc
  exact ⟨c, oc, vs, t, e1, e.frz _ _ _ e2, e3⟩
/-- a new object that the store does not see -/
theorem Rel.garb {T : Tb} {φ : List Addr} {S : Sto} {H : Hp} {p : Addr} {u : HO} (R : Rel T φ S H) (n : H p = none) : Rel T φ S (upd H p u) ∧ Ext φ H φ (upd H p u) := by
  have e : Ext φ H φ (upd H p u) := Ext.fresh n
  refine ⟨⟨R.len, R.nd, fun i o a h1 h2 => ?_, fun q hq => ?_, fun q hq => ⟨(R.lam q hq).1, (R.lam q hq).2.ext e fun ps h => by rw [upd_ne (ne_of_none h n)]; exact h⟩⟩, e⟩
  · have r := R.obj i o a h1 h2
    obtain ⟨w, hw, _⟩ := r.some
    exact r.ext e (upd_ne (ne_of_none hw n))
  · obtain ⟨ps, h, t⟩ := R.tab q hq
    exact ⟨ps, by rw [upd_ne (ne_of_none h n)]; exact h, t⟩
theorem Rel.notin {T : Tb} {φ : List Addr} {S : Sto} {H : Hp} {p : Addr} (R : Rel T φ S H) (n : H p = none) : p ∉ φ := fun hm => by
  obtain ⟨i, hi, rfl⟩ := List.getElem_of_mem hm
  have hs : i < S.length := by rw [← R.len]; exact hi
  obtain ⟨w, hw, _⟩ := (R.obj i _ _ (List.getElem?_eq_getElem hs) (List.getElem?_eq_getElem hi)).some
  rw [n] at hw; cases hw
/-- a new object of the store -/
theorem Rel.new {T : Tb} {φ : List Addr} {S : Sto} {H : Hp} {p : Addr} {u : HO} {o : Ob} (R : Rel T φ S H) (n : H p = none) (ho : RO T (upd H p u) (φ ++ [p]) p o) : Rel T (φ ++ [p]) (S ++ [o]) (upd H p u) ∧ Ext φ H (φ ++ [p]) (upd H p u) := by
  have e : Ext φ H (φ ++ [p]) (upd H p u) := Ext.freshL n
  have hp : p ∉ φ := fun hm => by
    obtain ⟨i, hi, rfl⟩ := List.getElem_of_mem hm
    have hs : i < S.length := by rw [← R.len]; exact hi
    obtain ⟨w, hw, _⟩ := (R.obj i _ _ (List.getElem?_eq_getElem hs) (List.getElem?_eq_getElem hi)).some
    rw [n] at hw; cases hw
  refine ⟨⟨by simp [R.len], ?_, fun i q a h1 h2 => ?_, fun q hq => ?_, fun q hq => ⟨(R.lam q hq).1, (R.lam q hq).2.ext e fun ps h => by rw [upd_ne (ne_of_none h n)]; exact h⟩⟩, e⟩
  · rw [List.nodup_append]
    exact ⟨R.nd, by simp, fun a ha b hb => by simp at hb; subst hb; exact fun z => hp (z ▸ ha)⟩
  · by_cases hi : i < S.length
    · rw [List.getElem?_append_left hi] at h1
      rw [List.getElem?_append_left (by rw [R.len]; exact hi)] at h2
      have r := R.obj i q a h1 h2
      obtain ⟨w, hw, _⟩ := r.some
      exact r.ext e (upd_ne (ne_of_none hw n))
    · have hl : i < (S ++ [o]).length := (List.getElem?_eq_some_iff.mp h1).1
      simp at hl
      have : i = S.length := by omega
      subst this
      simp at h1
      rw [← R.len] at h2
      simp at h2
      subst h1 h2
      exact ho
  · obtain ⟨ps, h, t⟩ := R.tab q hq
    exact ⟨ps, by rw [upd_ne (ne_of_none h n)]; exact h, t⟩
/-- an object of the store is written -/
theorem Rel.put {T : Tb} {φ : List Addr} {S : Sto} {H : Hp} {i : Nat} {a : Addr} {u : HO} {o : Ob} (R : Rel T φ S H) (hi : φ[i]? = some a) (hs : i < S.length) (ho : RO T (upd H a u) φ a o) :
    Rel T φ (S.set i o) (upd H a u) ∧ Ext φ H φ (upd H a u) := by
  obtain ⟨z, hz, hz1, hz2, hz3⟩ := (R.obj i _ _ (List.getElem?_eq_getElem hs) hi).some
  have e : Ext φ H φ (upd H a u) := ⟨⟨[], by simp⟩, fun b vs h => by
    by_cases hb : b = a
    · subst hb; rw [hz] at h; cases h; exact absurd rfl (hz1 vs)
    · rw [upd_ne hb]; exact h, fun b o' w h => by
    by_cases hb : b = a
    · subst hb; rw [hz] at h; cases h; exact absurd rfl (hz3 _ _)
    · rw [upd_ne hb]; exact h, fun b vs nb h => by rw [upd_ne fun q : b = a => nb (q ▸ List.mem_of_getElem? hi)]; exact h, fun b vs nb h => .inl (by rw [upd_ne fun q : b = a => nb (q ▸ List.mem_of_getElem? hi)]; exact h), fun _ h => .inl h, fun _ h => upd_dead h⟩
  refine ⟨⟨by simp [R.len], R.nd, fun j q b h1 h2 => ?_, fun q hq => ?_, fun q hq => ⟨(R.lam q hq).1, (R.lam q hq).2.ext e fun ps h => by rw [upd_ne fun y : q.1 = a => by rw [y, hz] at h; cases h; exact hz2 ps rfl]; exact h⟩⟩, e⟩
  · by_cases hj : j = i
    · subst hj
      rw [List.getElem?_set_self hs] at h1
      cases h1
      rw [hi] at h2; cases h2
      exact ho
    · rw [List.getElem?_set_ne (Ne.symm hj)] at h1
      have r := R.obj j q b h1 h2
      refine r.ext e (upd_ne fun z => ?_)
      subst z
      obtain ⟨l1, e1⟩ := List.getElem?_eq_some_iff.mp hi
      obtain ⟨l2, e2⟩ := List.getElem?_eq_some_iff.mp h2
      exact hj ((List.getElem_inj R.nd).mp (e2.trans e1.symm))
  · obtain ⟨ps, h, t⟩ := R.tab q hq
    have : q ≠ a := fun z => by
      subst z
      rw [hz] at h; cases h
      exact hz2 ps rfl
    exact ⟨ps, by rw [upd_ne this]; exact h, t⟩

/-! ## slots -/
abbrev Sl := List (Option D)
structure RSl (T : Tb) (H : Hp) (φ : List Addr) (τ : Sl) (σ : L2.St) : Prop where
  len : τ.length = σ.length
  at_ : ∀ (i : Nat) (d : D), τ[i]? = some (some d) → ∃ v, σ[i]? = some (some v) ∧ RD T H φ d v
theorem RSl.ext {T : Tb} {φ φ1 : List Addr} {H H1 : Hp} (e : Ext φ H φ1 H1) {τ : Sl} {σ : L2.St} (r : RSl T H φ τ σ) : RSl T H1 φ1 τ σ := ⟨r.len, fun i d h => by
  obtain ⟨v, h1, h2⟩ := r.at_ i d h
  exact ⟨v, h1, h2.ext e _ _⟩⟩
theorem RSl.set {T : Tb} {φ : List Addr} {H : Hp} {τ : Sl} {σ : L2.St} {d : D} {v : V} (r : RSl T H φ τ σ) (i : Nat) (h : RD T H φ d v) : RSl T H φ (τ.set i (some d)) (σ.set i (some v)) := by
  refine ⟨by simp [r.len], fun j e hj => ?_⟩
  by_cases hij : i = j
  · subst hij
    have hl : i < τ.length := by
      have := (List.getElem?_eq_some_iff.mp hj).1
      simpa using this
    rw [List.getElem?_set_self hl] at hj
    cases hj
    exact ⟨v, by rw [List.getElem?_set_self (by rw [← r.len]; exact hl)], h⟩
  · rw [List.getElem?_set_ne hij] at hj
    obtain ⟨w, h1, h2⟩ := r.at_ j e hj
    exact ⟨w, by rw [List.getElem?_set_ne hij]; exact h1, h2⟩

/-! ## readings -/
def RX (x : Exn) (d : Option Addr) (H : Hp) : Prop := match x.fs with
  | none => d = none
  | some l => ∃ a, d = some a ∧ H a = some (.xd l)
/-- what is wanted of an outcome -/
def EndE (T : Tb) (φ : List Addr) (H : Hp) (o : Rs D) (Q : VK) (W : XK) : Prop := match o with
  | .ok d S' => ∀ φ' H' v, Ext φ H φ' H' → Rel T φ' S' H' → RD T H' φ' d v → Q v H'
  | .ex x S' => ∀ φ' H' d, Ext φ H φ' H' → Rel T φ' S' H' → RX x d H' → W (.ref x.cls) d H'
def EndEs (T : Tb) (φ : List Addr) (H : Hp) (o : Rs (List D)) (Q : List V → Hp → Prop) (W : XK) : Prop := match o with
  | .ok ds S' => ∀ φ' H' vs, Ext φ H φ' H' → Rel T φ' S' H' → RDs T H' φ' ds vs → Q vs H'
  | .ex x S' => ∀ φ' H' d, Ext φ H φ' H' → Rel T φ' S' H' → RX x d H' → W (.ref x.cls) d H'
def EndB (T : Tb) (φ : List Addr) (H : Hp) (o : Rs Bool) (Q : Bool → Hp → Prop) (W : XK) : Prop := match o with
  | .ok b S' => ∀ φ' H', Ext φ H φ' H' → Rel T φ' S' H' → Q b H'
  | .ex x S' => ∀ φ' H' d, Ext φ H φ' H' → Rel T φ' S' H' → RX x d H' → W (.ref x.cls) d H'
theorem EndE.mono {T : Tb} {φ φ1 : List Addr} {H H1 : Hp} {o : Rs D} {Q : VK} {W : XK} (h : EndE T φ H o Q W) (e : Ext φ H φ1 H1) : EndE T φ1 H1 o Q W := by
  cases o with
  | ok d S => exact fun φ' H' v e' => h φ' H' v (e.trans e')
  | ex x S => exact fun φ' H' v e' => h φ' H' v (e.trans e')
theorem EndEs.mono {T : Tb} {φ φ1 : List Addr} {H H1 : Hp} {o : Rs (List D)} {Q : List V → Hp → Prop} {W : XK} (h : EndEs T φ H o Q W) (e : Ext φ H φ1 H1) : EndEs T φ1 H1 o Q W := by
  cases o with
  | ok d S => exact fun φ' H' v e' => h φ' H' v (e.trans e')
  | ex x S => exact fun φ' H' v e' => h φ' H' v (e.trans e')
theorem EndB.mono {T : Tb} {φ φ1 : List Addr} {H H1 : Hp} {o : Rs Bool} {Q : Bool → Hp → Prop} {W : XK} (h : EndB T φ H o Q W) (e : Ext φ H φ1 H1) : EndB T φ1 H1 o Q W := by
  cases o with
  | ok d S => exact fun φ' H' e' => h φ' H' (e.trans e')
  | ex x S => exact fun φ' H' v e' => h φ' H' v (e.trans e')
abbrev EF := Sl → M D
abbrev AF := Sl → M (List D)
abbrev BF := Sl → M Bool
def rdE (T : Tb) (W : WX) (f : EF) : TE := fun σ H Q => ∃ φ S τ o, Rel T φ S H ∧ RSl T H φ τ σ ∧ f τ S = some o ∧ EndE T φ H o Q fun c d H' => W c d σ H'
def rdA (T : Tb) (W : WX) (f : AF) : TA := fun σ H Q => ∃ φ S τ o, Rel T φ S H ∧ RSl T H φ τ σ ∧ f τ S = some o ∧ EndEs T φ H o Q fun c d H' => W c d σ H'
def rdT (T : Tb) (W : WX) (f : BF) : TT := fun σ H Q => ∃ φ S τ o, Rel T φ S H ∧ RSl T H φ τ σ ∧ f τ S = some o ∧ EndB T φ H o Q fun c d H' => W c d σ H'
theorem _root_.L2.PE.imp {X : Cx} {e : Expr} {t t' : TE} (h : PE X e t) (i : ∀ σ H Q, t' σ H Q → t σ H Q) : PE X e t' := ⟨fun pins s σ H Q I hq => h.run pins s σ H Q I (i σ H Q hq)⟩
theorem _root_.L2.PT.imp {X : Cx} {e : Expr} {t t' : TT} (h : PT X e t) (i : ∀ σ H Q, t' σ H Q → t σ H Q) : PT X e t' := ⟨fun pins s σ H Q I hq => h.run pins s σ H Q I (i σ H Q hq)⟩
theorem _root_.L2.PW.imp {X : Cx} {e : Expr} {t t' : TT} (h : PW X e t) (i : ∀ σ H Q, t' σ H Q → t σ H Q) : PW X e t' := ⟨fun wh pins s σ H Q I hq => h.run wh pins s σ H Q I (i σ H Q hq)⟩
theorem _root_.L2.PA.imp {X : Cx} {e : List Expr} {t t' : TA} (h : PA X e t) (i : ∀ σ H Q, t' σ H Q → t σ H Q) : PA X e t' := ⟨fun p pins s σ H Q I hq => h.run p pins s σ H Q I (i σ H Q hq)⟩
theorem _root_.L2.PS.imp {X : Cx} {e : Stmt} {t t' : TS} (h : PS X e t) (i : ∀ D σ H, t' D σ H → t D σ H) : PS X e t' := ⟨fun pins s σ H D I hq => h.run pins s σ H D I (i D σ H hq)⟩
theorem _root_.L2.PSs.imp {X : Cx} {e : List Stmt} {t t' : TS} (h : PSs X e t) (i : ∀ D σ H, t' D σ H → t D σ H) : PSs X e t' := ⟨fun pins s σ H D I hq => h.run pins s σ H D I (i D σ H hq)⟩

/-- the state behind a part -/
def At (T : Tb) (φ : List Addr) (H : Hp) (d : D) (S : Sto) (v : V) (H1 : Hp) (φ1 : List Addr) : Prop := Ext φ H φ1 H1 ∧ Rel T φ1 S H1 ∧ RD T H1 φ1 d v
theorem rdE_bnd {T : Tb} {W : WX} {a : EF} {k : D → M D} {φ : List Addr} {S : Sto} {τ : Sl} {o : Rs D} {σ : L2.St} {H : Hp} {Q : VK} (R : Rel T φ S H) (r : RSl T H φ τ σ) (h : (a τ).bnd k S = some o) (q : EndE T φ H o Q fun c d H' => W c d σ H') {Q' : VK}
    (n : ∀ d S1 v H1 φ1, At T φ H d S1 v H1 φ1 → k d S1 = some o → EndE T φ1 H1 o Q (fun c d H' => W c d σ H') → Q' v H1) : rdE T W a σ H Q' := by
  unfold M.bnd at h
  cases e : a τ S with
  | none => rw [e] at h; cases h
  | some x =>
    rw [e] at h
    refine ⟨φ, S, τ, x, R, r, e, ?_⟩
    cases x with
    | ok d S1 => exact fun φ' H' v e1 e2 e3 => n d S1 v H' φ' ⟨e1, e2, e3⟩ h (q.mono e1)
    | ex x S1 =>
      cases h
      exact q
theorem rdA_bnd {T : Tb} {W : WX} {a : AF} {k : List D → M D} {φ : List Addr} {S : Sto} {τ : Sl} {o : Rs D} {σ : L2.St} {H : Hp} {Q : VK} (R : Rel T φ S H) (r : RSl T H φ τ σ) (h : (a τ).bnd k S = some o) (q : EndE T φ H o Q fun c d H' => W c d σ H') {Q' : List V → Hp → Prop}
    (n : ∀ d S1 v H1 φ1, Ext φ H φ1 H1 → Rel T φ1 S1 H1 → RDs T H1 φ1 d v → k d S1 = some o → EndE T φ1 H1 o Q (fun c d H' => W c d σ H') → Q' v H1) : rdA T W a σ H Q' := by
  unfold M.bnd at h
  cases e : a τ S with
  | none => rw [e] at h; cases h
  | some x =>
    rw [e] at h
    refine ⟨φ, S, τ, x, R, r, e, ?_⟩
    cases x with
    | ok d S1 => exact fun φ' H' v e1 e2 e3 => n d S1 v H' φ' e1 e2 e3 h (q.mono e1)
    | ex x S1 =>
      cases h
      exact q
theorem rdT_bnd {T : Tb} {W : WX} {a : BF} {k : Bool → M D} {φ : List Addr} {S : Sto} {τ : Sl} {o : Rs D} {σ : L2.St} {H : Hp} {Q : VK} (R : Rel T φ S H) (r : RSl T H φ τ σ) (h : (a τ).bnd k S = some o) (q : EndE T φ H o Q fun c d H' => W c d σ H') {Q' : Bool → Hp → Prop}
    (n : ∀ d S1 H1 φ1, Ext φ H φ1 H1 → Rel T φ1 S1 H1 → k d S1 = some o → EndE T φ1 H1 o Q (fun c d H' => W c d σ H') → Q' d H1) : rdT T W a σ H Q' := by
  unfold M.bnd at h
  cases e : a τ S with
  | none => rw [e] at h; cases h
  | some x =>
    rw [e] at h
    refine ⟨φ, S, τ, x, R, r, e, ?_⟩
    cases x with
    | ok d S1 => exact fun φ' H' e1 e2 => n d S1 H' φ' e1 e2 h (q.mono e1)
    | ex x S1 =>
      cases h
      exact q
end Sb
end
section
set_option Elab.async false
set_option linter.all false
set_option maxRecDepth 100000
namespace Sb
open PySem PySem.Spec PyProof.Rows L2
/-! ## what is told is kept apart from the store -/
mutual
/-- all places named lie below k -/
def bd (k : Nat) : D → Bool
  | .loc n => decide (n < k)
  | .tup ds => bds k ds
  | .fl ds => bds k ds
  | .fd _ ds => bds k ds
  | .ntu ds => bds k ds
  | _ => true
def bds (k : Nat) : List D → Bool
  | [] => true
  | d :: ds => bd k d && bds k ds
end
def bdO (k : Nat) : Ob → Bool
  | .lst ds => bds k ds
  | .dct kvs => bds k (kvs.map (·.2))
  | .ks _ _ => true
def wfk (k : Nat) (S : Sto) : Bool := S.all (bdO k)
/-- read out, lists and all -/
def rb (S : Sto) (k : Nat) : Nat → D → Option D
  | 0, d => if bd k d = true then some d else none
  | m + 1, d => if bd k d = true then some d else match d with
    | .tup ds => (ds.mapM (rb S k m)).map .tup
    | .fl ds => (ds.mapM (rb S k m)).map .fl
    | .fd ks ds => (ds.mapM (rb S k m)).map (.fd ks)
    | .ntu ds => (ds.mapM (rb S k m)).map .ntu
    | .loc n => match S[n]? with
      | some (.lst ds) => (ds.mapM (rb S k m)).map .fl
      | some (.dct kvs) => ((kvs.map (·.2)).mapM (rb S k m)).map (.fd (kvs.map (·.1)))
      | _ => none
    | _ => none
def fz (f : EF) : EF := fun τ S => match f τ S with
  | none => none
  | some (.ok d S1) => if wfk S.length (S1.take S.length) = true then (rb S1 S.length 8 d).map fun d' => .ok d' (S1.take S.length) else none
  | some (.ex x S1) => if wfk S.length (S1.take S.length) = true then some (.ex x (S1.take S.length)) else none
section
variable {T : Tb} {H : Hp} {φ ψ : List Addr}
mutual
theorem RD.cut : ∀ (d : D) (v : V), bd φ.length d = true → RD T H (φ ++ ψ) d v → RD T H φ d v
  | .non, v, _, h => h
  | .bl b, v, _, h => h
  | .int i, v, _, h => h
  | .str x, v, _, h => h
  | .tup ds, v, b, h => by
    obtain ⟨a, vs, e1, e2, e3⟩ := h
    exact ⟨a, vs, e1, e2, RDs.cut ds vs (by simpa [bd] using b) e3⟩
  | .loc n, v, b, h => by
    obtain ⟨a, e1, e2⟩ := h
    have hn : n < φ.length := by simpa [bd] using b
    exact ⟨a, e1, by rw [List.getElem?_append_left hn] at e2; exact e2⟩
  | .scr ns, v, _, h => h
  | .fl ds, v, b, h => by
    obtain ⟨a, vs, e1, e2, e3, e4⟩ := h
    exact ⟨a, vs, e1, fun z => e2 (List.mem_append_left _ z), e3, RDs.cut ds vs (by simpa [bd] using b) e4⟩
  | .exn c, v, _, h => h
  | .fd ks ds, v, b, h => by
    obtain ⟨a, ws, e1, e2, e3, e4, e5⟩ := h
    exact ⟨a, ws, e1, fun z => e2 (List.mem_append_left _ z), e3, e4, RDs.cut ds _ (by simpa [bd] using b) e5⟩
  | .rgo lo hi, v, _, h => h
  | .ntu ds, v, b, h => by
    obtain ⟨a, vs, o, e1, e2, e3, e4⟩ := h
    exact ⟨a, vs, o, e1, e2, e3, RDs.cut ds vs (by simpa [bd] using b) e4⟩
theorem RDs.cut : ∀ (ds : List D) (vs : List V), bds φ.length ds = true → RDs T H (φ ++ ψ) ds vs → RDs T H φ ds vs
  | [], vs, _, h => h
  | d :: ds, vs, b, h => by
    obtain ⟨v, r, e1, e2, e3⟩ := h
    simp only [bds, Bool.and_eq_true] at b
    exact ⟨v, r, e1, RD.cut d v b.1 e2, RDs.cut ds r b.2 e3⟩
end
theorem RO.cut {a : Addr} : ∀ {o : Ob}, bdO φ.length o = true → RO T H (φ ++ ψ) a o → RO T H φ a o
  | .lst ds, b, ⟨vs, h, r⟩ => ⟨vs, h, RDs.cut _ _ b r⟩
  | .dct kvs, b, ⟨ws, h, q, r⟩ => ⟨ws, h, q, RDs.cut _ _ b r⟩
  | .ks s n, _, h => h
theorem Rel.cut {S : Sto} (R : Rel T (φ ++ ψ) S H) (w : wfk φ.length (S.take φ.length) = true) : Rel T φ (S.take φ.length) H := by
  have l := R.len
  rw [List.length_append] at l
  refine ⟨by rw [List.length_take]; omega, (List.nodup_append.mp R.nd).1, fun n o a h1 h2 => ?_, R.tab, R.lam⟩
  have hn : n < φ.length := (List.getElem?_eq_some_iff.mp h2).1
  have hb : bdO φ.length o = true := List.all_eq_true.mp w o (List.mem_of_getElem? h1)
  rw [List.getElem?_take_of_lt hn] at h1
  exact RO.cut hb (R.obj n o a h1 (by rw [List.getElem?_append_left hn]; exact h2))
theorem rbs_ok {S : Sto} {m : Nat} {k : Nat} (ih : ∀ (d d' : D) (v : V), rb S k m d = some d' → RD T H (φ ++ ψ) d v → RD T H φ d' v) : ∀ (ds ds' : List D) (vs : List V), ds.mapM (rb S k m) = some ds' → RDs T H (φ ++ ψ) ds vs → RDs T H φ ds' vs
  | [], ds', vs, e, h => by
    simp at e; subst e
    exact h
  | d :: ds, ds', vs, e, h => by
    obtain ⟨v, r, rfl, h1, h2⟩ := h
    rw [List.mapM_cons] at e
    simp only [Option.bind_eq_bind, Option.bind_eq_some_iff, Option.pure_def, Option.some.injEq] at e
    obtain ⟨p, e1, qs, e2, rfl⟩ := e
    exact ⟨v, r, rfl, ih d p v e1 h1, rbs_ok ih ds qs r e2 h2⟩
theorem rb_ok {S : Sto} (R : Rel T (φ ++ ψ) S H) : ∀ (m : Nat) (d d' : D) (v : V), rb S φ.length m d = some d' → RD T H (φ ++ ψ) d v → RD T H φ d' v
  | 0, d, d', v, e, h => by
    simp only [rb] at e
    split at e
    · rename_i b; cases e; exact RD.cut d v b h
    · cases e
  | m + 1, d, d', v, e, h => by
    unfold rb at e
    split at e
    · rename_i b; cases e; exact RD.cut d v b h
    · rename_i nb
      cases d with
      | tup ds =>
        simp only [Option.map_eq_some_iff] at e
        obtain ⟨ds', e1, rfl⟩ := e
        obtain ⟨a, vs, h1, h2, h3⟩ := h
        exact ⟨a, vs, h1, h2, rbs_ok (rb_ok R m) ds ds' vs e1 h3⟩
      | fl ds =>
        simp only [Option.map_eq_some_iff] at e
        obtain ⟨ds', e1, rfl⟩ := e
        obtain ⟨a, vs, h1, h2, h3, h4⟩ := h
        exact ⟨a, vs, h1, fun z => h2 (List.mem_append_left _ z), h3, rbs_ok (rb_ok R m) ds ds' vs e1 h4⟩
      | fd ks ds =>
        simp only [Option.map_eq_some_iff] at e
        obtain ⟨ds', e1, rfl⟩ := e
        obtain ⟨a, ws, h1, h2, h3, h4, h5⟩ := h
        exact ⟨a, ws, h1, fun z => h2 (List.mem_append_left _ z), h3, h4, rbs_ok (rb_ok R m) ds ds' _ e1 h5⟩
      | ntu ds =>
        simp only [Option.map_eq_some_iff] at e
        obtain ⟨ds', e1, rfl⟩ := e
        obtain ⟨a, vs, o, h1, h2, h3, h4⟩ := h
        exact ⟨a, vs, o, h1, h2, h3, rbs_ok (rb_ok R m) ds ds' vs e1 h4⟩
      | loc n =>
        obtain ⟨a, h1, h2⟩ := h
        simp only at e
        split at e
        · rename_i ds q
          simp only [Option.map_eq_some_iff] at e
          obtain ⟨ds', e1, rfl⟩ := e
          obtain ⟨vs, h3, h4⟩ := R.obj n _ a q h2
          refine ⟨a, vs, h1, fun z => nb ?_, h3, rbs_ok (rb_ok R m) ds ds' vs e1 h4⟩
          obtain ⟨i, hi, ei⟩ := List.getElem_of_mem z
          obtain ⟨hn, en⟩ := List.getElem?_eq_some_iff.mp h2
          have hi' : i < (φ ++ ψ).length := by rw [List.length_append]; omega
          have ei' : (φ ++ ψ)[i] = a := by rw [List.getElem_append_left hi]; exact ei
          have : i = n := (List.getElem_inj R.nd).mp (ei'.trans en.symm)
          subst this
          simp only [bd, decide_eq_true_eq]; exact hi
        · rename_i kvs q
          simp only [Option.map_eq_some_iff] at e
          obtain ⟨ds', e1, rfl⟩ := e
          obtain ⟨ws, h3, hk, h4⟩ := R.obj n _ a q h2
          refine ⟨a, ws, h1, fun z => nb ?_, .inl h3, hk, rbs_ok (rb_ok R m) _ ds' _ e1 h4⟩
          obtain ⟨i, hi, ei⟩ := List.getElem_of_mem z
          obtain ⟨hn, en⟩ := List.getElem?_eq_some_iff.mp h2
          have hi' : i < (φ ++ ψ).length := by rw [List.length_append]; omega
          have ei' : (φ ++ ψ)[i] = a := by rw [List.getElem_append_left hi]; exact ei
          have : i = n := (List.getElem_inj R.nd).mp (ei'.trans en.symm)
          subst this
          simp only [bd, decide_eq_true_eq]; exact hi
        · cases e
      | _ => cases e
end
theorem Ext.cut {φ φ' : List Addr} {H H' : Hp} (e : Ext φ H φ' H') : Ext φ H φ H' := ⟨⟨[], by simp⟩, e.tup, e.frz, e.lst, e.dic, fun _ h => .inl h, e.ded⟩
theorem fz_imp {T : Tb} {W : WX} {f : EF} {σ : L2.St} {H : Hp} {Q : VK} (h : rdE T W (fz f) σ H Q) : rdE T W f σ H Q := by
  obtain ⟨φ, S, τ, o, R, r, e, q⟩ := h
  unfold fz at e
  cases e1 : f τ S with
  | none => rw [e1] at e; cases e
  | some x =>
    rw [e1] at e
    refine ⟨φ, S, τ, x, R, r, e1, ?_⟩
    cases x with
    | ok d S1 =>
      simp only at e
      split at e
      · rename_i w
        simp only [Option.map_eq_some_iff] at e
        obtain ⟨d', e2, rfl⟩ := e
        intro φ' H' v E R' r'
        have E' := E
        obtain ⟨⟨ψ, rfl⟩, _⟩ := E'
        rw [← R.len] at w e2
        have R2 := R'.cut w
        rw [R.len] at R2
        exact q φ H' v E.cut R2 (rb_ok R' 8 d d' v e2 r')
      · cases e
    | ex x S1 =>
      simp only at e
      split at e
      · rename_i w
        cases e
        intro φ' H' v E R' r'
        have E' := E
        obtain ⟨⟨ψ, rfl⟩, _⟩ := E'
        rw [← R.len] at w
        have R2 := R'.cut w
        rw [R.len] at R2
        exact q φ H' v E.cut R2 r'
      · cases e
theorem d_fz {X : Cx} {T : Tb} {W : WX} {e : Expr} {f : EF} (h : PE X e (rdE T W f)) : PE X e (rdE T W (fz f)) := h.imp fun _ _ _ h => fz_imp h
end Sb
end
section
set_option Elab.async false
set_option linter.all false
set_option maxRecDepth 100000
set_option maxHeartbeats 4000000
namespace Sb
open PySem PySem.Spec PyProof.Rows L2

abbrev G1 := D → Sto → Option (D × Sto)
abbrev G2 := D → D → Sto → Option (D × Sto)
abbrev GN := List D → Sto → Option (D × Sto)
def lft (o : Option (D × Sto)) : Option (Rs D) := match o with
  | some (d, S) => some (.ok d S)
  | none => none
/-- what a value's rule wants, by data -/
def Fin (T : Tb) (φ : List Addr) (H : Hp) (o : Option (D × Sto)) (Q : VK) : Prop := ∃ d S', o = some (d, S') ∧ ∀ φ' H' v, Ext φ H φ' H' → Rel T φ' S' H' → RD T H' φ' d v → Q v H'
theorem Fin.of {T : Tb} {φ : List Addr} {H : Hp} {o : Option (D × Sto)} {o' : Rs D} {Q : VK} {W : XK} (h : lft o = some o') (q : EndE T φ H o' Q W) : Fin T φ H o Q := by
  cases o with
  | none => cases h
  | some p =>
    obtain ⟨d, S⟩ := p
    cases h
    exact ⟨d, S, rfl, q⟩
theorem Fin.val {T : Tb} {φ : List Addr} {S : Sto} {H : Hp} {d : D} {v : V} {Q : VK} (f : Fin T φ H (some (d, S)) Q) (R : Rel T φ S H) (r : RD T H φ d v) : Q v H := by
  obtain ⟨d', S', e, q⟩ := f
  cases e
  exact q φ H v .refl R r
/-- a new tuple -/
theorem Fin.tup {T : Tb} {φ : List Addr} {S : Sto} {H : Hp} {ds : List D} {vs : List V} {Q : VK} (f : Fin T φ H (some (.tup ds, S)) Q) (R : Rel T φ S H) (r : RDs T H φ ds vs) (p : Addr) (hp : H p = none) : Q (.ref p) (upd H p (.tup vs)) := by
  obtain ⟨d', S', e, q⟩ := f
  cases e
  obtain ⟨R1, E1⟩ := R.garb (u := .tup vs) hp
  exact q φ _ _ E1 R1 ⟨p, vs, rfl, (.inl upd_same), r.ext E1 _ _⟩
/-- a new list -/
theorem Fin.lst {T : Tb} {φ : List Addr} {S : Sto} {H : Hp} {ds : List D} {vs : List V} {Q : VK} (f : Fin T φ H (some (.loc S.length, S ++ [.lst ds])) Q) (R : Rel T φ S H) (r : RDs T H φ ds vs) (p : Addr) (hp : H p = none) : Q (.ref p) (upd H p (.lst vs)) := by
  obtain ⟨d', S', e, q⟩ := f
  cases e
  obtain ⟨R1, E1⟩ := R.garb (u := .lst vs) hp
  have E2 : Ext φ H (φ ++ [p]) (upd H p (.lst vs)) := Ext.freshL hp
  obtain ⟨R2, _⟩ := R.new (o := .lst ds) hp ⟨vs, upd_same, r.ext E2 _ _⟩
  exact q _ _ _ E2 R2 ⟨p, rfl, by rw [← R.len]; simp⟩
theorem Fin.fl {T : Tb} {φ : List Addr} {S : Sto} {H : Hp} {ds : List D} {vs : List V} {Q : VK} (f : Fin T φ H (some (.fl ds, S)) Q) (R : Rel T φ S H) (r : RDs T H φ ds vs) (p : Addr) (hp : H p = none) : Q (.ref p) (upd H p (.lst vs)) := by
  obtain ⟨d', S', e, q⟩ := f
  cases e
  obtain ⟨R1, E1⟩ := R.garb (u := .lst vs) hp
  exact q φ _ _ E1 R1 ⟨p, vs, rfl, R.notin hp, upd_same, r.ext E1 _ _⟩
theorem Ext.put {φ : List Addr} {H : Hp} {a : Addr} {us : List V} {u : HO} (hm : a ∈ φ) (ha : H a = some (.lst us)) : Ext φ H φ (upd H a u) := ⟨⟨[], by simp⟩, fun b vs h => by
    by_cases hb : b = a
    · subst hb; rw [ha] at h; cases h
    · rw [upd_ne hb]; exact h, fun b o w h => by
    by_cases hb : b = a
    · subst hb; rw [ha] at h; cases h
    · rw [upd_ne hb]; exact h, fun b vs nb h => by rw [upd_ne fun q : b = a => nb (q ▸ hm)]; exact h, fun b vs nb h => .inl (by rw [upd_ne fun q : b = a => nb (q ▸ hm)]; exact h), fun _ h => .inl h, fun _ h => upd_dead h⟩
/-- a list written -/
theorem Fin.put {T : Tb} {φ : List Addr} {S : Sto} {H : Hp} {d : D} {n : Nat} {a : Addr} {ds : List D} {vs us : List V} {v : V} {Q : VK} (f : Fin T φ H (some (d, S.set n (.lst ds))) Q) (R : Rel T φ S H) (hn : φ[n]? = some a) (hs : n < S.length) (ha : H a = some (.lst us))
    (r : RDs T H φ ds vs) (rd : RD T H φ d v) : Q v (upd H a (.lst vs)) := by
  obtain ⟨d', S', e, q⟩ := f
  cases e
  have E1 := Ext.put (φ := φ) (u := .lst vs) (List.mem_of_getElem? hn) ha
  obtain ⟨R2, _⟩ := R.put (o := .lst ds) (u := .lst vs) hn hs ⟨vs, upd_same, r.ext E1 _ _⟩
  exact q _ _ _ E1 R2 (rd.ext E1 _ _)

/-! ## sequences -/
def seqD (S : Sto) : D → Option (List D)
  | .tup ds => some ds
  | .loc n => match S[n]? with
    | some (.lst ds) => some ds
    | _ => none
  | .scr ns => some (ns.map .int)
  | .fl ds => some ds
  | _ => none
theorem ints_rds {T : Tb} {H : Hp} {φ : List Addr} : ∀ ns : List Int, RDs T H φ (ns.map D.int) (ns.map V.int)
  | [] => rfl
  | n :: ns => ⟨.int n, ns.map V.int, rfl, rfl, ints_rds ns⟩
theorem seq_sq {T : Tb} {φ : List Addr} {S : Sto} {H : Hp} {d : D} {v : V} {ds : List D} (R : Rel T φ S H) (r : RD T H φ d v) (h : seqD S d = some ds) : ∃ a vs, v = .ref a ∧ (SqL T.K H a vs ∨ SqT T.K H a vs) ∧ RDs T H φ ds vs := by
  cases d with
  | tup es =>
    cases h
    obtain ⟨a, vs, e1, e2, e3⟩ := r
    exact ⟨a, vs, e1, .inr (.inl e2), e3⟩
  | loc n =>
    obtain ⟨a, e1, e2⟩ := r
    simp only [seqD] at h
    split at h
    · rename_i q
      cases h
      obtain ⟨vs, h1, h2⟩ := R.obj n _ a q e2
      exact ⟨a, vs, e1, .inl (.of h1), h2⟩
    · cases h
  | scr ns =>
    obtain ⟨a, e1, e2⟩ := r
    cases h
    exact ⟨a, _, e1, .inl e2.seq, ints_rds ns⟩
  | fl es =>
    cases h
    obtain ⟨a, vs, e1, e2, e3, e4⟩ := r
    exact ⟨a, vs, e1, .inl (.of e3), e4⟩
  | _ => cases h
def listD (S : Sto) : D → Option (List D)
  | .loc n => match S[n]? with
    | some (.lst ds) => some ds
    | _ => none
  | _ => none
theorem list_sq {T : Tb} {φ : List Addr} {S : Sto} {H : Hp} {d : D} {v : V} {ds : List D} (R : Rel T φ S H) (r : RD T H φ d v) (h : listD S d = some ds) : ∃ n a vs, d = .loc n ∧ v = .ref a ∧ S[n]? = some (.lst ds) ∧ φ[n]? = some a ∧ H a = some (.lst vs) ∧ RDs T H φ ds vs := by
  cases d with
  | loc n =>
    obtain ⟨a, e1, e2⟩ := r
    simp only [listD] at h
    split at h
    · rename_i q
      cases h
      obtain ⟨vs, h1, h2⟩ := R.obj n _ a q e2
      exact ⟨n, a, vs, rfl, e1, q, e2, h1, h2⟩
    · cases h
  | _ => cases h

/-! ## names, constants -/
section
variable {X : Cx} {T : Tb} {W : WX} {pos : Pos}
def eVar (i : Nat) : EF := fun τ S => match τ[i]? with
  | some (some d) => some (.ok d S)
  | _ => none
theorem d_var (i : Nat) {x : Str} (hN : X.N[i]? = some x := by rfl) (hv : Vis X.env.scope x := by first | exact Or.inl rfl | exact Or.inr (Or.inl rfl) | exact Or.inr (Or.inr rfl)) (hd : (x == ("__debug__" : Str)) = false := by decide)
    (hcd : (x == ("__classdict__" : Str)) = false := by decide) : PE X (.Name x pos) (rdE T W (eVar i)) :=
  (pe_var hN hv hd hcd).imp fun σ H Q h => by
    obtain ⟨φ, S, τ, o, R, r, e, q⟩ := h
    unfold eVar at e
    split at e
    · rename_i d hd
      cases e
      obtain ⟨v, h1, h2⟩ := r.at_ i d hd
      exact ⟨v, h1, q φ H v .refl R h2⟩
    · cases e
def eC (d : D) : EF := fun _ S => some (.ok d S)
theorem d_of_c {e : Expr} {v : V} (d : D) (h : PE X e (tC v)) (hd : ∀ H φ, RD T H φ d v) : PE X e (rdE T W (eC d)) := h.imp fun σ H Q h => by
  obtain ⟨φ, S, τ, o, R, r, e, q⟩ := h
  cases e
  exact q φ H v .refl R (hd H φ)
theorem d_int {i j} : PE X (.Constant (.int i) j pos) (rdE T W (eC (.int i))) := d_of_c _ pe_int fun _ _ => rfl
theorem d_bl {b j} : PE X (.Constant (.bool b) j pos) (rdE T W (eC (.bl b))) := d_of_c _ pe_bl fun _ _ => rfl
theorem d_non {j} : PE X (.Constant .none j pos) (rdE T W (eC .non)) := d_of_c _ pe_non fun _ _ => rfl
theorem d_str {x j} : PE X (.Constant (.str x) j pos) (rdE T W (eC (.str x))) := d_of_c _ pe_str fun _ _ => rfl
/-- a module's number -/
theorem d_num {x : Str} {i : Int} {t : Tok} (hg : Gl X x) (hm : X.mg x = some (.int i t)) (hd : (x == ("__debug__" : Str)) = false := by decide) : PE X (.Name x pos) (rdE T W (eC (.int i))) :=
  d_of_c _ (pe_glob (v := .int i) hg hm ⟨t, rfl⟩ hd) fun _ _ => rfl

/-! ## operators -/
variable {a b c : Expr} {fa fb fc : EF}
def eB (g : G2) (fa fb : EF) : EF := fun τ => (fa τ).bnd fun x => (fb τ).bnd fun y S => lft (g x y S)
def rG2 (T : Tb) (g : G2) : R2 := fun x y H Q => ∃ φ S d1 d2, Rel T φ S H ∧ RD T H φ d1 x ∧ RD T H φ d2 y ∧ Fin T φ H (g d1 d2 S) Q
theorem two_of {g : G2} {σ : L2.St} {H : Hp} {Q : VK} (h : rdE T W (eB g fa fb) σ H Q) : rdE T W fa σ H fun x H1 => rdE T W fb σ H1 fun y H2 => rG2 T g x y H2 Q := by
  obtain ⟨φ, S, τ, o, R, r, e, q⟩ := h
  refine rdE_bnd R r e q fun d1 S1 v1 H1 φ1 ⟨E1, R1, r1⟩ e1 q1 => ?_
  refine rdE_bnd R1 (r.ext E1) e1 q1 fun d2 S2 v2 H2 φ2 ⟨E2, R2, r2⟩ e2 q2 => ?_
  exact ⟨φ2, S2, d1, d2, R2, r1.ext E2 _ _, r2, Fin.of e2 q2⟩
theorem d_bin {op : Operator} {g : G2} (ho : OpR X (binaryOp op) (rG2 T g)) (ha : PE X a (rdE T W fa)) (hb : PE X b (rdE T W fb)) : PE X (.BinOp a op b pos) (rdE T W (eB g fa fb)) :=
  (pe_op ho ha hb).imp fun _ _ _ h => two_of h
theorem d_cmp {op : CmpOp} {g : G2} (ho : OpR X (compareOp op) (rG2 T g)) (ha : PE X a (rdE T W fa)) (hb : PE X b (rdE T W fb)) (hm : behindInMarks op b = false) : PE X (.Compare a [op] [b] pos) (rdE T W (eB g fa fb)) :=
  (pe_cmpR ho ha hb hm).imp fun _ _ _ h => two_of h
theorem OpR.imp {f : Value → Value → Sem Value} {r r' : R2} (h : OpR X f r) (i : ∀ x y H Q, r' x y H Q → r x y H Q) : OpR X f r' := fun pins s σ H x y v u Q I rx ry q => h pins s σ H x y v u Q I rx ry (i x y H Q q)

/-- the things of a list, kept or not -/
def flD (S : Sto) : D → Option (List D)
  | .fl ds => some ds
  | d => listD S d
theorem fl_sq {T : Tb} {φ : List Addr} {S : Sto} {H : Hp} {d : D} {v : V} {ds : List D} (R : Rel T φ S H) (r : RD T H φ d v) (h : flD S d = some ds) : ∃ a vs, v = .ref a ∧ H a = some (.lst vs) ∧ RDs T H φ ds vs := by
  unfold flD at h
  split at h
  · cases h
    obtain ⟨a, vs, e1, _, e2, e3⟩ := r
    exact ⟨a, vs, e1, e2, e3⟩
  · obtain ⟨n, a, vs, _, e1, _, _, e2, e3⟩ := list_sq R r h
    exact ⟨a, vs, e1, e2, e3⟩
def gAdd : G2 := fun x y S => match x, y with
  | .int i, .int j => some (.int (i + j), S)
  | .str s, .str t => if s.length + t.length ≤ sizeLine then some (.str (s ++ t), S) else none
  | .tup ds, .tup es => if ds.length + es.length ≤ sizeLine then some (.tup (ds ++ es), S) else none
  | .loc m, .loc n => match S[m]?, S[n]? with
    | some (.lst ds), some (.lst es) => if ds.length + es.length ≤ sizeLine then some (.loc S.length, S ++ [.lst (ds ++ es)]) else none
    | _, _ => none
  | .fl ds, y => (flD S y).bind fun es => if ds.length + es.length ≤ sizeLine then some (.fl (ds ++ es), S) else none
  | .loc m, .fl es => (flD S (.loc m)).bind fun ds => if ds.length + es.length ≤ sizeLine then some (.fl (ds ++ es), S) else none
  | _, _ => none
theorem o_add : OpR X (binaryOp .Add) (rG2 T gAdd) :=
  OpR.imp (OpR.or op_add (OpR.or op_add_str (OpR.or op_catA op_cat))) fun x y H Q h => by
    obtain ⟨φ, S, d1, d2, R, r1, r2, f⟩ := h
    cases d1 with
    | int i =>
      cases d2 with
      | int j => cases r1; cases r2; exact .inl ⟨i, j, rfl, rfl, f.val R rfl⟩
      | _ => obtain ⟨_, _, e, _⟩ := f; cases e
    | str s =>
      cases d2 with
      | str t =>
        cases r1; cases r2
        simp only [gAdd] at f
        split at f
        · rename_i hl
          exact .inr (.inl ⟨s, t, rfl, rfl, hl, f.val R rfl⟩)
        · obtain ⟨_, _, e, _⟩ := f; cases e
      | _ => obtain ⟨_, _, e, _⟩ := f; cases e
    | tup ds =>
      cases d2 with
      | tup es =>
        simp only [gAdd] at f
        split at f
        · rename_i hl
          have r1' := r1
          have r2' := r2
          obtain ⟨p, vs, rfl, h1, s1⟩ := r1
          obtain ⟨q, ws, rfl, h2, s2⟩ := r2
          have l1 := s1.length
          have l2 := s2.length
          refine .inr (.inr (.inl ⟨p, q, vs, ws, rfl, rfl, .inl h1, .inl h2, by omega, fun e => ?_, fun _ e => ?_, fun _ _ z hz => ?_⟩))
          · subst e
            have : ds = [] := List.eq_nil_of_length_eq_zero (by simpa using l1)
            subst this
            exact f.val R (by simpa using r2')
          · subst e
            have : es = [] := List.eq_nil_of_length_eq_zero (by simpa using l2)
            subst this
            exact f.val R (by simpa using r1')
          · exact f.tup R (s1.app s2) z hz
        · obtain ⟨_, _, e, _⟩ := f; cases e
      | _ => obtain ⟨_, _, e, _⟩ := f; cases e
    | loc m =>
      cases d2 with
      | loc n =>
        simp only [gAdd] at f
        split at f
        · rename_i ds es h1 h2
          split at f
          · rename_i hl
            obtain ⟨p, rfl, e1⟩ := r1
            obtain ⟨q, rfl, e2⟩ := r2
            obtain ⟨vs, k1, s1⟩ := R.obj m _ p h1 e1
            obtain ⟨ws, k2, s2⟩ := R.obj n _ q h2 e2
            have l1 := s1.length
            have l2 := s2.length
            exact .inr (.inr (.inr ⟨p, q, vs, ws, rfl, rfl, k1, k2, by omega, fun z hz => f.lst R (s1.app s2) z hz⟩))
          · obtain ⟨_, _, e, _⟩ := f; cases e
        · obtain ⟨_, _, e, _⟩ := f; cases e
      | fl es =>
        simp only [gAdd] at f
        cases e : flD S (.loc m) with
        | none => rw [e] at f; obtain ⟨_, _, e, _⟩ := f; cases e
        | some ds =>
          rw [e] at f
          simp only [Option.bind_some] at f
          split at f
          · obtain ⟨p, vs, rfl, k1, s1⟩ := fl_sq R r1 e
            obtain ⟨q, ws, rfl, _, k2, s2⟩ := r2
            have l1 := s1.length
            have l2 := s2.length
            exact .inr (.inr (.inr ⟨p, q, vs, ws, rfl, rfl, k1, k2, by omega, fun z hz => f.fl R (s1.app s2) z hz⟩))
          · obtain ⟨_, _, e, _⟩ := f; cases e
      | _ => obtain ⟨_, _, e, _⟩ := f; cases e
    | fl ds =>
      simp only [gAdd] at f
      cases e : flD S d2 with
      | none => rw [e] at f; obtain ⟨_, _, e, _⟩ := f; cases e
      | some es =>
        rw [e] at f
        simp only [Option.bind_some] at f
        split at f
        · obtain ⟨p, vs, rfl, _, k1, s1⟩ := r1
          obtain ⟨q, ws, rfl, k2, s2⟩ := fl_sq R r2 e
          have l1 := s1.length
          have l2 := s2.length
          exact .inr (.inr (.inr ⟨p, q, vs, ws, rfl, rfl, k1, k2, by omega, fun z hz => f.fl R (s1.app s2) z hz⟩))
        · obtain ⟨_, _, e, _⟩ := f; cases e
    | _ => obtain ⟨_, _, e, _⟩ := f; cases e
/-- two whole numbers under a condition -/
def gI (C : Int → Int → Bool) (g : Int → Int → D) : G2 := fun x y S => match x, y with
  | .int i, .int j => if C i j = true then some (g i j, S) else none
  | _, _ => none
theorem o_int {f : Value → Value → Sem Value} {C : Int → Int → Prop} {gv : Int → Int → V} (h : OpR X f (rI C gv)) {c : Int → Int → Bool} {g : Int → Int → D} (hc : ∀ i j, c i j = true → C i j) (hg : ∀ i j H φ, RD T H φ (g i j) (gv i j)) : OpR X f (rG2 T (gI c g)) :=
  OpR.imp h fun x y H Q h => by
    obtain ⟨φ, S, d1, d2, R, r1, r2, f⟩ := h
    cases d1 with
    | int i =>
      cases d2 with
      | int j =>
        cases r1; cases r2
        simp only [gI] at f
        split at f
        · rename_i k
          exact ⟨i, j, rfl, rfl, hc i j k, f.val R (hg _ _ _ _)⟩
        · obtain ⟨_, _, e, _⟩ := f; cases e
      | _ => obtain ⟨_, _, e, _⟩ := f; cases e
    | _ => obtain ⟨_, _, e, _⟩ := f; cases e
theorem o_int0 {f : Value → Value → Sem Value} {gv : Int → Int → V} (h : OpR X f (rI0 gv)) {g : Int → Int → D} (hg : ∀ i j H φ, RD T H φ (g i j) (gv i j)) : OpR X f (rG2 T (gI (fun _ _ => true) g)) :=
  OpR.imp h fun x y H Q h => by
    obtain ⟨φ, S, d1, d2, R, r1, r2, f⟩ := h
    cases d1 with
    | int i =>
      cases d2 with
      | int j => cases r1; cases r2; exact ⟨i, j, rfl, rfl, f.val R (hg _ _ _ _)⟩
      | _ => obtain ⟨_, _, e, _⟩ := f; cases e
    | _ => obtain ⟨_, _, e, _⟩ := f; cases e
def gSub : G2 := gI (fun _ _ => true) fun i j => .int (i - j)
theorem o_sub : OpR X (binaryOp .Sub) (rG2 T gSub) := o_int0 op_sub fun _ _ _ _ => rfl
def gMul : G2 := gI (fun i j => decide (i.natAbs.log2 + j.natAbs.log2 < 1000000)) fun i j => .int (i * j)
theorem o_mul : OpR X (binaryOp .Mult) (rG2 T gMul) := o_int op_mulW (fun i j h => show i.natAbs.log2 + j.natAbs.log2 < 1000000 from of_decide_eq_true h) fun _ _ _ _ => rfl
/-- a divisor above 0 -/
def gMod : G2 := gI (fun _ j => decide (0 < j)) fun i j => .int (i % j)
theorem o_mod : OpR X (binaryOp .Mod) (rG2 T gMod) := o_int op_mod (fun _ _ h => of_decide_eq_true h) fun _ _ _ _ => rfl
def gDiv : G2 := gI (fun _ j => decide (0 < j ∧ j.natAbs.log2 < 9000)) fun i j => .int (i / j)
theorem o_div : OpR X (binaryOp .FloorDiv) (rG2 T gDiv) := o_int op_fdivW (fun i j h => show 0 < j ∧ j.natAbs.log2 < 9000 from of_decide_eq_true h) fun _ _ _ _ => rfl
def gPow : G2 := gI (fun i j => decide (0 ≤ j ∧ j ≤ 1000000 ∧ i.natAbs < 2 ^ 64)) fun i j => .int (i ^ j.toNat)
theorem o_pow : OpR X (binaryOp .Pow) (rG2 T gPow) := o_int op_pow (fun i j h => show 0 ≤ j ∧ j ≤ 1000000 ∧ i.natAbs < 2 ^ 64 from of_decide_eq_true h) fun _ _ _ _ => rfl
def gLtI : G2 := gI (fun _ _ => true) fun i j => .bl (decide (i < j))
def gGtI : G2 := gI (fun _ _ => true) fun i j => .bl (decide (j < i))
def gGeI : G2 := gI (fun _ _ => true) fun i j => .bl (decide (j ≤ i))
theorem o_lt : OpR X (compareOp .Lt) (rG2 T gLtI) := o_int0 op_lt fun _ _ _ _ => rfl
theorem o_gt : OpR X (compareOp .Gt) (rG2 T gGtI) := o_int0 op_gt fun _ _ _ _ => rfl
theorem o_ge : OpR X (compareOp .GtE) (rG2 T gGeI) := o_int0 op_ge fun _ _ _ _ => rfl
/-- <= of whole numbers and of texts -/
def gLe : G2 := fun x y S => match x, y with
  | .int i, .int j => some (.bl (decide (i ≤ j)), S)
  | .str i, .str j => some (.bl (!decide (j.cps.toList < i.cps.toList)), S)
  | _, _ => none
theorem o_le : OpR X (compareOp .LtE) (rG2 T gLe) := OpR.imp (OpR.or op_le op_le_str) fun x y H Q h => by
  obtain ⟨φ, S, d1, d2, R, r1, r2, f⟩ := h
  cases d1 with
  | int i =>
    cases d2 with
    | int j => cases r1; cases r2; exact .inl ⟨i, j, rfl, rfl, f.val R rfl⟩
    | _ => obtain ⟨_, _, e, _⟩ := f; cases e
  | str i =>
    cases d2 with
    | str j => cases r1; cases r2; exact .inr ⟨i, j, rfl, rfl, f.val R rfl⟩
    | _ => obtain ⟨_, _, e, _⟩ := f; cases e
  | _ => obtain ⟨_, _, e, _⟩ := f; cases e

/-! ## equality of data -/
def toPy : Nat → Sto → D → Option PyData
  | 0, _, _ => none
  | n + 1, S, d => match d with
    | .non => some .none
    | .bl b => some (.bool b)
    | .int i => some (.int i)
    | .str x => some (.str x)
    | .tup ds => (ds.mapM (toPy n S)).map .tuple
    | .loc k => match S[k]? with
      | some (.lst ds) => (ds.mapM (toPy n S)).map .list
      | _ => none
    | .scr _ => none
    | .fl ds => (ds.mapM (toPy n S)).map .list
    | .exn _ => none
    | .fd _ _ => none
    | .rgo _ _ => none
    | .ntu _ => none
theorem all_dp {T : Tb} {K : PySem.W.Frag} {φ : List Addr} {S : Sto} {H : Hp} {n : Nat} (ih : ∀ d v p, RD T H φ d v → toPy n S d = some p → Dp K H v p) : ∀ (ds : List D) (vs : List V) (ps : List PyData), RDs T H φ ds vs → ds.mapM (toPy n S) = some ps → DpAll K H vs ps
  | [], vs, ps, h, e => by
    cases h
    simp at e
    subst e
    exact .nil
  | d :: ds, vs, ps, h, e => by
    obtain ⟨v, r, rfl, h1, h2⟩ := h
    rw [List.mapM_cons] at e
    simp only [Option.bind_eq_bind, Option.bind_eq_some_iff, Option.pure_def, Option.some.injEq] at e
    obtain ⟨p, e1, qs, e2, rfl⟩ := e
    exact .cons (ih d v p h1 e1) (all_dp ih ds r qs h2 e2)
theorem py_dp {K : PySem.W.Frag} {T : Tb} {φ : List Addr} {S : Sto} {H : Hp} (R : Rel T φ S H) : ∀ (n : Nat) (d : D) (v : V) (p : PyData), RD T H φ d v → toPy n S d = some p → Dp K H v p
  | 0, d, v, p, _, e => by cases e
  | n + 1, d, v, p, r, e => by
    cases d with
    | non => cases r; cases e; exact .non
    | bl b => cases r; cases e; exact .bl b
    | int i => cases r; cases e; exact .int i
    | str x => cases r; cases e; exact .str x
    | tup ds =>
      obtain ⟨a, vs, rfl, h1, h2⟩ := r
      simp only [toPy, Option.map_eq_some_iff] at e
      obtain ⟨ps, e1, rfl⟩ := e
      exact .tup (.inl h1) (all_dp (py_dp R n) ds vs ps h2 e1)
    | loc k =>
      simp only [toPy] at e
      obtain ⟨a, rfl, h1⟩ := r
      split at e
      · rename_i q
        simp only [Option.map_eq_some_iff] at e
        obtain ⟨ps, e1, rfl⟩ := e
        obtain ⟨vs, k1, k2⟩ := R.obj k _ a q h1
        exact .lst (.of k1) (all_dp (py_dp R n) _ vs ps k2 e1)
      · cases e
    | scr ns => cases e
    | exn c => cases e
    | fd ks ds => cases e
    | rgo lo hi => cases e
    | ntu ds => cases e
    | fl ds =>
      obtain ⟨a, vs, rfl, _, h1, h2⟩ := r
      simp only [toPy, Option.map_eq_some_iff] at e
      obtain ⟨ps, e1, rfl⟩ := e
      exact .lst (.of h1) (all_dp (py_dp R n) ds vs ps h2 e1)
def gEq (neg : Bool) : G2 := fun x y S => match toPy 8 S x, toPy 8 S y with
  | some d, some e => if SeqAt.shaped d = true ∧ SeqAt.shaped e = true then some (.bl (if neg then !PyData.eqv d e else PyData.eqv d e), S) else none
  | _, _ => none
theorem eq_of {K : PySem.W.Frag} {neg : Bool} {x y : V} {H : Hp} {Q : VK} (h : rG2 T (gEq neg) x y H Q) : ∃ d e, Dp K H x d ∧ Dp K H y e ∧ SeqAt.shaped d = true ∧ SeqAt.shaped e = true ∧ Q (.bl (if neg then !PyData.eqv d e else PyData.eqv d e)) H := by
  obtain ⟨φ, S, d1, d2, R, r1, r2, f⟩ := h
  simp only [gEq] at f
  split at f
  · rename_i d e h1 h2
    split at f
    · rename_i hs
      exact ⟨d, e, py_dp R _ _ _ _ r1 h1, py_dp R _ _ _ _ r2 h2, hs.1, hs.2, f.val R rfl⟩
    · obtain ⟨_, _, z, _⟩ := f; cases z
  · obtain ⟨_, _, z, _⟩ := f; cases z
theorem o_eq (hu : X.A.units + 64 < cLine) : OpR X (compareOp .Eq) (rG2 T (gEq false)) := OpR.imp (op_eqD hu) fun _ _ _ _ h => eq_of h
theorem o_ne (hu : X.A.units + 64 < cLine) : OpR X (compareOp .NotEq) (rG2 T (gEq true)) := OpR.imp (op_neD hu) fun _ _ _ _ h => eq_of h
def isNonD : D → Bool
  | .non => true
  | _ => false
theorem isNonD_ok {T : Tb} {H : Hp} {φ : List Addr} {d : D} {v : V} (r : RD T H φ d v) : decide (v = .non) = isNonD d := by
  cases d with
  | non => cases r; rfl
  | bl _ => cases r; rfl
  | int _ => cases r; rfl
  | str _ => cases r; rfl
  | tup _ => obtain ⟨a, vs, rfl, _⟩ := r; rfl
  | loc _ => obtain ⟨a, rfl, _⟩ := r; rfl
  | scr _ => obtain ⟨a, rfl, _⟩ := r; rfl
  | fl _ => obtain ⟨a, vs, rfl, _⟩ := r; rfl
  | exn _ => obtain ⟨a, oe, vs, rfl, _⟩ := r; rfl
  | fd _ _ => obtain ⟨a, ws, rfl, _⟩ := r; rfl
  | rgo _ _ => obtain ⟨a, o, rfl, _⟩ := r; rfl
  | ntu _ => obtain ⟨a, vs, o, rfl, _⟩ := r; rfl
def gIsN (neg : Bool) : G2 := fun x y S => match y with
  | .non => some (.bl (if neg then !isNonD x else isNonD x), S)
  | _ => none
theorem isN_of {neg : Bool} {x y : V} {H : Hp} {Q : VK} (h : rG2 T (gIsN neg) x y H Q) : y = .non ∧ Q (.bl (if neg then !decide (x = .non) else decide (x = .non))) H := by
  obtain ⟨φ, S, d1, d2, R, r1, r2, f⟩ := h
  cases d2 with
  | non => cases r2; rw [isNonD_ok r1]; exact ⟨rfl, f.val R rfl⟩
  | _ => obtain ⟨_, _, z, _⟩ := f; cases z
theorem o_isN : OpR X (compareOp .Is) (rG2 T (gIsN false)) := OpR.imp op_isN fun _ _ _ _ h => isN_of h
theorem o_notN : OpR X (compareOp .IsNot) (rG2 T (gIsN true)) := OpR.imp op_notN fun _ _ _ _ h => isN_of h
end
end Sb
end
section
set_option Elab.async false
set_option linter.all false
set_option maxRecDepth 100000
set_option maxHeartbeats 4000000
namespace Sb
open PySem PySem.Spec PyProof.Rows L2

section
variable {X : Cx} {T : Tb} {W : WX} {pos : Pos}
/-! ## arguments, displays -/
def aNil : AF := fun _ S => some (.ok [] S)
def aCons (f : EF) (r : AF) : AF := fun τ => (f τ).bnd fun d => (r τ).bnd fun ds S => some (.ok (d :: ds) S)
theorem rdA_bndA {a : AF} {k : List D → M (List D)} {φ : List Addr} {S : Sto} {τ : Sl} {o : Rs (List D)} {σ : L2.St} {H : Hp} {Q : List V → Hp → Prop} (R : Rel T φ S H) (r : RSl T H φ τ σ) (h : (a τ).bnd k S = some o) (q : EndEs T φ H o Q fun c d H' => W c d σ H') {Q' : List V → Hp → Prop}
    (n : ∀ d S1 v H1 φ1, Ext φ H φ1 H1 → Rel T φ1 S1 H1 → RDs T H1 φ1 d v → k d S1 = some o → EndEs T φ1 H1 o Q (fun c d H' => W c d σ H') → Q' v H1) : rdA T W a σ H Q' := by
  unfold M.bnd at h
  cases e : a τ S with
  | none => rw [e] at h; cases h
  | some x =>
    rw [e] at h
    refine ⟨φ, S, τ, x, R, r, e, ?_⟩
    cases x with
    | ok d S1 => exact fun φ' H' v e1 e2 e3 => n d S1 v H' φ' e1 e2 e3 h (q.mono e1)
    | ex x S1 => cases h; exact q
theorem rdE_bndA {a : EF} {k : D → M (List D)} {φ : List Addr} {S : Sto} {τ : Sl} {o : Rs (List D)} {σ : L2.St} {H : Hp} {Q : List V → Hp → Prop} (R : Rel T φ S H) (r : RSl T H φ τ σ) (h : (a τ).bnd k S = some o) (q : EndEs T φ H o Q fun c d H' => W c d σ H') {Q' : VK}
    (n : ∀ d S1 v H1 φ1, At T φ H d S1 v H1 φ1 → k d S1 = some o → EndEs T φ1 H1 o Q (fun c d H' => W c d σ H') → Q' v H1) : rdE T W a σ H Q' := by
  unfold M.bnd at h
  cases e : a τ S with
  | none => rw [e] at h; cases h
  | some x =>
    rw [e] at h
    refine ⟨φ, S, τ, x, R, r, e, ?_⟩
    cases x with
    | ok d S1 => exact fun φ' H' v e1 e2 e3 => n d S1 v H' φ' ⟨e1, e2, e3⟩ h (q.mono e1)
    | ex x S1 => cases h; exact q
variable {a b c e : Expr} {es : List Expr} {fa fb fc : EF} {ra : AF}
theorem d_nil : PA X [] (rdA T W aNil) := pa_nil.imp fun σ H Q h => by
  obtain ⟨φ, S, τ, o, R, r, e, q⟩ := h
  cases e
  exact q φ H [] .refl R rfl
theorem d_cons (ha : PE X e (rdE T W fa)) (hr : PA X es (rdA T W ra)) (hs : starEach (e :: es) X.env = (false, eval e X.env) :: starEach es X.env := by rfl) : PA X (e :: es) (rdA T W (aCons fa ra)) :=
  (pa_cons ha hr hs).imp fun σ H Q h => by
    obtain ⟨φ, S, τ, o, R, r, e, q⟩ := h
    refine rdE_bndA R r e q fun d1 S1 v1 H1 φ1 ⟨E1, R1, r1⟩ e1 q1 => ?_
    refine rdA_bndA R1 (r.ext E1) e1 q1 fun d2 S2 v2 H2 φ2 E2 R2 r2 e2 q2 => ?_
    cases e2
    exact q2 φ2 H2 _ .refl R2 ⟨v1, v2, rfl, r1.ext E2 _ _, r2⟩
def eTup (r : AF) : EF := fun τ => (r τ).bnd fun ds S => if ds.length ≤ sizeLine then some (.ok (.tup ds) S) else none
def eLst (r : AF) : EF := fun τ => (r τ).bnd fun ds S => if ds.length ≤ sizeLine then some (.ok (.loc S.length) (S ++ [.lst ds])) else none
theorem d_tup {x1} (h : PA X es (rdA T W ra)) : PE X (.Tuple es x1 pos) (rdE T W (eTup ra)) := (pe_tup h).imp fun σ H Q h => by
  obtain ⟨φ, S, τ, o, R, r, e, q⟩ := h
  refine rdA_bnd R r e q fun ds S1 vs H1 φ1 E1 R1 r1 e1 q1 => ?_
  split at e1
  · rename_i hl
    cases e1
    exact ⟨by rw [← r1.length]; exact hl, fun p hp => Fin.tup (S := S1) ⟨_, _, rfl, q1⟩ R1 r1 p hp⟩
  · cases e1
theorem d_lst (h : PA X es (rdA T W ra)) : PE X (.List es pos) (rdE T W (eLst ra)) := (pe_lst h).imp fun σ H Q h => by
  obtain ⟨φ, S, τ, o, R, r, e, q⟩ := h
  refine rdA_bnd R r e q fun ds S1 vs H1 φ1 E1 R1 r1 e1 q1 => ?_
  split at e1
  · rename_i hl
    cases e1
    exact ⟨by rw [← r1.length]; exact hl, fun p hp => Fin.lst (S := S1) ⟨_, _, rfl, q1⟩ R1 r1 p hp⟩
  · cases e1

/-! ## built-ins called -/
def rGN (T : Tb) (g : GN) : List V → Hp → VK → Prop := fun xs H Q => ∃ φ S ds, Rel T φ S H ∧ RDs T H φ ds xs ∧ Fin T φ H (g ds S) Q
def eCB (g : GN) (r : AF) : EF := fun τ => (r τ).bnd fun ds S => lft (g ds S)
theorem cb_of {g : GN} {σ : L2.St} {H : Hp} {Q : VK} (h : rdE T W (eCB g ra) σ H Q) : tCB (rGN T g) (rdA T W ra) σ H Q := by
  obtain ⟨φ, S, τ, o, R, r, e, q⟩ := h
  refine rdA_bnd R r e q fun ds S1 vs H1 φ1 E1 R1 r1 e1 q1 => ?_
  exact ⟨φ1, S1, ds, R1, r1, Fin.of e1 q1⟩
theorem d_callB {id : String} {x : Str} {p : Pos} {g : GN} (hc : CallR X (.builtin id) (rGN T g)) (hg : Gl X x) (hm : X.mg x = none) (hv : bootBuiltins x = some (.builtin id)) (ha : PA X (e :: es) (rdA T W ra)) (hn : x ≠ "__name__" := by decide) (hdb : (x == ("__debug__" : Str)) = false := by decide)
    (he : starEach (e :: es) X.env = (false, eval e X.env) :: starEach es X.env := by rfl) (hpl : (backTo pos (starEach es X.env)).any (·.1) = false := by rfl) : PE X (.Call (.Name x p) (e :: es) [] pos) (rdE T W (eCB g ra)) :=
  (pe_callB hc hg hm hv ha hn hdb he hpl).imp fun _ _ _ h => cb_of h
theorem d_callTy {n : String} {x : Str} {p : Pos} {g : GN} (hc : CallR X (.type n) (rGN T g)) (hg : Gl X x) (hm : X.mg x = none) (hv : bootBuiltins x = some (.type n)) (ha : PA X (e :: es) (rdA T W ra)) (hn : x ≠ "__name__" := by decide) (hdb : (x == ("__debug__" : Str)) = false := by decide)
    (he : starEach (e :: es) X.env = (false, eval e X.env) :: starEach es X.env := by rfl) (hpl : (backTo pos (starEach es X.env)).any (·.1) = false := by rfl) : PE X (.Call (.Name x p) (e :: es) [] pos) (rdE T W (eCB g ra)) :=
  (pe_callTy hc hg hm hv ha hn hdb he hpl).imp fun _ _ _ h => cb_of h
theorem CallR.imp {f : Value} {r r' : List V → Hp → VK → Prop} (h : CallR X f r) (i : ∀ xs H Q, r' xs H Q → r xs H Q) : CallR X f r' := fun pins s σ H xs us Q I rx q => h pins s σ H xs us Q I rx (i xs H Q q)
theorem MtR.imp {f : String} {r r' : V → List V → Hp → VK → Prop} (h : MtR X f r) (i : ∀ x xs H Q, r' x xs H Q → r x xs H Q) : MtR X f r' := fun pins s σ H x xs v us Q I rx rxs q => h pins s σ H x xs v us Q I rx rxs (i x xs H Q q)
theorem IxR.imp {r r' : R2} (h : IxR X r) (i : ∀ x y H Q, r' x y H Q → r x y H Q) : IxR X r' := fun va sl pins s σ H x y v u Q I rx ry q => h va sl pins s σ H x y v u Q I rx ry (i x y H Q q)
/-- one argument -/
theorem one_of {g : D → Sto → Option (D × Sto)} {xs : List V} {H : Hp} {Q : VK} (h : rGN T (fun ds S => match ds with | [d] => g d S | _ => none) xs H Q) : ∃ φ S d v, xs = [v] ∧ Rel T φ S H ∧ RD T H φ d v ∧ Fin T φ H (g d S) Q := by
  obtain ⟨φ, S, ds, R, r, f⟩ := h
  match ds, r, f with
  | [], _, f => obtain ⟨_, _, z, _⟩ := f; cases z
  | [d], r, f =>
    obtain ⟨v, l, rfl, r1, r2⟩ := r
    cases r2
    exact ⟨φ, S, d, v, rfl, R, r1, f⟩
  | _ :: _ :: _, _, f => obtain ⟨_, _, z, _⟩ := f; cases z
theorem two_args {g : D → D → Sto → Option (D × Sto)} {xs : List V} {H : Hp} {Q : VK} (h : rGN T (fun ds S => match ds with | [d, e] => g d e S | _ => none) xs H Q) : ∃ φ S d e v w, xs = [v, w] ∧ Rel T φ S H ∧ RD T H φ d v ∧ RD T H φ e w ∧ Fin T φ H (g d e S) Q := by
  obtain ⟨φ, S, ds, R, r, f⟩ := h
  match ds, r, f with
  | [], _, f => obtain ⟨_, _, z, _⟩ := f; cases z
  | [d], _, f => obtain ⟨_, _, z, _⟩ := f; cases z
  | [d, e], r, f =>
    obtain ⟨v, l, rfl, r1, w, l2, rfl, r2, r3⟩ := r
    cases r3
    exact ⟨φ, S, d, e, v, w, rfl, R, r1, r2, f⟩
  | _ :: _ :: _ :: _, _, f => obtain ⟨_, _, z, _⟩ := f; cases z
def gLen : GN := fun ds S => match ds with
  | [d] => (fun d S => match d with
    | .str x => if x.length ≤ sizeLine then some (.int x.length, S) else none
    | d => (seqD S d).bind fun es => some (.int es.length, S)) d S
  | _ => none
theorem c_len (hK : T.K = X.K) : CallR X (.builtin "len") (rGN T gLen) := CallR.imp call_len fun xs H Q h => by
  obtain ⟨φ, S, d, v, rfl, R, r, f⟩ := one_of h
  refine ⟨v, ?_⟩
  split at f
  · rename_i x
    cases r
    split at f
    · rename_i hl
      exact ⟨x.length, rfl, ⟨hl, rfl⟩, f.val R rfl⟩
    · obtain ⟨_, _, z, _⟩ := f; cases z
  · cases e : seqD S d with
    | none => rw [e] at f; obtain ⟨_, _, z, _⟩ := f; cases z
    | some es =>
      rw [e] at f
      obtain ⟨p, vs, rfl, k, s⟩ := seq_sq R r e
      rw [hK] at k
      have l := s.length
      refine ⟨vs.length, rfl, ?_, f.val R (by rw [← l]; rfl)⟩
      rcases k with k | k
      · exact .inl ⟨vs, k, rfl⟩
      · exact .inr ⟨vs, k, rfl⟩
def gAbs : GN := fun ds S => match ds with
  | [d] => (fun d S => match d with | .int i => some (.int (if i < 0 then -i else i), S) | _ => none) d S
  | _ => none
/-- int(n), int(truth) -/
def gInt : GN := fun ds S => match ds with
  | [d] => (fun d S => match d with | .int i => some (.int i, S) | .bl b => some (.int (if b then 1 else 0), S) | _ => none) d S
  | _ => none
theorem c_int : CallR X (.type "int") (rGN T gInt) := CallR.imp call_int1 fun xs H Q h => by
  obtain ⟨φ, S, d, v, rfl, R, r, f⟩ := one_of h
  split at f
  · cases r; exact .inl ⟨_, rfl, f.val R rfl⟩
  · cases r; exact .inr ⟨_, rfl, f.val R rfl⟩
  · obtain ⟨_, _, z, _⟩ := f; cases z
def gMax2 : GN := fun ds S => match ds with
  | [d, e] => (fun d e S => match d, e with | .int i, .int j => some (.int (if j > i then j else i), S) | _, _ => none) d e S
  | _ => none
theorem c_max2 (hc : X.calm = true) : CallR X (.builtin "max") (rGN T gMax2) := CallR.imp (call_max2 hc) fun xs H Q h => by
  obtain ⟨φ, S, d, e, v, w, rfl, R, r, r2, f⟩ := two_args h
  split at f
  · cases r; cases r2; exact ⟨_, _, rfl, f.val R rfl⟩
  · obtain ⟨_, _, z, _⟩ := f; cases z
def gMin2 : GN := fun ds S => match ds with
  | [d, e] => (fun d e S => match d, e with | .int i, .int j => some (.int (if j < i then j else i), S) | _, _ => none) d e S
  | _ => none
theorem c_min2 (hc : X.calm = true) : CallR X (.builtin "min") (rGN T gMin2) := CallR.imp (call_min2 hc) fun xs H Q h => by
  obtain ⟨φ, S, d, e, v, w, rfl, R, r, r2, f⟩ := two_args h
  split at f
  · cases r; cases r2; exact ⟨_, _, rfl, f.val R rfl⟩
  · obtain ⟨_, _, z, _⟩ := f; cases z
def gTuple : GN := fun ds S => match ds with
  | [d] => (fun d S => (seqD S d).bind fun es => some (.tup es, S)) d S
  | _ => none
theorem c_tuple (hK : T.K = X.K) : CallR X (.type "tuple") (rGN T gTuple) := CallR.imp call_tuple_of fun xs H Q h => by
  obtain ⟨φ, S, d, v, rfl, R, r, f⟩ := one_of h
  cases d with
  | tup ds =>
    have r' := r
    obtain ⟨a, vs, rfl, k, s⟩ := r
    exact ⟨a, vs, rfl, .inr ⟨.inl k, f.val R r'⟩⟩
  | loc n =>
    cases e : seqD S (.loc n) with
    | none => rw [e] at f; obtain ⟨_, _, z, _⟩ := f; cases z
    | some es =>
      rw [e] at f
      simp only [seqD] at e
      obtain ⟨a, rfl, h1⟩ := r
      split at e
      · rename_i q
        cases e
        obtain ⟨vs, k1, k2⟩ := R.obj n _ a q h1
        exact ⟨a, vs, rfl, .inl ⟨.of k1, fun p hp => f.tup R k2 p hp⟩⟩
      · cases e
  | scr ns =>
    obtain ⟨a, rfl, h1⟩ := r
    have q := h1.seq
    rw [hK] at q
    exact ⟨a, _, rfl, .inl ⟨q, fun p hp => f.tup R (ints_rds ns) p hp⟩⟩
  | fl es =>
    obtain ⟨a, vs, rfl, _, k, s⟩ := r
    exact ⟨a, vs, rfl, .inl ⟨.of k, fun p hp => f.tup R s p hp⟩⟩
  | _ => obtain ⟨_, _, z, _⟩ := f; cases z
def gList : GN := fun ds S => match ds with
  | [d] => (fun d S => (seqD S d).bind fun es => some (.loc S.length, S ++ [.lst es])) d S
  | _ => none
theorem c_list (hK : T.K = X.K) : CallR X (.type "list") (rGN T gList) := CallR.imp call_list_of fun xs H Q h => by
  obtain ⟨φ, S, d, v, rfl, R, r, f⟩ := one_of h
  cases e : seqD S d with
  | none => rw [e] at f; obtain ⟨_, _, z, _⟩ := f; cases z
  | some es =>
    rw [e] at f
    obtain ⟨a, vs, rfl, k, s⟩ := seq_sq R r e
    rw [hK] at k
    exact ⟨a, vs, rfl, k, fun l hl => f.lst R s l hl⟩
def intsD : List D → Option (List Int)
  | [] => some []
  | .int i :: r => (intsD r).map (i :: ·)
  | _ => none
theorem ints_ok {H : Hp} {φ : List Addr} : ∀ {ds : List D} {vs : List V} {ns : List Int}, RDs T H φ ds vs → intsD ds = some ns → vs = ns.map V.int
  | [], vs, ns, h, e => by cases h; cases e; rfl
  | d :: ds, vs, ns, h, e => by
    obtain ⟨v, r, rfl, h1, h2⟩ := h
    cases d with
    | int i =>
      cases h1
      simp only [intsD, Option.map_eq_some_iff] at e
      obtain ⟨ms, e1, rfl⟩ := e
      rw [ints_ok h2 e1]; rfl
    | _ => cases e
def maxI : List Int → Int
  | [] => 0
  | [i] => i
  | i :: r => max i (maxI r)
theorem maxI_is : ∀ (ns : List Int) (m : Int), m ∈ ns → (∀ y, y ∈ ns → y ≤ m) → m = maxI ns
  | [], m, h, _ => by cases h
  | [i], m, h, k => by
    simp at h
    exact h
  | i :: j :: r, m, h, k => by
    show m = max i (maxI (j :: r))
    rcases List.mem_cons.mp h with e | e
    · subst e
      have q : ∀ (l : List Int), l ≠ [] → maxI l ∈ l := by
        intro l
        induction l with
        | nil => intro z; exact absurd rfl z
        | cons x xs ih =>
          intro _
          cases xs with
          | nil => simp [maxI]
          | cons y ys =>
            show max x (maxI (y :: ys)) ∈ _
            by_cases hh : x ≤ maxI (y :: ys)
            · rw [Int.max_eq_right hh]; exact List.mem_cons_of_mem _ (ih (by simp))
            · rw [Int.max_eq_left (by omega)]; exact List.mem_cons_self
      have := k _ (List.mem_cons_of_mem _ (q (j :: r) (by simp)))
      omega
    · have h1 := maxI_is (j :: r) m e fun y hy => k y (List.mem_cons_of_mem _ hy)
      have h2 := k i List.mem_cons_self
      rw [← h1]; omega
/-- max of a list of whole numbers -/
def gMax1 : GN := fun ds S => match ds with
  | [d] => (fun d S => match d with
    | .loc n => (seqD S (.loc n)).bind fun es => (intsD es).bind fun ns => if ns = [] then none else some (.int (maxI ns), S)
    | .fl es => (intsD es).bind fun ns => if ns = [] then none else some (.int (maxI ns), S)
    | _ => none) d S
  | _ => none
theorem c_max1 (hK : T.K = X.K) (hc : X.calm = true) : CallR X (.builtin "max") (rGN T gMax1) := CallR.imp (cr_max hc) fun xs H Q h => by
  obtain ⟨φ, S, d, v, rfl, R, r, f⟩ := one_of h
  split at f
  · rename_i n
    cases e : seqD S (.loc n) with
    | none => rw [e] at f; obtain ⟨_, _, z, _⟩ := f; cases z
    | some es =>
      rw [e] at f
      simp only [Option.bind_some] at f
      cases e2 : intsD es with
      | none => rw [e2] at f; obtain ⟨_, _, z, _⟩ := f; cases z
      | some ns =>
        rw [e2] at f
        simp only [Option.bind_some] at f
        split at f
        · obtain ⟨_, _, z, _⟩ := f; cases z
        · rename_i hne
          obtain ⟨a, rfl, h1⟩ := r
          have key : ∃ vs, SqL X.K H a vs ∧ RDs T H φ es vs := by
            simp only [seqD] at e
            split at e
            · rename_i q
              cases e
              obtain ⟨vs, k1, k2⟩ := R.obj n _ a q h1
              exact ⟨vs, .of k1, k2⟩
            · cases e
          obtain ⟨vs, k1, k2⟩ := key
          rw [ints_ok k2 e2] at k1
          exact ⟨a, ns, rfl, k1, List.length_pos_iff.mpr hne, fun m h1 h2 => by rw [maxI_is ns m h1 h2]; exact f.val R rfl⟩
  · rename_i es
    cases e2 : intsD es with
    | none => rw [e2] at f; obtain ⟨_, _, z, _⟩ := f; cases z
    | some ns =>
      rw [e2] at f
      simp only [Option.bind_some] at f
      split at f
      · obtain ⟨_, _, z, _⟩ := f; cases z
      · rename_i hne
        obtain ⟨a, vs, rfl, _, k1, k2⟩ := r
        rw [ints_ok k2 e2] at k1
        exact ⟨a, ns, rfl, .of k1, List.length_pos_iff.mpr hne, fun m h1 h2 => by rw [maxI_is ns m h1 h2]; exact f.val R rfl⟩
  · obtain ⟨_, _, z, _⟩ := f; cases z
/-- of two numbers, or of a list -/
def gMax : GN := fun ds S => match ds with
  | [d] => gMax1 [d] S
  | ds => gMax2 ds S
theorem c_max (hK : T.K = X.K) (hc : X.calm = true) : CallR X (.builtin "max") (rGN T gMax) := CallR.imp (CallR.or (c_max1 (T := T) hK hc) (c_max2 (T := T) hc)) fun xs H Q h => by
  obtain ⟨φ, S, ds, R, r, f⟩ := h
  unfold gMax at f
  split at f
  · exact .inl ⟨φ, S, _, R, r, f⟩
  · exact .inr ⟨φ, S, _, R, r, f⟩

/-! ## subscripts, slices -/
def gIx : G2 := fun x y S => match y with
  | .int i => match x with
    | .str z => if z.length ≤ sizeLine then (atI z.cps.toList i).bind fun c => some (.str ⟨#[c]⟩, S) else none
    | x => (seqD S x).bind fun ds => (atI ds i).bind fun d => some (d, S)
  | _ => none
theorem atI_rds {H : Hp} {φ : List Addr} {ds : List D} {vs : List V} {i : Int} {d : D} (r : RDs T H φ ds vs) (h : atI ds i = some d) : ∃ v, atI vs i = some v ∧ RD T H φ d v := by
  unfold atI at h ⊢
  rw [← r.length]
  cases e : ixN ds.length i with
  | none => rw [e] at h; cases h
  | some j =>
    rw [e] at h
    exact r.get (i := j) h
theorem x_ix (hK : T.K = X.K) : IxR X (rG2 T gIx) := IxR.imp ix_seq fun x y H Q h => by
  obtain ⟨φ, S, d1, d2, R, r1, r2, f⟩ := h
  simp only [gIx] at f
  split at f
  · rename_i i
    cases r2
    split at f
    · rename_i z
      cases r1
      split at f
      · rename_i hl
        cases e : atI z.cps.toList i with
        | none => rw [e] at f; obtain ⟨_, _, z, _⟩ := f; cases z
        | some c => rw [e] at f; exact .inr (.inr ⟨z, i, c, rfl, rfl, hl, e, f.val R rfl⟩)
      · obtain ⟨_, _, z, _⟩ := f; cases z
    · cases e : seqD S d1 with
      | none => rw [e] at f; obtain ⟨_, _, z, _⟩ := f; cases z
      | some ds =>
        rw [e] at f
        simp only [Option.bind_some] at f
        cases e2 : atI ds i with
        | none => rw [e2] at f; obtain ⟨_, _, z, _⟩ := f; cases z
        | some d =>
          rw [e2] at f
          obtain ⟨a, vs, rfl, k, s⟩ := seq_sq R r1 e
          rw [hK] at k
          obtain ⟨v, h1, h2⟩ := atI_rds s e2
          rcases k with k | k
          · exact .inl ⟨a, vs, i, v, rfl, rfl, k, h1, f.val R h2⟩
          · exact .inr (.inl ⟨a, vs, i, v, rfl, rfl, k, h1, f.val R h2⟩)
  · obtain ⟨_, _, z, _⟩ := f; cases z
theorem d_ix {g : G2} (hr : IxR X (rG2 T g)) (ha : PE X a (rdE T W fa)) (hb : PE X b (rdE T W fb)) (hs : PlainIx b := by exact fun _ _ => rfl) : PE X (.Subscript a b pos) (rdE T W (eB g fa fb)) :=
  (pe_ix hr ha hb hs).imp fun _ _ _ h => two_of h
/-- an end of a slice -/
abbrev OF := Sl → M (Option Int)
def EndO (T : Tb) (φ : List Addr) (H : Hp) (o : Rs (Option Int)) (Q : Option Int → Hp → Prop) (W : XK) : Prop := match o with
  | .ok b S' => ∀ φ' H', Ext φ H φ' H' → Rel T φ' S' H' → Q b H'
  | .ex x S' => ∀ φ' H' d, Ext φ H φ' H' → Rel T φ' S' H' → RX x d H' → W (.ref x.cls) d H'
def rdO (T : Tb) (W : WX) (f : OF) : TO := fun σ H Q => ∃ φ S τ o, Rel T φ S H ∧ RSl T H φ τ σ ∧ f τ S = some o ∧ EndO T φ H o Q fun c d H' => W c d σ H'
theorem _root_.L2.PO.imp {e : Option Expr} {t t' : TO} (h : PO X e t) (i : ∀ σ H Q, t' σ H Q → t σ H Q) : PO X e t' := ⟨fun pins s σ H Q I hq => h.run pins s σ H Q I (i σ H Q hq)⟩
def oNo : OF := fun _ S => some (.ok none S)
def oSo (f : EF) : OF := fun τ => (f τ).bnd fun d S => match d with | .int i => some (.ok (some i) S) | _ => none
theorem d_noPart : PO X none (rdO T W oNo) := po_none.imp fun σ H Q h => by
  obtain ⟨φ, S, τ, o, R, r, e, q⟩ := h
  cases e
  exact q φ H .refl R
theorem d_part (h : PE X e (rdE T W fa)) : PO X (some e) (rdO T W (oSo fa)) := (po_some h).imp fun σ H Q h => by
  obtain ⟨φ, S, τ, o, R, r, e, q⟩ := h
  unfold oSo M.bnd at e
  cases e1 : fa τ S with
  | none => rw [e1] at e; cases e
  | some x =>
    rw [e1] at e
    refine ⟨φ, S, τ, x, R, r, e1, ?_⟩
    cases x with
    | ex x S1 => cases e; exact q
    | ok d S1 =>
      simp only at e
      split at e
      · cases e
        rename_i i
        exact fun φ' H' v E R' r' => by cases r'; exact ⟨i, rfl, q φ' H' E R'⟩
      · cases e
def cutD (ds : List D) (lo hi : Option Int) : List D := (ds.drop (HT.sIx ds.length 0 lo)).take (HT.sIx ds.length ds.length hi - HT.sIx ds.length 0 lo)
theorem cut_rds {H : Hp} {φ : List Addr} {ds : List D} {vs : List V} (r : RDs T H φ ds vs) (lo hi : Option Int) : RDs T H φ (cutD ds lo hi) (cutV vs lo hi) := by
  unfold cutD cutV
  rw [r.length]
  exact (r.drop _).take _
abbrev GS := D → Option Int → Option Int → Sto → Option (D × Sto)
def gSl : GS := fun x lo hi S => match x with
  | .tup ds => some (.tup (cutD ds lo hi), S)
  | .fl ds => some (.fl (cutD ds lo hi), S)
  | x => (seqD S x).bind fun ds => some (.loc S.length, S ++ [.lst (cutD ds lo hi)])
def rGS (T : Tb) (g : GS) : V → Option Int → Option Int → Hp → VK → Prop := fun x lo hi H Q => ∃ φ S d, Rel T φ S H ∧ RD T H φ d x ∧ Fin T φ H (g d lo hi S) Q
theorem SlR.imp {r r' : V → Option Int → Option Int → Hp → VK → Prop} (h : SlR X r) (i : ∀ x lo hi H Q, r' x lo hi H Q → r x lo hi H Q) : SlR X r' := by
  intro pins s σ H x v vl vu lo hi sl Q I rx hs pl pu q
  exact h pins s σ H x v vl vu lo hi sl Q I rx hs pl pu (i x lo hi H Q q)
theorem cutD_whole {ds : List D} {lo hi : Option Int} (h : HT.sIx ds.length 0 lo = 0 ∧ HT.sIx ds.length ds.length hi = ds.length) : cutD ds lo hi = ds := by
  unfold cutD
  rw [h.1, h.2]; simp
theorem s_sl (hK : T.K = X.K) : SlR X (rGS T gSl) := SlR.imp (SlR.or sl_list sl_tupA) fun x lo hi H Q h => by
  obtain ⟨φ, S, d, R, r, f⟩ := h
  simp only [gSl] at f
  split at f
  · rename_i ds
    have r' := r
    obtain ⟨a, vs, rfl, k, s⟩ := r
    have l := s.length
    refine .inr ⟨a, vs, rfl, .inl k, fun hw => ?_, fun hw p hp => f.tup R (cut_rds s lo hi) p hp⟩
    rw [← l] at hw
    rw [cutD_whole hw] at f
    exact f.val R r'
  · rename_i ds
    obtain ⟨a, vs, rfl, _, k, s⟩ := r
    exact .inl ⟨a, vs, rfl, .of k, fun p hp => f.fl R (cut_rds s lo hi) p hp⟩
  · rename_i hn hn2
    cases e : seqD S d with
    | none => rw [e] at f; obtain ⟨_, _, z, _⟩ := f; cases z
    | some ds =>
      rw [e] at f
      cases d with
      | loc n =>
        obtain ⟨a, rfl, h1⟩ := r
        simp only [seqD] at e
        split at e
        · rename_i q
          cases e
          obtain ⟨vs, k1, k2⟩ := R.obj n _ a q h1
          exact .inl ⟨a, vs, rfl, .of k1, fun p hp => f.lst R (cut_rds k2 lo hi) p hp⟩
        · cases e
      | tup ds => exact absurd rfl (hn ds)
      | fl ds => exact absurd rfl (hn2 ds)
      | scr ns =>
        cases e
        obtain ⟨a, rfl, h1⟩ := r
        have q := h1.seq
        rw [hK] at q
        exact .inl ⟨a, _, rfl, q, fun p hp => f.lst R (cut_rds (ints_rds ns) lo hi) p hp⟩
      | _ => cases e
def eSl (fe : EF) (lo hi : OF) : EF := fun τ => (fe τ).bnd fun x => (lo τ).bnd fun l => (hi τ).bnd fun u S => lft (gSl x l u S)
theorem rdO_bnd {a : OF} {k : Option Int → M D} {φ : List Addr} {S : Sto} {τ : Sl} {o : Rs D} {σ : L2.St} {H : Hp} {Q : VK} (R : Rel T φ S H) (r : RSl T H φ τ σ) (h : (a τ).bnd k S = some o) (q : EndE T φ H o Q fun c d H' => W c d σ H') {Q' : Option Int → Hp → Prop}
    (n : ∀ d S1 H1 φ1, Ext φ H φ1 H1 → Rel T φ1 S1 H1 → k d S1 = some o → EndE T φ1 H1 o Q (fun c d H' => W c d σ H') → Q' d H1) : rdO T W a σ H Q' := by
  unfold M.bnd at h
  cases e : a τ S with
  | none => rw [e] at h; cases h
  | some x =>
    rw [e] at h
    refine ⟨φ, S, τ, x, R, r, e, ?_⟩
    cases x with
    | ok d S1 => exact fun φ' H' e1 e2 => n d S1 H' φ' e1 e2 h (q.mono e1)
    | ex x S1 => cases h; exact q
theorem d_sl (hK : T.K = X.K) {lo hi : Option Expr} {p2 : Pos} {fl fh : OF} (he : PE X e (rdE T W fa)) (hl : PO X lo (rdO T W fl)) (hu : PO X hi (rdO T W fh)) : PE X (.Subscript e (.Slice lo hi none p2) pos) (rdE T W (eSl fa fl fh)) :=
  (pe_slice (s_sl (T := T) hK) he hl hu).imp fun σ H Q h => by
    obtain ⟨φ, S, τ, o, R, r, e, q⟩ := h
    refine rdE_bnd R r e q fun d1 S1 v1 H1 φ1 ⟨E1, R1, r1⟩ e1 q1 => ?_
    refine rdO_bnd R1 (r.ext E1) e1 q1 fun l S2 H2 φ2 E2 R2 e2 q2 => ?_
    refine rdO_bnd R2 ((r.ext E1).ext E2) e2 q2 fun u S3 H3 φ3 E3 R3 e3 q3 => ?_
    exact ⟨φ3, S3, d1, R3, (r1.ext E2 _ _).ext E3 _ _, Fin.of e3 q3⟩

/-! ## methods of built-in types -/
abbrev GM := D → List D → Sto → Option (D × Sto)
def rGM (T : Tb) (g : GM) : V → List V → Hp → VK → Prop := fun x xs H Q => ∃ φ S d ds, Rel T φ S H ∧ RD T H φ d x ∧ RDs T H φ ds xs ∧ Fin T φ H (g d ds S) Q
/-- what has the type -/
def tyD (S : Sto) (n : String) : D → Bool
  | .str _ => decide (n = "str")
  | .loc k => match S[k]? with
    | some (.lst _) => decide (n = "list")
    | some (.dct _) => decide (n = "dict")
    | _ => false
  | .fl _ => decide (n = "list")
  | _ => false
theorem ty_ok {K : PySem.W.Frag} {φ : List Addr} {S : Sto} {H : Hp} {n : String} {d : D} {v : V} (R : Rel T φ S H) (r : RD T H φ d v) (h : tyD S n d = true) : tyV K n v H := by
  cases d with
  | str x => cases r; exact (of_decide_eq_true h : n = "str")
  | loc k =>
    obtain ⟨a, rfl, h1⟩ := r
    simp only [tyD] at h
    split at h
    · rename_i q
      obtain ⟨vs, k1, k2⟩ := R.obj k _ a q h1
      exact .inl ⟨of_decide_eq_true h, vs, .of k1⟩
    · rename_i q
      obtain ⟨ws, k1, _⟩ := R.obj k _ a q h1
      exact .inr (.inr (.inl ⟨of_decide_eq_true h, .inl ⟨ws, k1⟩⟩))
    · cases h
  | fl ds =>
    obtain ⟨a, vs, rfl, _, k1, k2⟩ := r
    exact .inl ⟨of_decide_eq_true h, vs, .of k1⟩
  | _ => cases h
def eBM (n : String) (g : GM) (fo : EF) (r : AF) : EF := fun τ => (fo τ).bnd fun x S => if tyD S n x = true then (r τ).bnd (fun ds S => lft (g x ds S)) S else none
variable {o : Expr} {fo : EF} {name : Str} {apos cpos : Pos} {n id : String} {g : GM}
theorem d_bm (pa : PlainAttrs n) (slot : Slot n name id) (hty : typeOf (.builtin id) = pure (.type "method_descriptor")) (hm : MtR X id (rGM T g)) (ho : PE X o (rdE T W fo)) (ha : PA X (e :: es) (rdA T W ra))
    (hbase : attributeBase o name X.env (eval o X.env) = eval o X.env := by rfl)
    (hfew : ((backTo cpos (starEach (e :: es) X.env)).all (fun x => !x.1) && (backToKw cpos (keywordEach [] X.env)).all (fun x => x.1.isSome)
      && decide ((e :: es).length + ([] : List Keyword).length + (if ([] : List Keyword).isEmpty then 0 else 1) < 30)) = true := by rfl)
    (hline : (apos.endLine == cpos.line) = true := by rfl) (hs : starEach (e :: es) X.env = (false, eval e X.env) :: starEach es X.env := by rfl) (hplain : (backTo cpos (starEach es X.env)).any (·.1) = false := by rfl) :
    PE X (.Call (.Attribute o name apos) (e :: es) [] cpos) (rdE T W (eBM n g fo ra)) :=
  (pe_bm pa slot hty hm ho ha hbase hfew hline hs hplain).imp fun σ H Q h => by
    obtain ⟨φ, S, τ, o, R, r, e, q⟩ := h
    refine rdE_bnd R r e q fun d1 S1 v1 H1 φ1 ⟨E1, R1, r1⟩ e1 q1 => ?_
    split at e1
    · rename_i ht
      refine ⟨ty_ok R1 r1 ht, rdA_bnd R1 (r.ext E1) e1 q1 fun ds S2 vs H2 φ2 E2 R2 r2 e2 q2 => ?_⟩
      exact ⟨φ2, S2, d1, ds, R2, r1.ext E2 _ _, r2, Fin.of e2 q2⟩
    · cases e1
theorem mem_lt {S : Sto} {n : Nat} {o : Ob} (h : S[n]? = some o) : n < S.length := (List.getElem?_eq_some_iff.mp h).1
def gAppend : GM := fun x ds S => match x, ds with
  | .loc n, [d] => (listD S (.loc n)).bind fun es => if es.length < sizeLine then some (.non, S.set n (.lst (es ++ [d]))) else none
  | _, _ => none
theorem m_append : MtR X "list.append" (rGM T gAppend) := MtR.imp mt_append fun x xs H Q h => by
  obtain ⟨φ, S, d, ds, R, r1, r2, f⟩ := h
  simp only [gAppend] at f
  split at f
  · rename_i k y
    cases e : listD S (.loc k) with
    | none => rw [e] at f; obtain ⟨_, _, z, _⟩ := f; cases z
    | some es =>
      rw [e] at f
      simp only [Option.bind_some] at f
      split at f
      · rename_i hl
        obtain ⟨m, a, vs, e1, rfl, hS, hφ, hH, s⟩ := list_sq R r1 e
        cases e1
        obtain ⟨v, l, rfl, r3, r4⟩ := r2
        cases r4
        refine ⟨a, vs, v, rfl, rfl, hH, by rw [← s.length]; exact hl, ?_⟩
        exact f.put R hφ (mem_lt hS) hH (s.app (RDs.one r3)) rfl
      · obtain ⟨_, _, z, _⟩ := f; cases z
  · obtain ⟨_, _, z, _⟩ := f; cases z
/-- xs.pop(i) -/
def gPopAt : GM := fun x ds S => match x, ds with
  | .loc n, [.int i] => (listD S (.loc n)).bind fun es => if -(2 ^ 63) ≤ i ∧ i < 2 ^ 63 then (seqIndex? i es.length).bind fun k => (es[k]?).bind fun d => some (d, S.set n (.lst (es.eraseIdx k))) else none
  | _, _ => none
theorem m_popAt : MtR X "list.pop" (rGM T gPopAt) := MtR.imp mt_popAt fun x xs H Q h => by
  obtain ⟨φ, S, d, ds, R, r1, r2, f⟩ := h
  simp only [gPopAt] at f
  split at f
  · rename_i k i
    cases e : listD S (.loc k) with
    | none => rw [e] at f; obtain ⟨_, _, z, _⟩ := f; cases z
    | some es =>
      rw [e] at f
      simp only [Option.bind_some] at f
      split at f
      · rename_i hi
        cases e2 : seqIndex? i es.length with
        | none => rw [e2] at f; obtain ⟨_, _, z, _⟩ := f; cases z
        | some j =>
          rw [e2] at f
          simp only [Option.bind_some] at f
          cases e3 : es[j]? with
          | none => rw [e3] at f; obtain ⟨_, _, z, _⟩ := f; cases z
          | some y =>
            rw [e3] at f
            obtain ⟨m, a, vs, e1, rfl, hS, hφ, hH, s⟩ := list_sq R r1 e
            cases e1
            obtain ⟨v, l, rfl, r3, r4⟩ := r2
            cases r3
            cases r4
            obtain ⟨w, h1, h2⟩ := s.get e3
            refine ⟨a, vs, i, j, w, rfl, rfl, hH, hi.1, hi.2, by rw [← s.length]; exact e2, h1, ?_⟩
            exact f.put R hφ (mem_lt hS) hH (s.eraseIdx j) h2
      · obtain ⟨_, _, z, _⟩ := f; cases z
  · obtain ⟨_, _, z, _⟩ := f; cases z
def gInsert : GM := fun x ds S => match x, ds with
  | .loc n, [.int i, d] => (listD S (.loc n)).bind fun es => if es.length < sizeLine ∧ 0 ≤ i ∧ i < 2 ^ 63 then some (.non, S.set n (.lst (es.take i.toNat ++ [d] ++ es.drop i.toNat))) else none
  | _, _ => none
end
end Sb
end
section
set_option Elab.async false
set_option linter.all false
set_option maxRecDepth 100000
set_option maxHeartbeats 4000000
namespace Sb
open PySem PySem.Spec PyProof.Rows L2

section
variable {X : Cx} {T : Tb} {W : WX} {pos : Pos}
variable {a b c e : Expr} {es rest : List Expr} {fa fb fc : EF} {ra : AF} {ta tb : BF}
/-! ## truth, tests -/
def truD (S : Sto) : D → Option Bool
  | .non => some false
  | .bl b => some b
  | .int i => some (i != 0)
  | .str x => if x.length ≤ sizeLine then some ((x.length : Int) != 0) else none
  | .tup ds => some (!ds.isEmpty)
  | .loc n => match S[n]? with
    | some (.lst ds) => some (!ds.isEmpty)
    | some (.dct kvs) => some (!kvs.isEmpty)
    | _ => none
  | .scr _ => none
  | .fl ds => some (!ds.isEmpty)
  | .exn _ => none
  | .fd _ _ => none
  | .rgo _ _ => none
  | .ntu _ => none
theorem emp_rds {H : Hp} {φ : List Addr} {ds : List D} {vs : List V} (r : RDs T H φ ds vs) : ds.isEmpty = vs.isEmpty := by
  have l := r.length
  cases ds <;> cases vs <;> simp_all
theorem tru_of {K : PySem.W.Frag} {φ : List Addr} {S : Sto} {H : Hp} {d : D} {v : V} {k : Bool} (R : Rel T φ S H) (r : RD T H φ d v) (h : truD S d = some k) : TruV K v H k := by
  cases d with
  | non => cases r; cases h; exact rfl
  | bl b => cases r; cases h; exact rfl
  | int i => cases r; cases h; exact rfl
  | str x =>
    cases r
    simp only [truD] at h
    split at h
    · rename_i hl; cases h; exact ⟨hl, rfl⟩
    · cases h
  | tup ds =>
    obtain ⟨p, vs, rfl, k1, s⟩ := r
    cases h
    exact .inr (.inl ⟨vs, .inl k1, by rw [emp_rds s]⟩)
  | loc n =>
    obtain ⟨p, rfl, h1⟩ := r
    simp only [truD] at h
    split at h
    · rename_i q
      cases h
      obtain ⟨vs, k1, k2⟩ := R.obj n _ p q h1
      exact .inl ⟨vs, .of k1, by rw [emp_rds k2]⟩
    · rename_i q
      cases h
      rename_i kvs
      obtain ⟨ws, k1, k2, _⟩ := R.obj n _ p q h1
      refine .inr (.inr ⟨ws, k1, ?_⟩)
      cases ws <;> cases kvs <;> simp_all
    · cases h
  | scr ns => cases h
  | exn c => cases h
  | fd ks ds => cases h
  | rgo lo hi => cases h
  | ntu ds => cases h
  | fl ds =>
    obtain ⟨p, vs, rfl, _, k1, s⟩ := r
    cases h
    exact .inl ⟨vs, .of k1, by rw [emp_rds s]⟩
/-- a test by a truth -/
def tB (f : EF) : BF := fun τ => (f τ).bnd fun d S => match d with | .bl b => some (.ok b S) | _ => none
/-- a test by any value's truth -/
def tTr (f : EF) : BF := fun τ => (f τ).bnd fun d S => (truD S d).bind fun b => some (.ok b S)
theorem rdE_bndB {a : EF} {k : D → M Bool} {φ : List Addr} {S : Sto} {τ : Sl} {o : Rs Bool} {σ : L2.St} {H : Hp} {Q : Bool → Hp → Prop} (R : Rel T φ S H) (r : RSl T H φ τ σ) (h : (a τ).bnd k S = some o) (q : EndB T φ H o Q fun c d H' => W c d σ H') {Q' : VK}
    (n : ∀ d S1 v H1 φ1, At T φ H d S1 v H1 φ1 → k d S1 = some o → EndB T φ1 H1 o Q (fun c d H' => W c d σ H') → Q' v H1) : rdE T W a σ H Q' := by
  unfold M.bnd at h
  cases e : a τ S with
  | none => rw [e] at h; cases h
  | some x =>
    rw [e] at h
    refine ⟨φ, S, τ, x, R, r, e, ?_⟩
    cases x with
    | ok d S1 => exact fun φ' H' v e1 e2 e3 => n d S1 v H' φ' ⟨e1, e2, e3⟩ h (q.mono e1)
    | ex x S1 => cases h; exact q
theorem rdT_bndB {a : BF} {k : Bool → M Bool} {φ : List Addr} {S : Sto} {τ : Sl} {o : Rs Bool} {σ : L2.St} {H : Hp} {Q : Bool → Hp → Prop} (R : Rel T φ S H) (r : RSl T H φ τ σ) (h : (a τ).bnd k S = some o) (q : EndB T φ H o Q fun c d H' => W c d σ H') {Q' : Bool → Hp → Prop}
    (n : ∀ d S1 H1 φ1, Ext φ H φ1 H1 → Rel T φ1 S1 H1 → k d S1 = some o → EndB T φ1 H1 o Q (fun c d H' => W c d σ H') → Q' d H1) : rdT T W a σ H Q' := by
  unfold M.bnd at h
  cases e : a τ S with
  | none => rw [e] at h; cases h
  | some x =>
    rw [e] at h
    refine ⟨φ, S, τ, x, R, r, e, ?_⟩
    cases x with
    | ok d S1 => exact fun φ' H' e1 e2 => n d S1 H' φ' e1 e2 h (q.mono e1)
    | ex x S1 => cases h; exact q
theorem rdT_at {a : BF} {φ : List Addr} {S : Sto} {τ : Sl} {o : Rs Bool} {σ : L2.St} {H : Hp} {Q : Bool → Hp → Prop} (R : Rel T φ S H) (r : RSl T H φ τ σ) (h : a τ S = some o) (q : EndB T φ H o Q fun c d H' => W c d σ H') : rdT T W a σ H Q := ⟨φ, S, τ, o, R, r, h, q⟩
theorem rdE_at {a : EF} {φ : List Addr} {S : Sto} {τ : Sl} {o : Rs D} {σ : L2.St} {H : Hp} {Q : VK} (R : Rel T φ S H) (r : RSl T H φ τ σ) (h : a τ S = some o) (q : EndE T φ H o Q fun c d H' => W c d σ H') : rdE T W a σ H Q := ⟨φ, S, τ, o, R, r, h, q⟩
theorem tB_of {σ : L2.St} {H : Hp} {Q : Bool → Hp → Prop} (h : rdT T W (tB fa) σ H Q) : rdE T W fa σ H fun x H1 => ∃ c, x = .bl c ∧ Q c H1 := by
  obtain ⟨φ, S, τ, o, R, r, e, q⟩ := h
  refine rdE_bndB R r e q fun d1 S1 v1 H1 φ1 ⟨E1, R1, r1⟩ e1 q1 => ?_
  split at e1
  · cases e1; cases r1; exact ⟨_, rfl, q1 φ1 H1 .refl R1⟩
  · cases e1
theorem t_val (h : PE X e (rdE T W fa)) (he : ∀ whole, isTrue e X.env whole = (do let v ← whole; standAt e.pos; holding [v] (truthy v)) := by intro _; rfl) : PT X e (rdT T W (tB fa)) :=
  (pt_val h he).imp fun _ _ _ h => tB_of h
theorem t_tru (h : PE X e (rdE T W fa)) (he : ∀ whole, isTrue e X.env whole = (do let v ← whole; standAt e.pos; holding [v] (truthy v)) := by intro _; rfl) : PT X e (rdT T W (tTr fa)) :=
  (pt_truth h he).imp fun σ H Q h => by
    obtain ⟨φ, S, τ, o, R, r, e, q⟩ := h
    refine rdE_bndB R r e q fun d1 S1 v1 H1 φ1 ⟨E1, R1, r1⟩ e1 q1 => ?_
    simp only [Option.bind_eq_some_iff] at e1
    obtain ⟨k, e2, e3⟩ := e1
    cases e3
    exact ⟨k, tru_of R1 r1 e2, q1 φ1 H1 .refl R1⟩
theorem t_cmp {op : CmpOp} {g : G2} (ho : OpR X (compareOp op) (rG2 T g)) (ha : PE X a (rdE T W fa)) (hb : PE X b (rdE T W fb)) (hm : behindInMarks op b = false) : PT X (.Compare a [op] [b] pos) (rdT T W (tB (eB g fa fb))) :=
  (pt_cmpR ho ha hb hm).imp fun σ H Q h => two_of (tB_of h)
def tAn (t u : BF) : BF := fun τ => (t τ).bnd fun b => if b = true then u τ else fun S => some (.ok false S)
def tOr' (t u : BF) : BF := fun τ => (t τ).bnd fun b => if b = true then (fun S => some (.ok true S)) else u τ
def tNt (t : BF) : BF := fun τ => (t τ).bnd fun b S => some (.ok (!b) S)
theorem w_and1 (h : PT X a (rdT T W ta)) : PW X (.BoolOp .And [a] pos) (rdT T W ta) := pw_and1 h
theorem w_or1 (h : PT X a (rdT T W ta)) : PW X (.BoolOp .Or [a] pos) (rdT T W ta) := pw_or1 h
theorem w_and (h : PT X a (rdT T W ta)) (h2 : PW X (.BoolOp .And (b :: rest) pos) (rdT T W tb)) : PW X (.BoolOp .And (a :: b :: rest) pos) (rdT T W (tAn ta tb)) := (pw_and h h2).imp fun σ H Q h => by
  obtain ⟨φ, S, τ, o, R, r, e, q⟩ := h
  refine rdT_bndB R r e q fun k S1 H1 φ1 E1 R1 e1 q1 => ?_
  cases k with
  | true => exact rdT_at R1 (r.ext E1) e1 q1
  | false => cases e1; exact q1 φ1 H1 .refl R1
theorem w_or (h : PT X a (rdT T W ta)) (h2 : PW X (.BoolOp .Or (b :: rest) pos) (rdT T W tb)) : PW X (.BoolOp .Or (a :: b :: rest) pos) (rdT T W (tOr' ta tb)) := (pw_or h h2).imp fun σ H Q h => by
  obtain ⟨φ, S, τ, o, R, r, e, q⟩ := h
  refine rdT_bndB R r e q fun k S1 H1 φ1 E1 R1 e1 q1 => ?_
  cases k with
  | true => cases e1; exact q1 φ1 H1 .refl R1
  | false => exact rdT_at R1 (r.ext E1) e1 q1
theorem t_not (h : PT X a (rdT T W ta)) : PT X (.UnaryOp .Not a pos) (rdT T W (tNt ta)) := (pt_not h).imp fun σ H Q h => by
  obtain ⟨φ, S, τ, o, R, r, e, q⟩ := h
  refine rdT_bndB R r e q fun k S1 H1 φ1 E1 R1 e1 q1 => ?_
  cases e1
  exact q1 φ1 H1 .refl R1
/-! ## values by tests -/
def eIf (t : BF) (fa fb : EF) : EF := fun τ => (t τ).bnd fun b => if b = true then fa τ else fb τ
theorem d_if (h : PT X c (rdT T W ta)) (ha : PE X a (rdE T W fa)) (hb : PE X b (rdE T W fb)) : PE X (.IfExp c a b pos) (rdE T W (eIf ta fa fb)) := (pe_ifExp h ha hb).imp fun σ H Q h => by
  obtain ⟨φ, S, τ, o, R, r, e, q⟩ := h
  refine rdT_bnd R r e q fun k S1 H1 φ1 E1 R1 e1 q1 => ?_
  cases k with
  | true => exact rdE_at R1 (r.ext E1) e1 q1
  | false => exact rdE_at R1 (r.ext E1) e1 q1
def eAnd (fa fb : EF) : EF := fun τ => (fa τ).bnd fun d S => (truD S d).bind fun b => if b = true then fb τ S else some (.ok d S)
def eOr (fa fb : EF) : EF := fun τ => (fa τ).bnd fun d S => (truD S d).bind fun b => if b = true then some (.ok d S) else fb τ S
def eNot (fa : EF) : EF := fun τ => (fa τ).bnd fun d S => (truD S d).bind fun b => some (.ok (.bl (!b)) S)
theorem d_one {op} (h : PE X a (rdE T W fa)) : PE X (.BoolOp op [a] pos) (rdE T W fa) := pe_one h
theorem d_and (ha : PE X a (rdE T W fa)) (hb : PE X (.BoolOp .And (b :: rest) pos) (rdE T W fb)) : PE X (.BoolOp .And (a :: b :: rest) pos) (rdE T W (eAnd fa fb)) := (pe_andT ha hb).imp fun σ H Q h => by
  obtain ⟨φ, S, τ, o, R, r, e, q⟩ := h
  refine rdE_bnd R r e q fun d S1 v H1 φ1 ⟨E1, R1, r1⟩ e1 q1 => ?_
  simp only [Option.bind_eq_some_iff] at e1
  obtain ⟨k, e2, e3⟩ := e1
  refine ⟨k, tru_of R1 r1 e2, ?_⟩
  cases k with
  | true => exact rdE_at R1 (r.ext E1) e3 q1
  | false => cases e3; exact q1 φ1 H1 v .refl R1 r1
theorem d_not (ha : PE X a (rdE T W fa)) : PE X (.UnaryOp .Not a pos) (rdE T W (eNot fa)) := (pe_notT ha).imp fun σ H Q h => by
  obtain ⟨φ, S, τ, o, R, r, e, q⟩ := h
  refine rdE_bnd R r e q fun d S1 v H1 φ1 ⟨E1, R1, r1⟩ e1 q1 => ?_
  simp only [Option.bind_eq_some_iff] at e1
  obtain ⟨k, e2, e3⟩ := e1
  cases e3
  exact ⟨k, tru_of R1 r1 e2, q1 φ1 H1 _ .refl R1 rfl⟩
/-- a < b < c -/
def eCh (g g' : G2) (fa fb fc : EF) : EF := fun τ => (fa τ).bnd fun x => (fb τ).bnd fun y S => match g x y S with
  | some (.bl true, S1) => (fc τ).bnd (fun z S => lft (g' y z S)) S1
  | some (.bl false, S1) => some (.ok (.bl false) S1)
  | _ => none
theorem d_chain {op op' : CmpOp} {g g' : G2} (ho : OpR X (compareOp op) (rG2 T g)) (ho' : OpR X (compareOp op') (rG2 T g')) (ha : PE X a (rdE T W fa)) (hb : PE X b (rdE T W fb)) (hc : PE X c (rdE T W fc)) (hlm : lastMarks [op, op'] [b, c] = false := by with_unfolding_all rfl) :
    PE X (.Compare a [op, op'] [b, c] pos) (rdE T W (eCh g g' fa fb fc)) := (pe_chain ho ho' ha hb hc hlm).imp fun σ H Q h => by
  obtain ⟨φ, S, τ, o, R, r, e, q⟩ := h
  refine rdE_bnd R r e q fun d1 S1 v1 H1 φ1 ⟨E1, R1, r1⟩ e1 q1 => ?_
  refine rdE_bnd R1 (r.ext E1) e1 q1 fun d2 S2 v2 H2 φ2 ⟨E2, R2, r2⟩ e2 q2 => ?_
  split at e2
  · rename_i S3 eg
    refine ⟨φ2, S2, d1, d2, R2, r1.ext E2 _ _, r2, _, _, eg, fun φ3 H3 v3 E3 R3 r3 => ?_⟩
    cases r3
    refine ⟨true, rfl, ?_⟩
    rw [if_pos rfl]
    refine rdE_bnd R3 (((r.ext E1).ext E2).ext E3) e2 (q2.mono E3) fun d4 S4 v4 H4 φ4 ⟨E4, R4, r4⟩ e4 q4 => ?_
    exact ⟨φ4, S4, d2, d4, R4, (r2.ext E3 _ _).ext E4 _ _, r4, Fin.of e4 q4⟩
  · rename_i S3 eg
    cases e2
    refine ⟨φ2, S2, d1, d2, R2, r1.ext E2 _ _, r2, _, _, eg, fun φ3 H3 v3 E3 R3 r3 => ?_⟩
    cases r3
    refine ⟨false, rfl, ?_⟩
    rw [if_neg (by decide)]
    exact q2 φ3 H3 _ E3 R3 rfl
  · cases e2

/-! ## isinstance -/
def kindD (S : Sto) : D → Option String
  | .non => some "NoneType"
  | .bl _ => some "bool"
  | .int _ => some "int"
  | .str _ => some "str"
  | .tup _ => some "tuple"
  | .loc n => match S[n]? with
    | some (.lst _) => some "list"
    | some (.dct _) => some "dict"
    | _ => none
  | .scr _ => none
  | .fl _ => some "list"
  | .exn _ => none
  | .fd _ _ => some "dict"
  | .rgo _ _ => none
  | .ntu _ => some "tuple"
theorem kind_ok {K : PySem.W.Frag} {φ : List Addr} {S : Sto} {H : Hp} {d : D} {v : V} {k : String} (R : Rel T φ S H) (r : RD T H φ d v) (h : kindD S d = some k) : TyX K H v (.type k) := by
  cases d with
  | non => cases r; cases h; exact .base .non
  | bl b => cases r; cases h; exact .base (.bl b)
  | int i => cases r; cases h; exact .base (.int i)
  | str x => cases r; cases h; exact .base (.str x)
  | tup ds =>
    obtain ⟨p, vs, rfl, k1, s⟩ := r
    cases h
    rcases k1 with k1 | ⟨o, k1⟩
    · exact .base (.tup k1)
    · exact .fTuple k1
  | rgo lo hi => cases h
  | ntu ds => obtain ⟨p, vs, o, rfl, k1, _⟩ := r; cases h; exact .fTuple k1
  | loc n =>
    obtain ⟨p, rfl, h1⟩ := r
    simp only [kindD] at h
    split at h
    · rename_i q; cases h; obtain ⟨vs, k1, k2⟩ := R.obj n _ p q h1; exact .base (.lst k1)
    · rename_i q; cases h; obtain ⟨ws, k1, _⟩ := R.obj n _ p q h1; exact .base (.dK k1)
    · cases h
  | scr ns => cases h
  | exn c => cases h
  | fd ks ds =>
    obtain ⟨p, ws, rfl, _, k1, _⟩ := r
    cases h
    rcases k1 with k1 | ⟨o, k1⟩
    · exact .base (.dK k1)
    · exact .fDict k1
  | fl ds => obtain ⟨p, vs, rfl, _, k1, s⟩ := r; cases h; exact .base (.lst k1)
def eIs (n : String) (f : EF) : EF := fun τ => (f τ).bnd fun d S => (kindD S d).bind fun k => (kitB k n).bind fun b => some (.ok (.bl b) S)
theorem d_is {n : String} {y : Str} {p p2 : Pos} (hg : Gl X "isinstance") (hm : X.mg "isinstance" = none) (hg2 : Gl X y) (hm2 : X.mg y = none) (hv2 : bootBuiltins y = some (.type n)) (he : PE X e (rdE T W fa))
    (hn : y ≠ "__name__" := by decide) (hd : (y == ("__debug__" : Str)) = false := by decide)
    (hs : starEach [e, .Name y p2] X.env = (false, eval e X.env) :: starEach [.Name y p2] X.env := by rfl) (hpl : (backTo pos (starEach [.Name y p2] X.env)).any (·.1) = false := by rfl) :
    PE X (.Call (.Name "isinstance" p) [e, .Name y p2] [] pos) (rdE T W (eIs n fa)) :=
  (pe_callB call_isi hg hm (by decide +kernel) (pa_cons he (pa_cons (pe_bltn (v := .ty n) hg2 hm2 hv2 rfl hn hd) pa_nil) hs) (by decide) (by decide) hs hpl).imp fun σ H Q h => by
    obtain ⟨φ, S, τ, o, R, r, e, q⟩ := h
    refine rdE_bnd R r e q fun d S1 v H1 φ1 ⟨E1, R1, r1⟩ e1 q1 => ?_
    simp only [Option.bind_eq_some_iff] at e1
    obtain ⟨k, e2, b, e3, e4⟩ := e1
    cases e4
    exact ⟨v, .ty n, .type k, .type n, b, rfl, .ty n, kind_ok R1 r1 e2, kit_ty e3, q1 φ1 H1 _ .refl R1 rfl⟩
def eIs2 (n m : String) (f : EF) : EF := fun τ => (f τ).bnd fun d S => (kindD S d).bind fun k => (kitB k n).bind fun b => (kitB k m).bind fun b2 => some (.ok (.bl (b || b2)) S)
theorem d_is2 {n m : String} {y z : Str} {p p2 p3 p4 : Pos} {x1} (hg : Gl X "isinstance") (hm : X.mg "isinstance" = none) (hg2 : Gl X y) (hm2 : X.mg y = none) (hv2 : bootBuiltins y = some (.type n)) (hg3 : Gl X z) (hm3 : X.mg z = none) (hv3 : bootBuiltins z = some (.type m)) (he : PE X e (rdE T W fa))
    (hn : y ≠ "__name__" := by decide) (hd : (y == ("__debug__" : Str)) = false := by decide) (hn3 : z ≠ "__name__" := by decide) (hd3 : (z == ("__debug__" : Str)) = false := by decide)
    (hs : starEach [e, .Tuple [.Name y p2, .Name z p3] x1 p4] X.env = (false, eval e X.env) :: starEach [.Tuple [.Name y p2, .Name z p3] x1 p4] X.env := by rfl) (hpl : (backTo pos (starEach [.Tuple [.Name y p2, .Name z p3] x1 p4] X.env)).any (·.1) = false := by rfl) :
    PE X (.Call (.Name "isinstance" p) [e, .Tuple [.Name y p2, .Name z p3] x1 p4] [] pos) (rdE T W (eIs2 n m fa)) :=
  (pe_callB call_isiT hg hm (by decide +kernel) (pa_cons he (pa_cons (pe_tup (pa_cons (pe_bltn (v := .ty n) hg2 hm2 hv2 rfl hn hd) (pa_cons (pe_bltn (v := .ty m) hg3 hm3 hv3 rfl hn3 hd3) pa_nil))) pa_nil) hs) (by decide) (by decide) hs hpl).imp fun σ H Q h => by
    obtain ⟨φ, S, τ, o, R, r, e, q⟩ := h
    refine rdE_bnd R r e q fun d S1 v H1 φ1 ⟨E1, R1, r1⟩ e1 q1 => ?_
    simp only [Option.bind_eq_some_iff] at e1
    obtain ⟨k, e2, b, e3, b2, e4, e5⟩ := e1
    cases e5
    refine ⟨by show 2 ≤ sizeLine; rw [sizeLine_eq]; decide, fun t ht => ?_⟩
    obtain ⟨R2, E2⟩ := R1.garb (u := .tup [.ty n, .ty m]) ht
    refine ⟨v, t, [.ty n, .ty m], .type k, [.type n, .type m], b || b2, rfl, upd_same, .cons (.ty n) (.cons (.ty m) .nil), kind_ok R2 (r1.ext E2 _ _) (by exact e2), ?_, q1 φ1 _ _ E2 R2 rfl⟩
    refine kitAny_cons (kit_ty e3) (fun hb => ?_) fun hb => by rw [hb]; rfl
    refine kitAny_cons (kit_ty e4) (fun hb2 => ?_) fun hb2 => by rw [hb2]; simp
    rw [hb, hb2]; rfl

/-! ## a def called -/
/-- what a def promises: its meaning's outcome -/
def spM (T : Tb) (m : List D → M D) (n : Nat) : Sp := fun vs H Q E => ∃ φ S ds o, Rel T φ S H ∧ RDs T H φ ds vs ∧ ds.length = n ∧ m ds S = some o ∧ EndE T φ H o Q E
def eCl (m : List D → M D) (n : Nat) (r : AF) : EF := fun τ => (r τ).bnd fun ds S => if ds.length = n then m ds S else none
/-! ## statements -/
inductive Fl where
  | nx (τ : Sl) | rt (d : D) | bk (τ : Sl) | ct (τ : Sl) | xx (x : Exn) (τ : Sl)
abbrev SF := Sl → Sto → Option (Fl × Sto)
def EndS (T : Tb) (φ : List Addr) (H : Hp) (fl : Fl) (S' : Sto) (De : Ends) (W : WX) : Prop := match fl with
  | .nx τ' => ∀ φ' H' σ', Ext φ H φ' H' → Rel T φ' S' H' → RSl T H' φ' τ' σ' → De.nx σ' H'
  | .bk τ' => ∀ φ' H' σ', Ext φ H φ' H' → Rel T φ' S' H' → RSl T H' φ' τ' σ' → De.bk σ' H'
  | .ct τ' => ∀ φ' H' σ', Ext φ H φ' H' → Rel T φ' S' H' → RSl T H' φ' τ' σ' → De.ct σ' H'
  | .rt d => ∀ φ' H' v, Ext φ H φ' H' → Rel T φ' S' H' → RD T H' φ' d v → De.rt v H'
  | .xx x τ' => ∀ φ' H' σ' d, Ext φ H φ' H' → Rel T φ' S' H' → RSl T H' φ' τ' σ' → RX x d H' → W (.ref x.cls) d σ' H'
theorem EndS.mono {φ φ1 : List Addr} {H H1 : Hp} {fl : Fl} {S' : Sto} {De : Ends} (h : EndS T φ H fl S' De W) (e : Ext φ H φ1 H1) : EndS T φ1 H1 fl S' De W := by
  cases fl with
  | nx τ => exact fun φ' H' v e' => h φ' H' v (e.trans e')
  | bk τ => exact fun φ' H' v e' => h φ' H' v (e.trans e')
  | ct τ => exact fun φ' H' v e' => h φ' H' v (e.trans e')
  | rt τ => exact fun φ' H' v e' => h φ' H' v (e.trans e')
  | xx x τ => exact fun φ' H' v d e' => h φ' H' v d (e.trans e')
def rdS (T : Tb) (W : WX) (f : SF) : TS := fun De σ H => ∃ φ S τ fl S', Rel T φ S H ∧ RSl T H φ τ σ ∧ f τ S = some (fl, S') ∧ EndS T φ H fl S' De W
/-- an expression within a statement -/
def sx (m : M D) (τ : Sl) (k : D → Sto → Option (Fl × Sto)) : Sto → Option (Fl × Sto) := fun S => match m S with
  | none => none
  | some (.ex x S1) => some (.xx x τ, S1)
  | some (.ok d S1) => k d S1
def st' (m : M Bool) (τ : Sl) (k : Bool → Sto → Option (Fl × Sto)) : Sto → Option (Fl × Sto) := fun S => match m S with
  | none => none
  | some (.ex x S1) => some (.xx x τ, S1)
  | some (.ok d S1) => k d S1
theorem rdE_sx {φ : List Addr} {S S' : Sto} {τ : Sl} {fl : Fl} {k : D → Sto → Option (Fl × Sto)} {σ : L2.St} {H : Hp} {De : Ends} (R : Rel T φ S H) (r : RSl T H φ τ σ) (h : sx (fa τ) τ k S = some (fl, S')) (q : EndS T φ H fl S' De W) {Q' : VK}
    (n : ∀ d S1 v H1 φ1, At T φ H d S1 v H1 φ1 → k d S1 = some (fl, S') → EndS T φ1 H1 fl S' De W → Q' v H1) : rdE T W fa σ H Q' := by
  unfold sx at h
  cases e : fa τ S with
  | none => rw [e] at h; cases h
  | some x =>
    rw [e] at h
    refine ⟨φ, S, τ, x, R, r, e, ?_⟩
    cases x with
    | ok d S1 => exact fun φ' H' v e1 e2 e3 => n d S1 v H' φ' ⟨e1, e2, e3⟩ h (q.mono e1)
    | ex x S1 =>
      cases h
      exact fun φ' H' d E1 R1 hx => q φ' H' σ d E1 R1 (r.ext E1) hx
theorem rdT_st {φ : List Addr} {S S' : Sto} {τ : Sl} {fl : Fl} {k : Bool → Sto → Option (Fl × Sto)} {σ : L2.St} {H : Hp} {De : Ends} (R : Rel T φ S H) (r : RSl T H φ τ σ) (h : st' (ta τ) τ k S = some (fl, S')) (q : EndS T φ H fl S' De W) {Q' : Bool → Hp → Prop}
    (n : ∀ d S1 H1 φ1, Ext φ H φ1 H1 → Rel T φ1 S1 H1 → k d S1 = some (fl, S') → EndS T φ1 H1 fl S' De W → Q' d H1) : rdT T W ta σ H Q' := by
  unfold st' at h
  cases e : ta τ S with
  | none => rw [e] at h; cases h
  | some x =>
    rw [e] at h
    refine ⟨φ, S, τ, x, R, r, e, ?_⟩
    cases x with
    | ok d S1 => exact fun φ' H' e1 e2 => n d S1 H' φ' e1 e2 h (q.mono e1)
    | ex x S1 =>
      cases h
      exact fun φ' H' d E1 R1 hx => q φ' H' σ d E1 R1 (r.ext E1) hx
theorem rdS_at {f : SF} {φ : List Addr} {S S' : Sto} {τ : Sl} {fl : Fl} {σ : L2.St} {H : Hp} {De : Ends} (R : Rel T φ S H) (r : RSl T H φ τ σ) (h : f τ S = some (fl, S')) (q : EndS T φ H fl S' De W) : rdS T W f De σ H := ⟨φ, S, τ, fl, S', R, r, h, q⟩
variable {st : Stmt} {sts : List Stmt} {f g : SF}
def sNop : SF := fun τ S => some (.nx τ, S)
def sSeq (f g : SF) : SF := fun τ S => match f τ S with
  | some (.nx τ1, S1) => g τ1 S1
  | x => x
theorem b_nil : PSs X [] (rdS T W sNop) := pss_nil.imp fun De σ H h => by
  obtain ⟨φ, S, τ, fl, S', R, r, e, q⟩ := h
  cases e
  exact q φ H σ .refl R r
theorem b_one (h : PS X st (rdS T W f)) : PSs X [st] (rdS T W f) := pss_one h
theorem b_cons (h : PS X st (rdS T W f)) (h2 : PSs X sts (rdS T W g)) : PSs X (st :: sts) (rdS T W (sSeq f g)) := (pss_cons h h2).imp fun De σ H h => by
  obtain ⟨φ, S, τ, fl, S', R, r, e, q⟩ := h
  unfold sSeq at e
  cases e1 : f τ S with
  | none => rw [e1] at e; cases e
  | some p =>
    obtain ⟨fl1, S1⟩ := p
    rw [e1] at e
    refine ⟨φ, S, τ, fl1, S1, R, r, e1, ?_⟩
    cases fl1 with
    | nx τ1 => exact fun φ' H' σ' E1 R1 r1 => rdS_at R1 r1 e (q.mono E1)
    | bk τ1 => cases e; exact q
    | ct τ1 => cases e; exact q
    | rt τ1 => cases e; exact q
    | xx x τ1 => cases e; exact q
def sEx (fe : EF) : SF := fun τ => sx (fe τ) τ fun _ S => some (.nx τ, S)
theorem s_expr (he : PE X e (rdE T W fa)) (hs : swapsWith e none pos.line X.env = pure false := by rfl) : PS X (.Expr e pos) (rdS T W (sEx fa)) := (ps_expr he hs).imp fun De σ H h => by
  obtain ⟨φ, S, τ, fl, S', R, r, e, q⟩ := h
  refine rdE_sx R r e q fun d S1 v H1 φ1 ⟨E1, R1, r1⟩ e1 q1 => ?_
  cases e1
  exact q1 φ1 H1 σ .refl R1 (r.ext E1)
def sRt (fe : EF) : SF := fun τ => sx (fe τ) τ fun d S => some (.rt d, S)
theorem s_ret (he : PE X e (rdE T W fa)) : PS X (.Return (some e) pos) (rdS T W (sRt fa)) := (ps_ret he).imp fun De σ H h => by
  obtain ⟨φ, S, τ, fl, S', R, r, e, q⟩ := h
  refine rdE_sx R r e q fun d S1 v H1 φ1 ⟨E1, R1, r1⟩ e1 q1 => ?_
  cases e1
  exact q1 φ1 H1 v .refl R1 r1
def sIf (t : BF) (f g : SF) : SF := fun τ => st' (t τ) τ fun b S => if b = true then f τ S else g τ S
theorem s_if {as bs : List Stmt} (h : PT X c (rdT T W ta)) (h1 : PSs X as (rdS T W f)) (h2 : PSs X bs (rdS T W g)) : PS X (.If c as bs pos) (rdS T W (sIf ta f g)) := (ps_if h h1 h2).imp fun De σ H h => by
  obtain ⟨φ, S, τ, fl, S', R, r, e, q⟩ := h
  refine rdT_st R r e q fun b S1 H1 φ1 E1 R1 e1 q1 => ?_
  cases b with
  | true => exact rdS_at R1 (r.ext E1) e1 q1
  | false => exact rdS_at R1 (r.ext E1) e1 q1
def sSet (i : Nat) (fe : EF) : SF := fun τ => sx (fe τ) τ fun d S => some (.nx (τ.set i (some d)), S)
theorem s_set {i : Nat} {x : Str} {pos' : Pos} (hN : X.N.Nodup) (hi : X.N[i]? = some x) (hx : Loc X.env.scope x) (he : PE X e (rdE T W fa)) (hs : swapsWith e (some (.Name x pos')) pos.line X.env = pure false := by rfl)
    (hf : X.fn x = true ∨ X.env.scope.names.lookup x = some .local := by first | exact .inl rfl | exact .inr rfl | assumption) : PS X (.Assign [.Name x pos'] e pos) (rdS T W (sSet i fa)) := (ps_set hN hi hx he hs hf).imp fun De σ H h => by
  obtain ⟨φ, S, τ, fl, S', R, r, e, q⟩ := h
  refine rdE_sx R r e q fun d S1 v H1 φ1 ⟨E1, R1, r1⟩ e1 q1 => ?_
  cases e1
  exact q1 φ1 H1 _ .refl R1 ((r.ext E1).set i r1)
/-- xs[i] = e -/
def putD (x y d : D) (S : Sto) : Option Sto := match x, y with
  | .loc n, .int k => (listD S (.loc n)).bind fun es => (ixN es.length k).bind fun j => some (S.set n (.lst (es.set j d)))
  | _, _ => none
def sPut (fe fo fi : EF) : SF := fun τ => sx (fe τ) τ fun d => sx (fo τ) τ fun x => sx (fi τ) τ fun y S => (putD x y d S).bind fun S1 => some (.nx τ, S1)
theorem s_put {o i : Expr} {p : Pos} {fo fi : EF} (he : PE X e (rdE T W fa)) (ho : PE X o (rdE T W fo)) (hi : PE X i (rdE T W fi))
    (hs : swapsWithSole [.Subscript o i p] e pos.line X.env = pure false := by rfl) (hw : swappedStores [.Subscript o i p] e X.env = pure none := by rfl) (h1 : (assignEach [.Subscript o i p] X.env).map (·.2) = [assign (.Subscript o i p) X.env] := by rfl)
    (ha : ∀ v, assign (.Subscript o i p) X.env v = (do
      let ov ← holding [v] (eval o X.env)
      let iv ← holding [v, ov] (eval i X.env)
      standAt p
      holding [v, ov, iv] (setItem ov iv v)
      release [v, ov, iv] []) := by intro _; rfl) : PS X (.Assign [.Subscript o i p] e pos) (rdS T W (sPut fa fo fi)) := (ps_asg he (pg_sub ho hi set_list ha) hs hw h1).imp fun De σ H h => by
  obtain ⟨φ, S, τ, fl, S', R, r, e, q⟩ := h
  refine rdE_sx R r e q fun d S1 v H1 φ1 ⟨E1, R1, r1⟩ e1 q1 => ?_
  refine rdE_sx R1 (r.ext E1) e1 q1 fun x S2 v2 H2 φ2 ⟨E2, R2, r2⟩ e2 q2 => ?_
  refine rdE_sx R2 ((r.ext E1).ext E2) e2 q2 fun y S3 v3 H3 φ3 ⟨E3, R3, r3⟩ e3 q3 => ?_
  simp only [Option.bind_eq_some_iff] at e3
  obtain ⟨S4, e4, e5⟩ := e3
  cases e5
  unfold putD at e4
  split at e4
  · rename_i n kk _ _
    simp only [Option.bind_eq_some_iff] at e4
    obtain ⟨es, e6, j, e7, e8⟩ := e4
    cases e8
    obtain ⟨m, p, vs, ee, rfl, hS, hφ, hH, s⟩ := list_sq R3 (r2.ext E3 _ _) e6
    cases ee
    cases r3
    refine ⟨p, vs, kk, j, rfl, rfl, hH, by rw [← s.length]; exact e7, ?_⟩
    have rv : RD T H3 φ3 d v := (r1.ext E2 _ _).ext E3 _ _
    have E4 := Ext.put (φ := φ3) (u := .lst (vs.set j v)) (List.mem_of_getElem? hφ) hH
    obtain ⟨R4, _⟩ := R3.put (o := .lst (es.set j d)) (u := .lst (vs.set j v)) hφ (mem_lt hS) ⟨_, upd_same, (s.set j rv).ext E4 _ _⟩
    exact q3 φ3 _ σ E4 R4 ((((r.ext E1).ext E2).ext E3).ext E4)
  · cases e4
end
end Sb
end
section
set_option Elab.async false
set_option linter.all false
set_option maxRecDepth 100000
set_option maxHeartbeats 4000000
namespace Sb
open PySem PySem.Spec PyProof.Rows L2

/-! ## what is walked -/
structure Wk where
  bound : Nat
  nxt : Nat → Sto → Option (Option D)
abbrev IF := Sl → M Wk
def Serves (T : Tb) (φ0 : List Addr) (H0 : Hp) (wk : Wk) (J : It) : Prop := ∀ φ S H i, Ext φ0 H0 φ H → Rel T φ S H →
  (∀ d, wk.nxt i S = some (some d) → J.go i H ∧ ∀ x H', J.yld i H x H' → Ext φ H φ H' ∧ Rel T φ S H' ∧ RD T H' φ d x) ∧ (wk.nxt i S = some none → J.stop i H)
def EndI (T : Tb) (φ : List Addr) (H : Hp) (o : Rs Wk) (R : It → Hp → Prop) (W : XK) : Prop := match o with
  | .ok wk S' => ∀ φ' H' J, Ext φ H φ' H' → Rel T φ' S' H' → Serves T φ' H' wk J → R J H'
  | .ex x S' => ∀ φ' H' d, Ext φ H φ' H' → Rel T φ' S' H' → RX x d H' → W (.ref x.cls) d H'
theorem EndI.mono {T : Tb} {φ φ1 : List Addr} {H H1 : Hp} {o : Rs Wk} {R : It → Hp → Prop} {W : XK} (h : EndI T φ H o R W) (e : Ext φ H φ1 H1) : EndI T φ1 H1 o R W := by
  cases o with
  | ok d S => exact fun φ' H' v e' => h φ' H' v (e.trans e')
  | ex x S => exact fun φ' H' v e' => h φ' H' v (e.trans e')
def rdI (T : Tb) (W : WX) (f : IF) : TI := fun σ H R => ∃ φ S τ o, Rel T φ S H ∧ RSl T H φ τ σ ∧ f τ S = some o ∧ EndI T φ H o R fun c d H' => W c d σ H'
theorem _root_.L2.PI.imp {X : Cx} {tg e : Expr} {t t' : TI} (h : PI X tg e t) (i : ∀ σ H R, t' σ H R → t σ H R) : PI X tg e t' := ⟨fun pins s σ H R I hq => h.run pins s σ H R I (i σ H R hq)⟩
theorem _root_.L2.PI.or {X : Cx} {tg e : Expr} {t t' : TI} (h : PI X tg e t) (h' : PI X tg e t') : PI X tg e (fun σ H R => t σ H R ∨ t' σ H R) := ⟨fun pins s σ H R I hq => hq.elim (h.run pins s σ H R I) (h'.run pins s σ H R I)⟩
theorem _root_.L2.PG.imp {X : Cx} {e : Expr} {t t' : TG} (h : PG X e t) (i : ∀ v σ H Q, t' v σ H Q → t v σ H Q) : PG X e t' := ⟨fun pins s σ H v u Q I r hq => h.run pins s σ H v u Q I r (i v σ H Q hq)⟩
theorem _root_.L2.PG.or {X : Cx} {e : Expr} {t t' : TG} (h : PG X e t) (h' : PG X e t') : PG X e (fun v σ H Q => t v σ H Q ∨ t' v σ H Q) := ⟨fun pins s σ H v u Q I r hq => hq.elim (h.run pins s σ H v u Q I r) (h'.run pins s σ H v u Q I r)⟩

section
variable {X : Cx} {T : Tb} {W : WX} {pos : Pos}
variable {a b c e tg : Expr} {es rest : List Expr} {fa fb fc : EF} {ra : AF} {ta tb : BF}
theorem rdA_bndI {a : AF} {k : List D → M Wk} {φ : List Addr} {S : Sto} {τ : Sl} {o : Rs Wk} {σ : L2.St} {H : Hp} {Q : It → Hp → Prop} (R : Rel T φ S H) (r : RSl T H φ τ σ) (h : (a τ).bnd k S = some o) (q : EndI T φ H o Q fun c d H' => W c d σ H') {Q' : List V → Hp → Prop}
    (n : ∀ d S1 v H1 φ1, Ext φ H φ1 H1 → Rel T φ1 S1 H1 → RDs T H1 φ1 d v → k d S1 = some o → EndI T φ1 H1 o Q (fun c d H' => W c d σ H') → Q' v H1) : rdA T W a σ H Q' := by
  unfold M.bnd at h
  cases e : a τ S with
  | none => rw [e] at h; cases h
  | some x =>
    rw [e] at h
    refine ⟨φ, S, τ, x, R, r, e, ?_⟩
    cases x with
    | ok d S1 => exact fun φ' H' v e1 e2 e3 => n d S1 v H' φ' e1 e2 e3 h (q.mono e1)
    | ex x S1 => cases h; exact q
/-- a list, a tuple, a text -/
def wkD (S : Sto) : D → Option Wk
  | .tup ds => some ⟨ds.length, fun i _ => some ds[i]?⟩
  | .str x => some ⟨x.cps.size, fun i _ => some ((x.cps[i]?).map fun c => .str ⟨#[c]⟩)⟩
  | .loc n => (seqD S (.loc n)).map fun ds => ⟨ds.length, fun i S => (seqD S (.loc n)).map fun es => es[i]?⟩
  | .fl ds => some ⟨ds.length, fun i _ => some ds[i]?⟩
  | _ => none
def iSeq (fe : EF) : IF := fun τ => (fe τ).bnd fun d S => (wkD S d).bind fun wk => some (.ok wk S)
theorem rds_at {H : Hp} {φ : List Addr} {ds : List D} {vs : List V} {i : Nat} {x : V} (r : RDs T H φ ds vs) (h : vs[i]? = some x) {d : D} (hd : ds[i]? = some d) : RD T H φ d x := by
  obtain ⟨v, h1, h2⟩ := r.get hd
  rw [h] at h1; cases h1
  exact h2
theorem rds_none {H : Hp} {φ : List Addr} {ds : List D} {vs : List V} {i : Nat} (r : RDs T H φ ds vs) (h : ds[i]? = none) : vs.length ≤ i := by
  rw [← r.length]; exact List.getElem?_eq_none_iff.mp h
theorem sv_tup {φ0 : List Addr} {H0 : Hp} {ds : List D} {vs : List V} {p : Addr} {n : Nat} (h : Rd H0 p (.tup vs)) (r : RDs T H0 φ0 ds vs) : Serves T φ0 H0 ⟨n, fun i _ => some ds[i]?⟩ (Itt X.K p) := by
  intro φ S H i E R
  have h' := E.rdT h
  have r' := r.ext E _ _
  refine ⟨fun d hd => ?_, fun hn => ?_⟩
  · have hd' : ds[i]? = some d := Option.some.inj hd
    obtain ⟨v, h1, h2⟩ := r'.get hd'
    refine ⟨⟨vs, v, .inl h', h1⟩, fun x H' y => ?_⟩
    obtain ⟨rfl, y⟩ := y
    have := y vs (.inl h')
    exact ⟨.refl, R, rds_at r' this hd'⟩
  · have hn' : ds[i]? = none := Option.some.inj hn
    exact ⟨vs, .inl h', rds_none r' hn'⟩
theorem sv_fl {φ0 : List Addr} {H0 : Hp} {ds : List D} {vs : List V} {p : Addr} {n : Nat} (hp : p ∉ φ0) (h : H0 p = some (.lst vs)) (r : RDs T H0 φ0 ds vs) : Serves T φ0 H0 ⟨n, fun i _ => some ds[i]?⟩ (Itl X.K p) := by
  intro φ S H i E R
  have h' := E.lst _ _ hp h
  have r' := r.ext E _ _
  refine ⟨fun d hd => ?_, fun hn => ?_⟩
  · have hd' : ds[i]? = some d := Option.some.inj hd
    obtain ⟨v, h1, h2⟩ := r'.get hd'
    refine ⟨⟨vs, v, .of h', h1⟩, fun x H' y => ?_⟩
    obtain ⟨rfl, y⟩ := y
    have := y vs (.of h')
    exact ⟨.refl, R, rds_at r' this hd'⟩
  · have hn' : ds[i]? = none := Option.some.inj hn
    exact ⟨vs, .of h', rds_none r' hn'⟩
theorem sv_list {φ0 : List Addr} {H0 : Hp} {k n : Nat} {p : Addr} (hp : φ0[k]? = some p) : Serves T φ0 H0 ⟨n, fun i S => (seqD S (.loc k)).map fun es => es[i]?⟩ (Itl X.K p) := by
  intro φ S H i E R
  have hp' := E.get hp
  have key : ∀ ds, seqD S (.loc k) = some ds → ∃ vs, SqL X.K H p vs ∧ RDs T H φ ds vs := fun ds e => by
    simp only [seqD] at e
    split at e
    · rename_i q
      cases e
      obtain ⟨vs, k1, k2⟩ := R.obj k _ p q hp'
      exact ⟨vs, .of k1, k2⟩
    · cases e
  refine ⟨fun d hd => ?_, fun hn => ?_⟩
  · simp only [Option.map_eq_some_iff] at hd
    obtain ⟨ds, e1, e2⟩ := hd
    obtain ⟨vs, k1, k2⟩ := key ds e1
    obtain ⟨v, h1, h2⟩ := k2.get e2
    refine ⟨⟨vs, v, k1, h1⟩, fun x H' y => ?_⟩
    obtain ⟨rfl, y⟩ := y
    exact ⟨.refl, R, rds_at k2 (y vs k1) e2⟩
  · simp only [Option.map_eq_some_iff] at hn
    obtain ⟨ds, e1, e2⟩ := hn
    obtain ⟨vs, k1, k2⟩ := key ds e1
    exact ⟨vs, k1, rds_none k2 e2⟩
theorem sv_str {φ0 : List Addr} {H0 : Hp} {n : Nat} {x : Str} : Serves T φ0 H0 ⟨n, fun i _ => some ((x.cps[i]?).map fun c => .str ⟨#[c]⟩)⟩ (Its x) := by
  intro φ S H i E R
  refine ⟨fun d hd => ?_, fun hn => ?_⟩
  · have hd' : (x.cps[i]?).map (fun c => D.str ⟨#[c]⟩) = some d := Option.some.inj hd
    simp only [Option.map_eq_some_iff] at hd'
    obtain ⟨c, e1, rfl⟩ := hd'
    refine ⟨(Array.getElem?_eq_some_iff.mp e1).1, fun y H' z => ?_⟩
    obtain ⟨rfl, c', e2, rfl⟩ := z
    rw [e1] at e2; cases e2
    exact ⟨.refl, R, rfl⟩
  · have hn' : (x.cps[i]?).map (fun c => D.str ⟨#[c]⟩) = none := Option.some.inj hn
    simp only [Option.map_eq_none_iff] at hn'
    exact Array.getElem?_eq_none_iff.mp hn'
theorem i_seq (he : PE X e (rdE T W fa)) : PI X tg e (rdI T W (iSeq fa)) :=
  ((pi_list he).or ((pi_tup he).or (pi_str he))).imp fun σ H Rr h => by
    obtain ⟨φ, S, τ, o, R, r, e, q⟩ := h
    have e0 := e
    unfold iSeq M.bnd at e0
    cases e1 : fa τ S with
    | none => rw [e1] at e0; cases e0
    | some x =>
      rw [e1] at e0
      cases x with
      | ex x S1 =>
        cases e0
        exact .inl ⟨φ, S, τ, _, R, r, e1, q⟩
      | ok d S1 =>
        simp only [Option.bind_eq_some_iff] at e0
        obtain ⟨wk, e2, e3⟩ := e0
        cases e3
        cases d with
        | tup ds =>
          cases e2
          refine .inr (.inl ⟨φ, S, τ, _, R, r, e1, fun φ1 H1 v E1 R1 r1 => ?_⟩)
          obtain ⟨p, vs, rfl, k1, s⟩ := r1
          exact ⟨p, rfl, ⟨vs, .inl k1⟩, q φ1 H1 _ E1 R1 (sv_tup k1 s)⟩
        | str x =>
          cases e2
          refine .inr (.inr ⟨φ, S, τ, _, R, r, e1, fun φ1 H1 v E1 R1 r1 => ?_⟩)
          cases r1
          exact ⟨x, rfl, q φ1 H1 _ E1 R1 sv_str⟩
        | loc n =>
          simp only [wkD, Option.map_eq_some_iff] at e2
          obtain ⟨ds, e4, rfl⟩ := e2
          refine .inl ⟨φ, S, τ, _, R, r, e1, fun φ1 H1 v E1 R1 r1 => ?_⟩
          have r1' := r1
          obtain ⟨p, rfl, hp⟩ := r1
          have key : ∃ vs, SqL X.K H1 p vs := by
            simp only [seqD] at e4
            split at e4
            · rename_i q
              obtain ⟨vs, k1, k2⟩ := R1.obj n _ p q hp
              exact ⟨vs, .of k1⟩
            · cases e4
          exact ⟨p, rfl, key, q φ1 H1 _ E1 R1 (sv_list hp)⟩
        | fl ds =>
          cases e2
          refine .inl ⟨φ, S, τ, _, R, r, e1, fun φ1 H1 v E1 R1 r1 => ?_⟩
          obtain ⟨p, vs, rfl, hp, k1, s⟩ := r1
          exact ⟨p, rfl, ⟨vs, .of k1⟩, q φ1 H1 _ E1 R1 (sv_fl hp k1 s)⟩
        | _ => cases e2
/-- range(n), range(a, b) -/
def wkR (lo : Int) (n : Nat) : Wk := ⟨n, fun i _ => if i < n then some (some (.int (lo + (i : Nat)))) else some none⟩
def iRg1 (ra : AF) : IF := fun τ => (ra τ).bnd fun ds S => match ds with
  | [.int j] => if -(2 ^ 62) ≤ j ∧ j < 2 ^ 62 then some (.ok (wkR 0 j.toNat) S) else none
  | _ => none
def iRg2 (ra : AF) : IF := fun τ => (ra τ).bnd fun ds S => match ds with
  | [.int i, .int j] => if -(2 ^ 62) ≤ i ∧ i < 2 ^ 62 ∧ -(2 ^ 62) ≤ j ∧ j < 2 ^ 62 then some (.ok (wkR i (j - i).toNat) S) else none
  | _ => none
theorem sv_rng {φ0 : List Addr} {H0 : Hp} {lo : Int} {n : Nat} : Serves T φ0 H0 (wkR lo n) (Itr lo n) := by
  intro φ S H i E R
  refine ⟨fun d hd => ?_, fun hn => ?_⟩
  · simp only [wkR] at hd
    split at hd
    · rename_i hi
      cases hd
      exact ⟨hi, fun x H' y => by obtain ⟨rfl, rfl⟩ := y; exact ⟨.refl, R, rfl⟩⟩
    · cases hd
  · simp only [wkR] at hn
    split at hn
    · cases hn
    · rename_i hi; exact Nat.le_of_not_lt hi
theorem i_rg1 {p pos : Pos} (hg : Gl X "range") (hm : X.mg "range" = none) (ha : PA X [a] (rdA T W ra)) (hs : starEach [a] X.env = [(false, eval a X.env)] := by rfl) : PI X tg (.Call (.Name "range" p) [a] [] pos) (rdI T W (iRg1 ra)) :=
  (pi_range1 hg hm ha hs).imp fun σ H Rr h => by
    obtain ⟨φ, S, τ, o, R, r, e, q⟩ := h
    refine rdA_bndI R r e q fun ds S1 vs H1 φ1 E1 R1 r1 e1 q1 => ?_
    split at e1
    · rename_i j
      split at e1
      · rename_i hj
        cases e1
        obtain ⟨v, l, rfl, r2, r3⟩ := r1
        cases r2; cases r3
        exact ⟨j, rfl, hj.1, hj.2, q1 φ1 H1 _ .refl R1 sv_rng⟩
      · cases e1
    · cases e1
theorem i_rg2 {p pos : Pos} (hg : Gl X "range") (hm : X.mg "range" = none) (ha : PA X [a, b] (rdA T W ra)) (hs : starEach [a, b] X.env = [(false, eval a X.env), (false, eval b X.env)] := by rfl) (hs2 : starEach [b] X.env = [(false, eval b X.env)] := by rfl) :
    PI X tg (.Call (.Name "range" p) [a, b] [] pos) (rdI T W (iRg2 ra)) :=
  (pi_range2 hg hm ha hs hs2).imp fun σ H Rr h => by
    obtain ⟨φ, S, τ, o, R, r, e, q⟩ := h
    refine rdA_bndI R r e q fun ds S1 vs H1 φ1 E1 R1 r1 e1 q1 => ?_
    split at e1
    · rename_i i j
      split at e1
      · rename_i hj
        cases e1
        obtain ⟨v, l, rfl, r2, w, l2, rfl, r3, r4⟩ := r1
        cases r2; cases r3; cases r4
        exact ⟨i, j, rfl, hj, q1 φ1 H1 _ .refl R1 sv_rng⟩
      · cases e1
    · cases e1

/-! ## targets of names -/
abbrev TF := D → Sto → Sl → Option Sl
def rdG (T : Tb) (vs : List Nat) (f : TF) : TG := fun v σ H Q => ∃ φ S τ d τ', Rel T φ S H ∧ RSl T H φ τ σ ∧ RD T H φ d v ∧ f d S τ = some τ' ∧ ∀ σ', RSl T H φ τ' σ' → (∀ k, k ∉ vs → σ'[k]? = σ[k]?) → σ'.length = σ.length → Q σ' H
def tN (i : Nat) : TF := fun d _ τ => some (τ.set i (some d))
theorem g_name {i : Nat} {x : Str} (hN : X.N.Nodup) (hi : X.N[i]? = some x) (hx : Loc X.env.scope x) (hf : X.fn x = true ∨ X.env.scope.names.lookup x = some .local := by first | exact .inl rfl | exact .inr rfl | assumption) : PG X (.Name x pos) (rdG T [i] (tN i)) :=
  (pg_name hN hi hx hf).imp fun v σ H Q h => by
    obtain ⟨φ, S, τ, d, τ', R, r, rd, e, q⟩ := h
    cases e
    exact q _ (r.set i rd) (fun k hk => List.getElem?_set_ne (by simpa using fun z => hk (by simp [z]))) (by simp)
/-- a, b -/
def tN2 (i j : Nat) : TF := fun d S τ => match seqD S d with
  | some [x, y] => some ((τ.set i (some x)).set j (some y))
  | _ => none
theorem g_two (hK : T.K = X.K) {i j : Nat} {x y : Str} {p1 p2 : Pos} {k : Nat} (hc : X.calm = true) (hN : X.N.Nodup) (hi : X.N[i]? = some x) (hx : Loc X.env.scope x) (hj : X.N[j]? = some y) (hy : Loc X.env.scope y)
    (hf : X.fn x = true ∨ X.env.scope.names.lookup x = some .local := by first | exact .inl rfl | exact .inr rfl | assumption) (hf2 : X.fn y = true ∨ X.env.scope.names.lookup y = some .local := by first | exact .inl rfl | exact .inr rfl | assumption) :
    PG X (.Tuple [.Name x p1, .Name y p2] k pos) (rdG T [i, j] (tN2 i j)) :=
  ((pg_lst (n := 2) hc (pgs_cons (pg_name hN hi hx hf) (pgs_cons (pg_name hN hj hy hf2) pgs_nil))).or (pg_tup (n := 2) hc (pgs_cons (pg_name hN hi hx hf) (pgs_cons (pg_name hN hj hy hf2) pgs_nil)))).imp fun v σ H Q h => by
    obtain ⟨φ, S, τ, d, τ', R, r, rd, e, q⟩ := h
    unfold tN2 at e
    split at e
    · rename_i d1 d2 es
      cases e
      obtain ⟨p, vs, rfl, kk, s⟩ := seq_sq R rd es
      rw [hK] at kk
      obtain ⟨v1, l1, rfl, s1, v2, l2, rfl, s2, s3⟩ := s
      cases s3
      have fin : Q ((σ.set i (some v1)).set j (some v2)) H := q _ ((r.set i s1).set j s2) (fun k hk => by
        simp only [List.mem_cons, not_or] at hk
        rw [List.getElem?_set_ne (Ne.symm hk.2.1), List.getElem?_set_ne (Ne.symm hk.1)]) (by simp)
      rcases kk with kk | kk
      · exact .inl ⟨p, _, rfl, kk, rfl, v1, _, rfl, v2, _, rfl, rfl, fin⟩
      · exact .inr ⟨p, _, rfl, kk, rfl, v1, _, rfl, v2, _, rfl, rfl, fin⟩
    · cases e
/-- a, b = e -/
def sAs (g : TF) (fe : EF) : SF := fun τ => sx (fe τ) τ fun d S => (g d S τ).bind fun τ1 => some (.nx τ1, S)
theorem s_asg {g : TF} {vs : List Nat} (he : PE X e (rdE T W fa)) (hg : PG X tg (rdG T vs g)) (hs : swapsWithSole [tg] e pos.line X.env = pure false := by rfl) (hw : swappedStores [tg] e X.env = pure none := by rfl)
    (h1 : (assignEach [tg] X.env).map (·.2) = [assign tg X.env] := by rfl) : PS X (.Assign [tg] e pos) (rdS T W (sAs g fa)) := (ps_asg he hg hs hw h1).imp fun De σ H h => by
  obtain ⟨φ, S, τ, fl, S', R, r, e, q⟩ := h
  refine rdE_sx R r e q fun d S1 v H1 φ1 ⟨E1, R1, r1⟩ e1 q1 => ?_
  simp only [Option.bind_eq_some_iff] at e1
  obtain ⟨τ1, e2, e3⟩ := e1
  cases e3
  exact ⟨φ1, _, τ, d, τ1, R1, r.ext E1, r1, e2, fun σ' r' _ _ => q1 φ1 H1 σ' .refl R1 r'⟩

/-! ## for -/
def goF (nxt : Nat → Sto → Option (Option D)) (g : TF) (fb : SF) : Nat → Nat → SF
  | 0, _, _, _ => none
  | m + 1, i, τ, S => match nxt i S with
    | none => none
    | some none => some (.nx τ, S)
    | some (some d) => match g d S τ with
      | none => none
      | some τ1 => match fb τ1 S with
        | some (.nx τ2, S2) => goF nxt g fb m (i + 1) τ2 S2
        | some (.ct τ2, S2) => goF nxt g fb m (i + 1) τ2 S2
        | some (.bk τ2, S2) => some (.nx τ2, S2)
        | x => x
def sFor (fi : IF) (g : TF) (fb : SF) : SF := fun τ S => match fi τ S with
  | none => none
  | some (.ex x S1) => some (.xx x τ, S1)
  | some (.ok wk S1) => goF wk.nxt g fb (wk.bound + 1) 0 τ S1
variable {body : List Stmt} {fi : IF} {g : TF} {vs : List Nat} {fbd : SF}
theorem s_for (hp : PassesOwn (model X.prog X.w) X.A X.env X.xe) (hc : X.calm = true) (hi : PI X tg e (rdI T W fi)) (hg : PG X tg (rdG T vs g)) (hb : PSs X body (rdS T W fbd))
    (hs : ∀ x, foldedSetIterable e X.env x = pure x := by intro _; rfl) : PS X (.For tg e body [] pos) (rdS T W (sFor fi g fbd)) := (ps_for hp hc hi hg hb hs).imp fun De σ H h => by
  obtain ⟨φ, S, τ, fl, S', R, r, e, q⟩ := h
  unfold sFor at e
  cases e1 : fi τ S with
  | none => rw [e1] at e; cases e
  | some x =>
    rw [e1] at e
    refine ⟨φ, S, τ, x, R, r, e1, ?_⟩
    cases x with
    | ex x S1 =>
      cases e
      exact fun φ' H' d E1 R1 hx => q φ' H' σ d E1 R1 (r.ext E1) hx
    | ok wk S1 =>
      intro φ1 H1 J E1 R1 sv
      refine ⟨fun i m σ H => ∃ φ2 S2 τ2, Ext φ1 H1 φ2 H ∧ Rel T φ2 S2 H ∧ RSl T H φ2 τ2 σ ∧ goF wk.nxt g fbd m i τ2 S2 = some (fl, S') ∧ EndS T φ2 H fl S' De W, ⟨wk.bound + 1, φ1, S1, τ, .refl, R1, r.ext E1, e, q.mono E1⟩, ?_⟩
      rintro i m σ2 H2 ⟨φ2, S2, τ2, E2, R2, r2, e2, q2⟩
      cases m with
      | zero => cases e2
      | succ m =>
        unfold goF at e2
        obtain ⟨sgo, sst⟩ := sv φ2 S2 H2 i E2 R2
        cases hn : wk.nxt i S2 with
        | none => rw [hn] at e2; cases e2
        | some od =>
          rw [hn] at e2
          cases od with
          | none =>
            cases e2
            exact .inl ⟨sst hn, q2 φ2 H2 σ2 .refl R2 r2⟩
          | some d =>
            obtain ⟨go, yl⟩ := sgo d hn
            refine .inr ⟨go, fun σ' H' => ∃ φ3 S3 τ3, Ext φ1 H1 φ3 H' ∧ Rel T φ3 S3 H' ∧ RSl T H' φ3 τ3 σ' ∧ goF wk.nxt g fbd m (i + 1) τ3 S3 = some (fl, S') ∧ EndS T φ3 H' fl S' De W, fun σ' H' h => ⟨m, Nat.lt_succ_self m, h⟩, fun x H' y => ?_⟩
            obtain ⟨E3, R3, r3⟩ := yl x H' y
            simp only at e2
            cases hg1 : g d S2 τ2 with
            | none => rw [hg1] at e2; cases e2
            | some τ3 =>
              rw [hg1] at e2
              refine ⟨φ2, S2, τ2, d, τ3, R3, r2.ext E3, r3, hg1, fun σ' r' _ _ => ?_⟩
              simp only at e2
              cases hb1 : fbd τ3 S2 with
              | none => rw [hb1] at e2; cases e2
              | some p =>
                obtain ⟨fl1, S3⟩ := p
                rw [hb1] at e2
                refine ⟨φ2, S2, τ3, fl1, S3, R3, r', hb1, ?_⟩
                cases fl1 with
                | nx τ4 => exact fun φ' H'' σ'' E4 R4 r4 => ⟨φ', S3, τ4, (E2.trans E3).trans E4, R4, r4, e2, (q2.mono E3).mono E4⟩
                | ct τ4 => exact fun φ' H'' σ'' E4 R4 r4 => ⟨φ', S3, τ4, (E2.trans E3).trans E4, R4, r4, e2, (q2.mono E3).mono E4⟩
                | bk τ4 => cases e2; exact fun φ' H'' σ'' E4 R4 r4 => (q2.mono E3) φ' H'' σ'' E4 R4 r4
                | rt d4 => cases e2; exact fun φ' H'' v E4 R4 r4 => (q2.mono E3) φ' H'' v E4 R4 r4
                | xx x4 τ4 => cases e2; exact fun φ' H'' σ'' d4 E4 R4 r4 hx => (q2.mono E3) φ' H'' σ'' d4 E4 R4 r4 hx

/-! ## list comprehensions -/
def wipeD (τ : Sl) : List Nat → Sl
  | [] => τ
  | v :: vs => (wipeD τ vs).set v none
theorem RSl.wipe {φ : List Addr} {H : Hp} {τ : Sl} {σ : L2.St} (r : RSl T H φ τ σ) : ∀ vs, RSl T H φ (wipeD τ vs) (wipe σ vs)
  | [] => r
  | v :: vs => by
    have ih := RSl.wipe r vs
    refine ⟨by simp [wipeD, L2.wipe, ih.len], fun j d hj => ?_⟩
    unfold wipeD at hj
    unfold L2.wipe
    by_cases hv : v = j
    · subst hv
      have hl : v < (wipeD τ vs).length := by have := (List.getElem?_eq_some_iff.mp hj).1; simpa using this
      rw [List.getElem?_set_self hl] at hj; cases hj
    · rw [List.getElem?_set_ne hv] at hj
      rw [List.getElem?_set_ne hv]
      exact ih.at_ j d hj
theorem wipe_get {σ : L2.St} : ∀ {vs : List Nat} {i : Nat}, i ∈ vs → i < σ.length → (wipe σ vs)[i]? = some none
  | v :: vs, i, h, hl => by
    unfold L2.wipe
    by_cases hv : v = i
    · subst hv; rw [List.getElem?_set_self (by rw [wipe_length]; exact hl)]
    · rw [List.getElem?_set_ne hv]
      exact wipe_get ((List.mem_cons.mp h).resolve_left fun z => hv z.symm) hl
theorem wipe_eq {σ σ' : L2.St} {vs : List Nat} (h : ∀ k, k ∉ vs → σ'[k]? = σ[k]?) (hl : σ'.length = σ.length) : wipe σ' vs = wipe σ vs := by
  refine List.ext_getElem? fun i => ?_
  by_cases hi : i ∈ vs
  · by_cases hlt : i < σ.length
    · rw [wipe_get hi hlt, wipe_get hi (by omega)]
    · rw [List.getElem?_eq_none (by rw [wipe_length]; omega), List.getElem?_eq_none (by rw [wipe_length]; omega)]
  · rw [wipe_out hi, wipe_out hi]
    exact h i hi
theorem wipe_wipe {σ : L2.St} {vs : List Nat} : wipe (wipe σ vs) vs = wipe σ vs := wipe_eq (fun k hk => wipe_out hk) (wipe_length σ vs)
abbrev W0 : WX := fun _ _ _ _ => False
def goC (nxt : Nat → Sto → Option (Option D)) (g : TF) (t : BF) (fe : EF) (n : Nat) (τ0 : Sl) : Nat → Nat → Sto → Option Sto
  | 0, _, _ => none
  | m + 1, i, S => match nxt i S with
    | none => none
    | some none => some S
    | some (some d) => match g d S τ0 with
      | none => none
      | some τ1 => match t τ1 S with
        | some (.ok false S1) => goC nxt g t fe n τ0 m (i + 1) S1
        | some (.ok true S1) => match fe τ1 S1 with
          | some (.ok d S2) => match S2[n]? with
            | some (.lst acc) => if acc.length < sizeLine then goC nxt g t fe n τ0 m (i + 1) (S2.set n (.lst (acc ++ [d]))) else none
            | _ => none
          | _ => none
        | _ => none
def eLc (fi : IF) (g : TF) (t : BF) (fe : EF) (vs : List Nat) : EF := fun τ S => match fi τ S with
  | none => none
  | some (.ex x S1) => some (.ex x S1)
  | some (.ok wk S1) => (goC wk.nxt g t fe S1.length (wipeD τ vs) (wk.bound + 1) 0 (S1 ++ [.lst []])).bind fun S2 => some (.ok (.loc S1.length) S2)
def tAll : BF := fun _ S => some (.ok true S)
theorem ts_nil : PTs X [] (rdT T W0 tAll) := by
  refine ⟨fun pins s σ H Q I h => ?_⟩
  obtain ⟨φ, S, τ, o, R, r, e, q⟩ := h
  cases e
  exact pts_nil.run pins s σ H Q I (q φ H .refl R)
theorem ts_one (h : PT X c (rdT T W0 ta)) : PTs X [c] (rdT T W0 ta) := pts_one h
theorem lc_of {t : BF} {fe : EF} (hv : ∀ k ∈ vs, True) {us : List Nat} (hus : ∀ k ∈ us, k ∈ vs) {σ : L2.St} {H : Hp} {Q : VK} (h : rdE T W (eLc fi g t fe vs) σ H Q) : tLc (rdI T W fi) (rdG T us g) (rdT T W0 t) (rdE T W0 fe) vs σ H Q := by
  obtain ⟨φ, S, τ, o, R, r, e, q⟩ := h
  unfold eLc at e
  cases e1 : fi τ S with
  | none => rw [e1] at e; cases e
  | some x =>
    rw [e1] at e
    refine ⟨φ, S, τ, x, R, r, e1, ?_⟩
    cases x with
    | ex x S1 => cases e; exact q
    | ok wk S1 =>
      intro φ1 H1 J E1 R1 sv L hL
      simp only [Option.bind_eq_some_iff] at e
      obtain ⟨S9, e2, e3⟩ := e
      cases e3
      obtain ⟨R2, E2⟩ := R1.new (u := .lst []) (o := .lst []) hL ⟨[], upd_same, rfl⟩
      have hL2 : (φ1 ++ [L])[S1.length]? = some L := by rw [← R1.len]; simp
      have r0 := ((r.ext E1).ext E2).wipe vs
      refine ⟨fun i m H => ∃ φ3 S3, Ext (φ1 ++ [L]) (upd H1 L (.lst [])) φ3 H ∧ Rel T φ3 S3 H ∧ goC wk.nxt g t fe S1.length (wipeD τ vs) m i S3 = some S9, ⟨wk.bound + 1, _, _, .refl, R2, e2⟩, ?_⟩
      rintro i m H3 ⟨φ3, S3, E3, R3, e3⟩
      cases m with
      | zero => cases e3
      | succ m =>
        unfold goC at e3
        obtain ⟨sgo, sst⟩ := sv φ3 S3 H3 i (E2.trans E3) R3
        cases hn : wk.nxt i S3 with
        | none => rw [hn] at e3; cases e3
        | some od =>
          rw [hn] at e3
          cases od with
          | none =>
            cases e3
            exact .inl ⟨sst hn, q φ3 H3 _ ((E1.trans E2).trans E3) R3 ⟨L, rfl, E3.get hL2⟩⟩
          | some d =>
            obtain ⟨go, yl⟩ := sgo d hn
            refine .inr ⟨go, fun H' => ∃ φ4 S4, Ext (φ1 ++ [L]) (upd H1 L (.lst [])) φ4 H' ∧ Rel T φ4 S4 H' ∧ goC wk.nxt g t fe S1.length (wipeD τ vs) m (i + 1) S4 = some S9, fun H' h => ⟨m, Nat.lt_succ_self m, h⟩, fun x H' y => ?_⟩
            obtain ⟨E4, R4, r4⟩ := yl x H' y
            simp only at e3
            cases hg1 : g d S3 (wipeD τ vs) with
            | none => rw [hg1] at e3; cases e3
            | some τ4 =>
              rw [hg1] at e3
              refine ⟨φ3, S3, wipeD τ vs, d, τ4, R4, (r0.ext E3).ext E4, r4, hg1, fun σ' r' ks kl => ?_⟩
              refine ⟨(wipe_eq (fun k hk => ks k fun z => hk (hus k z)) kl).trans wipe_wipe, ?_⟩
              simp only at e3
              cases ht : t τ4 S3 with
              | none => rw [ht] at e3; cases e3
              | some ob =>
                rw [ht] at e3
                cases ob with
                | ex x S5 => cases e3
                | ok bb S5 =>
                  refine ⟨φ3, S3, τ4, _, R4, r', ht, fun φ5 H5 E5 R5 => ?_⟩
                  cases bb with
                  | false => exact ⟨φ5, S5, (E3.trans E4).trans E5, R5, e3⟩
                  | true =>
                    rw [if_pos rfl]
                    simp only at e3
                    cases hf : fe τ4 S5 with
                    | none => rw [hf] at e3; cases e3
                    | some od =>
                      rw [hf] at e3
                      cases od with
                      | ex x S6 => cases e3
                      | ok d6 S6 =>
                        refine ⟨φ5, S5, τ4, _, R5, r'.ext E5, hf, fun φ6 H6 v6 E6 R6 r6 => ?_⟩
                        simp only at e3
                        split at e3
                        · rename_i acc hacc
                          split at e3
                          · rename_i hl
                            have hL6 : φ6[S1.length]? = some L := E6.get (E5.get (E4.get (E3.get hL2)))
                            obtain ⟨vs6, k1, k2⟩ := R6.obj _ _ L hacc hL6
                            have E7 := Ext.put (φ := φ6) (u := .lst (vs6 ++ [v6])) (List.mem_of_getElem? hL6) k1
                            obtain ⟨R7, _⟩ := R6.put (o := .lst (acc ++ [d6])) (u := .lst (vs6 ++ [v6])) hL6 (mem_lt hacc) ⟨_, upd_same, (k2.app (RDs.one r6)).ext E7 _ _⟩
                            exact ⟨vs6, k1, by rw [← k2.length]; exact hl, φ6, _, (((E3.trans E4).trans E5).trans E6).trans E7, R7, e3⟩
                          · cases e3
                        · cases e3
variable {elt iter : Expr} {ifs : List Expr} {scope : Scope} {own : List (Str × Nat)} {us : List Nat} {t : BF} {fe : EF}
theorem d_lc (hc : X.calm = true) (hN : X.N.Nodup) (hi : PI X tg iter (rdI T W fi)) (ok : BlkOk X.N X.env.scope scope own)
    (hg : ∀ (s : Shared) (H : Hp) (C : Addr) (cl : List (Str × Addr)) (fp : List Addr), PG (X.blk s H scope (compEnvC scope cl C X.env) fp) tg (rdG T us g))
    (ht : ∀ (s : Shared) (H : Hp) (C : Addr) (cl : List (Str × Addr)) (fp : List Addr), PTs (X.blk s H scope (compEnvC scope cl C X.env) fp) ifs (rdT T W0 t))
    (he : ∀ (s : Shared) (H : Hp) (C : Addr) (cl : List (Str × Addr)) (fp : List Addr), PE (X.blk s H scope (compEnvC scope cl C X.env) fp) elt (rdE T W0 fe))
    (hus : ∀ k ∈ us, k ∈ own.map (·.2) := by decide) (hs : ∀ x, foldedSetIterable iter X.env x = pure x := by intro _; rfl) :
    PE X (.ListComp elt [⟨tg, iter, ifs, 0⟩] scope pos) (rdE T W (eLc fi g t fe (own.map (·.2)))) :=
  (pe_lc hc hN hi ok hg ht he hs).imp fun _ _ _ h => lc_of (fun _ _ => trivial) hus h
theorem s_setLc {i : Nat} {y : Str} {py spos : Pos} (hc : X.calm = true) (hN : X.N.Nodup) (hy : X.N[i]? = some y) (hyl : X.env.scope.names.lookup y = some .local)
    (hsw : swapsWith (.ListComp elt [⟨tg, iter, ifs, 0⟩] scope pos) (some (.Name y py)) spos.line X.env = pure true) (hi : PI X tg iter (rdI T W fi)) (ok : BlkOk X.N X.env.scope scope own)
    (hg : ∀ (s : Shared) (H : Hp) (C : Addr) (cl : List (Str × Addr)) (fp : List Addr), PG (X.blk s H scope (compEnvC scope cl C X.env) fp) tg (rdG T us g))
    (ht : ∀ (s : Shared) (H : Hp) (C : Addr) (cl : List (Str × Addr)) (fp : List Addr), PTs (X.blk s H scope (compEnvC scope cl C X.env) fp) ifs (rdT T W0 t))
    (he : ∀ (s : Shared) (H : Hp) (C : Addr) (cl : List (Str × Addr)) (fp : List Addr), PE (X.blk s H scope (compEnvC scope cl C X.env) fp) elt (rdE T W0 fe))
    (hus : ∀ k ∈ us, k ∈ own.map (·.2) := by decide) (hs : ∀ x, foldedSetIterable iter X.env x = pure x := by intro _; rfl) :
    PS X (.Assign [.Name y py] (.ListComp elt [⟨tg, iter, ifs, 0⟩] scope pos) spos) (rdS T W (sSet i (eLc fi g t fe (own.map (·.2))))) :=
  (ps_setLc hc hN hy hyl hsw hi ok hg ht he hs).imp fun De σ H h => by
    obtain ⟨φ, S, τ, fl, S', R, r, e, q⟩ := h
    have h2 : rdE T W (eLc fi g t fe (own.map (·.2))) σ H (fun v H1 => De.nx (σ.set i (some v)) H1) := by
      refine rdE_sx R r e q fun d S1 v H1 φ1 ⟨E1, R1, r1⟩ e1 q1 => ?_
      cases e1
      exact q1 φ1 H1 _ .refl R1 ((r.ext E1).set i r1)
    exact lc_of (fun _ _ => trivial) hus h2
theorem s_setLcF {i : Nat} {y : Str} {py spos : Pos} (hc : X.calm = true) (hN : X.N.Nodup) (hy : X.N[i]? = some y) (hyl : X.env.scope.names.lookup y = some .local)
    (hsw : swapsWith (.ListComp elt [⟨tg, iter, ifs, 0⟩] scope pos) (some (.Name y py)) spos.line X.env = pure true) (hi : PI X tg iter (rdI T W fi)) (ok : BlkOk X.N X.env.scope scope own)
    (hg : ∀ (s : Shared) (H : Hp) (C : Addr) (cl : List (Str × Addr)) (fp : List Addr), PG (X.blk s H scope (compEnvC scope cl C X.env) fp) tg (rdG T us g))
    (ht : ∀ (s : Shared) (H : Hp) (C : Addr) (cl : List (Str × Addr)) (fp : List Addr), PTs (X.blk s H scope (compEnvC scope cl C X.env) fp) ifs (rdT T W0 t))
    (he : ∀ (s : Shared) (H : Hp) (C : Addr) (cl : List (Str × Addr)) (fp : List Addr), PE (X.blk s H scope (compEnvC scope cl C X.env) fp) elt (rdE T W0 fe))
    (hus : ∀ k ∈ us, k ∈ own.map (·.2) := by decide) (hs : ∀ x, foldedSetIterable iter X.env x = pure x := by intro _; rfl) :
    PS X (.Assign [.Name y py] (.ListComp elt [⟨tg, iter, ifs, 0⟩] scope pos) spos) (rdS T W (sSet i (fz (eLc fi g t fe (own.map (·.2)))))) :=
  (ps_setLc hc hN hy hyl hsw hi ok hg ht he hs).imp fun De σ H h => by
    obtain ⟨φ, S, τ, fl, S', R, r, e, q⟩ := h
    have h2 : rdE T W (fz (eLc fi g t fe (own.map (·.2)))) σ H (fun v H1 => De.nx (σ.set i (some v)) H1) := by
      refine rdE_sx R r e q fun d S1 v H1 φ1 ⟨E1, R1, r1⟩ e1 q1 => ?_
      cases e1
      exact q1 φ1 H1 _ .refl R1 ((r.ext E1).set i r1)
    exact lc_of (fun _ _ => trivial) hus (fz_imp h2)
end
end Sb
end
section
set_option Elab.async false
set_option linter.all false
set_option maxRecDepth 100000
set_option maxHeartbeats 4000000
namespace Sb
open PySem PySem.Spec PyProof.Rows L2

/-! ## all(e for x in xs): a generator over anything that is walked, its element any expression -/
/-- the generator's running code, walked as a body: its frame over the frames that run -/
def gcx (X : Cx) (s4 : Shared) (H4 : Hp) (cenv : Env) (fp : List Addr) (A3 : Around) (pn : List (Addr × Obj)) : Cx :=
  { X with A := A3, s_0 := s4, H_0 := H4, env := cenv, outer := X.stack, stack := cenv :: X.stack, ex := fp, fn := fun _ => true, calm := true, pn := pn, xe := fun _ _ => False }
def nones (n : Nat) : L2.St := List.replicate n none
def tGA (P : Addr) (n : Nat) (wi : TI) (g : TG) (te : TE) : TE := fun σ H Q => wi σ H fun J H1 => GxR.TabG H1 P ∧ ∀ H2, GxR.Tabbed P H1 H2 → ∃ W : Nat → Nat → Hp → Prop, (∃ m, W 0 m H2) ∧ ∀ i m H, W i m H →
  (J.stop i H ∧ Q (.bl true) H) ∨ (J.go i H ∧ ∃ Nx : Hp → Prop, (∀ H', Nx H' → ∃ m', m' < m ∧ W (i + 1) m' H') ∧ ∀ x H', J.yld i H x H' → g x (nones n) H' fun σ2 H2 => te σ2 H2 fun y H3 => ∃ b, y = .bl b ∧ if b = true then Nx H3 else Q (.bl false) H3)
/-- another state over the same heap -/
structure Sh (s s' : Shared) : Prop where
  heap : s'.heap = s.heap
  os : s'.os = s.os
  bare : AllBare s'.gens
theorem Sh.inv {X : Cx} {pins : List (Addr × Obj)} {σ : L2.St} {H : Hp} {s s' : Shared} (I : L2.Inv X pins σ H s) (h : Sh s s') : L2.Inv X pins σ H s' := by
  obtain ⟨hp, g, dr, tk, os⟩ := s'
  obtain ⟨e1, e2, e3⟩ := h
  have e1' : hp = s.heap := e1
  have e2' : os = s.os := e2
  subst e1' e2'
  exact ⟨I.ok, I.os, e3, I.base, I.loc, I.cell, I.free, I.freeC, I.pin, I.hok, I.len⟩
section
variable {X : Cx} {elt iter tg : Expr} {scope : Scope} {gpos : Pos}
abbrev GE (elt tg iter : Expr) (scope : Scope) (gpos : Pos) : Expr := .GeneratorExp elt [⟨tg, iter, [], 0⟩] scope gpos
/-- the end of the generator -/
def REx (Xg : Cx) (Q : VK) : GenEnd := fun _ _ r s1 => r = .ok .next ∧ ∃ σ H, L2.Inv Xg [] σ H s1 ∧ Q (.bl true) H
/-- a truth handed out -/
def YEx (Xg : Cx) (Q : VK) : Protocol := fun _ _ v s1 kap => ∃ b, v = Value.bool b ∧ ∃ σ H, L2.Inv Xg [] σ H s1 ∧ if b = true then ∀ s'', Sh s1 s'' → kap (.send .none) s'' else Q (.bl false) H
theorem seg_gen {A2 : Around} {Xg : Cx} {cenv : Env} {it : Addr} {fp : List Addr} {J : It} {tn : Nat → Heap → Prop} {g : TG} {te : TE} {Q : VK} {n0 : Nat} {W : Nat → Nat → Hp → Prop}
    (hA : Xg.A = A2.over (.compLoop (GE elt tg iter scope gpos) 0 (.ref it) .none cenv) []) (hE : Xg.env = cenv) (hcl : Xg.calm = true) (hxe : Xg.xe = fun _ _ => False) (hn0 : Xg.N.length = n0) (hco : cenv.scope.isCoroutine = false)
    (Tn : Turn Xg.prog Xg.w Xg.K tg J fp it tn) (hg : PG Xg tg g) (he : PE Xg elt te) (hfp : ∀ H, (∀ b ∈ fp, H b = none) → ∀ b ∈ fp, FpOk Xg [] H b)
    (turn : ∀ i m H, W i m H → (J.stop i H ∧ Q (.bl true) H) ∨ (J.go i H ∧ ∃ Nx : Hp → Prop, (∀ H', Nx H' → ∃ m', m' < m ∧ W (i + 1) m' H') ∧ ∀ x H', J.yld i H x H' → g x (nones n0) H' fun σ2 H2 => te σ2 H2 fun y H3 => ∃ b, y = .bl b ∧ if b = true then Nx H3 else Q (.bl false) H3)) :
    ∀ (n i m : Nat) (s₀ s : Shared) (σ : L2.St) (H : Hp), m < n → L2.Inv Xg [] σ H s → tn i s.heap → (∀ b ∈ fp, H b = none) → W i m H →
      Seg (model Xg.prog Xg.w) A2 (REx Xg Q) (YEx Xg Q) n s₀ (.compLoop (GE elt tg iter scope gpos) 0 (.ref it) .none cenv) ((model Xg.prog Xg.w).den (.compLoop (GE elt tg iter scope gpos) 0 (.ref it) .none cenv)) [] s := by
  intro n
  induction n with
  | zero => intro i m s₀ s σ H hm; exact absurd hm (Nat.not_lt_zero _)
  | succ n ih =>
    intro i m s₀ s σ H hm I st fr w
    show Seg _ A2 _ _ _ s₀ _ ((compTurn (GE elt tg iter scope gpos) 0 (.ref it) .none cenv).onRaise (leaving cenv)) [] s
    rw [compTurn_gen, Sem.onRaise_eq_wrap]
    refine seg_bind_wrap (wpAny_standAt ?_)
    rcases turn i m H w with ⟨stop, q⟩ | ⟨go, Nx, hN, step⟩
    · refine seg_bind_wrap ?_
      rw [← hA]
      refine thn (Tn.done Xg rfl rfl rfl hcl i [] s σ H _ I (hfp H fr) st stop) fun r s4 ⟨hr, I4⟩ => ?_
      subst hr
      exact seg_end (.ok .next) ⟨rfl, σ, H, I4, q⟩
    · refine seg_bind_wrap ?_
      rw [← hA]
      refine thn (Tn.item Xg rfl rfl rfl hcl i [] s σ H _ I (hfp H fr) st go) fun r s1 ⟨u, hr, h4⟩ => ?_
      subst hr
      refine seg_bind_wrap ?_
      rw [← hA]
      refine thn h4 fun _ s5 ⟨x, H5, I5, r5, y5, st5, fr5⟩ => ?_
      have I5' := (I5.pinned (hfp H5 fr5) (Tn.obj _ _ st5)).weak (σ' := nones n0) (by rw [I5.len, ← hn0]; simp [nones]) (fun j v hj => by
        unfold nones at hj
        rw [List.getElem?_replicate] at hj
        split at hj <;> cases hj)
      refine seg_bind_wrap ?_
      rw [← hA]
      have hgr := hg.run _ s5 (nones n0) H5 x u _ I5' r5 (step x H5 y5)
      rw [hE, hxe] at hgr
      refine wpAny_mono hgr (fun _ s6 ⟨σ6, H6, I6, q6⟩ => ?_) fun _ _ z => z.elim
      refine seg_bind_wrap (wpAny_tests_nil ?_)
      simp only [if_true]
      have hy : ∀ v, yieldOut cenv v = yieldValue v := fun v => by simp only [yieldOut, hco, Bool.false_eq_true, if_false]
      simp only [hy]
      rw [Sem.bind_eq_wrap', Sem.bind_eq_wrap', Sem.wrap_wrap, Sem.wrap_wrap]
      refine seg_wrap ?_
      rw [← hA]
      have her := he.run _ s6 σ6 H6 _ I6 q6
      rw [hE, hxe] at her
      refine wpAny_mono her (fun v s7 ⟨y, H7, I7, r7, b, hb, q7⟩ => ?_) fun _ _ z => z.elim
      subst hb
      obtain rfl : v = Value.bool b := r7
      refine seg_at (seg_yield rfl rfl rfl ⟨b, rfl, σ6, H7, I7.unpinned, ?_⟩)
      cases b with
      | false => exact q7
      | true =>
        intro s'' hs
        obtain ⟨m', hm', w'⟩ := hN H7 q7
        have keepIt : ∀ b ∈ fp, ∀ o, s5.heap.get? b = some o → s''.heap.get? b = some o := fun b hb o e => by
          rw [hs.heap]
          exact (I7.pin (b, o) (List.mem_append_right _ (List.mem_append_right _ (mem_pinsAt hb e)))).1
        refine seg_again rfl (ih (i + 1) m' _ s'' σ6 H7 (by omega) (hs.inv I7.unpinned) (Tn.keep _ _ _ st5 keepIt) (fun b hb => ?_) w')
        obtain ⟨o, e, d⟩ := Tn.obj _ _ st5 b hb
        exact (I7.pin (b, o) (List.mem_append_right _ (List.mem_append_right _ (mem_pinsAt hb e)))).2.1
theorem seg_gen0 {A2 : Around} {Xg : Cx} {cenv : Env} {it : Addr} {fp : List Addr} {J : It} {tn : Nat → Heap → Prop} {g : TG} {te : TE} {Q : VK} {n0 : Nat} {W : Nat → Nat → Hp → Prop}
    (hA : Xg.A = A2.over (.compLoop (GE elt tg iter scope gpos) 0 (.ref it) .none cenv) []) (hE : Xg.env = cenv) (hcl : Xg.calm = true) (hxe : Xg.xe = fun _ _ => False) (hn0 : Xg.N.length = n0) (hco : cenv.scope.isCoroutine = false)
    (Tn : Turn Xg.prog Xg.w Xg.K tg J fp it tn) (hg : PG Xg tg g) (he : PE Xg elt te) (hfp : ∀ H, (∀ b ∈ fp, H b = none) → ∀ b ∈ fp, FpOk Xg [] H b)
    (turn : ∀ i m H, W i m H → (J.stop i H ∧ Q (.bl true) H) ∨ (J.go i H ∧ ∃ Nx : Hp → Prop, (∀ H', Nx H' → ∃ m', m' < m ∧ W (i + 1) m' H') ∧ ∀ x H', J.yld i H x H' → g x (nones n0) H' fun σ2 H2 => te σ2 H2 fun y H3 => ∃ b, y = .bl b ∧ if b = true then Nx H3 else Q (.bl false) H3))
    {m : Nat} {s₀ s : Shared} {σ : L2.St} {H : Hp} (I : L2.Inv Xg [] σ H s) (st : tn 0 s.heap) (fr : ∀ b ∈ fp, H b = none) (w : W 0 m H) :
      Seg (model Xg.prog Xg.w) A2 (REx Xg Q) (YEx Xg Q) (m + 1) s₀ (.compStart (GE elt tg iter scope gpos) 0 (.ref it) .none cenv) ((model Xg.prog Xg.w).den (.compStart (GE elt tg iter scope gpos) 0 (.ref it) .none cenv)) [] s := by
  have loop := seg_gen hA hE hcl hxe hn0 hco Tn hg he hfp turn (m + 1) 0 m s₀ s σ H (Nat.lt_succ_self m) I st fr w
  show Seg _ A2 _ _ _ s₀ _ ((compStart (GE elt tg iter scope gpos) 0 (.ref it) .none cenv).onRaise (leaving cenv)) [] s
  unfold compStart
  rw [Sem.onRaise_eq_wrap]
  show Seg _ A2 _ _ _ s₀ _ ((ask >>= _).wrap _ _ _ _) [] s
  refine seg_bind_wrap (wpAny_askSetting ?_)
  split
  · exact seg_again rfl loop
  · refine seg_bind_wrap (wpAny_rule ?_)
    show Seg _ A2 _ _ _ s₀ _ ((standAt iter.pos >>= _).wrap _ _ _ _) [] s
    exact seg_bind_wrap (wpAny_standAt (seg_bind_wrap (Tn.self _ 0 s _ _ st (seg_again rfl loop))))

/-! ### the consumer -/
abbrev genObj (g : Nat) (nm qn : Str) (t1 t2 : Tok) : Obj := { cls := .type "generator", data := .fields #[.int g 0, .str nm t1, .str qn t2] }
theorem all_loop {P : Program} {w : World} {A : Around} {Xg : Cx} {a : Addr} {g : Nat} {nm qn : Str} {t1 t2 : Tok} {Q : VK} {Rz : Result → Shared → Prop} (hP : Xg.prog = P) (hw : Xg.w = w) (hh : A.handled = none) (hroom : A.depth < recursionLimit) (hpn : (a, genObj g nm qn t1 t2) ∈ Xg.pn)
    (hR : ∀ b σ H s' s'', L2.Inv Xg [] σ H s' → s''.os = s'.os → AllBare s''.gens → (∀ b o, s'.heap.get? b = some o → s''.heap.get? b = some o) → Q (.bl b) H → Rz (.ok (.ret (.bool b))) s'') :
    ∀ (n : Nat) (s : Shared) (gs : GenState), s.gens[g]? = some gs → (∃ σ H, L2.Inv Xg [] σ H s) → (∀ s'', Sh s s'' → gs.Goes (model P w) A.in1.in1 (REx Xg Q) (YEx Xg Q) n (.send .none) s'') →
      codeAny (model P w) A (.builtin "all.loop" ⟨[.ref a], []⟩) Rz s := by
  subst hP hw
  intro n
  induction n with
  | zero =>
    intro s gs hgs ⟨σ, H, I⟩ hgo
    have hlt : g < s.gens.size := by
      rcases Nat.lt_or_ge g s.gens.size with z | z
      · exact z
      · rw [Array.getElem?_eq_none z] at hgs; cases hgs
    have hpa := (I.pin _ (List.mem_append_left _ hpn)).1
    refine codeAny_builtin F.entry_all_loop ?_
    rw [Around.under_plainId F.plain_all_loop _]
    show wpAny _ A.in1 (pyNext (.ref a) >>= _) _ _ s
    refine wpAny_bind (wpAny_pyNext_genexpQ (A := A.in1) (P := fun _ s1 => fun s2 => ∃ σ H, L2.Inv Xg [] σ H s2 ∧ Q (.bl true) H) hh I.nolimit hroom ⟨_, _, _, hpa, rfl, rfl, rfl⟩ hgs
      (hgo _ ⟨rfl, rfl, allBare_setGen I.bare rfl⟩) (fun v s₁ gs' hb hy => ?_) fun s₁ ⟨σ1, H1, I1, q1⟩ h' kk => ?_)
    · obtain ⟨b, rfl, σ1, H1, I1, q1⟩ := hy
      refine wpAny_bind (wpAny_holding (wpAny_truthy_bool ?_))
      refine wpAny_bind (wpAny_letGo ?_)
      cases b with
      | true => exact (q1 s₁ ⟨rfl, rfl, I1.bare⟩).elim
      | false =>
        simp only [Bool.false_eq_true, if_false]
        exact wpAny_bind (wpAny_rule (wpAny_pure (hR false σ1 H1 s₁ _ I1 rfl (allBare_setGen I1.bare hb) (fun _ _ z => z) q1)))
    · exact wpAny_bind (wpAny_rule (wpAny_pure (hR true σ1 H1 s₁ _ I1 rfl (allBare_setGen I1.bare rfl) kk q1)))
  | succ n ih =>
    intro s gs hgs ⟨σ, H, I⟩ hgo
    have hlt : g < s.gens.size := by
      rcases Nat.lt_or_ge g s.gens.size with z | z
      · exact z
      · rw [Array.getElem?_eq_none z] at hgs; cases hgs
    have hpa := (I.pin _ (List.mem_append_left _ hpn)).1
    refine codeAny_builtin F.entry_all_loop ?_
    rw [Around.under_plainId F.plain_all_loop _]
    show wpAny _ A.in1 (pyNext (.ref a) >>= _) _ _ s
    refine wpAny_bind (GenW.wpAny_gsz (n := g + 1) hlt (wpAny_pyNext_genexpQ (A := A.in1) (P := fun _ s1 => fun s2 => ∃ σ H, L2.Inv Xg [] σ H s2 ∧ Q (.bl true) H) hh I.nolimit hroom ⟨_, _, _, hpa, rfl, rfl, rfl⟩ hgs
      (hgo _ ⟨rfl, rfl, allBare_setGen I.bare rfl⟩) (fun v s₁ gs' hb hy => ?_) fun s₁ ⟨σ1, H1, I1, q1⟩ h' kk => ?_))
    · intro hsz
      rw [GenW.setGen_size] at hsz
      obtain ⟨b, rfl, σ1, H1, I1, q1⟩ := hy
      refine wpAny_bind (wpAny_holding (wpAny_truthy_bool ?_))
      refine wpAny_bind (wpAny_letGo ?_)
      cases b with
      | true =>
        simp only [if_true] at q1 ⊢
        have sh : Sh s₁ (s₁.setGen g gs') := ⟨rfl, rfl, allBare_setGen I1.bare hb⟩
        refine wpAny_pure ⟨plainId_quiet F.plain_all_loop _, ih (s₁.setGen g gs') gs' (setGen_at hsz) ⟨σ1, H1, sh.inv I1⟩ fun s'' h2 => ?_⟩
        exact q1 s'' ⟨h2.heap, h2.os, h2.bare⟩
      | false =>
        simp only [Bool.false_eq_true, if_false] at q1 ⊢
        exact wpAny_bind (wpAny_rule (wpAny_pure (hR false σ1 H1 s₁ _ I1 rfl (allBare_setGen I1.bare hb) (fun _ _ z => z) q1)))
    · intro _
      exact wpAny_bind (wpAny_rule (wpAny_pure (hR true σ1 H1 s₁ _ I1 rfl (allBare_setGen I1.bare rfl) kk q1)))
end
end Sb
end
section
set_option Elab.async false
set_option linter.all false
set_option maxRecDepth 100000
set_option maxHeartbeats 4000000
namespace Sb
open PySem PySem.Spec PyProof.Rows L2

structure GenSc (scope : Scope) : Prop where
  kind : scope.kind = .function
  co : scope.isCoroutine = false
  cell : ∀ y ∈ scope.names, y.2 ≠ .cell
  free : ∀ y ∈ scope.names, y.2 ≠ .free
  dot : scope.names.lookup (".0" : Str) = some NameKind.local
theorem cloFrom_nil {cells : List (Str × Addr)} : ∀ {names : List (Str × NameKind)}, (∀ y ∈ names, y.2 ≠ .free) → cloFrom cells names [] = []
  | [], _ => rfl
  | (n, k) :: r, h => by
    unfold cloFrom
    have hk : (k == NameKind.free) = false := by
      have := h (n, k) List.mem_cons_self
      simpa using this
    rw [hk]
    exact cloFrom_nil fun y hy => h y (List.mem_cons_of_mem _ hy)
abbrev gEnv (scope : Scope) (C : Addr) (code : Value) (env : Env) : Env := genEnv scope [] C code builtinsNs env
section
variable {X : Cx} {elt iter tg : Expr} {scope : Scope} {gpos pos p : Pos} {k : Nat} {c P : Addr} {wi : TI} {g : TG} {te : TE}
/-- the contexts that the element may be asked in -/
def GenIn (X : Cx) (scope : Scope) (k : Nat) (Φ : Cx → Prop) : Prop := ∀ (s4 : Shared) (H4 : Hp) (C : Addr) (code : Value) (fp : List Addr) (A3 : Around) (pn : List (Addr × Obj)), Room k A3 → (X.A.guards = some [] → A3.guards = some []) → Φ (gcx X s4 H4 (gEnv scope C code X.env) fp A3 pn)
theorem lookup_kind {names : List (Str × NameKind)} {k : NameKind} (h : ∀ y ∈ names, y.2 ≠ k) (x : Str) : names.lookup x ≠ some k := fun e => h (x, k) (PySem.mem_of_lookup e) rfl

theorem gen_cont {pins : List (Addr × Obj)} {σ : L2.St} {H3 : Hp} {s3 : Shared} {Q : VK} {it : Addr} {fp : List Addr} {J : It} {tn : Nat → Heap → Prop} {code : Value} {W : Nat → Nat → Hp → Prop} (hcalm : X.calm = true) (hr : Room (k + 1) X.A) (S : GenSc scope)
    (hpg : GenIn X scope k fun Y => PG Y tg g) (hpe : GenIn X scope k fun Y => PE Y elt te) (I3 : L2.Inv X pins σ H3 s3) (Tn : Turn X.prog X.w X.K tg J fp it tn) (st3 : tn 0 s3.heap) (f3 : ∀ b ∈ fp, FpOk X pins H3 b) (hit : it ∈ fp)
    (hW : ∃ m, W 0 m H3)
    (turn : ∀ i m H, W i m H → (J.stop i H ∧ Q (.bl true) H) ∨ (J.go i H ∧ ∃ Nx : Hp → Prop, (∀ H', Nx H' → ∃ m', m' < m ∧ W (i + 1) m' H') ∧ ∀ x H', J.yld i H x H' → g x (nones X.N.length) H' fun σ2 H2 => te σ2 H2 fun y H3 => ∃ b, y = .bl b ∧ if b = true then Nx H3 else Q (.bl false) H3))
    {h' : Heap} (hn' : h'.Ns s3.heap.objs.size (fun y => if y = ".0" then some (.ref it) else none)) (hs' : Heap.SameBut s3.heap.objs.size (s3.heap.push { cls := .type "frame", data := .dict #[] }) h') {nm qn : Str} {t1 t2 : Tok} {tk : Nat} :
    wpAny (model X.prog X.w) X.A (call (.builtin "all") [.ref h'.objs.size]) (EP X pins σ Q) X.xe
      { s3 with gens := s3.gens.push (.fresh (.compStart (GE elt tg iter scope gpos) 0 (.ref it) .none (gEnv scope s3.heap.objs.size code X.env))), toks := tk, heap := h'.push (genObj s3.gens.size nm qn t1 t2) } := by
  obtain ⟨m, w0⟩ := hW
  have hsz : h'.objs.size = s3.heap.objs.size + 1 := by rw [hs'.1, Heap.size_push]
  have keep1 : ∀ b o, s3.heap.get? b = some o → h'.get? b = some o := fun b o e => hs'.extBut b o (Nat.ne_of_lt (Heap.lt_size e)) (Heap.get?_push_of_some _ e)
  have keep2 : ∀ b o, s3.heap.get? b = some o → (h'.push (genObj s3.gens.size nm qn t1 t2)).get? b = some o := fun b o e => Heap.get?_push_of_some _ (keep1 b o e)
  have hfpl : ∀ b ∈ fp, b < s3.heap.objs.size := fun b hb => by
    obtain ⟨o, e, _⟩ := Tn.obj _ _ st3 b hb
    exact Heap.lt_size e
  have hstk : ∀ b ∈ fp, b ∉ frs X.stack := fun b hb z => by
    rcases List.mem_cons.mp (I3.stkSub b z) with e | e
    · exact (f3 b hb).2.1 e
    · exact (f3 b hb).2.2.1 e
  let cenv : Env := gEnv scope s3.heap.objs.size code X.env
  let A3 : Around := X.A.in1.in1.over (.compLoop (GE elt tg iter scope gpos) 0 (.ref it) .none cenv) []
  have hA3 : Room k A3 := ⟨hr.hd, by
      have h1 := hr.dp
      have e : A3.depth = X.A.depth + 1 := rfl
      rw [e]; omega, by
      have h1 := hr.un
      have e : A3.units = X.A.units + 1 + 1 + 3 := rfl
      rw [e]; omega⟩
  have hgu : X.A.guards = some [] → A3.guards = some [] := fun z => by
    have e : A3.guards = pushGuards [] (pushGuards [] X.A.guards) := rfl
    rw [e, z]
    rfl
  have hfr : A3.frames = some (cenv :: X.stack) := by
    have e : A3.frames = pushEnvs [cenv] (pushEnvs [] X.A.frames) := rfl
    rw [e, I3.ok.frames]
    rfl
  let Xg : Cx := gcx X s3 H3 cenv fp A3 [(h'.objs.size, genObj s3.gens.size nm qn t1 t2)]
  have okG : Xg.Ok := by
    refine ⟨I3.ok.mod, S.kind, I3.ok.glob, rfl, Nat.le_refl _, fun x y c e => ?_, fun x hx => ?_, fun x c _ e => ?_, fun _ => hr.hd, hfr, .inr ⟨rfl, rfl⟩, fun b hb => ⟨Nat.ne_of_lt (hfpl b hb), fun x c e => ?_⟩, I3.bs, Nat.le_trans I3.ok.bsz I3.sz, fun b o e hb => ?_, hstk, I3.stack, I3.stkFree⟩
    · cases e
    · rcases hx with hx | hx
      · exact absurd hx (lookup_kind S.cell x)
      · exact absurd hx (lookup_kind S.free x)
    · cases e
    · cases e
    · rcases (f3 b hb).2.2.2.1 with z | z
      · exact I3.ok.noex b o e z
      · exact absurd (Nat.lt_of_lt_of_le (Heap.lt_size e) (Nat.le_trans I3.ok.bsz z)) (Nat.lt_irrefl _)
  have hCn : H3 s3.heap.objs.size = none := I3.hok.fresh (Nat.le_refl _)
  have han : H3 h'.objs.size = none := I3.hok.fresh (by rw [hsz]; exact Nat.le_succ _)
  have IG : L2.Inv Xg [] (nones X.N.length) H3 { s3 with gens := s3.gens.push (.fresh (.compStart (GE elt tg iter scope gpos) 0 (.ref it) .none cenv)), toks := tk, heap := h'.push (genObj s3.gens.size nm qn t1 t2) } := by
    refine ⟨okG, rfl, I3.bare.push rfl, Un.kept keep2, ⟨_, hn'.push _, fun i x v _ e _ => ?_⟩, fun x c e => ?_, hCn, fun x c e => ?_, fun q hq => ?_, I3.hok.kept keep2, ?_⟩
    · unfold nones at e
      rw [List.getElem?_replicate] at e
      split at e <;> cases e
    · cases e
    · cases e
    · have e : q = (h'.objs.size, genObj s3.gens.size nm qn t1 t2) := by simpa [Xg, gcx] using hq
      subst e
      refine ⟨Heap.get?_push_size _ rfl, han, ?_, fun z => ?_, fun v z => by cases z⟩
      · show h'.objs.size ≠ s3.heap.objs.size
        omega
      · have z' : h'.objs.size ∈ frs X.stack := z
        have h9 := I3.stkSub _ z'
        have h8 : h'.objs.size < s3.heap.objs.size := by
          rcases List.mem_cons.mp h9 with e | e
          · rw [e]; exact I3.lt
          · obtain ⟨_, o, ho, _⟩ := I3.ok.funs.mem e
            exact Nat.lt_of_lt_of_le (Heap.lt_size ho) I3.sz
        omega
    · show (nones X.N.length).length = X.N.length
      simp [nones]
  have hfpg : ∀ H, (∀ b ∈ fp, H b = none) → ∀ b ∈ fp, FpOk Xg [] H b := fun H hn b hb => by
    refine ⟨hn b hb, Nat.ne_of_lt (hfpl b hb), hstk b hb, .inl hb, fun x c e => ?_, fun q hq => ?_⟩
    · cases e
    · have e : q = (h'.objs.size, genObj s3.gens.size nm qn t1 t2) := by simpa [Xg, gcx] using hq
      subst e
      exact Nat.ne_of_gt (Nat.lt_of_lt_of_le (hfpl b hb) (by show s3.heap.objs.size ≤ h'.objs.size; rw [hsz]; exact Nat.le_succ _))
  have hpg' : PG Xg tg g := hpg s3 H3 _ code fp A3 _ hA3 hgu
  have hpe' : PE Xg elt te := hpe s3 H3 _ code fp A3 _ hA3 hgu
  refine call_function_tree F.kind_all F.plain_all F.entry_all (F.args_all1 _) ?_
  unfold Builtin.«all»
  refine wpAny_bind (m := oneArg "all" _) (wpAny_pure ?_)
  refine wpAny_bind (wpAny_pyIter_gen (g := s3.gens.size) ⟨_, _, _, Heap.get?_push_size _ rfl, rfl, rfl, rfl⟩ ?_)
  refine wpAny_pure ⟨plainId_quiet F.plain_all_loop _, ?_⟩
  refine all_loop (Xg := Xg) (g := s3.gens.size) (nm := nm) (qn := qn) (t1 := t1) (t2 := t2) (Q := Q) rfl rfl hr.hd (by have := hr.dp; show X.A.depth < _; omega) (by show _ ∈ [_]; exact List.mem_cons_self) (fun b σ' H' s' s'' J os bare kk q => ?_) (m + 1) _ _ (Array.getElem?_push_size ..) ⟨_, _, IG⟩ fun s'' sh => ?_
  · have U : Un (frs X.stack) fp H3 H' s3.heap s''.heap := Un.trans (show Un (frs X.stack) fp H3 H' s3.heap s'.heap from J.base) (Un.kept kk)
    have hc2 : ∀ b ∈ fp, (b ∈ X.ex ∨ X.s_0.heap.objs.size ≤ b) ∧ b ≠ X.env.locals ∧ (∀ x c, X.env.cells.lookup x = some c → c ≠ b) ∧ ∀ p ∈ X.pn ++ pins, p.1 ≠ b := fun b hb => by
      obtain ⟨_, f1, _, f4, f5, f6⟩ := f3 b hb
      exact ⟨f4, f1, f5, f6⟩
    exact ⟨.bl b, H', I3.call' (os.trans J.os) U (J.hok.kept kk) bare hc2, rfl, q⟩
  · exact ⟨rfl, seg_gen0 (Xg := Xg) (A2 := X.A.in1.in1) (cenv := cenv) rfl rfl rfl rfl rfl S.co Tn hpg' hpe' hfpg turn (sh.inv IG) (Tn.keep _ _ _ st3 fun b _ o e => by rw [sh.heap]; exact keep2 b o e) (fun b hb => (f3 b hb).1) w0⟩

theorem pe_allG (hcalm : X.calm = true) (hr : Room (k + 1) X.A) (hg : Gl X "all") (hm : X.mg "all" = none) (TB : GxR.TabB X.base X.mg c P) (hcode : X.env.code = .ref c) (S : GenSc scope) (hi : PI X tg iter wi)
    (hpg : GenIn X scope k fun Y => PG Y tg g) (hpe : GenIn X scope k fun Y => PE Y elt te) (hs : ∀ v, genFold iter X.env v = pure v)
    (he : starEach [GE elt tg iter scope gpos] X.env = (false, eval (GE elt tg iter scope gpos) X.env) :: starEach [] X.env := by rfl) :
    PE X (.Call (.Name "all" p) [GE elt tg iter scope gpos] [] pos) (tGA P X.N.length wi g te) := by
  refine ⟨fun pins s σ H Q I h => ?_⟩
  have hb : bootBuiltins "all" = some (.builtin "all") := by decide +kernel
  refine wpAny_Call_Name_kw (ld_blt I hg hm hb ?_)
  refine PyProof.Rows.callWith_builtin1 ?_ he (by rfl)
  rw [he]
  show wpAny _ _ (spliced ((false, eval (GE elt tg iter scope gpos) X.env) :: backTo pos (starEach [] X.env))) _ _ s
  refine Calls.spliced_cons ?_
  have hclo : closureFor scope X.env = pure [] := by
    rw [closure_ok fun y hy e => absurd e (S.free y hy), cloFrom_nil S.free]
  refine wpAny_GeneratorExp_make S.co hclo S.cell S.dot S.kind (by have := hr.dp; omega) ?_ hs
  refine thn (hi.run pins s σ H _ I h) fun xv s1 h1 => thn h1 fun itv s2 hp2 => ?_
  obtain ⟨it, fp, tn, J, H2, e2, I2, Tn, st2, f2, ⟨ps, hP, ht⟩, allT⟩ := hp2
  subst e2
  refine ⟨I2.nolimit, ?_⟩
  have hPs : s2.heap.get? P = some { cls := .none, data := .fields ps } := I2.hok P _ hP
  have cd : PySem.W.CodeHd s2.heap c P := TB.code.keeps fun b u e => I2.bk b u e
  have nfP : ∀ b ∈ fp, b ≠ P := fun b hb z => by
    have := (f2 b hb).1
    rw [z, hP] at this
    cases this
  have cont : ∀ (code : Value) (s3 : Shared) (H3 : Hp), L2.Inv X pins σ H3 s3 → GxR.Tabbed P H2 H3 → (∀ b o, b ≠ P → s2.heap.get? b = some o → s3.heap.get? b = some o) →
      wpAny (model X.prog X.w) X.A (builtinsFor X.env.globals X.env.builtins) (fun bi s₄ => ∀ h', h'.Ns s₄.heap.objs.size (fun y => if y = ".0" then some (.ref it) else none) → Heap.SameBut s₄.heap.objs.size (s₄.heap.push { cls := .type "frame", data := .dict #[] }) h' →
        wpAny (model X.prog X.w) X.A (spliced (backTo pos (starEach [] X.env))) (fun vs s' => wpAny (model X.prog X.w) X.A (call (.builtin "all") (.ref h'.objs.size :: vs)) (EP X pins σ Q) X.xe s') X.xe { s₄ with
            gens := s₄.gens.push (.fresh (.compStart (GE elt tg iter scope gpos) 0 (.ref it) .none (genEnv scope [] s₄.heap.objs.size code bi X.env))),
            toks := s₄.toks + 1 + 1 + 1,
            heap := h'.push { cls := .type "generator", data := .fields #[.int s₄.gens.size 0, .str "<genexpr>" (s₄.toks + 1), .str (X.env.qual ++ "<genexpr>") (s₄.toks + 1 + 1)] } }) X.xe s3 := by
    intro code s3 H3 I3 tb kp
    obtain ⟨bm, ob, e1, b2, b3, e4, e5, e6, e7, e8⟩ := TB.bm
    refine wpAny_builtinsFor (m := X.mg) (by rw [I3.ok.glob]; exact I3.mod.glob.keeps I3.bk) e1 b2 (I3.bk _ _ e5) e6 e7 e8 ?_
    intro h' hn' hs'
    refine Calls.spliced_nil ?_
    exact gen_cont hcalm hr S hpg hpe I3 Tn (Tn.keep _ _ _ st2 fun b hb o e => kp b o (nfP b hb) e) (fun b hb => by
      obtain ⟨f0, fr⟩ := f2 b hb
      exact ⟨by rw [tb.2 b (nfP b hb)]; exact f0, fr⟩) Tn.mem (allT H3 tb).choose_spec.1 (allT H3 tb).choose_spec.2 hn' hs'
  cases hf : codeAmong gpos ps.toList with
  | none =>
    refine wpAny_genexprCodeX hcode (cd.code hPs ht) (cd.tab hPs) hf fun c' h' tk hx hge hlt hco' _ htab' _ => ?_
    obtain ⟨o1, vs, f1, tf, fl, tgk, inF, tx, tt, op, _, _, _, _, _, _, _, _, _, htr, _⟩ := hco'
    have I3 := GxR.inv_tab (more := #[rawInt gpos.line, rawInt gpos.col, .ref c']) (h' := h') (g' := s2.gens) (d' := s2.drawn) (t' := tk) I2 hP (fun b o hb e => hx b o hb e) htab'.2 I2.bare
    exact cont _ _ _ I3 ⟨⟨_, upd_same, htr⟩, fun b hb => upd_ne hb⟩ fun b o hb e => hx b o hb e
  | some cv =>
    refine wpAny_genexprCode_hit hcode (cd.code hPs ht) hf ?_
    exact cont cv s2 H2 I2 ⟨⟨ps, hP, ht⟩, fun _ _ => rfl⟩ fun b o _ e => e
end
end Sb
end
section
set_option Elab.async false
set_option linter.all false
set_option maxRecDepth 100000
set_option maxHeartbeats 4000000
namespace Sb
open PySem PySem.Spec PyProof.Rows L2

/-! ## a def by its body -/
def ini (n : Nat) (ds : List D) : Sl := ds.map some ++ List.replicate (n - ds.length) none
def fnM (n : Nat) (f : SF) : List D → M D := fun ds S => match f (ini n ds) S with
  | some (.rt d, S1) => some (.ok d S1)
  | some (.nx _, S1) => some (.ok .non S1)
  | some (.xx x _, S1) => some (.ex x S1)
  | _ => none
theorem ini_rsl {T : Tb} {H : Hp} {φ : List Addr} {N : List Str} {ds : List D} {vs : List V} (r : RDs T H φ ds vs) : RSl T H φ (ini N.length ds) (L2.start N vs) := by
  have l := r.length
  refine ⟨by unfold ini L2.start; simp [l], fun i d h => ?_⟩
  unfold ini at h
  unfold L2.start
  by_cases hi : i < ds.length
  · rw [List.getElem?_append_left (by simpa using hi), List.getElem?_map] at h
    cases e : ds[i]? with
    | none => rw [e] at h; cases h
    | some d0 =>
      rw [e] at h
      cases h
      obtain ⟨v, h1, h2⟩ := r.get e
      exact ⟨v, by rw [List.getElem?_append_left (by simp; omega), List.getElem?_map, h1]; rfl, h2⟩
  · rw [List.getElem?_append_right (by simpa using hi), List.getElem?_replicate] at h
    split at h <;> cases h
section
variable {P : Program} {w : World} {mg : Str → Option Value} {base : Heap} {x qual : Str} {params : Arguments} {body : List Stmt} {scope : Scope} {f : Addr} {fd : FuncData} {T : Tb} {k : Nat}
/-- the wish of a def's body about what is raised -/
abbrev eW (E : XK) : WX := fun c d _ H => E c d H
abbrev bX (P : Program) (w : World) (K : PySem.W.Frag) (mg : Str → Option Value) (base : Heap) (N : List Str) (qual : Str) (scope : Scope) (f : Addr) (cdv : Value) (A : Around) (outer : List Env) (s : Shared) (H : Hp) (E : XK) : Cx := cxOf (L2.CX P w) P w K mg base N qual scope f cdv A outer s H E
theorem bX_takes {K : PySem.W.Frag} {N : List Str} {cdv : Value} {A : Around} {outer : List Env} {s : Shared} {H : Hp} {E : XK} : Takes (bX P w K mg base N qual scope f cdv A outer s H E) (eW E) := takes_of rfl rfl rfl rfl
theorem bX_passes {K : PySem.W.Frag} {N : List Str} {cdv : Value} {A : Around} {outer : List Env} {s : Shared} {H : Hp} {E : XK} : PassesOwn (model P w) (bX P w K mg base N qual scope f cdv A outer s H E).A (bX P w K mg base N qual scope f cdv A outer s H E).env (bX P w K mg base N qual scope f cdv A outer s H E).xe := passes_of rfl
end
section
variable {X : Cx} {T : Tb} {W : WX} {pos : Pos} {e : Expr} {es : List Expr} {ra : AF} {fa fb : EF}
/-! ## raise C('..') -/
def sRaise (C : Addr) : SF := fun τ S => some (.xx ⟨C, none⟩ τ, S)
theorem s_raise {C : Addr} {x m : Str} {j : Nat} {p p2 pos' : Pos} (hc : X.calm = true) (tk : Takes X W) (gC : X.mg x = some (.ref C)) (q : PySem.W.excIn X.K C He.veBase "ValueError.__new__" = true ∧ PySem.W.keepIn X.K (.ref C) = true ∧ PySem.W.subIn X.K (.ref C) (.type "BaseException") = some true ∧ PySem.W.typeIn X.K (.ref C) = some (.type "type"))
    (hg : Gl X x := by rfl) (hdb : (x == ("__debug__" : Str)) = false := by decide) : PS X (.Raise (some (.Call (.Name x p) [.Constant (.str m) j p2] [] pos')) none pos) (rdS T W (sRaise C)) :=
  (ps_raise hc tk (pmk_own PySem.F.excBase_ValueError q.1 gC q.2.1 (raises_own q.2.2.1 q.2.2.2) hg hdb)).imp fun De σ H h => by
    obtain ⟨φ, S, τ, fl, S', R, r, e, q⟩ := h
    cases e
    exact q φ H σ none .refl R r rfl
end
end Sb
end
section
set_option Elab.async false
set_option linter.all false
set_option maxRecDepth 100000
set_option maxHeartbeats 4000000
namespace Sb
open PySem PySem.Spec PyProof.Rows L2
section
variable {X : Cx} {T : Tb} {W : WX} {pos : Pos} {elt tg iter : Expr} {fi : IF} {g : TF} {fe : EF} {scope : Scope}
/-! ## all(..) over data -/
def goA (nxt : Nat → Sto → Option (Option D)) (g : TF) (fe : EF) (n : Nat) : Nat → Nat → Sto → Option (Bool × Sto)
  | 0, _, _ => none
  | m + 1, i, S => match nxt i S with
    | none => none
    | some none => some (true, S)
    | some (some d) => match g d S (List.replicate n none) with
      | none => none
      | some τ1 => match fe τ1 S with
        | some (.ok (.bl true) S1) => goA nxt g fe n m (i + 1) S1
        | some (.ok (.bl false) S1) => some (false, S1)
        | _ => none
def eAll (n : Nat) (fi : IF) (g : TF) (fe : EF) : EF := fun τ S => match fi τ S with
  | none => none
  | some (.ex x S1) => some (.ex x S1)
  | some (.ok wk S1) => (goA wk.nxt g fe n (wk.bound + 1) 0 S1).bind fun r => some (.ok (.bl r.1) r.2)
theorem tabbed_rel {φ : List Addr} {S : Sto} {H1 H2 : Hp} {P : Addr} (hP : P ∈ T.tabs) (R : Rel T φ S H1) (t : GxR.Tabbed P H1 H2) : Rel T φ S H2 ∧ Ext φ H1 φ H2 := by
  obtain ⟨tg2, keep⟩ := t
  obtain ⟨ps, h1, _⟩ := R.tab P hP
  have ne : ∀ {b : Addr} {u : HO}, H1 b = some u → (∀ qs, u ≠ .tbl qs) → b ≠ P := fun hb hu z => by
    rw [z, h1] at hb
    cases hb
    exact hu ps rfl
  have E : Ext φ H1 φ H2 := ⟨⟨[], by simp⟩, fun a vs h => by rw [keep a (ne h fun _ z => by cases z)]; exact h, fun a o u h => by rw [keep a (ne h fun _ z => by cases z)]; exact h, fun a vs _ h => by rw [keep a (ne h fun _ z => by cases z)]; exact h, fun a vs _ h => .inl (by rw [keep a (ne h fun _ z => by cases z)]; exact h), fun _ h => .inl h, fun a h => by
    by_cases q : a = P
    · subst q; obtain ⟨_, h2, _⟩ := tg2; rw [h2] at h; cases h
    · rw [keep a q] at h; exact h⟩
  refine ⟨⟨R.len, R.nd, fun n o a h2 h3 => ?_, fun p hp => ?_, fun p hp => ⟨(R.lam p hp).1, (R.lam p hp).2.ext E fun ps h => by rw [keep p.1 fun y => (R.lam p hp).1 (y ▸ hP)]; exact h⟩⟩, E⟩
  · have r := R.obj n o a h2 h3
    obtain ⟨u, hu, _, n2, _⟩ := r.some
    exact r.ext E (keep a (ne hu n2))
  · by_cases q : p = P
    · subst q; exact tg2
    · obtain ⟨qs, h4, h5⟩ := R.tab p hp
      exact ⟨qs, by rw [keep p q]; exact h4, h5⟩
theorem nones_rsl {H : Hp} {φ : List Addr} {n : Nat} : RSl T H φ (List.replicate n none) (nones n) := ⟨by simp [nones], fun i d h => by
  rw [List.getElem?_replicate] at h
  split at h <;> cases h⟩
theorem all_of {P : Addr} (hP : P ∈ T.tabs) {us : List Nat} {n : Nat} {σ : L2.St} {H : Hp} {Q : VK} (h : rdE T W (eAll n fi g fe) σ H Q) : tGA P n (rdI T W fi) (rdG T us g) (rdE T W0 fe) σ H Q := by
  obtain ⟨φ, S, τ, o, R, r, e, q⟩ := h
  unfold eAll at e
  cases e1 : fi τ S with
  | none => rw [e1] at e; cases e
  | some x =>
    rw [e1] at e
    refine ⟨φ, S, τ, x, R, r, e1, ?_⟩
    cases x with
    | ex x S1 => cases e; exact q
    | ok wk S1 =>
      intro φ1 H1 J E1 R1 sv
      refine ⟨R1.tab P hP, fun H2 t => ?_⟩
      obtain ⟨R2, E2⟩ := tabbed_rel hP R1 t
      simp only [Option.bind_eq_some_iff] at e
      obtain ⟨⟨rb, S9⟩, e2, e3⟩ := e
      cases e3
      refine ⟨fun i m H => ∃ φ3 S3, Ext φ1 H2 φ3 H ∧ Rel T φ3 S3 H ∧ goA wk.nxt g fe n m i S3 = some (rb, S9), ⟨wk.bound + 1, _, _, .refl, R2, e2⟩, ?_⟩
      rintro i m H3 ⟨φ3, S3, E3, R3, e3⟩
      cases m with
      | zero => cases e3
      | succ m =>
        unfold goA at e3
        obtain ⟨sgo, sst⟩ := sv φ3 S3 H3 i (E2.trans E3) R3
        cases hn : wk.nxt i S3 with
        | none => rw [hn] at e3; cases e3
        | some od =>
          rw [hn] at e3
          cases od with
          | none =>
            cases e3
            exact .inl ⟨sst hn, q φ3 H3 _ ((E1.trans E2).trans E3) R3 rfl⟩
          | some d =>
            obtain ⟨go, yl⟩ := sgo d hn
            refine .inr ⟨go, fun H' => ∃ φ4 S4, Ext φ1 H2 φ4 H' ∧ Rel T φ4 S4 H' ∧ goA wk.nxt g fe n m (i + 1) S4 = some (rb, S9), fun H' h => ⟨m, Nat.lt_succ_self m, h⟩, fun x H' y => ?_⟩
            obtain ⟨E4, R4, r4⟩ := yl x H' y
            simp only at e3
            cases hg1 : g d S3 (List.replicate n none) with
            | none => rw [hg1] at e3; cases e3
            | some τ4 =>
              rw [hg1] at e3
              refine ⟨φ3, S3, _, d, τ4, R4, nones_rsl, r4, hg1, fun σ' r' _ _ => ?_⟩
              simp only at e3
              split at e3
              · rename_i S5 hf
                refine ⟨φ3, S3, τ4, _, R4, r', hf, fun φ5 H5 v5 E5 R5 r5 => ?_⟩
                cases r5
                exact ⟨true, rfl, by rw [if_pos rfl]; exact ⟨φ5, S5, (E3.trans E4).trans E5, R5, e3⟩⟩
              · rename_i S5 hf
                cases e3
                refine ⟨φ3, S3, τ4, _, R4, r', hf, fun φ5 H5 v5 E5 R5 r5 => ?_⟩
                cases r5
                exact ⟨false, rfl, by rw [if_neg (by decide)]; exact q φ5 H5 _ ((((E1.trans E2).trans E3).trans E4).trans E5) R5 rfl⟩
              · cases e3
theorem d_all {k : Nat} {c P : Addr} {us : List Nat} {gpos p : Pos} (hcalm : X.calm = true) (hr : Room (k + 1) X.A) (hg : Gl X "all") (hm : X.mg "all" = none) (TB : GxR.TabB X.base X.mg c P) (hP : P ∈ T.tabs) (hcode : X.env.code = .ref c) (S : GenSc scope)
    (hi : PI X tg iter (rdI T W fi)) (hpg : GenIn X scope k fun Y => PG Y tg (rdG T us g)) (hpe : GenIn X scope k fun Y => PE Y elt (rdE T W0 fe)) (hs : ∀ v, genFold iter X.env v = pure v := by intro _; rfl)
    (he : starEach [GE elt tg iter scope gpos] X.env = (false, eval (GE elt tg iter scope gpos) X.env) :: starEach [] X.env := by rfl) :
    PE X (.Call (.Name "all" p) [GE elt tg iter scope gpos] [] pos) (rdE T W (eAll X.N.length fi g fe)) :=
  (pe_allG hcalm hr hg hm TB hcode S hi hpg hpe hs he).imp fun _ _ _ h => all_of hP h
end
end Sb
end
section
set_option Elab.async false
set_option linter.all false
set_option maxRecDepth 100000
set_option maxHeartbeats 4000000
namespace Sb
open PySem PySem.Spec PyProof.Rows L2 PpSet
section
variable {X : Cx} {T : Tb} {W : WX} {pos : Pos} {elt tg iter : Expr} {scope : Scope} {own : List (Str × Nat)}
/-! ## {e for x in xs}: texts and whole numbers -/
def tKs (P : Program) (w : World) (wi : TI) (g : TG) (te : TE) (vs : List Nat) : TE := fun σ H Q => wi σ H fun J H1 => ∀ B, H1 B = none → ∃ Z : Nat → Nat → Hp → Prop, (∃ m, Z 0 m (upd H1 B (SetK P w B (fun _ => false) 0))) ∧ ∀ i m H, Z i m H →
  (J.stop i H ∧ Q (.ref B) H) ∨ (J.go i H ∧ ∃ Nx : Hp → Prop, (∀ H', Nx H' → ∃ m', m' < m ∧ Z (i + 1) m' H') ∧ ∀ x H', J.yld i H x H' → g x (wipe σ vs) H' fun σ2 H2 => wipe σ2 vs = wipe σ vs ∧
    te σ2 H2 fun y H4 => ∃ (k : Key) (M : Key → Bool) (n : Nat), y = kV k ∧ H4 B = some (SetK P w B M n) ∧ n + 1 < scanBound ∧ Nx (upd H4 B (SetK P w B (fun j => M j || decide (j = k)) (if M k = true then n else n + 1))))
theorem pe_ks {wi : TI} {g : TG} {te : TE} (hcalm : X.calm = true) (hnd : X.N.Nodup) (hiter : PI X tg iter wi) (hblk : BlkOk X.N X.env.scope scope own)
    (htg : ∀ (s : Shared) (H : Hp) (C : Addr) (cl : List (Str × Addr)) (fp : List Addr), PG (X.blk s H scope (compEnvC scope cl C X.env) fp) tg g)
    (helt : ∀ (s : Shared) (H : Hp) (C : Addr) (cl : List (Str × Addr)) (fp : List Addr), PE (X.blk s H scope (compEnvC scope cl C X.env) fp) elt te)
    (hfold : ∀ x, foldedSetIterable iter X.env x = pure x := by intro _; rfl) : PE X (.SetComp elt [⟨tg, iter, [], 0⟩] scope pos) (tKs X.prog X.w wi g te (own.map (·.2))) := by
  refine ⟨fun pins s0 σ H0 Q I0 hq0 => ?_⟩
  rw [eval_SetComp]
  have cells : ∀ y ∈ scope.names, y.2 = .free → ∃ c, X.env.cells.lookup y.1 = some c := fun y hy e => (hblk.free y hy e).elim (fun k => I0.ok.has _ (.inl k)) fun k => I0.ok.has _ (.inr k)
  refine wpAny_comprehension_free (use := none) rfl hfold (closure_ok cells) hblk.kind (fun y hy e => by rw [hblk.uniq y hy, e]) ?_
  refine thn (hiter.run pins s0 σ H0 _ I0 hq0) fun xv sa hxa => thn hxa fun itv sb hsb => ?_
  obtain ⟨it, fp, tn, J, H2, eit, Ib, Tn, stb, fb, q⟩ := hsb
  subst eit
  refine newSet_ok (newEnv_comp ?_)
  generalize hB : sb.heap.objs.size = B
  have hBn : H2 B = none := Ib.hok.fresh (Nat.le_of_eq hB)
  obtain ⟨Z, ⟨mm, z0⟩, turn⟩ := q B hBn
  generalize hsc : ({ sb with heap := sb.heap.push { cls := .type "set", dict := none, data := .set #[] 0 (.fresh 0 0 (!X.w.params.followText "set-order")) } } : Shared) = sc
  have hpc : sc.heap = sb.heap.push { cls := .type "set", dict := none, data := .set #[] 0 (.fresh 0 0 (!X.w.params.followText "set-order")) } := by rw [← hsc]
  have isnew : sc.heap.SetOf (mixKind X.prog X.w) B (fun _ => false) 0 := by
    rw [hpc, ← hB]
    exact ⟨_, #[], 0, _, Heap.get?_push_size _ rfl, ⟨rfl, rfl, rfl⟩, rfl, (fun e he => by simp at he), (fun k => by simp), (by decide), (by rfl), rfl⟩
  have Ic : L2.Inv X pins σ (upd H2 B (SetK X.prog X.w B (fun _ => false) 0)) sc := by
    rw [← hsc]
    refine Ib.laid (t' := sb.toks) (fun b o e => Heap.get?_push_of_some _ e) (Nat.le_of_eq hB) ?_
    have z := setK_new (H := upd H2 B (SetK X.prog X.w B (fun _ => false) 0)) isnew
    rw [hpc] at z
    exact z
  have small : ∀ b ∈ fp, b < sb.heap.objs.size := fun b hb => by
    obtain ⟨o, e, _⟩ := Tn.obj _ _ stb b hb
    exact Heap.lt_size e
  have fc : ∀ b ∈ fp, FpOk X pins (upd H2 B (SetK X.prog X.w B (fun _ => false) 0)) b ∧ b < sc.heap.objs.size := fun b hb => by
    have lt := small b hb
    refine ⟨⟨?_, (fb b hb).2⟩, by rw [hpc, Heap.size_push]; exact Nat.lt_succ_of_lt lt⟩
    rw [upd_ne (by rw [← hB]; exact Nat.ne_of_lt lt)]
    exact (fb b hb).1
  have stc : tn 0 sc.heap := Tn.keep _ _ _ stb fun b _ o e => by
    rw [hpc]
    exact Heap.get?_push_of_some _ e
  have Id := block_start Ic hblk hnd fc
  generalize hHc : upd H2 B (SetK X.prog X.w B (fun _ => false) 0) = Hc at Ic Id fc z0
  have g1 := htg sc Hc sc.heap.objs.size (cellsFrom (sc.heap.objs.size + 1) scope.names (cloFrom X.env.cells scope.names [])) fp
  have g3 := helt sc Hc sc.heap.objs.size (cellsFrom (sc.heap.objs.size + 1) scope.names (cloFrom X.env.cells scope.names [])) fp
  show codeAny _ _ (.compStart (.SetComp elt [⟨tg, iter, [], 0⟩] scope pos) 0 (.ref it) (.ref B) (compEnvC scope (cellsFrom (sc.heap.objs.size + 1) scope.names (cloFrom X.env.cells scope.names [])) sc.heap.objs.size X.env)) (compPost (model X.prog X.w) X.A X.xe none _ (.ref B) sc.heap.objs.size) { sc with heap := pushCells (sc.heap.push { cls := .type "dict", data := .dict #[] }) scope.names }
  have free0 : ∀ b ∈ fp, Hc b = none := fun b hb => (fc b hb).1.1
  generalize hce : compEnvC scope (cellsFrom (sc.heap.objs.size + 1) scope.names (cloFrom X.env.cells scope.names [])) sc.heap.objs.size X.env = ce at Id g1 g3 ⊢
  have cL : ce.locals = sc.heap.objs.size := by subst hce; rfl
  generalize hsd : ({ sc with heap := pushCells (sc.heap.push { cls := .type "dict", data := .dict #[] }) scope.names } : Shared) = sd at Id ⊢
  have std : tn 0 sd.heap := Tn.keep _ _ _ stc fun b _ o e => by
    rw [← hsd]
    exact pushCells_keeps _ _ _ _ (Heap.get?_push_of_some _ e)
  have okfp : ∀ {σ' : L2.St} {H' : Hp} {s' : Shared}, L2.Inv (X.blk sc Hc scope ce fp) [] σ' H' s' → (∀ b ∈ fp, H' b = none) → ∀ b ∈ fp, FpOk (X.blk sc Hc scope ce fp) [] H' b := fun {σ' H' s'} I' hn b hb =>
    ⟨hn b hb, (I'.ok.exf b hb).1, I'.ok.exfs b hb, .inl hb, fun x c e => (I'.ok.exf b hb).2 x c e, fun p hp => absurd (show p ∈ ([] : List (Addr × Obj)) ++ [] from hp) (by simp)⟩
  let Stn : Nat → Shared → Prop := fun n s' => ∃ i H', L2.Inv (X.blk sc Hc scope ce fp) [] (wipe σ (own.map (·.2))) H' s' ∧ tn i s'.heap ∧ (∀ b ∈ fp, H' b = none) ∧ Z i n H'
  have loop : codeAny (model X.prog X.w) X.A (.compLoop (.SetComp elt [⟨tg, iter, [], 0⟩] scope pos) 0 (.ref it) (.ref B) ce) (compPost (model X.prog X.w) X.A X.xe none (fun v s' => ∃ (y : V) (H' : Hp), L2.Inv X pins σ H' s' ∧ RelV y v ∧ Q y H') (.ref B) sc.heap.objs.size) sd := by
    refine compLoopS_any Stn ?_ mm ⟨0, Hc, Id, std, free0, z0⟩
    rintro n s5 ⟨i, H5, I5, st5, n5, z5⟩
    rcases turn i n H5 z5 with ⟨stop, qq⟩ | ⟨go, Nx, hNx, step⟩
    · have fin := Tn.done (X.blk sc Hc scope ce fp) rfl rfl rfl hcalm i [] s5 _ H5 (fun _ _ => False) I5 (okfp I5 n5) st5 stop
      refine thnF fin fun r s6 ⟨hr, I6⟩ => ?_
      subst hr
      have I7 : L2.Inv X pins σ H5 s6 := Ic.call' (ch := fp) I6.os I6.base I6.hok I6.bare fun b hb => ⟨(fc b hb).1.2.2.2.1, (fc b hb).1.2.1, (fc b hb).1.2.2.2.2.1, (fc b hb).1.2.2.2.2.2⟩
      have nC : H5 sc.heap.objs.size = none := by
        have z : H5 ce.locals = none := I6.free
        rwa [cL] at z
      obtain ⟨m, hn, _⟩ := I6.loc
      have hn' : s6.heap.Ns ce.locals m := hn
      rw [cL] at hn'
      obtain ⟨f0, f1, f2, f3, f4, f5⟩ := Ic.fpOk (Nat.le_refl _) nC
      refine ⟨m, hn', fun h'' same => ?_⟩
      exact ⟨.ref B, H5, I7.turned (t' := s6.toks) (fun b o hb e => (same.2 b hb).trans e) f0 f1 f3 f4 f5, rfl, qq⟩
    · have nxt := Tn.item (X.blk sc Hc scope ce fp) rfl rfl rfl hcalm i [] s5 _ H5 (fun _ _ => False) I5 (okfp I5 n5) st5 go
      refine thnF nxt fun r s6 ⟨u, hr, h6⟩ => ?_
      subst hr
      refine thnF h6 fun _ s7 ⟨x, H7, I7, r7, y7, st7, n7⟩ => ?_
      have I7' := I7.pinned (okfp I7 n7) (Tn.obj _ _ st7)
      refine thnF (g1.run _ s7 _ H7 x u _ I7' r7 (step x H7 y7)) fun _ s8 ⟨σ8, H8, I8, hw8, q8⟩ => ?_
      refine wpAny_tests_nil ?_
      simp only [if_true]
      refine thnF (g3.run _ s8 σ8 H8 _ I8 q8) fun vv s9 ⟨yv, H9, I9, r9, k, M, num, ey, hB9, room, nx⟩ => ?_
      subst ey
      refine thnF (mt_saddK (X := X.blk sc Hc scope ce fp) _ s9 σ8 H9 (.ref B) [kV k] (.ref B) [vv] (fun _ H' => Nx H') I9 rfl (.cons r9 .nil) ⟨B, k, M, num, rfl, rfl, hB9, room, nx⟩) fun _ s10 ⟨_, H10, I10, _, nx10⟩ => ?_
      obtain ⟨m', hm', z'⟩ := hNx H10 nx10
      have kept : ∀ b ∈ fp, ∀ o, s7.heap.get? b = some o → s10.heap.get? b = some o ∧ H10 b = none := fun b hb o e => by
        have z := I10.pin (b, o) (List.mem_append_right _ (List.mem_append_right _ (mem_pinsAt hb e)))
        exact ⟨z.1, z.2.1⟩
      have len8 : (wipe σ (own.map (·.2))).length = σ8.length := by rw [← hw8, L2.wipe_length]
      refine ⟨m', hm', i + 1, H10, (I10.unpinned (pins := [])).weak len8 (fun j v e => ?_), Tn.keep _ _ _ st7 fun b hb o e => (kept b hb o e).1, fun b hb => ?_, z'⟩
      · rw [← hw8] at e
        exact (wipe_some e).1
      · obtain ⟨o, e, _⟩ := Tn.obj _ _ st7 b hb
        exact (kept b hb o e).2
  exact codeAny_compStart_set loop (Tn.self X.A 0 _ _ _ std loop)
end
end Sb
end
section
set_option Elab.async false
set_option linter.all false
set_option maxRecDepth 100000
set_option maxHeartbeats 4000000
namespace Sb
open PySem PySem.Spec PyProof.Rows L2 PpSet
section
variable {X : Cx} {T : Tb} {W : WX} {pos : Pos} {a b elt tg iter : Expr} {fi : IF} {g : TF} {fe fa fb : EF} {scope : Scope} {own : List (Str × Nat)}
def keyD : D → Option Key
  | .int i => some (.inl i)
  | .str x => some (.inr x)
  | _ => none
theorem keyD_ok {H : Hp} {φ : List Addr} {d : D} {v : V} {k : Key} (r : RD T H φ d v) (h : keyD d = some k) : v = kV k := by
  cases d with
  | int i => cases r; cases h; rfl
  | str x => cases r; cases h; rfl
  | _ => cases h
def goK (nxt : Nat → Sto → Option (Option D)) (g : TF) (fe : EF) (n : Nat) (τ0 : Sl) : Nat → Nat → Sto → Option Sto
  | 0, _, _ => none
  | m + 1, i, S => match nxt i S with
    | none => none
    | some none => some S
    | some (some d) => match g d S τ0 with
      | none => none
      | some τ1 => match fe τ1 S with
        | some (.ok y S2) => match keyD y, S2[n]? with
          | some k, some (.ks M num) => if num + 1 < scanBound then goK nxt g fe n τ0 m (i + 1) (S2.set n (.ks (fun j => M j || decide (j = k)) (if M k = true then num else num + 1))) else none
          | _, _ => none
        | _ => none
def eSc (fi : IF) (g : TF) (fe : EF) (vs : List Nat) : EF := fun τ S => match fi τ S with
  | none => none
  | some (.ex x S1) => some (.ex x S1)
  | some (.ok wk S1) => (goK wk.nxt g fe S1.length (wipeD τ vs) (wk.bound + 1) 0 (S1 ++ [.ks (fun _ => false) 0])).bind fun S2 => some (.ok (.loc S1.length) S2)
theorem Ext.putK {φ : List Addr} {H : Hp} {p : Addr} {u0 u : HO} (ha : H p = some u0) (h1 : ∀ vs, u0 ≠ .tup vs) (h2 : ∀ o w, u0 ≠ .frz o w) (h3 : ∀ vs, u0 ≠ .lst vs) (h4 : ∀ ws, u0 ≠ .dK ws) : Ext φ H φ (upd H p u) := ⟨⟨[], by simp⟩, fun c vs h => by
  by_cases hb : c = p
  · subst hb; rw [ha] at h; cases h; exact absurd rfl (h1 vs)
  · rw [upd_ne hb]; exact h, fun c o w h => by
  by_cases hb : c = p
  · subst hb; rw [ha] at h; cases h; exact absurd rfl (h2 o w)
  · rw [upd_ne hb]; exact h, fun c vs _ h => by
  by_cases hb : c = p
  · subst hb; rw [ha] at h; cases h; exact absurd rfl (h3 vs)
  · rw [upd_ne hb]; exact h, fun c vs _ h => .inl (by
  by_cases hb : c = p
  · subst hb; rw [ha] at h; cases h; exact absurd rfl (h4 vs)
  · rw [upd_ne hb]; exact h), fun _ h => .inl h, fun _ h => upd_dead h⟩
theorem sc_of {vs us : List Nat} (hus : ∀ k ∈ us, k ∈ vs) {σ : L2.St} {H : Hp} {Q : VK} (h : rdE T W (eSc fi g fe vs) σ H Q) : tKs T.P T.w (rdI T W fi) (rdG T us g) (rdE T W0 fe) vs σ H Q := by
  obtain ⟨φ, S, τ, o, R, r, e, q⟩ := h
  unfold eSc at e
  cases e1 : fi τ S with
  | none => rw [e1] at e; cases e
  | some x =>
    rw [e1] at e
    refine ⟨φ, S, τ, x, R, r, e1, ?_⟩
    cases x with
    | ex x S1 => cases e; exact q
    | ok wk S1 =>
      intro φ1 H1 J E1 R1 sv B hB
      simp only [Option.bind_eq_some_iff] at e
      obtain ⟨S9, e2, e3⟩ := e
      cases e3
      obtain ⟨R2, E2⟩ := R1.new (u := SetK T.P T.w B (fun _ => false) 0) (o := .ks (fun _ => false) 0) hB upd_same
      have hB2 : (φ1 ++ [B])[S1.length]? = some B := by rw [← R1.len]; simp
      have r0 := ((r.ext E1).ext E2).wipe vs
      refine ⟨fun i m H => ∃ φ3 S3, Ext (φ1 ++ [B]) (upd H1 B (SetK T.P T.w B (fun _ => false) 0)) φ3 H ∧ Rel T φ3 S3 H ∧ goK wk.nxt g fe S1.length (wipeD τ vs) m i S3 = some S9, ⟨wk.bound + 1, _, _, .refl, R2, e2⟩, ?_⟩
      rintro i m H3 ⟨φ3, S3, E3, R3, e3⟩
      cases m with
      | zero => cases e3
      | succ m =>
        unfold goK at e3
        obtain ⟨sgo, sst⟩ := sv φ3 S3 H3 i (E2.trans E3) R3
        cases hn : wk.nxt i S3 with
        | none => rw [hn] at e3; cases e3
        | some od =>
          rw [hn] at e3
          cases od with
          | none =>
            cases e3
            exact .inl ⟨sst hn, q φ3 H3 _ ((E1.trans E2).trans E3) R3 ⟨B, rfl, E3.get hB2⟩⟩
          | some d =>
            obtain ⟨go, yl⟩ := sgo d hn
            refine .inr ⟨go, fun H' => ∃ φ4 S4, Ext (φ1 ++ [B]) (upd H1 B (SetK T.P T.w B (fun _ => false) 0)) φ4 H' ∧ Rel T φ4 S4 H' ∧ goK wk.nxt g fe S1.length (wipeD τ vs) m (i + 1) S4 = some S9, fun H' h => ⟨m, Nat.lt_succ_self m, h⟩, fun x H' y => ?_⟩
            obtain ⟨E4, R4, r4⟩ := yl x H' y
            simp only at e3
            cases hg1 : g d S3 (wipeD τ vs) with
            | none => rw [hg1] at e3; cases e3
            | some τ4 =>
              rw [hg1] at e3
              refine ⟨φ3, S3, wipeD τ vs, d, τ4, R4, (r0.ext E3).ext E4, r4, hg1, fun σ' r' ks kl => ?_⟩
              refine ⟨(wipe_eq (fun k hk => ks k fun z => hk (hus k z)) kl).trans wipe_wipe, ?_⟩
              simp only at e3
              split at e3
              · rename_i y6 S6 hf
                refine ⟨φ3, S3, τ4, _, R4, r', hf, fun φ6 H6 v6 E6 R6 r6 => ?_⟩
                split at e3
                · rename_i k M num hk hacc
                  split at e3
                  · rename_i room
                    have hB6 : φ6[S1.length]? = some B := E6.get (E4.get (E3.get hB2))
                    have hH6 : H6 B = some (SetK T.P T.w B M num) := R6.obj _ _ B hacc hB6
                    have E7 := Ext.putK (φ := φ6) (u := SetK T.P T.w B (fun j => M j || decide (j = k)) (if M k = true then num else num + 1)) hH6 (fun _ z => by cases z) (fun _ _ z => by cases z) (fun _ z => by cases z) (fun _ z => by cases z)
                    obtain ⟨R7, _⟩ := R6.put (o := .ks (fun j => M j || decide (j = k)) (if M k = true then num else num + 1)) (u := SetK T.P T.w B (fun j => M j || decide (j = k)) (if M k = true then num else num + 1)) hB6 (mem_lt hacc) upd_same
                    exact ⟨k, M, num, keyD_ok r6 hk, hH6, room, φ6, _, ((E3.trans E4).trans E6).trans E7, R7, e3⟩
                  · cases e3
                · cases e3
              · cases e3
theorem d_sc {us : List Nat} (hP : T.P = X.prog) (hw : T.w = X.w) (hc : X.calm = true) (hN : X.N.Nodup) (hi : PI X tg iter (rdI T W fi)) (ok : BlkOk X.N X.env.scope scope own)
    (hg : ∀ (s : Shared) (H : Hp) (C : Addr) (cl : List (Str × Addr)) (fp : List Addr), PG (X.blk s H scope (compEnvC scope cl C X.env) fp) tg (rdG T us g))
    (he : ∀ (s : Shared) (H : Hp) (C : Addr) (cl : List (Str × Addr)) (fp : List Addr), PE (X.blk s H scope (compEnvC scope cl C X.env) fp) elt (rdE T W0 fe))
    (hus : ∀ k ∈ us, k ∈ own.map (·.2) := by decide) (hs : ∀ x, foldedSetIterable iter X.env x = pure x := by intro _; rfl) :
    PE X (.SetComp elt [⟨tg, iter, [], 0⟩] scope pos) (rdE T W (eSc fi g fe (own.map (·.2)))) :=
  (pe_ks hc hN hi ok hg he hs).imp fun _ _ _ h => by
    rw [← hP, ← hw]
    exact sc_of hus h
/-! ## len of a set too -/
def gLenX : GN := fun ds S => match ds with
  | [.loc n] => match S[n]? with
    | some (.ks _ m) => if (m : Int) < 2 ^ 63 then some (.int m, S) else none
    | _ => gLen ds S
  | _ => gLen ds S
theorem call_lenK : CallR X (.builtin "len") (fun xs H Q => ∃ p M n, xs = [.ref p] ∧ H p = some (SetK X.prog X.w p M n) ∧ (n : Int) < 2 ^ 63 ∧ Q (.int n) H) := by
  intro pins s σ H xs us Q I r ⟨p, M, n, ex, hp, hn, q⟩
  subst ex
  cases r with
  | cons r1 r2 =>
    cases r1; cases r2
    obtain ⟨o, es, ep, t, ho, hex, hd, _, _, _, hf, hl⟩ := setK_get I hp
    exact call_len_set ho hex hd hf (by rw [hl]; exact hn) ⟨.int n, H, I.tok _, ⟨_, by rw [← hl]⟩, q⟩
theorem c_lenX (hP : T.P = X.prog) (hw : T.w = X.w) (hK : T.K = X.K) : CallR X (.builtin "len") (rGN T gLenX) := CallR.imp (CallR.or (c_len (T := T) hK) call_lenK) fun xs H Q h => by
  obtain ⟨φ, S, ds, R, r, f⟩ := h
  unfold gLenX at f
  split at f
  · rename_i n
    split at f
    · rename_i M m hS
      split at f
      · rename_i hm
        obtain ⟨v, l, rfl, r1, r2⟩ := r
        cases r2
        obtain ⟨p, rfl, hφ⟩ := r1
        have := R.obj n _ p hS hφ
        exact .inr ⟨p, M, m, rfl, by rw [← hP, ← hw]; exact this, hm, f.val R rfl⟩
      · obtain ⟨_, _, z, _⟩ := f; cases z
    · exact .inl ⟨φ, S, _, R, r, f⟩
  · exact .inl ⟨φ, S, ds, R, r, f⟩
/-! ## dict(pairs), d[k] -/
def putD' (kvs : List (Key × D)) (k : Key) (v : D) : List (Key × D) := if (kvs.any fun kv => decide (kv.1 = k)) = true then kvs.map (fun kv => if kv.1 = k then (kv.1, v) else kv) else kvs ++ [(k, v)]
/-- the same keys, values that stand for them -/
def KVs (T : Tb) (H : Hp) (φ : List Addr) (kvs : List (Key × D)) (ws : List (Key × V)) : Prop := ws.map (·.1) = kvs.map (·.1) ∧ RDs T H φ (kvs.map (·.2)) (ws.map (·.2))
theorem KVs.cons {H : Hp} {φ : List Addr} {k : Key × D} {kvs : List (Key × D)} {w : List (Key × V)} : KVs T H φ (k :: kvs) w ↔ ∃ v r, w = (k.1, v) :: r ∧ RD T H φ k.2 v ∧ KVs T H φ kvs r := by
  constructor
  · rintro ⟨h1, h2⟩
    cases w with
    | nil => cases h1
    | cons p r =>
      obtain ⟨pk, pv⟩ := p
      simp only [List.map_cons, List.cons.injEq] at h1
      obtain ⟨v, l, h3, h4, h5⟩ := h2
      simp only [List.map_cons, List.cons.injEq] at h3
      obtain ⟨rfl, rfl⟩ := h3
      exact ⟨pv, r, by rw [← h1.1], h4, h1.2, h5⟩
  · rintro ⟨v, r, rfl, h1, h2, h3⟩
    exact ⟨by simp [h2], ⟨v, _, rfl, h1, h3⟩⟩
theorem KVs.any {H : Hp} {φ : List Addr} {k : Key} : ∀ {kvs : List (Key × D)} {w : List (Key × V)}, KVs T H φ kvs w → (w.any fun kv => decide (kv.1 = k)) = kvs.any fun kv => decide (kv.1 = k)
  | [], w, h => by
    obtain ⟨h1, _⟩ := h
    cases w with
    | nil => rfl
    | cons _ _ => cases h1
  | p :: kvs, w, h => by
    obtain ⟨v, r, rfl, h1, h2⟩ := KVs.cons.mp h
    simp only [List.any_cons, KVs.any h2]
theorem KVs.setv {H : Hp} {φ : List Addr} {k : Key} {d : D} {v : V} (rd : RD T H φ d v) : ∀ {kvs : List (Key × D)} {w : List (Key × V)}, KVs T H φ kvs w → KVs T H φ (kvs.map fun kv => if kv.1 = k then (kv.1, d) else kv) (w.map fun kv => if kv.1 = k then (kv.1, v) else kv)
  | [], w, h => by
    obtain ⟨h1, _⟩ := h
    cases w with
    | nil => exact ⟨rfl, rfl⟩
    | cons _ _ => cases h1
  | p :: kvs, w, h => by
    obtain ⟨v1, r, rfl, h1, h2⟩ := KVs.cons.mp h
    simp only [List.map_cons]
    by_cases e : p.1 = k
    · simp only [if_pos e]
      exact KVs.cons.mpr ⟨v, _, rfl, rd, KVs.setv rd h2⟩
    · simp only [if_neg e]
      exact KVs.cons.mpr ⟨v1, _, rfl, h1, KVs.setv rd h2⟩
theorem KVs.app {H : Hp} {φ : List Addr} {k : Key} {d : D} {v : V} (rd : RD T H φ d v) {kvs : List (Key × D)} {w : List (Key × V)} (h : KVs T H φ kvs w) : KVs T H φ (kvs ++ [(k, d)]) (w ++ [(k, v)]) := by
  obtain ⟨h1, h2⟩ := h
  exact ⟨by simp [h1], by simp only [List.map_append, List.map_cons, List.map_nil]; exact h2.app (RDs.one rd)⟩
theorem KVs.put {H : Hp} {φ : List Addr} {k : Key} {d : D} {v : V} (rd : RD T H φ d v) {kvs : List (Key × D)} {w : List (Key × V)} (h : KVs T H φ kvs w) : KVs T H φ (putD' kvs k d) (putK w k v) := by
  unfold putD' L2.putK
  rw [h.any]
  split
  · exact h.setv rd
  · exact h.app rd
/-- d[k] -/
def valD (kvs : List (Key × D)) (k : Key) : Option D := (kvs.find? fun kv => decide (kv.1 = k)).map (·.2)
theorem KVs.val {H : Hp} {φ : List Addr} {k : Key} {d : D} : ∀ {kvs : List (Key × D)} {w : List (Key × V)}, KVs T H φ kvs w → valD kvs k = some d → ∃ v, valV w k = some v ∧ RD T H φ d v
  | [], w, h, e => by cases e
  | p :: kvs, w, h, e => by
    obtain ⟨v, r, rfl, h1, h2⟩ := KVs.cons.mp h
    by_cases q : p.1 = k
    · rw [valV_pos (p := (p.1, v)) q]
      simp only [valD, List.find?_cons, q, decide_true, Option.map_some] at e
      cases e
      exact ⟨v, rfl, h1⟩
    · rw [valV_neg (p := (p.1, v)) q]
      have e' : valD kvs k = some d := by
        simpa [valD, List.find?_cons, q] using e
      exact KVs.val h2 e'
def gGet : G2 := fun x y S => match x with
  | .loc n => match S[n]? with
    | some (.dct kvs) => (keyD y).bind fun k => (valD kvs k).bind fun d => some (d, S)
    | _ => none
  | _ => none
theorem d_dget (hu : X.A.units + 1 < cLine) (ha : PE X a (rdE T W fa)) (hb : PE X b (rdE T W fb)) (hs : ∀ ov iv, subscripted b false ov iv = operate [ov, iv] (getItem ov iv) := by intro _ _; rfl) : PE X (.Subscript a b pos) (rdE T W (eB gGet fa fb)) :=
  (pe_dget hu ha hb hs).imp fun σ H Q h => by
    have h2 := two_of h
    obtain ⟨φ, S, τ, o, R, r, e, q⟩ := h
    refine rdE_bnd R r e q fun d1 S1 v1 H1 φ1 ⟨E1, R1, r1⟩ e1 q1 => ?_
    refine rdE_bnd R1 (r.ext E1) e1 q1 fun d2 S2 v2 H2 φ2 ⟨E2, R2, r2⟩ e2 q2 => ?_
    have f := Fin.of e2 q2
    unfold gGet at f
    split at f
    · rename_i nn
      split at f
      · rename_i kvs hS
        cases hk : keyD d2 with
        | none => rw [hk] at f; obtain ⟨_, _, z, _⟩ := f; cases z
        | some k =>
          rw [hk] at f
          simp only [Option.bind_some] at f
          cases hv : valD kvs k with
          | none => rw [hv] at f; obtain ⟨_, _, z, _⟩ := f; cases z
          | some d =>
            rw [hv] at f
            obtain ⟨p, rfl, hφ⟩ := r1.ext E2 _ _
            obtain ⟨ws, h1, h2, h3⟩ := R2.obj _ _ p hS hφ
            obtain ⟨v, h4, h5⟩ := KVs.val ⟨h2, h3⟩ hv
            exact ⟨p, v, rfl, .inl ⟨ws, k, .inl h1, keyD_ok r2 hk, h4.symm⟩, f.val R2 h5⟩
      · obtain ⟨_, _, z, _⟩ := f; cases z
    · obtain ⟨_, _, z, _⟩ := f; cases z
end
end Sb
namespace Sb
open PySem PySem.Spec PyProof.Rows L2
theorem t_chain {X : Cx} {T : Tb} {W : WX} {pos : Pos} {a b c : Expr} {fa fb fc : EF} {op op' : CmpOp} {g g' : G2} (ho : OpR X (compareOp op) (rG2 T g)) (ho' : OpR X (compareOp op') (rG2 T g')) (ha : PE X a (rdE T W fa)) (hb : PE X b (rdE T W fb)) (hc : PE X c (rdE T W fc)) (hlm : lastMarks [op, op'] [b, c] = false := by with_unfolding_all rfl) :
    PT X (.Compare a [op, op'] [b, c] pos) (rdT T W (tB (eCh g g' fa fb fc))) := (pt_chain ho ho' ha hb hc hlm).imp fun σ H Q h0 => by
  have h := tB_of h0
  obtain ⟨φ, S, τ, o, R, r, e, q⟩ := h
  refine rdE_bnd R r e q fun d1 S1 v1 H1 φ1 ⟨E1, R1, r1⟩ e1 q1 => ?_
  refine rdE_bnd R1 (r.ext E1) e1 q1 fun d2 S2 v2 H2 φ2 ⟨E2, R2, r2⟩ e2 q2 => ?_
  split at e2
  · rename_i S3 eg
    refine ⟨φ2, S2, d1, d2, R2, r1.ext E2 _ _, r2, _, _, eg, fun φ3 H3 v3 E3 R3 r3 => ?_⟩
    cases r3
    refine ⟨true, rfl, ?_⟩
    rw [if_pos rfl]
    refine rdE_bnd R3 (((r.ext E1).ext E2).ext E3) e2 (q2.mono E3) fun d4 S4 v4 H4 φ4 ⟨E4, R4, r4⟩ e4 q4 => ?_
    exact ⟨φ4, S4, d2, d4, R4, (r2.ext E3 _ _).ext E4 _ _, r4, Fin.of e4 q4⟩
  · rename_i S3 eg
    cases e2
    refine ⟨φ2, S2, d1, d2, R2, r1.ext E2 _ _, r2, _, _, eg, fun φ3 H3 v3 E3 R3 r3 => ?_⟩
    cases r3
    refine ⟨false, rfl, ?_⟩
    rw [if_neg (by decide)]
    exact q2 φ3 H3 _ E3 R3 rfl
  · cases e2
theorem _root_.L2.Room.u64 {k : Nat} {A : Around} (r : Room k A) : A.units + 64 < cLine := by have := r.un; omega
theorem _root_.L2.Room.u65 {k : Nat} {A : Around} (r : Room k A) : A.units + 65 < cLine := by have := r.un; omega
theorem _root_.L2.Room.u1 {k : Nat} {A : Around} (r : Room k A) : A.units + 1 < cLine := by have := r.un; omega
theorem ptw {X : Cx} {e : Expr} {t : TT} (h : PW X e t) : PT X e t := h.pt
end Sb
end
section
set_option Elab.async false
set_option linter.all false
set_option maxRecDepth 100000
set_option maxHeartbeats 4000000
namespace Sb
open PySem PySem.Spec PyProof.Rows L2
/-! ## enumerate of a tuple -/
theorem enum_new_tup (q : Addr) (xs : Array Value) (dc : Option Addr) (cnt : Nat) (sl : Array (Option Value)) :
    Meets (Builtin.«enumerate.__new__» ⟨[.type "enumerate", .ref q], []⟩) (fun _ R s => s.heap.get? q = some { cls := .type "tuple", dict := dc, data := .seq xs cnt, slots := sl } ∧
      R (.ok (.ret (.ref (s.heap.push { cls := .type "tuple_iterator", data := .fields #[.ref q, .int 0 0] }).objs.size)))
        { s with heap := (s.heap.push { cls := .type "tuple_iterator", data := .fields #[.ref q, .int 0 0] }).push { cls := .type "enumerate", data := .fields #[.none, .bool false, .ref s.heap.objs.size, rawInt 0, .none, .none] } }) :=
  .of_wp fun prog w A R s h => by
    obtain ⟨hp, gs, dr, tk, os⟩ := s
    obtain ⟨at_q, fin⟩ := h
    have subs := sub_enumerate
    have isT : Heap.IsTuple (Shared.heap ⟨hp, gs, dr, tk, os⟩) q xs := ⟨_, at_q, rfl, cnt, rfl⟩
    wp_walk using AutoSeq1.wpAny_loadPart' at_q
    refine wpAny_stack_any fun st => wpAny_pure ?_
    split
    · rename_i c _ _ _ _ _
      cases (c == Value.type "enumerate")
      · wp_walk using AutoSeq1.wpAny_loadPart' at_q, wpAny_pyIter_tuple isT
        exact ⟨_, rfl, fin⟩
      · wp_walk using AutoSeq1.wpAny_loadPart' at_q, wpAny_pyIter_tuple isT
        exact ⟨_, rfl, fin⟩
    · wp_walk using AutoSeq1.wpAny_loadPart' at_q, wpAny_pyIter_tuple isT
      exact ⟨_, rfl, fin⟩
theorem call_enum_tup {prog : Program} {w : World} {A : Around} {E : Value → Shared → Prop} {s : Shared} {q : Addr} {xs : Array Value} {Q : Value → Shared → Prop} (isT : s.heap.IsTuple q xs)
    (h : ∀ h', IsEnum h' (s.heap.objs.size + 1) s.heap.objs.size 0 .none → h'.IsTupleIter s.heap.objs.size q 0 → (∀ b o, s.heap.get? b = some o → h'.get? b = some o) → Q (.ref (s.heap.objs.size + 1)) { s with heap := h' }) :
    wpAny (model prog w) A (call (.type "enumerate") [.ref q]) Q E s := by
  obtain ⟨⟨c, dct, dt, sl⟩, at_q, hc, cnt, hd⟩ := isT
  replace hc : c = .type "tuple" := hc
  replace hd : dt = .seq xs cnt := hd
  subst hc hd
  refine callType_new F.called_enumerate (by decide) (F.typeCall_enumerate_1 _) (F.newCall_enumerate_1 _) (fun obj => F.args_object_init_2 obj _) F.entry_enumerate_new (enum_new_tup q xs dct cnt sl) ⟨at_q, ?_⟩
  have size1 : (s.heap.push { cls := .type "tuple_iterator", data := .fields #[.ref q, .int 0 0] }).objs.size = s.heap.objs.size + 1 := Heap.size_push ..
  show _ ∧ _
  rw [size1]
  have isE : IsEnum ((s.heap.push { cls := .type "tuple_iterator", data := .fields #[.ref q, .int 0 0] }).push
      { cls := .type "enumerate", data := .fields #[.none, .bool false, .ref s.heap.objs.size, rawInt 0, .none, .none] }) (s.heap.objs.size + 1) s.heap.objs.size 0 .none := by
    have z := Heap.get?_push_size (s.heap.push { cls := .type "tuple_iterator", data := .fields #[.ref q, .int 0 0] })
      (o := { cls := .type "enumerate", data := .fields #[.none, .bool false, .ref s.heap.objs.size, rawInt 0, .none, .none] }) rfl
    rw [size1] at z; exact z
  exact ⟨⟨_, isE, rfl⟩, h _ isE ⟨_, Heap.get?_push_of_some _ (Heap.get?_push_size _ rfl), rfl, rfl⟩ fun b o x => Heap.get?_push_of_some _ (Heap.get?_push_of_some _ x)⟩
/-- the tuple at a, each item in a new pair -/
def IteT (K : PySem.W.Frag) (a : Addr) : It :=
  ⟨fun i H => ∃ (xs : List V) (x : V), SqT K H a xs ∧ xs[i]? = some x, fun i H v H' => ∃ P x, v = .ref P ∧ H P = none ∧ H' = upd H P (.tup [.int (i : Nat), x]) ∧ ∀ xs, SqT K H a xs → xs[i]? = some x, fun i H => ∃ xs : List V, SqT K H a xs ∧ xs.length ≤ i⟩
theorem turn_enumT {P : Program} {w : World} {K : PySem.W.Frag} {elts : List Expr} {kk : Nat} {tpos : Pos} (a e it : Addr) :
    Turn P w K (.Tuple elts kk tpos) (IteT K a) [e, it] e (fun i h => (∃ old, IsEnum h e it ((i : Nat) : Int) old) ∧ h.IsTupleIter it a i ∧ e ≠ it) where
  mem := by simp
  obj := fun i h st b hb => by
    obtain ⟨⟨old, isE⟩, ⟨o, ho, hc, hd⟩, _⟩ := st
    have cases2 : b = e ∨ b = it := by simpa using hb
    rcases cases2 with z | z
    · rw [z]; exact ⟨_, isE, fun v q => nomatch q⟩
    · rw [z]; exact ⟨o, ho, fun v q => by rw [hd] at q; cases q⟩
  keep := fun i h h' st k => let ⟨⟨old, isE⟩, isI, ne⟩ := st; ⟨⟨old, k e (by simp) _ isE⟩, isI.at fun o q => k it (by simp) o q, ne⟩
  item := by
    intro X hP hw hK hc i pins s σ H E I hf st hg
    subst hP hw hK
    obtain ⟨⟨old, isE⟩, isI, ne⟩ := st
    obtain ⟨xs, x, hq, hx⟩ := hg
    obtain ⟨its, rv, isT, hz⟩ := I.tuple hq
    obtain ⟨u, hu, ru⟩ := rv.get hx
    have ltE : e < s.heap.objs.size := Heap.lt_size isE
    have ltI : it < s.heap.objs.size := by obtain ⟨_, q, _⟩ := isI; exact Heap.lt_size q
    have neA : a ≠ it := by
      rintro rfl
      obtain ⟨o1, h1, h2, _⟩ := isI
      obtain ⟨o2, h3, h4, _⟩ := isT
      rw [h1] at h3
      cases h3
      rw [h2] at h4
      exact absurd h4 (by decide)
    have neEA : e ∉ [it, a] := by
      intro z
      rcases List.mem_cons.mp z with z | z
      · exact ne z
      · have z' : e = a := by simpa using z
        rw [← z'] at isT
        obtain ⟨o2, h3, h4, _⟩ := isT
        rw [isE] at h3
        have h5 := Option.some.inj h3
        rw [← h5] at h4
        have h6 : Value.type "enumerate" = Value.type "tuple" := h4
        injection h6 with h7
        exact absurd h7 (by decide)
    have ltn : i < its.toArray.size := by
      have := (List.getElem?_eq_some_iff.mp hu).1
      simpa using this
    refine wpAny_pyNext_enum_itemD (Draws.tuple (A := X.A.in1) (I.ok.hd hc) it a neA its.toArray) isE ⟨isI, isT⟩ ltn ne neEA fun y h' tk hy hout hst hnew hsz hk => ?_
    obtain ⟨hit', _⟩ := hst
    have ey : y = u := by
      have : its[i]? = some y := by simpa using hy
      rw [hu] at this
      exact (Option.some.inj this).symm
    subst ey
    refine ⟨_, rfl, wpAny_letOwnedTupleGo_enum (s := { s with heap := h', toks := tk + 1 }) hout fun h'' isE' sb => ?_⟩
    have hnew2 : h''.get? s.heap.objs.size = some { cls := .type "tuple", data := .seq #[.int i tk, y] } := (sb.2 _ (Nat.ne_of_gt ltE)).trans hnew
    have okN : ObjOk X.prog X.w (upd H s.heap.objs.size (.tup [.int (i : Nat), x])) h'' s.heap.objs.size (.tup [.int (i : Nat), x]) :=
      ⟨by show 2 ≤ sizeLine; decide, [.int i tk, y], .cons ⟨_, rfl⟩ (.cons ru .nil), ⟨_, hnew2, rfl, _, rfl⟩⟩
    have I1 : L2.Inv X pins σ (upd H s.heap.objs.size (.tup [.int (i : Nat), x])) { s with heap := h'', toks := tk + 1 } :=
      I.turnedNew (ch := [e, it]) (fun b ob hb q => (sb.2 b (fun z => hb (by simp [z]))).trans (hk b ob (fun z => hb (by simp [z])) (fun z => hb (by simp [z])) q)) hf (Nat.le_refl _) okN
    refine ⟨.ref s.heap.objs.size, _, I1, rfl, ⟨_, x, rfl, I.hok.fresh (Nat.le_refl _), rfl, fun ys hy => by rw [I.tuple_inj hy hq]; exact hx⟩, ⟨⟨y, ?_⟩, hit'.at fun o q => (sb.2 it (Ne.symm ne)).trans q, ne⟩, fun b hb => ?_⟩
    · rw [show ((i + 1 : Nat) : Int) = (i : Int) + 1 by omega]
      exact isE'
    · have ltb : b < s.heap.objs.size := by
        have cases2 : b = e ∨ b = it := by simpa using hb
        rcases cases2 with z | z
        · rw [z]; exact ltE
        · rw [z]; exact ltI
      rw [upd_ne (Nat.ne_of_lt ltb)]
      exact (hf b hb).1
  done := by
    intro X hP hw hK hc i pins s σ H E I hf st hg
    subst hP hw hK
    obtain ⟨⟨old, isE⟩, isI, ne⟩ := st
    obtain ⟨xs, hq, hx⟩ := hg
    obtain ⟨its, rv, isT, hz⟩ := I.tuple hq
    obtain ⟨f0, f1, f2, f3, f4, f5⟩ := hf it (by simp)
    have len := rv.length
    have neA : a ≠ it := by
      rintro rfl
      obtain ⟨o1, h1, h2, _⟩ := isI
      obtain ⟨o2, h3, h4, _⟩ := isT
      rw [h1] at h3
      cases h3
      rw [h2] at h4
      exact absurd h4 (by decide)
    unfold pyNext
    have tyE : s.TypeIs (.ref e) "enumerate" := ⟨_, isE, rfl⟩
    refine wpAny_bind (wpAny_attempt (wpAny_callSpecial?_slot (name := Str.ofString "__next__") tyE F.slot_enumerate_next
      (wpAny_call_entry F.slot_enumerate_next tyE F.entry_enumerate_next ?_ (F.args_enumerate_next_1 _))))
    show wpAny _ _ (field (.ref e) 2 >>= _) _ _ _
    refine wpAny_bind (wpAny_field isE rfl (x := .ref it) rfl ?_)
    refine wpAny_bind (wpAny_nextOf_tuple_end (I.ok.hd hc) isI isT (by simp; omega) fun h' xv eb hxv => ?_)
    obtain ⟨ob, hob, hcl⟩ := hxv
    refine wpAny_bind (wpAny_isInstance (T := "StopIteration") (b := true) ⟨ob, hob, hcl⟩ isSubtype_stop ?_)
    exact wpAny_pure ⟨rfl, I.turned (t' := s.toks) (fun b o hb q => eb b o hb q) f0 f1 f3 f4 f5⟩
  self := fun A i s Q E st h => let ⟨⟨_, isE⟩, _⟩ := st; wpAny_pyIter_enum isE h
def iEnumT (K : PySem.W.Frag) (ta : TA) : TI := fun σ H R => ta σ H fun vs H1 => ∃ a xs, vs = [.ref a] ∧ SqT K H1 a xs ∧ R (IteT K a) H1
theorem pi_enumT {X : Cx} {e : Expr} {ta : TA} {p pos tpos : Pos} {elts : List Expr} {kk : Nat} (hg : Gl X "enumerate") (hm : X.mg "enumerate" = none) (ha : PA X [e] ta) (hs : starEach [e] X.env = [(false, eval e X.env)] := by rfl) :
    PI X (.Tuple elts kk tpos) (.Call (.Name "enumerate" p) [e] [] pos) (iEnumT X.K ta) := by
  refine ⟨fun pins s σ H Rr I hh => ?_⟩
  refine Call_ (ld_blt I hg hm boot_enumerate (PyProof.Rows.callWith_type1 (thn (ha.run pos pins s σ H _ I hh) fun us s1 ⟨vs, H1, I1, r1, q1⟩ => ?_) hs rfl))
  obtain ⟨a, xs, ex, hq, q⟩ := q1
  subst ex
  cases r1 with
  | cons r rr =>
    cases rr
    cases r
    obtain ⟨its, rv, isT, hz⟩ := I1.tuple hq
    refine call_enum_tup isT fun h' isE isI hk => wpAny_pyIter_enum isE ?_
    have I2 : L2.Inv X pins σ H1 { s1 with heap := h' } := I1.kept (t' := s1.toks) hk
    refine ⟨s1.heap.objs.size + 1, [s1.heap.objs.size + 1, s1.heap.objs.size], _, _, H1, rfl, I2, turn_enumT a (s1.heap.objs.size + 1) s1.heap.objs.size, ⟨⟨.none, isE⟩, isI, Nat.succ_ne_self _⟩, fun b hb => ?_, q⟩
    have above : s1.heap.objs.size ≤ b := by
      rcases (show b = s1.heap.objs.size + 1 ∨ b = s1.heap.objs.size by simpa using hb) with z | z
      · rw [z]; exact Nat.le_add_right _ _
      · rw [z]; exact Nat.le_refl _
    exact I1.fpOk above (I1.hok.fresh above)
end Sb
end
section
set_option Elab.async false
set_option linter.all false
set_option maxRecDepth 100000
set_option maxHeartbeats 4000000
namespace Sb
open PySem PySem.Spec PyProof.Rows L2 PySem.W
end Sb
end
section
set_option Elab.async false
set_option linter.all false
set_option maxRecDepth 100000
set_option maxHeartbeats 4000000
namespace Sb
open PySem PySem.Spec PyProof.Rows L2 PySem.W
section
variable {X : Cx} {T : Tb} {W : WX} {pos : Pos} {e : Expr} {ra : AF}
/-! ## enumerate(tuple) -/
def wkE (es : List D) : Wk := ⟨es.length, fun i _ => some ((es[i]?).map fun d => .tup [.int (i : Nat), d])⟩
def iEn (ra : AF) : IF := fun τ => (ra τ).bnd fun ds S => match ds with
  | [.tup es] => some (.ok (wkE es) S)
  | _ => none
theorem i_enum {p tpos : Pos} {elts : List Expr} {kk : Nat} (hK : T.K = X.K) (hg : Gl X "enumerate") (hm : X.mg "enumerate" = none) (ha : PA X [e] (rdA T W ra)) (hs : starEach [e] X.env = [(false, eval e X.env)] := by rfl) :
    PI X (.Tuple elts kk tpos) (.Call (.Name "enumerate" p) [e] [] pos) (rdI T W (iEn ra)) :=
  (pi_enumT hg hm ha hs).imp fun σ H Rr h => by
    obtain ⟨φ, S, τ, o, R, r, e, q⟩ := h
    refine rdA_bndI R r e q fun ds S1 vs H1 φ1 E1 R1 r1 e1 q1 => ?_
    split at e1
    · rename_i es
      cases e1
      obtain ⟨v, l, rfl, r2, r3⟩ := r1
      cases r3
      obtain ⟨a, xs, rfl, hH, s⟩ := r2
      refine ⟨a, xs, rfl, .inl hH, q1 φ1 H1 _ .refl R1 ?_⟩
      intro φ S H i E2 R2
      have h' := E2.rdT hH
      have s' := s.ext E2 _ _
      refine ⟨fun d hd => ?_, fun hn => ?_⟩
      · have hd' : (es[i]?).map (fun d => D.tup [.int (i : Nat), d]) = some d := Option.some.inj hd
        simp only [Option.map_eq_some_iff] at hd'
        obtain ⟨y, hy, rfl⟩ := hd'
        obtain ⟨v, hv, rv⟩ := s'.get hy
        refine ⟨⟨xs, v, .inl h', hv⟩, fun x H' yl => ?_⟩
        obtain ⟨P, x2, rfl, hP, rfl, hx⟩ := yl
        have ev := hx xs (.inl h')
        rw [hv] at ev
        cases ev
        obtain ⟨R3, E3⟩ := R2.garb (u := .tup [.int (i : Nat), v]) hP
        exact ⟨E3, R3, P, _, rfl, (.inl upd_same), .int (i : Nat), _, rfl, rfl, v, _, rfl, rv.ext E3 _ _, rfl⟩
      · have hn' : (es[i]?).map (fun d => D.tup [.int (i : Nat), d]) = none := Option.some.inj hn
        simp only [Option.map_eq_none_iff] at hn'
        exact ⟨xs, .inl h', rds_none s' hn'⟩
    · cases e1
/-! ## sorted of data -/
end
end Sb
namespace Sb
open PySem PySem.Spec PyProof.Rows L2
def eNeg (fa : EF) : EF := fun τ => (fa τ).bnd fun d S => match d with | .int i => some (.ok (.int (-i)) S) | _ => none
theorem d_neg {X : Cx} {T : Tb} {W : WX} {pos : Pos} {a : Expr} {fa : EF} (ha : PE X a (rdE T W fa)) : PE X (.UnaryOp .USub a pos) (rdE T W (eNeg fa)) := (pe_un un_neg ha).imp fun σ H Q h => by
  obtain ⟨φ, S, τ, o, R, r, e, q⟩ := h
  refine rdE_bnd R r e q fun d S1 v H1 φ1 ⟨E1, R1, r1⟩ e1 q1 => ?_
  split at e1
  · cases e1
    cases r1
    exact ⟨_, rfl, q1 φ1 H1 _ .refl R1 rfl⟩
  · cases e1
end Sb
namespace Sb
open PySem PySem.Spec PyProof.Rows L2
end Sb
end
section
set_option Elab.async false
set_option linter.all false
set_option maxRecDepth 100000
namespace Sb
open PySem PySem.Spec PyProof.Rows L2
def m_is_whole : SF := sRt (eAnd (eIs "int" (eVar 0)) (eNot (eIs "bool" (eVar 0))))
abbrev M_is_whole : List D → M D := fnM 1 (m_is_whole)
def m_is_depth : SF := sRt (eAnd (eCl (M_is_whole) 1 (aCons (eVar 0) (aNil))) (eB gGeI (eVar 0) (eC (.int 0))))
abbrev M_is_depth : List D → M D := fnM 1 (m_is_depth)
def m_is_listed : SF := sRt (eIs2 "list" "tuple" (eVar 0))
abbrev M_is_listed : List D → M D := fnM 1 (m_is_listed)
def m_is_name : SF := sSeq (sIf (tOr' (tNt (tB (eIs "str" (eVar 0)))) (tNt (tB (eCh gLe gLe (eC (.int 1)) (eCB gLenX (aCons (eVar 0) (aNil))) (eC (.int 8)))))) (sRt (eC (.bl false))) (sNop)) (sRt (eAll 2 (iSeq (eVar 0)) (tN 1) (eCh gLe gLe (eC (.str "a")) (eVar 1) (eC (.str "z")))))
abbrev M_is_name : List D → M D := fnM 2 (m_is_name)
def m_is_card : SF := sSeq (sIf (tOr' (tNt (tB (eCl (M_is_listed) 1 (aCons (eVar 0) (aNil))))) (tB (eB (gEq true) (eCB gLenX (aCons (eVar 0) (aNil))) (eC (.int 2))))) (sRt (eC (.bl false))) (sNop)) (sRt (eAnd (eCl (M_is_name) 1 (aCons (eB gIx (eVar 0) (eC (.int 0))) (aNil))) (eCl (M_is_depth) 1 (aCons (eB gIx (eVar 0) (eC (.int 1))) (aNil)))))
abbrev M_is_card : List D → M D := fnM 1 (m_is_card)
def m_deck_of (K : PySem.W.Frag) : SF := sSeq (sIf (tOr' (tNt (tB (eCl (M_is_listed) 1 (aCons (eVar 0) (aNil))))) (tNt (tB (eCh gLe gLe (eC (.int 1)) (eCB gLenX (aCons (eVar 0) (aNil))) (eC (.int 40)))))) (sRaise (He.ga K "NoDeck")) (sNop)) (sSeq (sIf (tNt (tB (eAll 5 (iSeq (eVar 0)) (tN 1) (eCl (M_is_card) 1 (aCons (eVar 1) (aNil)))))) (sRaise (He.ga K "NoDeck")) (sNop)) (sSeq (sSet 2 (eCB gTuple (aCons (eLc (iSeq (eVar 0)) (tN2 3 4) (tAll) (eTup (aCons (eVar 3) (aCons (eVar 4) (aNil)))) [3, 4]) (aNil)))) (sSeq (sIf (tB (eB gLtI (eCB gLenX (aCons (eSc (iSeq (eVar 2)) (tN 1) (eB gIx (eVar 1) (eC (.int 0))) [1]) (aNil))) (eCB gLenX (aCons (eVar 2) (aNil))))) (sRaise (He.ga K "NoDeck")) (sNop)) (sRt (eVar 2)))))
abbrev M_deck_of (K : PySem.W.Frag) : List D → M D := fnM 5 (m_deck_of K)
def m_reach_of : SF := sRt (eCB gMin2 (aCons (eB gIx (eVar 0) (eC (.int 1))) (aCons (eB gSub (eVar 1) (eC (.int 1))) (aNil))))
abbrev M_reach_of : List D → M D := fnM 2 (m_reach_of)
def m_step_of : SF := sSeq (sSet 1 (eCl (M_reach_of) 2 (aCons (eB gIx (eVar 0) (eC (.int 0))) (aCons (eCB gLenX (aCons (eVar 0) (aNil))) (aNil))))) (sRt (eB gAdd (eB gAdd (eSl (eVar 0) (oSo (eC (.int 1))) (oSo (eB gAdd (eVar 1) (eC (.int 1))))) (eSl (eVar 0) (oNo) (oSo (eC (.int 1))))) (eSl (eVar 0) (oSo (eB gAdd (eVar 1) (eC (.int 1)))) (oNo))))
abbrev M_step_of : List D → M D := fnM 2 (m_step_of)
def m_find_place (K : PySem.W.Frag) : SF := sSeq (sFor (iEn (aCons (eVar 0) (aNil))) (tN2 2 3) (sIf (tB (eB (gEq false) (eB gIx (eVar 3) (eC (.int 0))) (eVar 1))) (sRt (eVar 2)) (sNop))) (sRaise (He.ga K "NoName"))
abbrev M_find_place (K : PySem.W.Frag) : List D → M D := fnM 4 (m_find_place K)
end Sb
end
section
set_option Elab.async false
set_option linter.all false
set_option maxRecDepth 100000
set_option maxHeartbeats 4000000
namespace Sb
open PySem PySem.Spec PyProof.Rows L2
theorem kb_NoneType_int : kitB "NoneType" "int" = some false := by decide +kernel
theorem kb_NoneType_bool : kitB "NoneType" "bool" = some false := by decide +kernel
theorem kb_NoneType_str : kitB "NoneType" "str" = some false := by decide +kernel
theorem kb_NoneType_list : kitB "NoneType" "list" = some false := by decide +kernel
theorem kb_NoneType_tuple : kitB "NoneType" "tuple" = some false := by decide +kernel
theorem kb_bool_int : kitB "bool" "int" = some true := by decide +kernel
theorem kb_bool_bool : kitB "bool" "bool" = some true := by decide +kernel
theorem kb_bool_str : kitB "bool" "str" = some false := by decide +kernel
theorem kb_bool_list : kitB "bool" "list" = some false := by decide +kernel
theorem kb_bool_tuple : kitB "bool" "tuple" = some false := by decide +kernel
theorem kb_int_int : kitB "int" "int" = some true := by decide +kernel
theorem kb_int_bool : kitB "int" "bool" = some false := by decide +kernel
theorem kb_int_str : kitB "int" "str" = some false := by decide +kernel
theorem kb_int_list : kitB "int" "list" = some false := by decide +kernel
theorem kb_int_tuple : kitB "int" "tuple" = some false := by decide +kernel
theorem kb_str_int : kitB "str" "int" = some false := by decide +kernel
theorem kb_str_bool : kitB "str" "bool" = some false := by decide +kernel
theorem kb_str_str : kitB "str" "str" = some true := by decide +kernel
theorem kb_str_list : kitB "str" "list" = some false := by decide +kernel
theorem kb_str_tuple : kitB "str" "tuple" = some false := by decide +kernel
theorem kb_tuple_int : kitB "tuple" "int" = some false := by decide +kernel
theorem kb_tuple_bool : kitB "tuple" "bool" = some false := by decide +kernel
theorem kb_tuple_str : kitB "tuple" "str" = some false := by decide +kernel
theorem kb_tuple_list : kitB "tuple" "list" = some false := by decide +kernel
theorem kb_tuple_tuple : kitB "tuple" "tuple" = some true := by decide +kernel
theorem kb_list_int : kitB "list" "int" = some false := by decide +kernel
theorem kb_list_bool : kitB "list" "bool" = some false := by decide +kernel
theorem kb_list_str : kitB "list" "str" = some false := by decide +kernel
theorem kb_list_list : kitB "list" "list" = some true := by decide +kernel
theorem kb_list_tuple : kitB "list" "tuple" = some false := by decide +kernel
theorem kb_dict_int : kitB "dict" "int" = some false := by decide +kernel
theorem kb_dict_bool : kitB "dict" "bool" = some false := by decide +kernel
theorem kb_dict_str : kitB "dict" "str" = some false := by decide +kernel
theorem kb_dict_list : kitB "dict" "list" = some false := by decide +kernel
theorem kb_dict_tuple : kitB "dict" "tuple" = some false := by decide +kernel
theorem sSeq_nx {f g : SF} {τ τ1 : Sl} {S S1 : Sto} (h : f τ S = some (.nx τ1, S1)) : sSeq f g τ S = g τ1 S1 := by simp only [sSeq, h]
theorem sSeq_rt {f g : SF} {τ : Sl} {d : D} {S S1 : Sto} (h : f τ S = some (.rt d, S1)) : sSeq f g τ S = some (.rt d, S1) := by simp only [sSeq, h]
theorem sSet_ok {i : Nat} {fe : EF} {τ : Sl} {d : D} {S S1 : Sto} (h : fe τ S = some (.ok d S1)) : sSet i fe τ S = some (.nx (τ.set i (some d)), S1) := by simp only [sSet, sx, h]
theorem sEx_ok {fe : EF} {τ : Sl} {d : D} {S S1 : Sto} (h : fe τ S = some (.ok d S1)) : sEx fe τ S = some (.nx τ, S1) := by simp only [sEx, sx, h]
theorem sRt_ok {fe : EF} {τ : Sl} {d : D} {S S1 : Sto} (h : fe τ S = some (.ok d S1)) : sRt fe τ S = some (.rt d, S1) := by simp only [sRt, sx, h]
theorem sIf_t {t : BF} {f g : SF} {τ : Sl} {S S1 : Sto} (h : t τ S = some (.ok true S1)) : sIf t f g τ S = f τ S1 := by simp only [sIf, st', h, if_true]
theorem sIf_f {t : BF} {f g : SF} {τ : Sl} {S S1 : Sto} (h : t τ S = some (.ok false S1)) : sIf t f g τ S = g τ S1 := by simp [sIf, st', h]
theorem sFor_ok {fi : IF} {g : TF} {fb : SF} {τ : Sl} {S S1 : Sto} {wk : Wk} {r : Option (Fl × Sto)} (h : fi τ S = some (.ok wk S1)) (h2 : goF wk.nxt g fb (wk.bound + 1) 0 τ S1 = r) : sFor fi g fb τ S = r := by simp only [sFor, h, h2]
theorem eB_ok {g : G2} {fa fb : EF} {τ : Sl} {x y d : D} {S S1 S2 S3 : Sto} (h1 : fa τ S = some (.ok x S1)) (h2 : fb τ S1 = some (.ok y S2)) (h3 : g x y S2 = some (d, S3)) : eB g fa fb τ S = some (.ok d S3) := by simp only [eB, M.bnd, h1, h2, h3, lft]
theorem eCl_ok {m : List D → M D} {n : Nat} {r : AF} {τ : Sl} {ds : List D} {S S1 : Sto} {o : Option (Rs D)} (h1 : r τ S = some (.ok ds S1)) (hl : ds.length = n) (h2 : m ds S1 = o) : eCl m n r τ S = o := by simp only [eCl, M.bnd, h1, if_pos hl, h2]
theorem eCB_ok {g : GN} {r : AF} {τ : Sl} {ds : List D} {d : D} {S S1 S2 : Sto} (h1 : r τ S = some (.ok ds S1)) (h2 : g ds S1 = some (d, S2)) : eCB g r τ S = some (.ok d S2) := by simp only [eCB, M.bnd, h1, h2, lft]
theorem eBM_ok {ty : String} {g : GM} {fo : EF} {r : AF} {τ : Sl} {x : D} {ds : List D} {d : D} {S S1 S2 S3 : Sto} (h0 : fo τ S = some (.ok x S1)) (ht : tyD S1 ty x = true) (h1 : r τ S1 = some (.ok ds S2)) (h2 : g x ds S2 = some (d, S3)) : eBM ty g fo r τ S = some (.ok d S3) := by simp only [eBM, M.bnd, h0, ht, if_true, h1, h2, lft]
theorem aCons_ok {f : EF} {r : AF} {τ : Sl} {d : D} {ds : List D} {S S1 S2 : Sto} (h1 : f τ S = some (.ok d S1)) (h2 : r τ S1 = some (.ok ds S2)) : aCons f r τ S = some (.ok (d :: ds) S2) := by simp only [aCons, M.bnd, h1, h2]
theorem aNil_ok {τ : Sl} {S : Sto} : aNil τ S = some (.ok [] S) := rfl
theorem a1_ok {f : EF} {τ : Sl} {d : D} {S S1 : Sto} (h1 : f τ S = some (.ok d S1)) : aCons f aNil τ S = some (.ok [d] S1) := aCons_ok h1 aNil_ok
theorem a2_ok {f g : EF} {τ : Sl} {d e : D} {S S1 S2 : Sto} (h1 : f τ S = some (.ok d S1)) (h2 : g τ S1 = some (.ok e S2)) : aCons f (aCons g aNil) τ S = some (.ok [d, e] S2) := aCons_ok h1 (a1_ok h2)
theorem a3_ok {f g h : EF} {τ : Sl} {d e k : D} {S S1 S2 S3 : Sto} (h1 : f τ S = some (.ok d S1)) (h2 : g τ S1 = some (.ok e S2)) (h3 : h τ S2 = some (.ok k S3)) : aCons f (aCons g (aCons h aNil)) τ S = some (.ok [d, e, k] S3) := aCons_ok h1 (a2_ok h2 h3)
theorem eTup_ok {r : AF} {τ : Sl} {ds : List D} {S S1 : Sto} (h1 : r τ S = some (.ok ds S1)) (hl : ds.length ≤ 1000) : eTup r τ S = some (.ok (.tup ds) S1) := by
  have : ds.length ≤ sizeLine := by rw [sizeLine_eq]; omega
  simp only [eTup, M.bnd, h1, if_pos this]
theorem eLst_ok {r : AF} {τ : Sl} {ds : List D} {S S1 : Sto} (h1 : r τ S = some (.ok ds S1)) (hl : ds.length ≤ 1000) : eLst r τ S = some (.ok (.loc S1.length) (S1 ++ [.lst ds])) := by
  have : ds.length ≤ sizeLine := by rw [sizeLine_eq]; omega
  simp only [eLst, M.bnd, h1, if_pos this]
theorem iRg1_ok {r : AF} {τ : Sl} {n : Nat} {S S1 : Sto} (h1 : r τ S = some (.ok [.int n] S1)) (hn : n ≤ 1000000) : iRg1 r τ S = some (.ok (wkR 0 n) S1) := by
  have hr : -(2 ^ 62) ≤ (n : Int) ∧ (n : Int) < 2 ^ 62 := by constructor <;> omega
  simp only [iRg1, M.bnd, h1, if_pos hr, Int.toNat_natCast]
theorem iSeq_ok {fe : EF} {τ : Sl} {d : D} {S S1 : Sto} {wk : Wk} (h1 : fe τ S = some (.ok d S1)) (h2 : wkD S1 d = some wk) : iSeq fe τ S = some (.ok wk S1) := by
  simp only [iSeq, M.bnd, h1, h2, Option.bind_some]
theorem tB_ok {fe : EF} {τ : Sl} {b : Bool} {S S1 : Sto} (h1 : fe τ S = some (.ok (.bl b) S1)) : tB fe τ S = some (.ok b S1) := by simp only [tB, M.bnd, h1]
theorem tNt_ok {t : BF} {τ : Sl} {b : Bool} {S S1 : Sto} (h1 : t τ S = some (.ok b S1)) : tNt t τ S = some (.ok (!b) S1) := by simp only [tNt, M.bnd, h1]
theorem tOr_f {t u : BF} {τ : Sl} {S S1 : Sto} {o : Option (Rs Bool)} (h1 : t τ S = some (.ok false S1)) (h2 : u τ S1 = o) : tOr' t u τ S = o := by simp [tOr', M.bnd, h1, h2]
theorem eSl_ok {fe : EF} {lo hi : OF} {τ : Sl} {x d : D} {a b : Option Int} {S S1 S2 S3 S4 : Sto} (h1 : fe τ S = some (.ok x S1)) (h2 : lo τ S1 = some (.ok a S2)) (h3 : hi τ S2 = some (.ok b S3)) (h4 : gSl x a b S3 = some (d, S4)) : eSl fe lo hi τ S = some (.ok d S4) := by simp only [eSl, M.bnd, h1, h2, h3, h4, lft]
theorem oSo_ok {fe : EF} {τ : Sl} {i : Int} {S S1 : Sto} (h1 : fe τ S = some (.ok (.int i) S1)) : oSo fe τ S = some (.ok (some i) S1) := by simp only [oSo, M.bnd, h1]
theorem eIf_t {t : BF} {f g : EF} {τ : Sl} {S S1 : Sto} {o : Option (Rs D)} (h : t τ S = some (.ok true S1)) (h2 : f τ S1 = o) : eIf t f g τ S = o := by simp only [eIf, M.bnd, h, if_true, h2]
theorem eIf_f {t : BF} {f g : EF} {τ : Sl} {S S1 : Sto} {o : Option (Rs D)} (h : t τ S = some (.ok false S1)) (h2 : g τ S1 = o) : eIf t f g τ S = o := by simp [eIf, M.bnd, h, h2]
theorem fnM_rt {n : Nat} {f : SF} {ds : List D} {S S' : Sto} {d : D} (h : f (ini n ds) S = some (.rt d, S')) : fnM n f ds S = some (.ok d S') := by
  simp only [fnM, h]
/-! ## the spring -/
abbrev spr (a b c : Int) : Ob := .lst [.int a, .int b, .int c]
/-- the spring at n, at most k draws behind -/
def Spr (n k : Nat) (S : Sto) : Prop := ∃ a b c : Int, S[n]? = some (spr a b c) ∧ 0 ≤ a ∧ 0 ≤ b ∧ b < 2305843009213693951 ∧ 0 ≤ c ∧ c ≤ k
/-- all but the object at n stands -/
structure Fr (n : Nat) (S S' : Sto) : Prop where
  le : S.length ≤ S'.length
  at_ : ∀ i, i ≠ n → i < S.length → S'[i]? = S[i]?
theorem Fr.refl {n : Nat} {S : Sto} : Fr n S S := ⟨Nat.le_refl _, fun _ _ _ => rfl⟩
theorem Fr.trans {n : Nat} {S S1 S2 : Sto} (a : Fr n S S1) (b : Fr n S1 S2) : Fr n S S2 := ⟨Nat.le_trans a.le b.le, fun i h1 h2 => (b.at_ i h1 (Nat.lt_of_lt_of_le h2 a.le)).trans (a.at_ i h1 h2)⟩
theorem Fr.get {n i : Nat} {S S' : Sto} {o : Ob} (f : Fr n S S') (h : S[i]? = some o) (hi : i ≠ n) : S'[i]? = some o := (f.at_ i hi (List.getElem?_eq_some_iff.mp h).1).trans h
theorem Fr.app {n : Nat} {S X : Sto} : Fr n S (S ++ X) := ⟨by simp, fun i _ h => List.getElem?_append_left h⟩
theorem Spr.app {n k : Nat} {S X : Sto} (h : Spr n k S) : Spr n k (S ++ X) := by
  obtain ⟨a, b, c, e, r⟩ := h
  exact ⟨a, b, c, by rw [List.getElem?_append_left (List.getElem?_eq_some_iff.mp e).1]; exact e, r⟩
theorem Spr.lt {n k : Nat} {S : Sto} (h : Spr n k S) : n < S.length := by
  obtain ⟨a, b, c, e, r⟩ := h
  exact (List.getElem?_eq_some_iff.mp e).1
theorem Spr.mono {n k k' : Nat} {S : Sto} (h : Spr n k S) (hk : k ≤ k') : Spr n k' S := by
  obtain ⟨a, b, c, e, h1, h2, h3, h4, h5⟩ := h
  exact ⟨a, b, c, e, h1, h2, h3, h4, by omega⟩
theorem log2_lt {x : Int} {j : Nat} (hj : 0 < j) (h : x.natAbs < 2 ^ j) : x.natAbs.log2 < j := by
  by_cases z : x.natAbs = 0
  · rw [z]; simpa using hj
  · exact (Nat.log2_lt z).mpr h
end Sb
end
section
set_option Elab.async false
set_option linter.all false
set_option maxRecDepth 100000
set_option maxHeartbeats 4000000
set_option exponentiation.threshold 100000
namespace Sb
open PySem PySem.Spec PyProof.Rows L2
/-! ## loops by an invariant -/
theorem goC_inv {nxt : Nat → Sto → Option (Option D)} {g : TF} {t : BF} {fe : EF} {l : Nat} {τ0 : Sl} {n : Nat} (I : Nat → Sto → Prop) (item : Nat → D)
    (h : ∀ i S, i < n → I i S → nxt i S = some (some (item i)) ∧ ∃ τ1, g (item i) S τ0 = some τ1 ∧ ((∃ S1, t τ1 S = some (.ok false S1) ∧ I (i + 1) S1) ∨
      ∃ S1 y S2 acc, t τ1 S = some (.ok true S1) ∧ fe τ1 S1 = some (.ok y S2) ∧ S2[l]? = some (.lst acc) ∧ acc.length < sizeLine ∧ I (i + 1) (S2.set l (.lst (acc ++ [y])))))
    (he : ∀ S, I n S → nxt n S = some none) : ∀ (m i : Nat) (S : Sto), i ≤ n → n - i < m → I i S → ∃ S', goC nxt g t fe l τ0 m i S = some S' ∧ I n S'
  | 0, i, S, _, hm, _ => absurd hm (Nat.not_lt_zero _)
  | m + 1, i, S, hi, hm, hI => by
    unfold goC
    by_cases e : i = n
    · subst e
      rw [he S hI]
      exact ⟨S, rfl, hI⟩
    · obtain ⟨h1, τ1, h2, h3⟩ := h i S (by omega) hI
      rw [h1]
      rcases h3 with ⟨S1, h3, h4⟩ | ⟨S1, y, S2, acc, h3, h4, h5, h6, h7⟩
      · simp only [h2, h3]
        exact goC_inv I item h he m (i + 1) S1 (by omega) (by omega) h4
      · simp only [h2, h3, h4, h5, if_pos h6]
        exact goC_inv I item h he m (i + 1) _ (by omega) (by omega) h7
theorem goA_inv {nxt : Nat → Sto → Option (Option D)} {g : TF} {fe : EF} {k n : Nat} (I : Nat → Sto → Prop) (item : Nat → D)
    (h : ∀ i S, i < n → I i S → nxt i S = some (some (item i)) ∧ ∃ τ1 S1, g (item i) S (List.replicate k none) = some τ1 ∧ fe τ1 S = some (.ok (.bl true) S1) ∧ I (i + 1) S1)
    (he : ∀ S, I n S → nxt n S = some none) : ∀ (m i : Nat) (S : Sto), i ≤ n → n - i < m → I i S → ∃ S', goA nxt g fe k m i S = some (true, S') ∧ I n S'
  | 0, i, S, _, hm, _ => absurd hm (Nat.not_lt_zero _)
  | m + 1, i, S, hi, hm, hI => by
    unfold goA
    by_cases e : i = n
    · subst e
      rw [he S hI]
      exact ⟨S, rfl, hI⟩
    · obtain ⟨h1, τ1, S1, h2, h3, h4⟩ := h i S (by omega) hI
      rw [h1]
      simp only [h2, h3]
      exact goA_inv I item h he m (i + 1) S1 (by omega) (by omega) h4
theorem goK_inv {nxt : Nat → Sto → Option (Option D)} {g : TF} {fe : EF} {l : Nat} {τ0 : Sl} {n : Nat} (I : Nat → Sto → Prop) (item : Nat → D)
    (h : ∀ i S, i < n → I i S → nxt i S = some (some (item i)) ∧ ∃ τ1 y S2 k M num, g (item i) S τ0 = some τ1 ∧ fe τ1 S = some (.ok y S2) ∧ keyD y = some k ∧ S2[l]? = some (.ks M num) ∧ num + 1 < scanBound ∧
      I (i + 1) (S2.set l (.ks (fun j => M j || decide (j = k)) (if M k = true then num else num + 1))))
    (he : ∀ S, I n S → nxt n S = some none) : ∀ (m i : Nat) (S : Sto), i ≤ n → n - i < m → I i S → ∃ S', goK nxt g fe l τ0 m i S = some S' ∧ I n S'
  | 0, i, S, _, hm, _ => absurd hm (Nat.not_lt_zero _)
  | m + 1, i, S, hi, hm, hI => by
    unfold goK
    by_cases e : i = n
    · subst e
      rw [he S hI]
      exact ⟨S, rfl, hI⟩
    · obtain ⟨h1, τ1, y, S2, k, M, num, h2, h3, h4, h5, h6, h7⟩ := h i S (by omega) hI
      rw [h1]
      simp only [h2, h3, h4, h5, if_pos h6]
      exact goK_inv I item h he m (i + 1) _ (by omega) (by omega) h7
end Sb
end
section
set_option Elab.async false
set_option linter.all false
set_option maxRecDepth 100000
set_option maxHeartbeats 4000000
set_option exponentiation.threshold 100000
namespace Sb
open PySem PySem.Spec PyProof.Rows L2
theorem pre_get {S X : Sto} {i : Nat} {o : Ob} (h : S[i]? = some o) : (S ++ X)[i]? = some o := by
  rw [List.getElem?_append_left (List.getElem?_eq_some_iff.mp h).1]; exact h
theorem pow_le2 {a b : Nat} (h : a ≤ b) : 2 ^ a ≤ 2 ^ b := Nat.pow_le_pow_right (by decide) h
end Sb
end
section
set_option Elab.async false
set_option linter.all false
set_option maxRecDepth 100000
set_option maxHeartbeats 4000000
namespace Sb
open PySem PySem.Spec PyProof.Rows L2
/-- a name: one to eight small letters -/
structure Nm (x : Str) : Prop where
  lo : 1 ≤ x.cps.size
  hi : x.cps.size ≤ 8
  let_ : ∀ c ∈ x.cps.toList, 97 ≤ c ∧ c ≤ 122
abbrev Card := Str × Int
abbrev dC (c : Card) : D := .tup [.str c.1, .int c.2]
abbrev dK (l : List Card) : D := .tup (l.map dC)
abbrev pC (c : Card) : PyData := .tuple [.str c.1, .int c.2]
theorem toPy_str (n : Nat) (S : Sto) (x : Str) : toPy (n + 1) S (.str x) = some (.str x) := rfl
theorem toPy_int (n : Nat) (S : Sto) (x : Int) : toPy (n + 1) S (.int x) = some (.int x) := rfl
theorem mapM_some {α β : Type} {f : α → Option β} {g : α → β} : ∀ {l : List α}, (∀ x ∈ l, f x = some (g x)) → l.mapM f = some (l.map g)
  | [], _ => rfl
  | x :: l, h => by
    rw [List.mapM_cons, h x List.mem_cons_self, mapM_some fun y hy => h y (List.mem_cons_of_mem _ hy)]
    rfl
theorem eqv_all {α : Type} [DecidableEq α] {f : α → PyData} (h : ∀ a b, PyData.eqv (f a) (f b) = decide (a = b)) : ∀ l m : List α, PyData.eqvAll (l.map f) (m.map f) = decide (l = m)
  | [], [] => rfl
  | [], _ :: _ => rfl
  | _ :: _, [] => rfl
  | a :: l, b :: m => by
    show (PyData.eqv (f a) (f b) && PyData.eqvAll (l.map f) (m.map f)) = _
    rw [h, eqv_all h l m]
    by_cases e : a = b <;> by_cases e2 : l = m <;> simp [e, e2]
theorem eqv_str (a b : Str) : PyData.eqv (.str a) (.str b) = decide (a = b) := by
  show (a == b) = _
  by_cases h : a = b
  · simp [h]
  · simp [h]
theorem nm_ok {x : Str} (h : Nm x) : PyData.canLay0 (.str x) = true := by
  show x.cps.all (fun c => decide (c < 0x110000)) = true
  rw [Array.all_eq_true_iff_forall_mem]
  intro c hc
  have := h.let_ c (by simpa using hc)
  exact decide_eq_true (by omega)
theorem lay_all {α : Type} {f : α → PyData} : ∀ {l : List α}, (∀ x ∈ l, PyData.canLay0 (f x) = true) → PyData.canLayAll0 (l.map f) = true
  | [], _ => rfl
  | x :: l, h => by
    show (PyData.canLay0 (f x) && PyData.canLayAll0 (l.map f)) = true
    rw [h x List.mem_cons_self, lay_all fun y hy => h y (List.mem_cons_of_mem _ hy)]
    rfl
theorem depth_all {α : Type} {f : α → PyData} {k : Nat} : ∀ {l : List α}, (∀ x ∈ l, PyData.depth (f x) ≤ k) → PyData.depthAll (l.map f) ≤ k
  | [], _ => Nat.zero_le _
  | x :: l, h => by
    show max (PyData.depth (f x)) (PyData.depthAll (l.map f)) ≤ k
    exact Nat.max_le.mpr ⟨h x List.mem_cons_self, depth_all fun y hy => h y (List.mem_cons_of_mem _ hy)⟩
theorem shp_str {x : Str} (h : Nm x) : SeqAt.shaped (.str x) = true := by
  show (_ && decide ((0 : Nat) ≤ 64)) = true
  rw [nm_ok h]; rfl
theorem dep_card (c : Card) : PyData.depth (pC c) ≤ 1 := by
  show max 0 (max 0 0) + 1 ≤ 1
  decide
theorem shp_names {l : List Str} (h : ∀ c ∈ l, Nm c) : SeqAt.shaped (.list (l.map PyData.str)) = true := by
  unfold SeqAt.shaped
  have e1 : PyData.canLay0 (.list (l.map PyData.str)) = true := lay_all fun c hc => nm_ok (h c hc)
  have e2 : PyData.depth (.list (l.map PyData.str)) ≤ 1 := Nat.succ_le_succ (depth_all (k := 0) fun c _ => Nat.le_refl 0)
  rw [e1, Bool.true_and]
  exact decide_eq_true (Nat.le_trans e2 (by decide))
end Sb
end
section
set_option Elab.async false
set_option linter.all false
set_option maxRecDepth 100000
set_option maxHeartbeats 4000000
namespace Sb
open PySem PySem.Spec PyProof.Rows L2
variable {K : PySem.W.Frag} {S : Sto}
/-! ## what the program's defs do -/
def isCard (S : Sto) (e : D) (c : Card) : Prop := e = dC c ∨ e = .fl [.str c.1, .int c.2] ∨ ∃ n, e = .loc n ∧ S[n]? = some (.lst [.str c.1, .int c.2])
def isDeck (S : Sto) (d : D) (l : List Card) : Prop := ∃ es : List D, (d = .tup es ∨ d = .fl es ∨ ∃ n, d = .loc n ∧ S[n]? = some (.lst es)) ∧ es.length = l.length ∧ ∀ (i : Nat) (e : D) (c : Card), es[i]? = some e → l[i]? = some c → isCard S e c
theorem isCard.app {e : D} {c : Card} {X : Sto} (h : isCard S e c) : isCard (S ++ X) e c := h.imp id fun h => h.imp id fun ⟨n, h1, h2⟩ => ⟨n, h1, pre_get h2⟩
theorem isDeck.app {d : D} {l : List Card} {X : Sto} (h : isDeck S d l) : isDeck (S ++ X) d l := by
  obtain ⟨es, h1, h2, h3⟩ := h
  exact ⟨es, h1.imp id fun h => h.imp id fun ⟨n, a, b⟩ => ⟨n, a, pre_get b⟩, h2, fun i e c a b => (h3 i e c a b).app⟩
theorem isDeck_dK (l : List Card) : isDeck S (dK l) l := ⟨l.map dC, .inl rfl, by simp, fun i e c h1 h2 => by
  rw [List.getElem?_map, h2] at h1
  cases h1
  exact .inl rfl⟩
theorem isCard.seq {e : D} {c : Card} (h : isCard S e c) : seqD S e = some [.str c.1, .int c.2] := by
  rcases h with rfl | rfl | ⟨n, rfl, h⟩
  · rfl
  · rfl
  · simp [seqD, h]
structure DeckOk (l : List Card) : Prop where
  lo : 1 ≤ l.length
  hi : l.length ≤ 40
  nm : ∀ c ∈ l, Nm c.1
  dep : ∀ c ∈ l, 0 ≤ c.2
  nd : (l.map (·.1)).Nodup
theorem is_whole_int {i : Int} : M_is_whole [.int i] S = some (.ok (.bl true) S) := by
  simp [fnM, ini, sSeq, sNop, sEx, sRt, sIf, sSet, sPut, putD, sAs, sRaise, sx, st', tB, tAn, tOr', tNt, tAll, eB, eVar, eC, eTup, eLst, eCB, eCl, eBM, eIf, eAnd, eOr, eNot, eCh, eSl, oNo, oSo, aNil, aCons, M.bnd, lft, eIs, eIs2, kindD, kb_NoneType_int, kb_NoneType_bool, kb_NoneType_str, kb_NoneType_list, kb_NoneType_tuple, kb_bool_int, kb_bool_bool, kb_bool_str, kb_bool_list, kb_bool_tuple, kb_int_int, kb_int_bool, kb_int_str, kb_int_list, kb_int_tuple, kb_str_int, kb_str_bool, kb_str_str, kb_str_list, kb_str_tuple, kb_tuple_int, kb_tuple_bool, kb_tuple_str, kb_tuple_list, kb_tuple_tuple, kb_list_int, kb_list_bool, kb_list_str, kb_list_list, kb_list_tuple, kb_dict_int, kb_dict_bool, kb_dict_str, kb_dict_list, kb_dict_tuple, truD, gI, gAdd, gSub, gMul, gMod, gDiv, gPow, gLtI, gLe, gGtI, gGeI, gIx, gLen, gLenX, gAbs, gInt, gMax, gMax2, gMin2, gTuple, gList, seqD, listD, atI, ixN, tyD, gAppend, gPopAt, gInsert, m_is_whole]
theorem is_depth_ok {i : Int} (h : 0 ≤ i) : M_is_depth [.int i] S = some (.ok (.bl true) S) := by
  simp [fnM, ini, sSeq, sNop, sEx, sRt, sIf, sSet, sPut, putD, sAs, sRaise, sx, st', tB, tAn, tOr', tNt, tAll, eB, eVar, eC, eTup, eLst, eCB, eCl, eBM, eIf, eAnd, eOr, eNot, eCh, eSl, oNo, oSo, aNil, aCons, M.bnd, lft, eIs, eIs2, kindD, kb_NoneType_int, kb_NoneType_bool, kb_NoneType_str, kb_NoneType_list, kb_NoneType_tuple, kb_bool_int, kb_bool_bool, kb_bool_str, kb_bool_list, kb_bool_tuple, kb_int_int, kb_int_bool, kb_int_str, kb_int_list, kb_int_tuple, kb_str_int, kb_str_bool, kb_str_str, kb_str_list, kb_str_tuple, kb_tuple_int, kb_tuple_bool, kb_tuple_str, kb_tuple_list, kb_tuple_tuple, kb_list_int, kb_list_bool, kb_list_str, kb_list_list, kb_list_tuple, kb_dict_int, kb_dict_bool, kb_dict_str, kb_dict_list, kb_dict_tuple, truD, gI, gAdd, gSub, gMul, gMod, gDiv, gPow, gLtI, gLe, gGtI, gGeI, gIx, gLen, gLenX, gAbs, gInt, gMax, gMax2, gMin2, gTuple, gList, seqD, listD, atI, ixN, tyD, gAppend, gPopAt, gInsert, m_is_depth, m_is_whole, h]
theorem is_listed_ok {e : D} {c : Card} (h : isCard S e c) : M_is_listed [e] S = some (.ok (.bl true) S) := by
  rcases h with rfl | rfl | ⟨n, rfl, h⟩
  · simp [fnM, ini, sSeq, sNop, sEx, sRt, sIf, sSet, sPut, putD, sAs, sRaise, sx, st', tB, tAn, tOr', tNt, tAll, eB, eVar, eC, eTup, eLst, eCB, eCl, eBM, eIf, eAnd, eOr, eNot, eCh, eSl, oNo, oSo, aNil, aCons, M.bnd, lft, eIs, eIs2, kindD, kb_NoneType_int, kb_NoneType_bool, kb_NoneType_str, kb_NoneType_list, kb_NoneType_tuple, kb_bool_int, kb_bool_bool, kb_bool_str, kb_bool_list, kb_bool_tuple, kb_int_int, kb_int_bool, kb_int_str, kb_int_list, kb_int_tuple, kb_str_int, kb_str_bool, kb_str_str, kb_str_list, kb_str_tuple, kb_tuple_int, kb_tuple_bool, kb_tuple_str, kb_tuple_list, kb_tuple_tuple, kb_list_int, kb_list_bool, kb_list_str, kb_list_list, kb_list_tuple, kb_dict_int, kb_dict_bool, kb_dict_str, kb_dict_list, kb_dict_tuple, truD, gI, gAdd, gSub, gMul, gMod, gDiv, gPow, gLtI, gLe, gGtI, gGeI, gIx, gLen, gLenX, gAbs, gInt, gMax, gMax2, gMin2, gTuple, gList, seqD, listD, atI, ixN, tyD, gAppend, gPopAt, gInsert, m_is_listed]
  · simp [fnM, ini, sSeq, sNop, sEx, sRt, sIf, sSet, sPut, putD, sAs, sRaise, sx, st', tB, tAn, tOr', tNt, tAll, eB, eVar, eC, eTup, eLst, eCB, eCl, eBM, eIf, eAnd, eOr, eNot, eCh, eSl, oNo, oSo, aNil, aCons, M.bnd, lft, eIs, eIs2, kindD, kb_NoneType_int, kb_NoneType_bool, kb_NoneType_str, kb_NoneType_list, kb_NoneType_tuple, kb_bool_int, kb_bool_bool, kb_bool_str, kb_bool_list, kb_bool_tuple, kb_int_int, kb_int_bool, kb_int_str, kb_int_list, kb_int_tuple, kb_str_int, kb_str_bool, kb_str_str, kb_str_list, kb_str_tuple, kb_tuple_int, kb_tuple_bool, kb_tuple_str, kb_tuple_list, kb_tuple_tuple, kb_list_int, kb_list_bool, kb_list_str, kb_list_list, kb_list_tuple, kb_dict_int, kb_dict_bool, kb_dict_str, kb_dict_list, kb_dict_tuple, truD, gI, gAdd, gSub, gMul, gMod, gDiv, gPow, gLtI, gLe, gGtI, gGeI, gIx, gLen, gLenX, gAbs, gInt, gMax, gMax2, gMin2, gTuple, gList, seqD, listD, atI, ixN, tyD, gAppend, gPopAt, gInsert, m_is_listed]
  · simp [fnM, ini, sSeq, sNop, sEx, sRt, sIf, sSet, sPut, putD, sAs, sRaise, sx, st', tB, tAn, tOr', tNt, tAll, eB, eVar, eC, eTup, eLst, eCB, eCl, eBM, eIf, eAnd, eOr, eNot, eCh, eSl, oNo, oSo, aNil, aCons, M.bnd, lft, eIs, eIs2, kindD, kb_NoneType_int, kb_NoneType_bool, kb_NoneType_str, kb_NoneType_list, kb_NoneType_tuple, kb_bool_int, kb_bool_bool, kb_bool_str, kb_bool_list, kb_bool_tuple, kb_int_int, kb_int_bool, kb_int_str, kb_int_list, kb_int_tuple, kb_str_int, kb_str_bool, kb_str_str, kb_str_list, kb_str_tuple, kb_tuple_int, kb_tuple_bool, kb_tuple_str, kb_tuple_list, kb_tuple_tuple, kb_list_int, kb_list_bool, kb_list_str, kb_list_list, kb_list_tuple, kb_dict_int, kb_dict_bool, kb_dict_str, kb_dict_list, kb_dict_tuple, truD, gI, gAdd, gSub, gMul, gMod, gDiv, gPow, gLtI, gLe, gGtI, gGeI, gIx, gLen, gLenX, gAbs, gInt, gMax, gMax2, gMin2, gTuple, gList, seqD, listD, atI, ixN, tyD, gAppend, gPopAt, gInsert, m_is_listed, h]
theorem is_listed_deck {d : D} {l : List Card} (h : isDeck S d l) : M_is_listed [d] S = some (.ok (.bl true) S) := by
  obtain ⟨es, h1 | h1 | ⟨n, h1, h2⟩, _⟩ := h
  · subst h1; simp [fnM, ini, sSeq, sNop, sEx, sRt, sIf, sSet, sPut, putD, sAs, sRaise, sx, st', tB, tAn, tOr', tNt, tAll, eB, eVar, eC, eTup, eLst, eCB, eCl, eBM, eIf, eAnd, eOr, eNot, eCh, eSl, oNo, oSo, aNil, aCons, M.bnd, lft, eIs, eIs2, kindD, kb_NoneType_int, kb_NoneType_bool, kb_NoneType_str, kb_NoneType_list, kb_NoneType_tuple, kb_bool_int, kb_bool_bool, kb_bool_str, kb_bool_list, kb_bool_tuple, kb_int_int, kb_int_bool, kb_int_str, kb_int_list, kb_int_tuple, kb_str_int, kb_str_bool, kb_str_str, kb_str_list, kb_str_tuple, kb_tuple_int, kb_tuple_bool, kb_tuple_str, kb_tuple_list, kb_tuple_tuple, kb_list_int, kb_list_bool, kb_list_str, kb_list_list, kb_list_tuple, kb_dict_int, kb_dict_bool, kb_dict_str, kb_dict_list, kb_dict_tuple, truD, gI, gAdd, gSub, gMul, gMod, gDiv, gPow, gLtI, gLe, gGtI, gGeI, gIx, gLen, gLenX, gAbs, gInt, gMax, gMax2, gMin2, gTuple, gList, seqD, listD, atI, ixN, tyD, gAppend, gPopAt, gInsert, m_is_listed]
  · subst h1; simp [fnM, ini, sSeq, sNop, sEx, sRt, sIf, sSet, sPut, putD, sAs, sRaise, sx, st', tB, tAn, tOr', tNt, tAll, eB, eVar, eC, eTup, eLst, eCB, eCl, eBM, eIf, eAnd, eOr, eNot, eCh, eSl, oNo, oSo, aNil, aCons, M.bnd, lft, eIs, eIs2, kindD, kb_NoneType_int, kb_NoneType_bool, kb_NoneType_str, kb_NoneType_list, kb_NoneType_tuple, kb_bool_int, kb_bool_bool, kb_bool_str, kb_bool_list, kb_bool_tuple, kb_int_int, kb_int_bool, kb_int_str, kb_int_list, kb_int_tuple, kb_str_int, kb_str_bool, kb_str_str, kb_str_list, kb_str_tuple, kb_tuple_int, kb_tuple_bool, kb_tuple_str, kb_tuple_list, kb_tuple_tuple, kb_list_int, kb_list_bool, kb_list_str, kb_list_list, kb_list_tuple, kb_dict_int, kb_dict_bool, kb_dict_str, kb_dict_list, kb_dict_tuple, truD, gI, gAdd, gSub, gMul, gMod, gDiv, gPow, gLtI, gLe, gGtI, gGeI, gIx, gLen, gLenX, gAbs, gInt, gMax, gMax2, gMin2, gTuple, gList, seqD, listD, atI, ixN, tyD, gAppend, gPopAt, gInsert, m_is_listed]
  · subst h1; simp [fnM, ini, sSeq, sNop, sEx, sRt, sIf, sSet, sPut, putD, sAs, sRaise, sx, st', tB, tAn, tOr', tNt, tAll, eB, eVar, eC, eTup, eLst, eCB, eCl, eBM, eIf, eAnd, eOr, eNot, eCh, eSl, oNo, oSo, aNil, aCons, M.bnd, lft, eIs, eIs2, kindD, kb_NoneType_int, kb_NoneType_bool, kb_NoneType_str, kb_NoneType_list, kb_NoneType_tuple, kb_bool_int, kb_bool_bool, kb_bool_str, kb_bool_list, kb_bool_tuple, kb_int_int, kb_int_bool, kb_int_str, kb_int_list, kb_int_tuple, kb_str_int, kb_str_bool, kb_str_str, kb_str_list, kb_str_tuple, kb_tuple_int, kb_tuple_bool, kb_tuple_str, kb_tuple_list, kb_tuple_tuple, kb_list_int, kb_list_bool, kb_list_str, kb_list_list, kb_list_tuple, kb_dict_int, kb_dict_bool, kb_dict_str, kb_dict_list, kb_dict_tuple, truD, gI, gAdd, gSub, gMul, gMod, gDiv, gPow, gLtI, gLe, gGtI, gGeI, gIx, gLen, gLenX, gAbs, gInt, gMax, gMax2, gMin2, gTuple, gList, seqD, listD, atI, ixN, tyD, gAppend, gPopAt, gInsert, m_is_listed, h2]
theorem letter_lt {c : Nat} (h1 : 97 ≤ c) (h2 : c ≤ 122) : gLe (.str "a") (.str ⟨#[c]⟩) S = some (.bl true, S) ∧ gLe (.str ⟨#[c]⟩) (.str "z") S = some (.bl true, S) := by
  have ea : (("a" : Str)).cps.toList = [97] := by decide +kernel
  have ez : (("z" : Str)).cps.toList = [122] := by decide +kernel
  constructor
  · simp only [gLe, ea]
    have : ¬ ([c] < [97]) := by
      intro h
      rcases List.cons_lt_cons_iff.mp h with h | ⟨_, h⟩
      · omega
      · exact absurd h (by simp)
    simp [this]
  · simp only [gLe, ez]
    have : ¬ ([122] < [c]) := by
      intro h
      rcases List.cons_lt_cons_iff.mp h with h | ⟨_, h⟩
      · omega
      · exact absurd h (by simp)
    simp [this]
theorem is_name_ok {x : Str} (h : Nm x) : M_is_name [.str x] S = some (.ok (.bl true) S) := by
  have h1 := h.lo
  have h2 := h.hi
  have hs : x.length ≤ sizeLine := by rw [sizeLine_eq]; show x.cps.size ≤ _; omega
  have hl1 : (1 : Int) ≤ (x.length : Int) := by show (1 : Int) ≤ (x.cps.size : Int); omega
  have hl2 : (x.length : Int) ≤ 8 := by show (x.cps.size : Int) ≤ 8; omega
  have loop := goA_inv (g := tN 1) (k := 2) (fe := eCh gLe gLe (eC (.str "a")) (eVar 1) (eC (.str "z"))) (nxt := fun i _ => some ((x.cps[i]?).map fun c => .str ⟨#[c]⟩)) (n := x.cps.size)
    (fun _ S' => S' = S) (fun i => .str ⟨#[x.cps.getD i 0]⟩) (fun i S' hi e => ?_) (fun S' e => by simp) (x.cps.size + 1) 0 S (Nat.zero_le _) (by omega) rfl
  · obtain ⟨S', e1, rfl⟩ := loop
    simp [fnM, ini, sSeq, sNop, sEx, sRt, sIf, sSet, sPut, putD, sAs, sRaise, sx, st', tB, tAn, tOr', tNt, tAll, eB, eVar, eC, eTup, eLst, eCB, eCl, eBM, eIf, eAnd, eOr, eNot, eCh, eSl, oNo, oSo, aNil, aCons, M.bnd, lft, eIs, eIs2, kindD, kb_NoneType_int, kb_NoneType_bool, kb_NoneType_str, kb_NoneType_list, kb_NoneType_tuple, kb_bool_int, kb_bool_bool, kb_bool_str, kb_bool_list, kb_bool_tuple, kb_int_int, kb_int_bool, kb_int_str, kb_int_list, kb_int_tuple, kb_str_int, kb_str_bool, kb_str_str, kb_str_list, kb_str_tuple, kb_tuple_int, kb_tuple_bool, kb_tuple_str, kb_tuple_list, kb_tuple_tuple, kb_list_int, kb_list_bool, kb_list_str, kb_list_list, kb_list_tuple, kb_dict_int, kb_dict_bool, kb_dict_str, kb_dict_list, kb_dict_tuple, truD, gI, gAdd, gSub, gMul, gMod, gDiv, gPow, gLtI, gLe, gGtI, gGeI, gIx, gLen, gLenX, gAbs, gInt, gMax, gMax2, gMin2, gTuple, gList, seqD, listD, atI, ixN, tyD, gAppend, gPopAt, gInsert, m_is_name, hs, hl1, hl2, eAll, iSeq, wkD, e1]
  · subst e
    refine ⟨by simp [hi, Array.getD], _, S', rfl, ?_, rfl⟩
    have hm : x.cps.getD i 0 ∈ x.cps.toList := by simp [Array.getD, hi]
    obtain ⟨a, b⟩ := letter_lt (S := S') (h.let_ _ hm).1 (h.let_ _ hm).2
    generalize x.cps.getD i 0 = c at a b ⊢
    simp [eCh, eC, eVar, M.bnd, a, b, lft]
theorem is_card_ok {e : D} {c : Card} (h : isCard S e c) (hn : Nm c.1) (hd : 0 ≤ c.2) : M_is_card [e] S = some (.ok (.bl true) S) := by
  have hq := h.seq
  have e1 := is_listed_ok h
  have e2 := is_name_ok (S := S) hn
  have e3 := is_depth_ok (S := S) hd
  have g0 : gLenX [e] S = some (.int 2, S) := by
    rcases h with rfl | rfl | ⟨n, rfl, h⟩
    · rfl
    · rfl
    · simp [gLenX, gLen, seqD, h]
  have g1 : gIx e (.int 0) S = some (.str c.1, S) := by
    rcases h with rfl | rfl | ⟨n, rfl, h⟩
    · rfl
    · rfl
    · simp [gIx, seqD, h, atI, ixN]
  have g2 : gIx e (.int 1) S = some (.int c.2, S) := by
    rcases h with rfl | rfl | ⟨n, rfl, h⟩
    · rfl
    · rfl
    · simp [gIx, seqD, h, atI, ixN]
  have g3 : gEq true (.int 2) (.int 2) S = some (.bl false, S) := by
    have z : SeqAt.shaped (.int 2) = true := by decide +kernel
    have z2 : PyData.eqv (.int 2) (.int 2) = true := by decide +kernel
    simp [gEq, toPy, z, z2]
  simp [fnM, ini, m_is_card, sSeq, sIf, st', tOr', tNt, tB, eCl, aCons, aNil, M.bnd, eVar, e1, eB, eCB, g0, g1, g2, g3, lft, eC, sNop, sRt, sx, eAnd, e2, e3, truD]
theorem seq_deck {d : D} {l : List Card} (h : isDeck S d l) : ∃ (es : List D) (nn : Nat → Sto → Option (Option D)), seqD S d = some es ∧ es.length = l.length ∧ (∀ (i : Nat) (e : D) (c : Card), es[i]? = some e → l[i]? = some c → isCard S e c) ∧ gLenX [d] S = some (.int l.length, S) ∧
    (∀ X, wkD (S ++ X) d = some ⟨es.length, nn⟩) ∧ ∀ X i, nn i (S ++ X) = some es[i]? := by
  obtain ⟨es, h1 | h1 | ⟨n, h1, h2⟩, h3, h4⟩ := h
  · subst h1
    exact ⟨es, fun i _ => some es[i]?, rfl, h3, h4, by rw [← h3]; rfl, fun X => rfl, fun _ _ => rfl⟩
  · subst h1
    exact ⟨es, fun i _ => some es[i]?, rfl, h3, h4, by rw [← h3]; rfl, fun X => rfl, fun _ _ => rfl⟩
  · subst h1
    refine ⟨es, fun i S => (seqD S (.loc n)).map fun es => es[i]?, by simp [seqD, h2], h3, h4, by simp [gLenX, gLen, seqD, h2, h3], fun X => ?_, fun X i => ?_⟩
    · simp [wkD, seqD, pre_get h2]
    · simp [seqD, pre_get h2]
theorem set_last (S : Sto) (o o' : Ob) : List.set (S ++ [o]) (List.length S) o' = S ++ [o'] := by
  induction S with
  | nil => rfl
  | cons a r ih => simpa using ih
theorem set_last2 (S : Sto) (o1 o o' : Ob) : List.set (S ++ [o1] ++ [o]) (List.length S + 1) o' = S ++ [o1] ++ [o'] := by
  have := set_last (S ++ [o1]) o o'
  simpa using this
theorem get_last (S : Sto) (a : Ob) : (S ++ [a] : Sto)[List.length S]? = some a := by
  induction S with
  | nil => rfl
  | cons x r ih => simpa using ih
theorem get_last2 (S : Sto) (a b : Ob) : (S ++ [a] ++ [b] : Sto)[List.length S + 1]? = some b := by
  induction S with
  | nil => rfl
  | cons x r ih => simpa using ih
theorem app2 (S : Sto) (a b : Ob) : (S ++ [a, b] : Sto) = S ++ [a] ++ [b] := by
  induction S with
  | nil => rfl
  | cons x r ih => simpa using ih
theorem getElem_lt {α : Type} [Inhabited α] {l : List α} {i : Nat} (h : i < l.length) : l[i]? = some (l.getD i default) := by
  rw [List.getD_eq_getElem?_getD, List.getElem?_eq_getElem h]; rfl
theorem deck_of_okB {d : D} {l : List Card} (h : isDeck S d l) (ok : DeckOk l) : ∃ X, M_deck_of K [d] S = some (.ok (dK l) (S ++ X)) ∧ ∀ o ∈ X, bdO 0 o = true := by
  obtain ⟨es, nn, hq, hlen, hc, hL, hw, hnx⟩ := seq_deck h
  have hL2 := is_listed_deck h
  have lo := ok.lo
  have hi := ok.hi
  have a1 : (1 : Int) ≤ (l.length : Int) := by omega
  have a2 : (l.length : Int) ≤ 40 := by omega
  have hw0 := hw []
  rw [List.append_nil] at hw0
  have hnx0 := hnx []
  rw [List.append_nil] at hnx0
  -- all are cards
  have L1 := goA_inv (g := tN 1) (k := 5) (fe := eCl M_is_card 1 (aCons (eVar 1) aNil)) (nxt := nn) (n := es.length) (fun _ S' => S' = S) (fun i => es.getD i default)
    (fun i S' hi' e => by
      subst e
      have e1 := getElem_lt hi'
      refine ⟨(hnx0 i).trans (by rw [e1]), _, S', rfl, ?_, rfl⟩
      have hi2 : i < l.length := by omega
      have e2 := List.getElem?_eq_getElem hi2
      have ic := hc i _ _ e1 e2
      have mem := List.getElem_mem hi2
      have := is_card_ok ic (ok.nm _ mem) (ok.dep _ mem)
      generalize es.getD i default = ee at this ⊢
      simp [eCl, aCons, aNil, M.bnd, eVar, this]) (fun S' e => by subst e; rw [hnx0]; simp) (es.length + 1) 0 S (Nat.zero_le _) (by omega) rfl
  obtain ⟨S1, L1, rfl⟩ := L1
  -- the cards
  have L2 := goC_inv (g := tN2 3 4) (t := tAll) (fe := eTup (aCons (eVar 3) (aCons (eVar 4) aNil))) (l := S1.length) (τ0 := [some d, none, none, none, none]) (nxt := nn) (n := es.length)
    (fun i S' => S' = S1 ++ [.lst ((l.take i).map dC)]) (fun i => es.getD i default)
    (fun i S' hi' e => by
      subst e
      have e1 := getElem_lt hi'
      have hi2 : i < l.length := by omega
      have e2 := List.getElem?_eq_getElem hi2
      have ic := hc i _ _ e1 e2
      have mem := List.getElem_mem hi2
      refine ⟨(hnx _ i).trans (by rw [e1]), [some d, none, none, some (.str (l[i]).1), some (.int (l[i]).2)], ?_, .inr ⟨S1 ++ [.lst ((l.take i).map dC)], dC l[i], S1 ++ [.lst ((l.take i).map dC)], (l.take i).map dC, rfl, ?_, ?_, ?_, ?_⟩⟩
      · have iq := (ic.app (X := [.lst ((l.take i).map dC)])).seq
        generalize es.getD i default = ee at iq ⊢
        simp only [tN2, iq]
        rfl
      · have hz : 2 ≤ sizeLine := by rw [sizeLine_eq]; decide
        simp [eTup, aCons, aNil, M.bnd, eVar, hz]
      · simp
      · have hz := sizeLine_eq
        simp only [List.length_map, List.length_take]; omega
      · rw [set_last]
        rw [show (l.take (i + 1)) = l.take i ++ [l[i]] from by rw [List.take_append_getElem hi2], List.map_append]
        rfl) (fun S' e => by subst e; rw [hnx]; simp) (es.length + 1) 0 (S1 ++ [.lst []]) (Nat.zero_le _) (by omega) (by simp)
  obtain ⟨S2, L2, rfl⟩ := L2
  have htk : l.take es.length = l := by rw [hlen]; exact List.take_length
  rw [htk] at L2
  -- unlike names
  have L3 := goK_inv (g := tN 1) (fe := eB gIx (eVar 1) (eC (.int 0))) (l := S1.length + 1) (τ0 := [some d, none, some (dK l), none, none]) (nxt := fun i _ => some (l.map dC)[i]?) (n := l.length)
    (fun i S' => ∃ ms, S' = S1 ++ [.lst (l.map dC)] ++ [.ks ms i] ∧ ∀ k, ms k = true → ∃ c ∈ l.take i, k = .inr c.1) (fun i => (l.map dC).getD i default)
    (fun i S' hi' ⟨ms, e, hM⟩ => by
      subst e
      have e2 := List.getElem?_eq_getElem hi'
      have e3 : (l.map dC).getD i default = dC l[i] := by rw [List.getD_eq_getElem?_getD, List.getElem?_map, e2]; rfl
      rw [e3]
      have nM : ms (.inr l[i].1) = false := by
        cases q : ms (.inr l[i].1) with
        | false => rfl
        | true =>
          obtain ⟨c, hc1, hc2⟩ := hM _ q
          have e4 : c.1 = l[i].1 := (Sum.inr.inj hc2).symm
          obtain ⟨j, hj, ej⟩ := List.getElem_of_mem hc1
          rw [List.length_take] at hj
          rw [List.getElem_take] at ej
          have nd := ok.nd
          have := (List.getElem_inj (xs := l.map (·.1)) (i := j) (j := i) (h₀ := by simp; omega) (h₁ := by simp; omega) nd).mp (by simp [ej, e4])
          omega
      refine ⟨by simp [e2], [some d, some (dC l[i]), some (dK l), none, none], .str l[i].1, S1 ++ [.lst (l.map dC)] ++ [.ks ms i], .inr l[i].1, ms, i, rfl, ?_, rfl, ?_, ?_, ?_⟩
      · simp [eB, eVar, eC, M.bnd, gIx, seqD, atI, ixN, lft]
      · rw [List.getElem?_append_right (by simp)]; simp
      · have : 41 < scanBound := by decide
        omega
      · refine ⟨fun j => ms j || decide (j = .inr l[i].1), ?_, fun k hk => ?_⟩
        · rw [set_last2, nM]
          rfl
        · rw [show (l.take (i + 1)) = l.take i ++ [l[i]] from by rw [List.take_append_getElem hi']]
          rw [Bool.or_eq_true, decide_eq_true_eq] at hk
          rcases hk with hk | hk
          · obtain ⟨c, h1, h2⟩ := hM k hk
            exact ⟨c, List.mem_append_left _ h1, h2⟩
          · exact ⟨l[i], List.mem_append_right _ (by simp), hk⟩) (fun S' _ => by simp) (l.length + 1) 0 (S1 ++ [.lst (l.map dC)] ++ [.ks (fun _ => false) 0]) (Nat.zero_le _) (by omega) ⟨_, rfl, fun k hk => by cases hk⟩
  obtain ⟨S3, L3, ms, rfl, _⟩ := L3
  refine ⟨[.lst (l.map dC), .ks ms l.length], ?_, fun o ho => ?_⟩
  rotate_left
  · rcases List.mem_cons.mp ho with q | q
    · subst q
      have : ∀ l : List Card, bds 0 (l.map dC) = true := fun l => by
        induction l with
        | nil => rfl
        | cons c r ih => simp only [List.map_cons, bds, ih, Bool.and_true]; rfl
      exact this l
    · simp at q; subst q; rfl
  have g1 : gTuple [.loc S1.length] (S1 ++ [.lst (l.map dC)]) = some (dK l, S1 ++ [.lst (l.map dC)]) := by simp [gTuple, seqD]
  have g2 : gLenX [.loc (S1.length + 1)] (S1 ++ [.lst (l.map dC)] ++ [.ks ms l.length]) = some (.int l.length, S1 ++ [.lst (l.map dC)] ++ [.ks ms l.length]) := by
    have : ((l.length : Nat) : Int) < 2 ^ 63 := by omega
    unfold gLenX
    simp only [get_last2]
    rw [if_pos this]
  rw [← app2, ← app2] at L3
  rw [← app2] at g2
  simp only [List.getElem?_map] at L3
  have g3 : ∀ S : Sto, gLenX [dK l] S = some (.int l.length, S) := fun S => by simp [gLenX, gLen, seqD]
  have gl : ∀ S : Sto, gLtI (.int l.length) (.int l.length) S = some (.bl false, S) := fun S => by simp [gLtI, gI]
  have gc1 : ∀ S : Sto, gLe (.int 1) (.int l.length) S = some (.bl true, S) := fun S => by simp [gLe, a1]
  have gc2 : ∀ S : Sto, gLe (.int l.length) (.int 40) S = some (.bl true, S) := fun S => by simp [gLe, a2]
  have w3 : ∀ S : Sto, wkD S (dK l) = some ⟨l.length, fun i _ => some (l.map dC)[i]?⟩ := fun S => by simp [wkD]
  simp [fnM, ini, m_deck_of, sSeq, sIf, st', tOr', tNt, tB, eCl, aCons, aNil, M.bnd, eVar, hL2, eCh, eC, eCB, hL, gc1, gc2, lft, sNop, eAll, iSeq, hw0, L1, sSet, sx, eLc, wipeD, L2, g1, eB, eSc, w3, L3, g2, g3, gl, sRt]
theorem deck_of_ok {d : D} {l : List Card} (h : isDeck S d l) (ok : DeckOk l) : ∃ X, M_deck_of K [d] S = some (.ok (dK l) (S ++ X)) := by
  obtain ⟨X, e, _⟩ := deck_of_okB (K := K) h ok
  exact ⟨X, e⟩
end Sb
end
section
set_option Elab.async false
set_option linter.all false
set_option maxRecDepth 100000
set_option maxHeartbeats 4000000
namespace Sb
open PySem PySem.Spec PyProof.Rows L2
variable {K : PySem.W.Frag} {S : Sto}
def stp : List Card → List Card
  | [] => []
  | c :: r => r.take (min c.2.toNat r.length) ++ c :: r.drop (min c.2.toNat r.length)
theorem stp_perm : ∀ l, (stp l).Perm l
  | [] => .refl _
  | c :: r => by
    unfold stp
    refine List.perm_middle.trans (List.Perm.cons c ?_)
    rw [List.take_append_drop]
theorem stp_ok {l : List Card} (h : DeckOk l) : DeckOk (stp l) := by
  have p := stp_perm l
  refine ⟨by rw [p.length_eq]; exact h.lo, by rw [p.length_eq]; exact h.hi, fun c hc => h.nm c (p.mem_iff.mp hc), fun c hc => h.dep c (p.mem_iff.mp hc), ?_⟩
  exact (p.map (·.1)).nodup_iff.mpr h.nd
def stps : Nat → List Card → List Card
  | 0, l => l
  | n + 1, l => stp (stps n l)
theorem stps_ok {l : List Card} (h : DeckOk l) : ∀ n, DeckOk (stps n l)
  | 0 => h
  | n + 1 => stp_ok (stps_ok h n)
theorem DeckOk.cons {l : List Card} (h : DeckOk l) : ∃ c r, l = c :: r ∧ r.length ≤ 39 ∧ 0 ≤ c.2 ∧ Nm c.1 := by
  cases l with
  | nil => exact absurd h.lo (by simp)
  | cons c r => exact ⟨c, r, rfl, by have := h.hi; simp at this; omega, h.dep c (by simp), h.nm c (by simp)⟩
theorem cut_nat {l : List Card} {a b : Nat} : cutD (l.map dC) (some (a : Int)) (some (b : Int)) = ((l.drop (min a l.length)).take (min b l.length - min a l.length)).map dC := by
  unfold cutD
  rw [HT.sIx_nat, HT.sIx_nat, List.length_map, ← List.map_drop, ← List.map_take]
theorem cut_from {l : List Card} {a : Nat} : cutD (l.map dC) (some (a : Int)) none = (l.drop a).map dC := by
  unfold cutD
  rw [HT.sIx_nat, HT.sIx_none, List.length_map, ← List.map_drop, ← List.map_take]
  congr 1
  by_cases h : a ≤ l.length
  · rw [Nat.min_eq_left h, List.take_of_length_le (by simp)]
  · rw [Nat.min_eq_right (by omega), List.drop_of_length_le (by omega), List.drop_of_length_le (by omega)]; simp
theorem cut_to {l : List Card} {b : Nat} : cutD (l.map dC) none (some (b : Int)) = (l.take b).map dC := by
  unfold cutD
  rw [HT.sIx_nat, HT.sIx_none, List.length_map, List.drop_zero, Nat.sub_zero, ← List.map_take]
  congr 1
  by_cases h : b ≤ l.length
  · rw [Nat.min_eq_left h]
  · rw [Nat.min_eq_right (by omega), List.take_of_length_le (by omega), List.take_of_length_le (by omega)]
theorem reach_ok {c : Card} {n : Int} : M_reach_of [dC c, .int n] S = some (.ok (.int (if n - 1 < c.2 then n - 1 else c.2)) S) := by
  simp [fnM, ini, sSeq, sNop, sEx, sRt, sIf, sSet, sPut, putD, sAs, sRaise, sx, st', tB, tAn, tOr', tNt, tAll, eB, eVar, eC, eTup, eLst, eCB, eCl, eBM, eIf, eAnd, eOr, eNot, eCh, eSl, oNo, oSo, aNil, aCons, M.bnd, lft, eIs, eIs2, kindD, kb_NoneType_int, kb_NoneType_bool, kb_NoneType_str, kb_NoneType_list, kb_NoneType_tuple, kb_bool_int, kb_bool_bool, kb_bool_str, kb_bool_list, kb_bool_tuple, kb_int_int, kb_int_bool, kb_int_str, kb_int_list, kb_int_tuple, kb_str_int, kb_str_bool, kb_str_str, kb_str_list, kb_str_tuple, kb_tuple_int, kb_tuple_bool, kb_tuple_str, kb_tuple_list, kb_tuple_tuple, kb_list_int, kb_list_bool, kb_list_str, kb_list_list, kb_list_tuple, kb_dict_int, kb_dict_bool, kb_dict_str, kb_dict_list, kb_dict_tuple, truD, gI, gAdd, gSub, gMul, gMod, gDiv, gPow, gLtI, gLe, gGtI, gGeI, gIx, gLen, gLenX, gAbs, gInt, gMax, gMax2, gMin2, gTuple, gList, seqD, listD, atI, ixN, tyD, gAppend, gPopAt, gInsert, m_reach_of]
theorem len_deck {l : List Card} : gLenX [dK l] S = some (.int l.length, S) := by simp [gLenX, gLen, seqD]
theorem tup_add {l m : List Card} (h : l.length + m.length ≤ 100) : gAdd (dK l) (dK m) S = some (dK (l ++ m), S) := by
  have : l.length + m.length ≤ sizeLine := by rw [sizeLine_eq]; omega
  simp [gAdd, this]
theorem sl_deck {l : List Card} {lo hi : Option Int} {m : List Card} (h : cutD (l.map dC) lo hi = m.map dC) : gSl (dK l) lo hi S = some (dK m, S) := by
  simp only [gSl, h]
theorem rch_eq {c : Card} {r : List Card} (h : 0 ≤ c.2) : (if ((r.length + 1 : Nat) : Int) - 1 < c.2 then ((r.length + 1 : Nat) : Int) - 1 else c.2) = ((min c.2.toNat r.length : Nat) : Int) := by
  split <;> omega
theorem step_ok {l : List Card} (h : DeckOk l) : M_step_of [dK l] S = some (.ok (dK (stp l)) S) := by
  obtain ⟨c, r, rfl, h1, h2, _⟩ := h.cons
  have e0 : gIx (dK (c :: r)) (.int 0) S = some (dC c, S) := by simp [gIx, seqD, atI, ixN]
  have e1 := reach_ok (S := S) (c := c) (n := ((r.length + 1 : Nat) : Int))
  rw [rch_eq h2] at e1
  have eL := len_deck (S := S) (l := c :: r)
  rw [List.length_cons] at eL
  generalize hk : min c.2.toNat r.length = k at e1
  have hkl : k ≤ r.length := by omega
  have a1 : gAdd (.int (k : Int)) (.int 1) S = some (.int ((k + 1 : Nat) : Int), S) := by simp [gAdd]
  have s1 : gSl (dK (c :: r)) (some 1) (some ((k + 1 : Nat) : Int)) S = some (dK (r.take k), S) := sl_deck (by
    have := cut_nat (l := c :: r) (a := 1) (b := k + 1)
    rw [show ((1 : Nat) : Int) = 1 from rfl] at this
    rw [this, List.length_cons, Nat.min_eq_left (by omega : 1 ≤ r.length + 1), Nat.min_eq_left (by omega : k + 1 ≤ r.length + 1)]
    simp)
  have s2 : gSl (dK (c :: r)) none (some 1) S = some (dK [c], S) := sl_deck (by
    have := cut_to (l := c :: r) (b := 1)
    rw [show ((1 : Nat) : Int) = 1 from rfl] at this
    rw [this]; simp)
  have s3 : gSl (dK (c :: r)) (some ((k + 1 : Nat) : Int)) none S = some (dK (r.drop k), S) := sl_deck (by rw [cut_from]; simp)
  have t1 : gAdd (dK (r.take k)) (dK [c]) S = some (dK (r.take k ++ [c]), S) := tup_add (by simp; omega)
  have t2 : gAdd (dK (r.take k ++ [c])) (dK (r.drop k)) S = some (dK (r.take k ++ [c] ++ r.drop k), S) := tup_add (by simp; omega)
  have e9 : stp (c :: r) = r.take k ++ [c] ++ r.drop k := by simp only [stp, hk, List.append_assoc, List.singleton_append]
  rw [e9]
  generalize dK (c :: r) = d at *
  generalize dC c = cc at *
  generalize dK (r.take k) = d1 at *
  generalize dK [c] = d2 at *
  generalize dK (r.drop k) = d3 at *
  generalize dK (r.take k ++ [c]) = d4 at *
  generalize dK (r.take k ++ [c] ++ r.drop k) = d5 at *
  generalize ((k + 1 : Nat) : Int) = kk at *
  generalize ((r.length + 1 : Nat) : Int) = nn at *
  refine fnM_rt ?_
  simp [ini, m_step_of, sSeq, sSet, sx, eCl, aCons, aNil, eB, eVar, eC, M.bnd, lft, e0, e1, eL, eCB, sRt, eSl, oSo, oNo, a1, s1, s2, s3, t1, t2]
end Sb
end
section
set_option Elab.async false
set_option linter.all false
set_option maxRecDepth 100000
set_option maxHeartbeats 4000000
namespace Sb
open PySem PySem.Spec PyProof.Rows L2
variable {K : PySem.W.Frag} {S : Sto}
theorem rg_nxt {n i : Nat} {S : Sto} (h : i < n) : (wkR 0 n).nxt i S = some (some (.int (i : Nat))) := by
  simp only [wkR, if_pos h, Int.zero_add]
theorem rg_end {n : Nat} {S : Sto} : (wkR 0 n).nxt n S = some none := by simp [wkR]
end Sb
end
section
set_option Elab.async false
set_option linter.all false
set_option maxRecDepth 100000
set_option maxHeartbeats 4000000
namespace Sb
open PySem PySem.Spec PyProof.Rows L2
variable {K : PySem.W.Frag} {S : Sto}
end Sb
end
section
set_option Elab.async false
set_option linter.all false
set_option maxRecDepth 100000
set_option maxHeartbeats 4000000
namespace Sb
open PySem PySem.Spec PyProof.Rows L2
variable {K : PySem.W.Frag} {S : Sto}
/-! ### letters, words -/
def nmB (x : Str) : Bool := decide (1 ≤ x.cps.size) && decide (x.cps.size ≤ 8) && x.cps.toList.all fun c => decide (97 ≤ c) && decide (c ≤ 122)
theorem nm_of {x : Str} (h : nmB x = true) : Nm x := by
  simp only [nmB, Bool.and_eq_true, decide_eq_true_eq, List.all_eq_true] at h
  exact ⟨h.1.1, h.1.2, h.2⟩
abbrev one (c : Nat) : Str := ⟨#[c]⟩
/-- the state that a list is being filled in at l, draws of the spring at n -/
structure Fil (n k : Nat) (S1 S' : Sto) (l : Nat) (acc : List D) : Prop where
  fr : Fr n S1 S'
  sp : Spr n k S'
  at_ : S'[l]? = some (.lst acc)
theorem Fil.put {n k l : Nat} {S1 S2 S' : Sto} {acc : List D} {d : D} (f : Fil n k S1 S2 l acc) (hl : S1.length ≤ l) (hn : n ≠ l) : Fil n k S1 (S2.set l (.lst (acc ++ [d]))) l (acc ++ [d]) := by
  obtain ⟨fr, sp, a⟩ := f
  have hl2 := (List.getElem?_eq_some_iff.mp a).1
  refine ⟨⟨by simpa using fr.le, fun i h1 h2 => ?_⟩, ?_, List.getElem?_set_self hl2⟩
  · rw [List.getElem?_set_ne (by omega)]; exact fr.at_ i h1 h2
  · obtain ⟨x, y, z, e, r⟩ := sp
    exact ⟨x, y, z, by rw [List.getElem?_set_ne (Ne.symm hn)]; exact e, r⟩
theorem Spr.fr {n k : Nat} {S S' : Sto} (h : Spr n k S) (e : S'[n]? = S[n]?) : Spr n k S' := by
  obtain ⟨a, b, c, q, r⟩ := h
  exact ⟨a, b, c, e.trans q, r⟩
end Sb
end
section
set_option Elab.async false
set_option linter.all false
set_option maxRecDepth 100000
set_option maxHeartbeats 4000000
namespace Sb
open PySem PySem.Spec PyProof.Rows L2
variable {K : PySem.W.Frag} {S : Sto}
/-! ### the spare names -/
/-! ### a name that is not there yet -/
end Sb
end
section
set_option Elab.async false
set_option linter.all false
set_option maxRecDepth 100000
set_option maxHeartbeats 4000000
namespace Sb
open PySem PySem.Spec PyProof.Rows L2
variable {K : PySem.W.Frag} {S : Sto}
theorem Fr.set {n f : Nat} {S S' : Sto} {o : Ob} (h : Fr n S S') (hf : S.length ≤ f) : Fr n S (S'.set f o) := ⟨by simpa using h.le, fun i h1 h2 => by
  rw [List.getElem?_set_ne (by omega)]; exact h.at_ i h1 h2⟩
theorem Spr.set {n k f : Nat} {S : Sto} {o : Ob} (h : Spr n k S) (hf : f ≠ n) : Spr n k (S.set f o) := h.fr (List.getElem?_set_ne hf)
theorem ty_list {f : Nat} {acc : List D} (hf : S[f]? = some (.lst acc)) : tyD S "list" (.loc f) = true := by simp [tyD, hf]
theorem Fr.lst {n f : Nat} {S S' : Sto} {acc : List D} (h : Fr n S S') (hf : S[f]? = some (.lst acc)) (hn : f ≠ n) : S'[f]? = some (.lst acc) := h.get hf hn
end Sb
end
section
set_option Elab.async false
set_option linter.all false
set_option maxRecDepth 100000
set_option maxHeartbeats 4000000
namespace Sb
open PySem PySem.Spec PyProof.Rows L2
variable {K : PySem.W.Frag} {S : Sto}
theorem gAdd_i {i j : Int} : gAdd (.int i) (.int j) S = some (.int (i + j), S) := rfl
theorem gSub_i {i j : Int} : gSub (.int i) (.int j) S = some (.int (i - j), S) := by simp [gSub, gI]
end Sb
end
section
set_option Elab.async false
set_option linter.all false
set_option maxRecDepth 100000
set_option maxHeartbeats 4000000
namespace Sb
open PySem PySem.Spec PyProof.Rows L2
variable {K : PySem.W.Frag} {S : Sto}
/-! ### decks alike but for what no step sees -/
theorem stp_len (l : List Card) : (stp l).length = l.length := (stp_perm l).length_eq
theorem stps_len (l : List Card) : ∀ n, (stps n l).length = l.length
  | 0 => rfl
  | n + 1 => (stp_len _).trans (stps_len l n)
/-! ### other names -/
theorem stps_ne {l : List Card} (h : l ≠ []) (n : Nat) : ∃ c r, stps n l = c :: r := by
  cases e : stps n l with
  | nil =>
    have := stps_len l n
    rw [e] at this
    exact absurd (List.length_eq_zero_iff.mp this.symm) h
  | cons c r => exact ⟨c, r, rfl⟩
theorem stps_mem {l : List Card} (n : Nat) (c : Card) : c ∈ stps n l → c ∈ l := by
  induction n with
  | zero => exact id
  | succ n ih => exact fun h => ih ((stp_perm _).mem_iff.mp h)
/-! ### calls: a dict of names -/
/-! ### the card laid in -/
theorem ix_deck {l : List Card} {i : Nat} {c : Card} (h : l[i]? = some c) : gIx (dK l) (.int i) S = some (dC c, S) := by
  have hi := (List.getElem?_eq_some_iff.mp h).1
  have h1 : (0 : Int) ≤ (i : Int) := by omega
  have h2 : (i : Int) < ((l.map dC).length : Int) := by simp; omega
  simp only [gIx, seqD, Option.bind_some, atI, ixN, if_pos h1, if_pos h2, Int.toNat_natCast, List.getElem?_map, h, Option.map_some]
theorem ix_name {c : Card} : gIx (dC c) (.int 0) S = some (.str c.1, S) := by simp [gIx, seqD, atI, ixN]
end Sb
namespace Sb
open PySem PySem.Spec PyProof.Rows L2
variable {K : PySem.W.Frag} {S : Sto}
end Sb
end
section
set_option Elab.async false
set_option linter.all false
set_option maxRecDepth 100000
set_option maxHeartbeats 4000000
namespace Sb
open PySem PySem.Spec PyProof.Rows L2 PySem.W
variable {K : PySem.W.Frag} {S : Sto}
/-! ### rows put together -/
theorem stps_add (l : List Card) (a : Nat) : ∀ b, stps b (stps a l) = stps (a + b) l
  | 0 => rfl
  | b + 1 => by
    show stp (stps b (stps a l)) = stp (stps (a + b) l)
    rw [stps_add l a b]
/-! ### a card beneath that nothing reaches -/
theorem stp_last {l : List Card} {z : Card} (hne : l ≠ []) (h : ∀ c ∈ l, c.2 ≤ (l.length : Int) - 1) : stp (l ++ [z]) = stp l ++ [z] := by
  cases l with
  | nil => exact absurd rfl hne
  | cons c r =>
    have hc := h c List.mem_cons_self
    rw [List.length_cons] at hc
    have k1 : min c.2.toNat (r ++ [z]).length = c.2.toNat := by rw [List.length_append, List.length_singleton]; omega
    have k2 : min c.2.toNat r.length = c.2.toNat := by omega
    have k3 : c.2.toNat ≤ r.length := by omega
    show (r ++ [z]).take (min c.2.toNat (r ++ [z]).length) ++ c :: (r ++ [z]).drop (min c.2.toNat (r ++ [z]).length) = (r.take (min c.2.toNat r.length) ++ c :: r.drop (min c.2.toNat r.length)) ++ [z]
    rw [k1, k2, List.take_append_of_le_length k3, List.drop_append_of_le_length k3]
    simp
theorem stps_last {l : List Card} {z : Card} (hne : l ≠ []) (h : ∀ c ∈ l, c.2 ≤ (l.length : Int) - 1) : ∀ n, stps n (l ++ [z]) = stps n l ++ [z]
  | 0 => rfl
  | n + 1 => by
    show stp (stps n (l ++ [z])) = stp (stps n l) ++ [z]
    rw [stps_last hne h n]
    obtain ⟨c, r, e⟩ := stps_ne hne n
    refine stp_last (by rw [e]; simp) fun c hc => ?_
    rw [stps_len]
    exact h c (stps_mem n c hc)
/-! ### sorted -/
/-! ### the greatest of a list -/
/-! ### find_place -/
theorem gEq_str {neg : Bool} {a b : Str} (ha : Nm a) (hb : Nm b) : gEq neg (.str a) (.str b) S = some (.bl (if neg then !decide (a = b) else decide (a = b)), S) := by
  unfold gEq
  rw [toPy_str 7, toPy_str 7]
  simp only [shp_str ha, shp_str hb, and_self, if_true, eqv_str]
theorem gEq_int {neg : Bool} {a b : Int} : gEq neg (.int a) (.int b) S = some (.bl (if neg then !decide (a = b) else decide (a = b)), S) := by
  unfold gEq
  rw [toPy_int 7, toPy_int 7]
  have s1 : ∀ a : Int, SeqAt.shaped (.int a) = true := fun _ => rfl
  have s3 : PyData.eqv (.int a) (.int b) = decide (a = b) := by
    show (a == b) = _
    rfl
  simp only [s1, and_self, if_true, s3]
theorem place_go {l : List Card} {x : Str} {d : D} (nm : ∀ c ∈ l, Nm c.1) (hx : Nm x) {i : Nat} (hi : i < l.length) (ex : l[i].1 = x) (hno : ∀ (j : Nat) (h : j < i), l[j].1 ≠ x) : ∀ (m j : Nat) (y2 y3 : Option D), j ≤ i → i - j < m →
    goF (wkE (l.map dC)).nxt (tN2 2 3) (sIf (tB (eB (gEq false) (eB gIx (eVar 3) (eC (.int 0))) (eVar 1))) (sRt (eVar 2)) (sNop)) m j [some d, some (.str x), y2, y3] S = some (.rt (.int (i : Nat)), S)
  | 0, _, _, _, _, h => absurd h (Nat.not_lt_zero _)
  | m + 1, j, y2, y3, hj, hm => by
    have hjl : j < l.length := by omega
    have e1 : (wkE (l.map dC)).nxt j S = some (some (.tup [.int (j : Nat), dC l[j]])) := by
      simp only [wkE, List.getElem?_map, List.getElem?_eq_getElem hjl, Option.map_some]
    have g1 : (tN2 2 3) (.tup [.int (j : Nat), dC l[j]]) S [some d, some (.str x), y2, y3] = some [some d, some (.str x), some (.int (j : Nat)), some (dC l[j])] := rfl
    have t1 := gEq_str (neg := false) (S := S) (nm _ (List.getElem_mem hjl)) hx
    unfold goF
    rw [e1]
    simp only [g1]
    by_cases q : j = i
    · subst q
      rw [ex] at t1
      rw [sIf_t (S1 := S) (tB_ok (eB_ok (eB_ok rfl rfl ix_name) rfl (by rw [ex]; simpa using t1)))]
      rw [sRt_ok (d := .int (j : Nat)) rfl]
    · have hne := hno j (by omega)
      have t2 : gEq false (.str l[j].1) (.str x) S = some (.bl false, S) := by rw [t1]; simp [hne]
      rw [sIf_f (S1 := S) (tB_ok (eB_ok (eB_ok rfl rfl ix_name) rfl t2))]
      simp only [sNop]
      exact place_go nm hx hi ex hno m (j + 1) _ _ (by omega) (by omega)
theorem find_place_ok {l : List Card} (ok : DeckOk l) {i : Nat} (hi : i < l.length) : M_find_place K [dK l, .str l[i].1] S = some (.ok (.int (i : Nat)) S) := by
  refine fnM_rt ?_
  have hw : iEn (aCons (eVar 0) aNil) (ini 4 [dK l, .str l[i].1]) S = some (.ok (wkE (l.map dC)) S) := rfl
  have go := place_go (S := S) (d := dK l) ok.nm (ok.nm _ (List.getElem_mem hi)) hi rfl (fun j hj e => by
    have := (List.getElem_inj (xs := l.map (·.1)) (i := j) (j := i) (h₀ := by simp; omega) (h₁ := by simp; omega) ok.nd).mp (by simp [e])
    omega) ((l.map dC).length + 1) 0 none none (Nat.zero_le _) (by simp; omega)
  have e := sFor_ok (g := tN2 2 3) hw go
  exact (sSeq_rt e)
theorem an_t {t u : BF} {τ : Sl} {S S1 : Sto} {o : Option (Rs Bool)} (h : t τ S = some (.ok true S1)) (h2 : u τ S1 = o) : tAn t u τ S = o := by simp only [tAn, M.bnd, h, if_true, h2]
theorem an_f {t u : BF} {τ : Sl} {S S1 : Sto} (h : t τ S = some (.ok false S1)) : tAn t u τ S = some (.ok false S1) := by simp [tAn, M.bnd, h]
end Sb
end
section
set_option Elab.async false
set_option linter.all false
set_option maxRecDepth 100000
set_option maxHeartbeats 4000000
namespace Sb
open PySem PySem.Spec PyProof.Rows L2
/-! ## stores whose places stand -/
abbrev Wf (S : Sto) : Prop := wfk S.length S = true
mutual
theorem bd_mono {j k : Nat} (h : j ≤ k) : ∀ d : D, bd j d = true → bd k d = true
  | .non, _ => rfl
  | .bl _, _ => rfl
  | .int _, _ => rfl
  | .str _, _ => rfl
  | .scr _, _ => rfl
  | .tup ds, b => by simp only [bd] at b ⊢; exact bds_mono h ds b
  | .fl ds, b => by simp only [bd] at b ⊢; exact bds_mono h ds b
  | .exn _, b => b
  | .rgo _ _, b => b
  | .ntu ds, b => by simp only [bd] at b ⊢; exact bds_mono h ds b
  | .fd _ ds, b => by simp only [bd] at b ⊢; exact bds_mono h ds b
  | .loc n, b => by simp only [bd, decide_eq_true_eq] at b ⊢; omega
theorem bds_mono {j k : Nat} (h : j ≤ k) : ∀ ds : List D, bds j ds = true → bds k ds = true
  | [], _ => rfl
  | d :: ds, b => by
    simp only [bds, Bool.and_eq_true] at b ⊢
    exact ⟨bd_mono h d b.1, bds_mono h ds b.2⟩
end
theorem bds_all {k : Nat} : ∀ {ds : List D}, bds k ds = true ↔ ∀ d ∈ ds, bd k d = true
  | [] => by simp [bds]
  | d :: ds => by simp only [bds, Bool.and_eq_true, List.mem_cons, forall_eq_or_imp, bds_all]
theorem bds_map {α : Type} {k : Nat} {f : α → D} {l : List α} (h : ∀ x ∈ l, bd k (f x) = true) : bds k (l.map f) = true := bds_all.mpr fun d hd => by
  obtain ⟨x, hx, rfl⟩ := List.mem_map.mp hd
  exact h x hx
theorem bdO_mono {j k : Nat} (h : j ≤ k) : ∀ o : Ob, bdO j o = true → bdO k o = true
  | .lst ds, b => bds_mono h ds b
  | .dct kvs, b => bds_mono h _ b
  | .ks _ _, _ => rfl
@[simp] theorem bd_dC {k : Nat} {c : Card} : bd k (dC c) = true := rfl
@[simp] theorem bds_dC {k : Nat} {l : List Card} : bds k (l.map dC) = true := bds_map fun _ _ => rfl
@[simp] theorem bd_dK {k : Nat} {l : List Card} : bd k (dK l) = true := by simp only [dK, bd, bds_dC]
@[simp] theorem bds_str {k : Nat} {l : List Str} : bds k (l.map D.str) = true := bds_map fun _ _ => rfl
@[simp] theorem bds_int {k : Nat} {l : List Int} : bds k (l.map D.int) = true := bds_map fun _ _ => rfl
theorem wf_get {S : Sto} {n : Nat} {o : Ob} (w : Wf S) (h : S[n]? = some o) : bdO S.length o = true := List.all_eq_true.mp w o (List.mem_of_getElem? h)
theorem wf_app {S : Sto} {o : Ob} (w : Wf S) (h : bdO (S.length + 1) o = true) : Wf (S ++ [o]) := by
  unfold Wf wfk
  rw [List.length_append, List.all_append, Bool.and_eq_true]
  refine ⟨List.all_eq_true.mpr fun x hx => bdO_mono (Nat.le_add_right _ _) x (List.all_eq_true.mp w x hx), ?_⟩
  simpa using h
theorem wf_set {S : Sto} {n : Nat} {o : Ob} (w : Wf S) (h : bdO S.length o = true) : Wf (S.set n o) := by
  unfold Wf wfk
  rw [List.length_set, List.all_eq_true]
  intro x hx
  rcases List.mem_or_eq_of_mem_set hx with q | q
  · exact List.all_eq_true.mp w x q
  · subst q; exact h
/-- all but the spring at n stands; nothing new -/
structure Sm (n : Nat) (S S' : Sto) : Prop where
  len : S'.length = S.length
  at_ : ∀ i, i ≠ n → S'[i]? = S[i]?
theorem Sm.refl {n : Nat} {S : Sto} : Sm n S S := ⟨rfl, fun _ _ => rfl⟩
theorem Sm.trans {n : Nat} {S S1 S2 : Sto} (a : Sm n S S1) (b : Sm n S1 S2) : Sm n S S2 := ⟨b.len.trans a.len, fun i h => (b.at_ i h).trans (a.at_ i h)⟩
theorem Sm.wf {n k : Nat} {S S' : Sto} (a : Sm n S S') (w : Wf S) (h : Spr n k S') : Wf S' := by
  unfold Wf wfk
  rw [List.all_eq_true]
  intro x hx
  obtain ⟨i, hi, rfl⟩ := List.getElem_of_mem hx
  rw [a.len]
  by_cases q : i = n
  · subst q
    obtain ⟨u, v, y, e, _⟩ := h
    have : S'[i] = spr u v y := by
      have := List.getElem?_eq_getElem hi
      rw [e] at this; exact (Option.some.inj this).symm
    rw [this]; rfl
  · have e := a.at_ i q
    rw [List.getElem?_eq_getElem hi] at e
    exact wf_get w e.symm
/-! ## fz read -/
def fzR (k : Nat) (o : Option (Rs D)) : Option (Rs D) := match o with
  | none => none
  | some (.ok d S1) => if wfk k (S1.take k) = true then (rb S1 k 8 d).map fun d' => .ok d' (S1.take k) else none
  | some (.ex x S1) => if wfk k (S1.take k) = true then some (.ex x (S1.take k)) else none
theorem fz_eq {f : EF} {τ : Sl} {S : Sto} : fz f τ S = fzR S.length (f τ S) := rfl
theorem rb_bd {S : Sto} {k m : Nat} {d : D} (h : bd k d = true) : rb S k m d = some d := by
  cases m <;> simp only [rb, if_pos h]
theorem fzR_app {S X : Sto} {d : D} (w : Wf S) (h : bd S.length d = true) : fzR S.length (some (.ok d (S ++ X))) = some (.ok d S) := by
  simp only [fzR, List.take_left, if_pos w, rb_bd h, Option.map_some]
theorem rb_loc {S : Sto} {k m n : Nat} {ds : List D} (h : ¬ (bd k (.loc n) = true)) (e : S[n]? = some (.lst ds)) : rb S k (m + 1) (.loc n) = (ds.mapM (rb S k m)).map .fl := by
  conv => lhs; unfold rb
  simp only [if_neg h, e]
theorem fzR_lst {S X : Sto} {n : Nat} {ds : List D} (w : Wf S) (e : (S ++ X)[n]? = some (.lst ds)) (hn : S.length ≤ n) (h : bds S.length ds = true) : fzR S.length (some (.ok (.loc n) (S ++ X))) = some (.ok (.fl ds) S) := by
  have nb : ¬ (bd S.length (.loc n) = true) := by simp only [bd, decide_eq_true_eq]; omega
  have hm : ds.mapM (rb (S ++ X) S.length 7) = some ds := by
    have := mapM_some (f := rb (S ++ X) S.length 7) (g := fun d => d) (l := ds) fun d hd => rb_bd (bds_all.mp h d hd)
    rwa [List.map_id'] at this
  simp only [fzR, List.take_left, if_pos w, rb_loc nb e, hm, Option.map_some]
theorem fz_app {f : EF} {τ : Sl} {S X : Sto} {d : D} (w : Wf S) (e : f τ S = some (.ok d (S ++ X))) (h : bd S.length d = true) : fz f τ S = some (.ok d S) := by
  rw [fz_eq, e, fzR_app w h]
theorem fz_lst {f : EF} {τ : Sl} {S X : Sto} {n : Nat} {ds : List D} (w : Wf S) (e : f τ S = some (.ok (.loc n) (S ++ X))) (e2 : (S ++ X)[n]? = some (.lst ds)) (hn : S.length ≤ n) (h : bds S.length ds = true) : fz f τ S = some (.ok (.fl ds) S) := by
  rw [fz_eq, e, fzR_lst w e2 hn h]
/-- a list that is told -/
theorem fz_list {r : AF} {τ : Sl} {S S1 : Sto} {ds : List D} (h1 : r τ S = some (.ok ds S1)) (l : S1.length = S.length) (w : Wf S1) (hl : ds.length ≤ 1000) (h : bds S.length ds = true) : fz (eLst r) τ S = some (.ok (.fl ds) S1) := by
  rw [fz_eq, eLst_ok h1 hl, ← l]
  exact fzR_lst w (get_last _ _) (Nat.le_refl _) (by rw [l]; exact h)
/-! ## the spring, all else the same -/
theorem take_app {S X : Sto} : (S ++ X).take S.length = S := List.take_left
/-! ## comprehensions over told things -/
/-- what walks over ds -/
structure Wks (wk : Wk) (ds : List D) (P : Sto → Prop) : Prop where
  nxt : ∀ i S, P S → wk.nxt i S = some ds[i]?
  bound : ds.length ≤ wk.bound
theorem lc_pu {fi : IF} {g : TF} {t : BF} {fe : EF} {vs : List Nat} {τ : Sl} {S : Sto} {wk : Wk} {ds : List D} (p : D → Bool) (q : D → D) (w : Wf S) (hi : fi τ S = some (.ok wk S)) (hw : Wks wk ds fun S' => ∃ X, S' = S ++ X)
    (hl : ds.length ≤ 100000) (hb : ∀ d ∈ ds, p d = true → bd S.length (q d) = true)
    (h : ∀ d ∈ ds, ∀ S', Wf S' → (∃ X, S' = S ++ X) → ∃ τ1, g d S' (wipeD τ vs) = some τ1 ∧ t τ1 S' = some (.ok (p d) S') ∧ (p d = true → fe τ1 S' = some (.ok (q d) S'))) :
    fz (eLc fi g t fe vs) τ S = some (.ok (.fl ((ds.filter p).map q)) S) := by
  have bdq : ∀ i, bds S.length (((ds.take i).filter p).map q) = true := fun i => bds_map fun x hx => by
    obtain ⟨h1, h2⟩ := List.mem_filter.mp hx
    exact hb x (List.mem_of_mem_take h1) h2
  obtain ⟨S', L, rfl⟩ := goC_inv (nxt := wk.nxt) (g := g) (t := t) (fe := fe) (l := S.length) (τ0 := wipeD τ vs) (n := ds.length)
    (fun i S' => S' = S ++ [.lst (((ds.take i).filter p).map q)]) (fun i => ds.getD i default)
    (fun i S' hi e => by
      subst e
      have e3 := List.getElem?_eq_getElem hi
      have e4 : ds.getD i default = ds[i] := by rw [List.getD_eq_getElem?_getD, e3]; rfl
      have hw' : Wf (S ++ [.lst (((ds.take i).filter p).map q)]) := wf_app w (bds_mono (Nat.le_add_right _ _) _ (bdq i))
      obtain ⟨τ1, h1, h2, h3⟩ := h ds[i] (List.getElem_mem hi) _ hw' ⟨_, rfl⟩
      refine ⟨by rw [hw.nxt i _ ⟨_, rfl⟩, e4, e3], τ1, by rw [e4]; exact h1, ?_⟩
      have et : ds.take (i + 1) = ds.take i ++ [ds[i]] := by rw [List.take_append_getElem hi]
      cases hp : p ds[i] with
      | false =>
        refine .inl ⟨_, by rw [h2, hp], ?_⟩
        rw [et, List.filter_append]; simp [hp]
      | true =>
        refine .inr ⟨_, q ds[i], _, _, by rw [h2, hp], h3 hp, get_last _ _, ?_, ?_⟩
        · have : (((ds.take i).filter p).map q).length ≤ i := by
            rw [List.length_map]; exact Nat.le_trans (List.length_filter_le _ _) (by rw [List.length_take]; omega)
          have := sizeLine_eq
          omega
        · rw [set_last, et, List.filter_append]; simp [hp])
    (fun S' e => by subst e; rw [hw.nxt _ _ ⟨_, rfl⟩, List.getElem?_eq_none (Nat.le_refl _)]) (wk.bound + 1) 0 (S ++ [.lst []]) (Nat.zero_le _) (by have := hw.bound; omega) (by simp)
  rw [List.take_length] at L
  refine fz_lst (n := S.length) (X := [.lst ((ds.filter p).map q)]) w ?_ (get_last _ _) (Nat.le_refl _) (by have := bdq ds.length; rwa [List.take_length] at this)
  simp only [eLc, hi, L, Option.bind_some]
theorem wk_tup {S : Sto} {ds : List D} : wkD S (.tup ds) = some ⟨ds.length, fun i _ => some ds[i]?⟩ := rfl
theorem wk_fl {S : Sto} {ds : List D} : wkD S (.fl ds) = some ⟨ds.length, fun i _ => some ds[i]?⟩ := rfl
theorem wks_ds {ds : List D} {P : Sto → Prop} : Wks ⟨ds.length, fun i _ => some ds[i]?⟩ ds P := ⟨fun _ _ _ => rfl, Nat.le_refl _⟩
theorem wks_rg {n : Nat} {P : Sto → Prop} : Wks (wkR 0 n) ((List.range n).map fun i : Nat => D.int i) P := ⟨fun i S _ => by
  by_cases h : i < n
  · rw [rg_nxt h, List.getElem?_map, List.getElem?_range h]; rfl
  · rw [List.getElem?_eq_none (by simp; omega)]; simp [wkR, h], by simp [wkR]⟩
/-! ## loops that may end by a return -/
theorem goF_ret {nxt : Nat → Sto → Option (Option D)} {g : TF} {fb : SF} {n : Nat} (I : Nat → Sl → Sto → Prop) (P : D → Sto → Prop) (item : Nat → D)
    (h : ∀ i τ S, i < n → I i τ S → nxt i S = some (some (item i)) ∧ ∃ τ1, g (item i) S τ = some τ1 ∧ ((∃ τ2 S2, fb τ1 S = some (.nx τ2, S2) ∧ I (i + 1) τ2 S2) ∨ ∃ d S2, fb τ1 S = some (.rt d, S2) ∧ P d S2))
    (he : ∀ τ S, I n τ S → nxt n S = some none) : ∀ (m i : Nat) (τ : Sl) (S : Sto), i ≤ n → n - i < m → I i τ S →
    (∃ τ' S', goF nxt g fb m i τ S = some (.nx τ', S') ∧ I n τ' S') ∨ ∃ d S', goF nxt g fb m i τ S = some (.rt d, S') ∧ P d S'
  | 0, i, τ, S, _, hm, _ => absurd hm (Nat.not_lt_zero _)
  | m + 1, i, τ, S, hi, hm, hI => by
    unfold goF
    by_cases e : i = n
    · subst e
      rw [he τ S hI]
      exact .inl ⟨τ, S, rfl, hI⟩
    · obtain ⟨h1, τ1, h2, h3⟩ := h i τ S (by omega) hI
      rw [h1]
      rcases h3 with ⟨τ2, S2, h3, h4⟩ | ⟨d, S2, h3, h4⟩
      · simp only [h2, h3]
        exact goF_ret I P item h he m (i + 1) τ2 S2 (by omega) (by omega) h4
      · simp only [h2, h3]
        exact .inr ⟨d, S2, rfl, h4⟩
/-! ## equality of told lists -/
theorem toPy_fnames (n : Nat) (S : Sto) (xs : List Str) : toPy (n + 2) S (.fl (xs.map D.str)) = some (.list (xs.map PyData.str)) := by
  show ((xs.map D.str).mapM (toPy (n + 1) S)).map PyData.list = _
  rw [List.mapM_map, mapM_some (f := toPy (n + 1) S ∘ D.str) (g := PyData.str) fun x _ => rfl]
  rfl
end Sb
end
section
set_option Elab.async false
set_option linter.all false
set_option maxRecDepth 100000
set_option maxHeartbeats 4000000
namespace Sb
open PySem PySem.Spec PyProof.Rows L2
/-! ## defs that may print: the same promise where no print is under way -/
structure FnOkG (P : Program) (w : World) (K : PySem.W.Frag) (mg : Str → Option Value) (base : Heap) (CX : CXT) (k : Nat) (f : Addr) (fd : FuncData) (ps : List Str) (sp : Sp) : Prop where
  len : ∀ vs H Q E, sp vs H Q E → vs.length = ps.length
  run : ∀ (A : Around) (outer : List Env) (s : Shared) (H : Hp) (args : Args) (us : List Value) (vs : List V) (Q : VK) (E : XK), Room k A → A.guards = some [] → Env0 P w K mg base A outer s H → BindsTo s fd args (ps.zip us) → Vals vs us → sp vs H Q E →
    codeAny (model P w) A (.call (.ref f) args) (CR CX outer P w H s Q E) s
theorem FnOk.guarded {P : Program} {w : World} {K : PySem.W.Frag} {mg : Str → Option Value} {base : Heap} {CX : CXT} {k : Nat} {f : Addr} {fd : FuncData} {ps : List Str} {sp : Sp} (F : FnOk P w K mg base CX k f fd ps sp) : FnOkG P w K mg base CX k f fd ps sp :=
  ⟨F.len, fun A outer s H args us vs Q E hr _ => F.run A outer s H args us vs Q E hr⟩
section
variable {P : Program} {w : World} {mg : Str → Option Value} {base : Heap} {x qual : Str} {params : Arguments} {body : List Stmt} {scope : Scope} {f : Addr} {fd : FuncData} {T : Tb} {k : Nat}
theorem fn_sbG {p : He.Defn} {N ps : List Str} {g : SF} (F : FunD T.K x qual params body scope [] [] (He.fAd T.K p) fd) (S : FnScope N ps scope)
    (hb : ∀ (A : Around) (outer : List Env) (s : Shared) (H : Hp) (E : XK), Room k (A.deeper (envOfC qual scope s.heap.objs.size (He.fAd T.K p) (.ref (He.codeOf T.K p)))) → (A.deeper (envOfC qual scope s.heap.objs.size (He.fAd T.K p) (.ref (He.codeOf T.K p)))).guards = some [] →
      PSs (bX P w T.K mg base N qual scope (He.fAd T.K p) (.ref (He.codeOf T.K p)) A outer s H E) body (rdS T (eW E) g)) :
    FnOkG P w T.K mg base (L2.CX P w) (k + 1) (He.fAd T.K p) fd ps (spM T (fnM N.length g) ps.length) := by
  obtain ⟨oc, od, dV, kV, doc, pm, an, cdv, ct, osl, rfl, lk, hcd, _, _⟩ := F.ex
  obtain ⟨c, rfl⟩ := He.codeIn_ref hcd
  have ec := He.codeOf_eq (p := p) lk rfl
  refine ⟨fun vs H Q E ⟨φ, S0, ds, o, _, r, l, _⟩ => by rw [← r.length, l], fun A outer s H args us vs Q E room quiet e0 bind rel wish => ?_⟩
  obtain ⟨φ, S0, ds, o, R, r, l, eM, q⟩ := wish
  have many : vs.length = ps.length := by rw [← r.length, l]
  have inK : T.K.In s.heap := e0.mod.kin.keeps fun b o e => (e0.bs b o e).1
  have noLim : s.heap.NoLimit := e0.mod.nolimit.keeps fun b o e => (e0.bs b o e).1
  have kinds : ∀ y ∈ ps.zip us, scope.names.lookup y.1 = some .local ∨ (scope.names.lookup y.1 = some .cell ∧ ((cellsFrom (s.heap.objs.size + 1) scope.names []).lookup y.1).isSome = true) := fun ⟨n, v⟩ hy =>
    (S.par n (List.of_mem_zip hy).1).imp id fun z => ⟨z, PySem.W.cellsFrom_some _ _ _ (.inl z)⟩
  subst ec
  refine codeAny_call_function room.depth (inK _ _ lk) rfl S.co S.gen rfl (PySem.W.codeRec_of inK hcd) (bind _ _ _ _ ?_)
  refine wpAny_newFunctionEnv_cells S.kind kinds fun env he s1 started => ?_
  subst he
  refine ⟨noLim.keeps started.toInCall.keep, codeAny_func ?_⟩
  have start1 : L2.Inv (bX P w T.K mg base N qual scope (He.fAd T.K p) (.ref (He.codeOf T.K p)) A outer s H E) [] (L2.start N vs) H s1 := inv_start S room.hd e0 many rel started
  have wish1 : rdS T (eW E) g { nx := fun _ H' => Q .non H', rt := Q } (L2.start N vs) H := by
    unfold fnM at eM
    cases e1 : g (ini N.length ds) S0 with
    | none => rw [e1] at eM; cases eM
    | some z =>
      obtain ⟨fl, S1⟩ := z
      rw [e1] at eM
      refine ⟨φ, S0, ini N.length ds, fl, S1, R, ini_rsl r, e1, ?_⟩
      cases fl with
      | rt d => cases eM; exact q
      | nx τ => cases eM; exact fun φ' H' σ' E1 R1 _ => q φ' H' .non E1 R1 rfl
      | xx xn τ => cases eM; exact fun φ' H' σ' d E1 R1 _ hx => q φ' H' d E1 R1 hx
      | bk τ => cases eM
      | ct τ => cases eM
  refine wpAny_mono ((hb A outer s H E (room.deeper _) quiet).run [] s1 (L2.start N vs) H _ start1 wish1) (fun fl s' done => ?_) fun e s' done => done
  have close : ∀ {σ' : L2.St} {H' : Hp} {v : V} {u : Value}, L2.Inv (bX P w T.K mg base N qual scope (He.fAd T.K p) (.ref (He.codeOf T.K p)) A outer s H E) [] σ' H' s' → RelV v u → Q v H' → CE outer P w H s Q u s' := fun {σ' H' v u} J rv qv => ⟨v, H', J.os, J.bare, J.base, J.hok, rv, qv⟩
  cases fl with
  | ret u =>
    obtain ⟨v, σ', H', J, rv, qv⟩ := done
    exact close J rv qv
  | next =>
    obtain ⟨σ', H', J, qv⟩ := done
    exact close (v := V.non) (u := Value.none) J rfl qv
  | brk =>
    obtain ⟨_, _, _, qv⟩ := done
    exact False.elim qv
  | cont =>
    obtain ⟨_, _, _, qv⟩ := done
    exact False.elim qv
end
section
variable {X : Cx} {T : Tb} {W : WX} {pos : Pos} {e : Expr} {es : List Expr} {ra : AF}
theorem d_callG {k n : Nat} {f : Addr} {fd : FuncData} {ps : List Str} {m : List D → M D} {x : Str} {p : Pos} (F : FnOkG X.prog X.w X.K X.mg X.base (L2.CX X.prog X.w) k f fd ps (spM T m n)) (hr : Room k X.A) (quiet : X.A.guards = some []) (hm : X.mg x = some (.ref f)) (hk : PySem.W.keepIn X.K (.ref f) = true) (hb : Binds X.K fd ps [])
    (tk : Takes X W) (ha : PA X (e :: es) (rdA T W ra)) (hg : Gl X x := by rfl) (hdb : (x == ("__debug__" : Str)) = false := by decide) (he : starEach (e :: es) X.env = (false, eval e X.env) :: starEach es X.env := by rfl) (hpl : (backTo pos (starEach es X.env)).any (·.1) = false := by rfl) :
    PE X (.Call (.Name x p) (e :: es) [] pos) (rdE T W (eCl m n ra)) := by
  refine ⟨fun pins s σ H Q I h => ?_⟩
  obtain ⟨φ, S, τ, o, R, r, eq, q⟩ := h
  have args : rdA T W ra σ H fun vs H1 => spM T m n vs H1 Q (fun c d H' => W c d σ H') := by
    refine rdA_bnd R r eq q fun ds S1 vs H1 φ1 E1 R1 r1 e1 q1 => ?_
    split at e1
    · rename_i hl
      exact ⟨φ1, S1, ds, o, R1, r1, hl, e1, q1⟩
    · cases e1
  refine wpAny_Call_Name_kw (ld_glob I hg hm ?_ hdb)
  refine PySem.W.callWith_K (h₀ := X.base) I.ok.mod.kin hk (thn (ha.run pos pins s σ H _ I args) fun us s1 ⟨vs, H1, I1, rv, wish⟩ => ⟨I1.kIn, ?_⟩) he hpl
  have hl : us.length = ps.length := by rw [← rv.length]; exact F.len _ _ _ _ wish
  have b := hb s1 us I1.kIn (by rw [List.append_nil]; exact hl)
  rw [List.append_nil] at b
  refine wpAny_call (codeAny_mono (F.run X.A X.stack s1 H1 ⟨us, []⟩ us vs Q _ hr quiet I1.env0 b rv wish) fun r2 s' hq => ?_)
  cases r2 with
  | error e2 => exact passAt tk σ pins H1 s1 e2 s' I1 hq
  | ok fl =>
    cases fl with
    | ret u => exact I1.after hq
    | next => exact False.elim hq
    | brk => exact False.elim hq
    | cont => exact False.elim hq
end
/-- a def that may be called by its name where no print is under way -/
def CalG (P : Program) (w : World) (mg : Str → Option Value) (base : Heap) (T : Tb) (k n : Nat) (x : Str) (m : List D → M D) : Prop :=
  ∃ f fd ps, mg x = some (.ref f) ∧ PySem.W.keepIn T.K (.ref f) = true ∧ Binds T.K fd ps [] ∧ FnOkG P w T.K mg base (L2.CX P w) k f fd ps (spM T m n)
theorem cal_ofG {P : Program} {w : World} {mg : Str → Option Value} {base : Heap} {x qual : Str} {params : Arguments} {body : List Stmt} {scope : Scope} {fd : FuncData} {T : Tb} {k : Nat} {p : He.Defn} {N ps : List Str} {g : SF}
    (F : FunD T.K x qual params body scope [] [] (He.fAd T.K p) fd) (S : FnScope N ps scope) {y : Str} (hm : mg y = some (.ref (He.fAd T.K p)))
    (bnd : ∀ (kV doc pm : Value) (an : Option Addr) (cdv ct : Value) (us : List Value), us.length = ps.length → bindArgs (PySem.W.fnOf x qual params body scope .none kV doc pm an cdv ct) ⟨us, []⟩ = pure (ps.zip us))
    (hb : ∀ (A : Around) (outer : List Env) (s : Shared) (H : Hp) (E : XK), Room k (A.deeper (envOfC qual scope s.heap.objs.size (He.fAd T.K p) (.ref (He.codeOf T.K p)))) → (A.deeper (envOfC qual scope s.heap.objs.size (He.fAd T.K p) (.ref (He.codeOf T.K p)))).guards = some [] →
      PSs (bX P w T.K mg base N qual scope (He.fAd T.K p) (.ref (He.codeOf T.K p)) A outer s H E) body (rdS T (eW E) g)) : CalG P w mg base T (k + 1) ps.length y (fnM N.length g) :=
  ⟨_, fd, ps, hm, F.kp, F.bindsN bnd, fn_sbG F S hb⟩
theorem d_callCG {X : Cx} {T : Tb} {W : WX} {pos : Pos} {e : Expr} {es : List Expr} {ra : AF} {k n : Nat} {m : List D → M D} {x : Str} {p : Pos} (C : CalG X.prog X.w X.mg X.base T k n x m) (hK : T.K = X.K) (hr : Room k X.A) (quiet : X.A.guards = some []) (tk : Takes X W) (ha : PA X (e :: es) (rdA T W ra)) (hg : Gl X x := by rfl)
    (hdb : (x == ("__debug__" : Str)) = false := by decide) (he : starEach (e :: es) X.env = (false, eval e X.env) :: starEach es X.env := by rfl) (hpl : (backTo pos (starEach es X.env)).any (·.1) = false := by rfl) :
    PE X (.Call (.Name x p) (e :: es) [] pos) (rdE T W (eCl m n ra)) := by
  obtain ⟨f, fd, ps, hm, hk, hb, F⟩ := C
  rw [hK] at hk hb F
  exact d_callG F hr quiet hm hk hb tk ha hg hdb he hpl
end Sb
end
section
set_option Elab.async false
set_option linter.all false
set_option maxRecDepth 100000
set_option maxHeartbeats 4000000
namespace Sb
open PySem PySem.Spec PyProof.Rows L2
/-- repr of a list or a tuple of data -/
def gRepr : GN := fun ds S => match ds with
  | [d] => match d with
    | .tup _ | .loc _ | .fl _ => (toPy 8 S d).bind fun p => if p.showable = true ∧ p.hasDict = false ∧ p.depth ≤ 8 ∧ p.shown.length ≤ sizeLine then some (.str p.shown, S) else none
    | _ => none
  | _ => none
end Sb
end
section
set_option Elab.async false
set_option linter.all false
set_option maxRecDepth 100000
set_option maxHeartbeats 4000000
namespace Sb
open PySem PySem.Spec PyProof.Rows L2
section
variable {X : Cx} {T : Tb}
/-! ## all(a list of truths) -/
/-! ## clear, reverse, extend -/
end
end Sb
end
section
set_option Elab.async false
set_option linter.all false
set_option maxRecDepth 100000
set_option maxHeartbeats 4000000
namespace Sb
open PySem PySem.Spec PyProof.Rows L2
/-! ## l.count(x) of data -/
theorem mt_countD {X : Cx} (hu : X.A.units + 65 < cLine) : MtR X "list.count" (fun x xs H Q => ∃ (a : Addr) (y : V) (d : PyData) (ds : List PyData), x = V.ref a ∧ xs = [y] ∧ Dp X.K H (V.ref a) (.list ds) ∧ Dp X.K H y d ∧ SeqAt.shaped (.list ds) = true ∧ SeqAt.shaped d = true ∧ Q (.int (ds.countP fun z => PyData.eqv z d : Nat)) H) := by
  intro pins s σ H x xs v us Q I rx rxs h
  obtain ⟨a, y, d, ds, rfl, rfl, hl, hy, sl, sd, q⟩ := h
  cases rx
  cases rxs with
  | cons ry rt =>
    rename_i uy ut
    cases rt
    obtain ⟨bs, r1⟩ := Dp.reads I d y uy hy ry
    have hxs : PyData.canLayAll0 ds = true := SeqAt.canLay_of_shaped sl
    have hroom : X.A.units + 1 + min (PyData.depthAll ds) d.depth < cLine := room_in_shaped sd hu
    cases hl with
    | lst hs ha =>
      obtain ⟨its, rv, ⟨⟨cls, dd, data, sls⟩, n, ho, hc, hdn, hdt⟩, hlen⟩ := I.list hs
      simp only at hc hdt
      subst hc hdt
      obtain ⟨as, h4⟩ := Dp.readsAll I ds _ its ha rv
      have hmap : its.map (SeqAt.readOf s.heap) = ds := SeqAt.readsAll_map ds its as hxs h4
      refine call_meets PySem.F.slot_list_count ⟨_, ho, rfl⟩ PySem.F.entry_list_count (PySem.F.args_list_count_2 _ _)
        (SeqAt.list_countAt a its.toArray n dd sls uy (fun u => PyData.eqv (SeqAt.readOf s.heap u) d)) ⟨ho, SeqAt.items_eqAt (vs := its.toArray) (show ReadsAll s.heap its.toArray.toList ds as from h4) r1 hxs (SeqAt.canLay_of_shaped sd) hroom, ?_⟩
      refine ⟨.int (ds.countP fun z => PyData.eqv z d : Nat), H, I.tok _, ⟨s.toks, ?_⟩, q⟩
      have e : its.toArray.toList.countP (fun u => PyData.eqv (SeqAt.readOf s.heap u) d) = ds.countP fun z => PyData.eqv z d := by
        rw [← hmap, List.countP_map]; rfl
      rw [e]
def gCount : GM := fun x ds S => match ds with
  | [y] => match toPy 8 S x, toPy 8 S y with
    | some (.list es), some d => if SeqAt.shaped (.list es) = true ∧ SeqAt.shaped d = true then some (.int (es.countP fun z => PyData.eqv z d : Nat), S) else none
    | _, _ => none
  | _ => none
theorem m_count {X : Cx} {T : Tb} (hu : X.A.units + 65 < cLine) : MtR X "list.count" (rGM T gCount) := MtR.imp (mt_countD hu) fun x xs H Q h => by
  obtain ⟨φ, S, d, ds, R, r, rs, f⟩ := h
  unfold gCount at f
  split at f
  · rename_i y
    split at f
    · rename_i es p h1 h2
      split at f
      · rename_i hs
        obtain ⟨v, l, rfl, r1, r2⟩ := rs
        cases r2
        have dx := py_dp (K := X.K) R 8 d x _ r h1
        have dy := py_dp (K := X.K) R 8 y v _ r1 h2
        obtain ⟨a, rfl⟩ : ∃ a, x = .ref a := by cases dx; exact ⟨_, rfl⟩
        exact ⟨a, v, p, es, rfl, rfl, dx, dy, hs.1, hs.2, f.val R rfl⟩
      · obtain ⟨_, _, z, _⟩ := f; cases z
    · obtain ⟨_, _, z, _⟩ := f; cases z
  · obtain ⟨_, _, z, _⟩ := f; cases z
end Sb
end
section
set_option Elab.async false
set_option linter.all false
set_option maxRecDepth 100000
namespace Sb
open PySem PySem.Spec PyProof.Rows L2
def m_names_of : SF := sRt (fz (eLc (iSeq (eVar 0)) (tN 1) (tAll) (eB gIx (eVar 1) (eC (.int 0))) [1]))
abbrev M_names_of : List D → M D := fnM 2 (m_names_of)
def m_closed_of : SF := sSeq (sSet 1 (eC (.int 0))) (sSeq (sFor (iEn (aCons (eVar 0) (aNil))) (tN2 2 3) (sSeq (sIf (tB (eB gLtI (eVar 1) (eVar 2))) (sRt (eVar 2)) (sNop)) (sSet 1 (eCB gMax (aCons (eVar 1) (aCons (eCl (M_reach_of) 2 (aCons (eVar 3) (aCons (eCB gLenX (aCons (eVar 0) (aNil))) (aNil)))) (aNil))))))) (sRt (eCB gLenX (aCons (eVar 0) (aNil)))))
abbrev M_closed_of : List D → M D := fnM 4 (m_closed_of)
def m_is_home_at : SF := sRt (eB gLe (eVar 1) (eCl (M_reach_of) 2 (aCons (eB gIx (eVar 0) (eVar 1)) (aCons (eCB gLenX (aCons (eVar 0) (aNil))) (aNil)))))
abbrev M_is_home_at : List D → M D := fnM 2 (m_is_home_at)
def m_away_places : SF := sRt (fz (eLc (iRg1 (aCons (eCl (M_closed_of) 1 (aCons (eVar 0) (aNil))) (aNil))) (tN 1) (tNt (tB (eCl (M_is_home_at) 2 (aCons (eVar 0) (aCons (eVar 1) (aNil)))))) (eVar 1) [1]))
abbrev M_away_places : List D → M D := fnM 2 (m_away_places)
def m_hand_of : SF := sRt (fz (eLc (iSeq (eSl (eVar 0) (oNo) (oSo (eVar 1)))) (tN 2) (tB (eB gGeI (eCl (M_reach_of) 2 (aCons (eVar 2) (aCons (eCB gLenX (aCons (eVar 0) (aNil))) (aNil)))) (eVar 1))) (eVar 2) [2]))
abbrev M_hand_of : List D → M D := fnM 3 (m_hand_of)
def m_ring_of : SF := sRt (eB gAdd (eCl (M_hand_of) 2 (aCons (eVar 0) (aCons (eVar 1) (aNil)))) (fz (eLst (aCons (eB gIx (eVar 0) (eVar 1)) (aNil)))))
abbrev M_ring_of : List D → M D := fnM 2 (m_ring_of)
def m_pattern_of : SF := sSeq (sSet 2 (eCB gLenX (aCons (eVar 0) (aNil)))) (sRt (fz (eLc (iSeq (eCl (M_ring_of) 2 (aCons (eVar 0) (aCons (eVar 1) (aNil))))) (tN 3) (tAll) (eIf (tB (eB gGtI (eCl (M_reach_of) 2 (aCons (eVar 3) (aCons (eVar 2) (aNil)))) (eVar 1))) (eC .non) (eB gIx (eVar 3) (eC (.int 0)))) [3])))
abbrev M_pattern_of : List D → M D := fnM 4 (m_pattern_of)
end Sb
end
section
set_option Elab.async false
set_option linter.all false
set_option maxRecDepth 100000
set_option maxHeartbeats 4000000
namespace Sb
open PySem PySem.Spec PyProof.Rows L2
section
variable {X : Cx} {T : Tb} {W : WX} {pos : Pos} {e : Expr} {fa : EF}
/-! ## xs[i], ys[j] = a, b -/
end
end Sb
end
section
set_option Elab.async false
set_option linter.all false
set_option maxRecDepth 100000
set_option maxHeartbeats 4000000
namespace Sb
open PySem PySem.Spec PyProof.Rows L2
/-! ## texts alike, whatever signs they have -/
def gEqS (neg : Bool) : G2 := fun x y S => match x, y with
  | .str a, .str b => some (.bl (if neg then !decide (a = b) else decide (a = b)), S)
  | _, _ => none
theorem o_neS {X : Cx} {T : Tb} : OpR X (compareOp .NotEq) (rG2 T (gEqS true)) := OpR.imp op_ne fun x y H Q h => by
  obtain ⟨φ, S, d1, d2, R, r1, r2, f⟩ := h
  cases d1 with
  | str a =>
    cases d2 with
    | str b =>
      cases r1; cases r2
      refine ⟨rfl, ?_⟩
      have : decide ((V.str a) = V.str b) = decide (a = b) := by simp
      rw [this]
      exact f.val R rfl
    | _ => obtain ⟨_, _, e, _⟩ := f; cases e
  | _ => obtain ⟨_, _, e, _⟩ := f; cases e
end Sb
end
section
set_option Elab.async false
set_option linter.all false
set_option maxRecDepth 100000
namespace Sb
open PySem PySem.Spec PyProof.Rows L2
end Sb
end
section
set_option Elab.async false
set_option linter.all false
set_option maxRecDepth 100000
namespace Sb
open PySem PySem.Spec PyProof.Rows L2
end Sb
end
section
set_option Elab.async false
set_option linter.all false
set_option maxRecDepth 100000
set_option maxHeartbeats 4000000
namespace Sb
open PySem PySem.Spec PyProof.Rows L2
/-! ## a def with a keyword-only parameter that has a default: def f(a, *, b=c) -/
section
variable {P : Program} {w : World} {mg : Str → Option Value} {base : Heap} {x qual : Str} {params : Arguments} {body : List Stmt} {scope : Scope} {f : Addr} {fd : FuncData} {T : Tb} {k : Nat} {dvs : List V} {kwv : List (Str × V)}
end
section
variable {X : Cx} {T : Tb} {W : WX} {pos : Pos} {e e2 : Expr} {ra rb : AF}
end
end Sb
end
section
set_option Elab.async false
set_option linter.all false
set_option maxRecDepth 100000
set_option maxHeartbeats 4000000
namespace Sb
open PySem PySem.Spec PyProof.Rows L2
/-! ## dicts as values: {}, dict(pairs); what repr shows of them -/
section
variable {X : Cx} {T : Tb} {W : WX} {pos : Pos}
def eDct0 : EF := fun _ S => some (.ok (.loc S.length) (S ++ [.dct []]))
theorem d_dct0 : PE X (.Dict [] [] pos) (rdE T W eDct0) := pe_dnewK.imp fun σ H Q h => by
  obtain ⟨φ, S, τ, o, R, r, e, q⟩ := h
  cases e
  intro p hp
  obtain ⟨R2, E2⟩ := R.new (o := .dct []) (u := .dK []) hp ⟨[], upd_same, rfl, rfl⟩
  exact q _ _ _ E2 R2 ⟨p, rfl, by rw [← R.len]; simp⟩
end
def kP : Key → PyData
  | .inl i => .int i
  | .inr x => .str x
def toPyR : Nat → Sto → D → Option PyData
  | 0, _, _ => none
  | n + 1, S, d => match d with
    | .non => some .none
    | .bl b => some (.bool b)
    | .int i => some (.int i)
    | .str x => some (.str x)
    | .tup ds => (ds.mapM (toPyR n S)).map .tuple
    | .loc k => match S[k]? with
      | some (.lst ds) => (ds.mapM (toPyR n S)).map .list
      | some (.dct kvs) => ((kvs.map (·.2)).mapM (toPyR n S)).map fun ps => .dict ((kvs.map fun kv => kP kv.1).zip ps)
      | _ => none
    | .scr _ => none
    | .fl ds => (ds.mapM (toPyR n S)).map .list
    | .exn _ => none
    | .rgo _ _ => none
    | .ntu _ => none
    | .fd ks ds => if ks.length = ds.length then (ds.mapM (toPyR n S)).map fun ps => .dict ((ks.map kP).zip ps) else none
section
variable {X : Cx} {T : Tb} {pins : List (Addr × Obj)} {σ : L2.St} {H : Hp} {s : Shared} {φ : List Addr} {S : Sto}
theorem key_reads {ks : List Key} : ∀ {h : Heap} {es : List DictEntry} {vs : List (Key × Value)}, PySem.Pairs (mixKind X.prog X.w) es vs → ReadsAll h (es.map (·.key)) (vs.map fun kv => kP kv.1) ((es.map fun _ => ([] : List Addr)).flatten)
  | _, [], _, h => by
    cases h
    exact .nil
  | hh, e :: es, _, h => by
    cases h with
    | cons h1 h2 h3 =>
      rename_i kv kvs
      refine .cons ?_ (key_reads (ks := ks) h3)
      show Reads hh e.key (kP kv.1) []
      have h1' : keyIs kv.1 e.key = true := h1
      rcases keyIs_shape h1' with ⟨i, t, e1, e2⟩ | ⟨x, t, e1, e2⟩
      · rw [e1, e2]; exact .int i t
      · rw [e1, e2]; exact .str x t
theorem pairs_vals : ∀ {es : List DictEntry} {vs : List (Key × Value)}, PySem.Pairs (mixKind X.prog X.w) es vs → es.map (·.val) = vs.map (·.2)
  | [], _, h => by cases h; rfl
  | e :: es, _, h => by
    cases h with
    | cons h1 h2 h3 =>
      rename_i kv kvs
      show e.val :: es.map (·.val) = kv.2 :: kvs.map (·.2)
      rw [h2, pairs_vals h3]
theorem kv_vals : ∀ {ws : List (Key × V)} {vs : List (Key × Value)}, KV ws vs → Vals (ws.map (·.2)) (vs.map (·.2)) ∧ ws.map (·.1) = vs.map (·.1)
  | [], _, h => by cases h; exact ⟨.nil, rfl⟩
  | w :: ws, _, h => by
    cases h with
    | cons h1 h2 =>
      obtain ⟨a, b⟩ := kv_vals h2
      exact ⟨.cons h1.2 a, by simp only [List.map_cons, h1.1, b]⟩
theorem flat_nil {α β : Type} : ∀ l : List α, ((l.map fun _ => ([] : List β)).flatten) = []
  | [] => rfl
  | _ :: l => by show [] ++ _ = _; rw [flat_nil l]; rfl
theorem zip_fst {α β : Type} : ∀ {l : List α} {m : List β}, l.length = m.length → (l.zip m).map (·.1) = l
  | [], [], _ => rfl
  | a :: l, b :: m, h => by
    show a :: (l.zip m).map (·.1) = _
    rw [zip_fst (by simpa using h)]
theorem zip_snd {α β : Type} : ∀ {l : List α} {m : List β}, l.length = m.length → (l.zip m).map (·.2) = m
  | [], [], _ => rfl
  | a :: l, b :: m, h => by
    show b :: (l.zip m).map (·.2) = _
    rw [zip_snd (by simpa using h)]
/-- what data are read as in the heap; no address of it is that of sys.modules -/
def RdP (s : Shared) (u : Value) (p : PyData) : Prop := ∃ as, Reads s.heap u p as ∧ sysModules ∉ as
theorem reads_all {n : Nat} (ih : ∀ d v p u, RD T H φ d v → RelV v u → toPyR n S d = some p → RdP s u p) : ∀ (ds : List D) (vs : List V) (us : List Value) (ps : List PyData), RDs T H φ ds vs → Vals vs us → ds.mapM (toPyR n S) = some ps → ∃ as, ReadsAll s.heap us ps as ∧ sysModules ∉ as
  | [], vs, us, ps, h, r, e => by
    cases h
    cases r
    simp at e
    subst e
    exact ⟨[], .nil, by simp⟩
  | d :: ds, vs, us, ps, h, r, e => by
    obtain ⟨v, r', rfl, h1, h2⟩ := h
    cases r with
    | cons r1 r2 =>
      rw [List.mapM_cons] at e
      simp only [Option.bind_eq_bind, Option.bind_eq_some_iff, Option.pure_def, Option.some.injEq] at e
      obtain ⟨p, e1, qs, e2, rfl⟩ := e
      obtain ⟨as, a1, a2⟩ := ih d v p _ h1 r1 e1
      obtain ⟨bs, b1, b2⟩ := reads_all ih ds r' _ qs h2 r2 e2
      exact ⟨as ++ bs, .cons a1 b1, fun z => (List.mem_append.mp z).elim a2 b2⟩
theorem mapM_len {α β : Type} {f : α → Option β} : ∀ {l : List α} {m : List β}, l.mapM f = some m → m.length = l.length
  | [], m, h => by simp at h; subst h; rfl
  | a :: l, m, h => by
    rw [List.mapM_cons] at h
    simp only [Option.bind_eq_bind, Option.bind_eq_some_iff, Option.pure_def, Option.some.injEq] at h
    obtain ⟨p, e1, qs, e2, rfl⟩ := h
    simp [mapM_len e2]
theorem dict_reads (I : Inv X pins σ H s) (hs : H sysModules = none) {a : Addr} {ws : List (Key × V)} {ds : List D} {ps : List PyData} {n : Nat} (ih : ∀ d v p u, RD T H φ d v → RelV v u → toPyR n S d = some p → RdP s u p)
    (ha : Rd H a (.dK ws)) (r : RDs T H φ ds (ws.map (·.2))) (e : ds.mapM (toPyR n S) = some ps) : RdP s (.ref a) (.dict ((ws.map fun w => kP w.1).zip ps)) := by
  obtain ⟨hl, hsm, vs, hkv, o, es, ep, h1, h2, h3, h4, h5, h6⟩ := dk_rd I.hok ha
  obtain ⟨v1, v2⟩ := kv_vals hkv
  obtain ⟨as, a1, a2⟩ := reads_all ih ds _ _ ps r v1 e
  have l1 : ps.length = ws.length := by
    have := mapM_len e
    have := r.length
    simp at this
    omega
  have lz : (ws.map fun w => kP w.1).length = ps.length := by simp [l1]
  have k1 := key_reads (X := X) (ks := []) (h := s.heap) h5
  rw [flat_nil] at k1
  refine ⟨_, Reads.dict (as := []) (bs := as) h1 h2.1 h3 ?_ ?_, ?_⟩
  · rw [zip_fst lz]
    have : (ws.map fun w => kP w.1) = vs.map fun kv => kP kv.1 := by
      have := congrArg (List.map kP) v2
      rw [List.map_map, List.map_map] at this
      exact this
    rw [this]
    exact k1
  · rw [zip_snd lz, pairs_vals h5]
    exact a1
  · intro z
    rcases List.mem_append.mp z with z | z
    · rcases List.mem_cons.mp z with z | z
      · rw [← z] at hsm
        simp at hsm
      · simp at z
    · exact a2 z
theorem py_reads (I : Inv X pins σ H s) (hK : T.K = X.K) (hs : H sysModules = none) (R : Rel T φ S H) : ∀ (n : Nat) (d : D) (v : V) (p : PyData) (u : Value), RD T H φ d v → RelV v u → toPyR n S d = some p → RdP s u p
  | 0, d, v, p, u, _, _, e => by cases e
  | n + 1, d, v, p, u, r, rv, e => by
    have lst : ∀ {a : Addr} {vs : List V} {ds : List D} {ps : List PyData}, H a = some (.lst vs) → RDs T H φ ds vs → ds.mapM (toPyR n S) = some ps → RdP s (.ref a) (.list ps) := fun {a vs ds ps} ha rs em => by
      obtain ⟨its, rvs, ⟨o, c, ho, hc, _, hd⟩, _⟩ := I.list (.inl (.inl ha))
      obtain ⟨as, a1, a2⟩ := reads_all (py_reads I hK hs R n) ds vs _ ps rs rvs em
      refine ⟨_, Reads.list ho hc hd a1, fun z => ?_⟩
      rcases List.mem_cons.mp z with z | z
      · rw [z, ha] at hs; cases hs
      · exact a2 z
    cases d with
    | non => cases r; cases e; cases rv; exact ⟨_, Reads.none, by simp⟩
    | bl b => cases r; cases e; cases rv; exact ⟨_, Reads.bool b, by simp⟩
    | int i => cases r; cases e; obtain ⟨t, rfl⟩ := rv; exact ⟨_, Reads.int i t, by simp⟩
    | str x => cases r; cases e; obtain ⟨t, rfl⟩ := rv; exact ⟨_, Reads.str x t, by simp⟩
    | tup ds =>
      obtain ⟨a, vs, rfl, h1, h2⟩ := r
      simp only [toPyR, Option.map_eq_some_iff] at e
      obtain ⟨ps, e1, rfl⟩ := e
      cases rv
      obtain ⟨its, rvs, ⟨o, ho, hc, c, hd⟩, _⟩ := I.tuple (.inl h1)
      obtain ⟨as, a1, a2⟩ := reads_all (py_reads I hK hs R n) ds vs _ ps h2 rvs e1
      exact ⟨_, Reads.tuple ho hc hd a1, a2⟩
    | loc k =>
      obtain ⟨a, rfl, h1⟩ := r
      cases rv
      simp only [toPyR] at e
      split at e
      · rename_i ds q
        simp only [Option.map_eq_some_iff] at e
        obtain ⟨ps, e1, rfl⟩ := e
        obtain ⟨vs, h3, h4⟩ := R.obj k _ a q h1
        exact lst h3 h4 e1
      · rename_i kvs q
        simp only [Option.map_eq_some_iff] at e
        obtain ⟨ps, e1, rfl⟩ := e
        obtain ⟨ws, h3, h4, h5⟩ := R.obj k _ a q h1
        have := dict_reads I hs (py_reads I hK hs R n) (.inl h3) h5 e1
        have hh : (ws.map fun w => kP w.1) = kvs.map fun kv => kP kv.1 := by
          have := congrArg (List.map kP) h4
          rw [List.map_map, List.map_map] at this
          exact this
        rw [hh] at this
        exact this
      · cases e
    | scr ns => cases e
    | exn c => cases e
    | rgo lo hi => cases e
    | ntu ds => cases e
    | fl ds =>
      obtain ⟨a, vs, rfl, _, h1, h2⟩ := r
      simp only [toPyR, Option.map_eq_some_iff] at e
      obtain ⟨ps, e1, rfl⟩ := e
      cases rv
      exact lst h1 h2 e1
    | fd ks ds =>
      obtain ⟨a, ws, rfl, _, h1, h2, h3⟩ := r
      simp only [toPyR] at e
      split at e
      · simp only [Option.map_eq_some_iff] at e
        obtain ⟨ps, e1, rfl⟩ := e
        cases rv
        have := dict_reads I hs (py_reads I hK hs R n) h1 h3 e1
        have hh : (ws.map fun w => kP w.1) = ks.map kP := by
          rw [← h2, List.map_map]; rfl
        rw [hh] at this
        exact this
      · cases e
end
/-- repr of data that lie at an address, dicts too; of none, truths, texts, numbers -/
def gReprX : GN := fun ds S => match ds with
  | [d] => (toPyR 8 S d).bind fun p => if p.showable = true ∧ p.depth ≤ 8 ∧ p.shown.length ≤ sizeLine then match d with
    | .tup _ | .loc _ | .fl _ | .fd _ _ => some (.str p.shown, S)
    | .non => some (.str p.shown, S)
    | .bl _ => some (.str p.shown, S)
    | .str _ => some (.str p.shown, S)
    | .int i => if i.natAbs.log2 < 1920 then some (.str p.shown, S) else none
    | _ => none else none
  | _ => none
section
variable {X : Cx} {T : Tb}
theorem sys_none {pins : List (Addr × Obj)} {σ : L2.St} {H : Hp} {s : Shared} (I : Inv X pins σ H s) (hb : ∃ o, X.base.get? sysModules = some o) : H sysModules = none := by
  obtain ⟨o, ho⟩ := hb
  exact (I.bs sysModules o ho).2
theorem call_reprX (hK : T.K = X.K) (hb : ∃ o, X.base.get? sysModules = some o) (quiet : X.A.guards = some []) (hu : X.A.units + 64 < cLine) : CallR X (.builtin "repr") (rGN T gReprX) := by
  intro pins s σ H xs us Q I rv h
  obtain ⟨φ, S, ds, R, r, d', S', ef, q⟩ := h
  obtain ⟨d, rfl⟩ : ∃ d, ds = [d] := by
    match ds, ef with
    | [], ef => cases ef
    | [d], _ => exact ⟨d, rfl⟩
    | _ :: _ :: _, ef => cases ef
  obtain ⟨v, l, rfl, r1, r2⟩ := r
  cases r2
  obtain ⟨u, rfl, ru⟩ := vals1 rv
  simp only [gReprX, Option.bind_eq_some_iff] at ef
  obtain ⟨p, ep, ef⟩ := ef
  split at ef
  · rename_i hp
    obtain ⟨hs1, hs2, hs3⟩ := hp
    obtain ⟨as, hr, hsm⟩ := py_reads I hK (sys_none I hb) R 8 d v p u r1 ru ep
    have fin : ∀ (s' : Shared) (u' : Value) (H' : Hp), Inv X pins σ H s' → RelV (.str p.shown) u' → d' = .str p.shown → S' = S → ∃ x H2, Inv X pins σ H2 s' ∧ RelV x u' ∧ Q x H2 := fun s' u' H' I' ru' e1 e2 => by
      subst e1 e2
      exact ⟨_, H, I', ru', q φ H _ .refl R rfl⟩
    have byRef : ∀ a : Addr, u = .ref a → d' = .str p.shown → S' = S → wpAny (model X.prog X.w) X.A (call (.builtin "repr") [u]) (fun v s' => ∃ x H2, Inv X pins σ H2 s' ∧ RelV x v ∧ Q x H2) X.xe s := fun a ea e1 e2 => by
      subst ea
      exact PySem.repr_of_reads' hr hs1 (fun _ => hsm) quiet (by omega) (fun _ _ e => e) (fun h' u tk keep => fin _ _ H (I.kept (t' := tk) keep) ⟨_, rfl⟩ e1 e2) hs3
    have g0 : ∀ {tk : Nat} {x : Str}, d' = .str p.shown → S' = S → x = p.shown → ∃ y H2, Inv X pins σ H2 { s with toks := s.toks + 1 } ∧ RelV y (.str x s.toks) ∧ Q y H2 := fun {tk x} e1 e2 e3 => by
      subst e3
      exact fin _ _ H (I.tok _) ⟨_, rfl⟩ e1 e2
    cases d with
    | tup ds => obtain ⟨a, _, rfl, _⟩ := r1; cases ru; cases ef; exact byRef a rfl rfl rfl
    | loc n => obtain ⟨a, rfl, _⟩ := r1; cases ru; cases ef; exact byRef a rfl rfl rfl
    | fl ds => obtain ⟨a, _, rfl, _⟩ := r1; cases ru; cases ef; exact byRef a rfl rfl rfl
    | fd ks ds => obtain ⟨a, _, rfl, _⟩ := r1; cases ru; cases ef; exact byRef a rfl rfl rfl
    | non =>
      cases r1; cases ru; cases ef
      cases ep
      exact call_repr_gives (typeIs_none s) F.slot_NoneType_repr F.entry_NoneType_repr (F.args_NoneType_repr_1 _) gives_none_repr (g0 (tk := 0) rfl rfl rfl) (hx := by decide)
    | bl b =>
      cases r1; cases ru; cases ef
      cases ep
      exact call_repr_gives (PySem.typeIs_bool s b) F.slot_bool_repr F.entry_bool_repr (F.args_bool_repr_1 _) (gives_bool_repr b) (g0 (tk := 0) rfl rfl (by cases b <;> rfl)) (hx := by cases b <;> decide)
    | str x =>
      cases r1
      obtain ⟨t, rfl⟩ := ru
      cases ef
      cases ep
      exact call_repr_gives (typeIs_str s x t) F.slot_str_repr F.entry_str_repr (F.args_str_repr_1 _) (gives_str_repr x t) (g0 (tk := 0) rfl rfl rfl) (hx := hs3)
    | int i =>
      cases r1
      obtain ⟨t, rfl⟩ := ru
      simp only at ef
      split at ef
      · rename_i hz
        cases ef
        cases ep
        exact PySem.P.repr_of_int hz (g0 (tk := 0) rfl rfl rfl)
      · cases ef
    | scr ns => cases ef
    | exn c => cases ef
    | rgo lo hi => cases ef
    | ntu ds => cases ef
  · cases ef
end
end Sb
end
section
set_option Elab.async false
set_option linter.all false
set_option maxRecDepth 100000
set_option maxHeartbeats 4000000
namespace Sb
open PySem PySem.Spec PyProof.Rows L2
section
variable {X : Cx} {T : Tb} {W : WX} {pos : Pos} {kx vx tg iter : Expr} {fi : IF} {g : TF} {t : BF} {fk fv : EF} {scope : Scope} {own : List (Str × Nat)} {ifs : List Expr}
/-! ## {k: v for x in xs} -/
def goD (nxt : Nat → Sto → Option (Option D)) (g : TF) (t : BF) (fk fv : EF) (n : Nat) (τ0 : Sl) : Nat → Nat → Sto → Option Sto
  | 0, _, _ => none
  | m + 1, i, S => match nxt i S with
    | none => none
    | some none => some S
    | some (some d) => match g d S τ0 with
      | none => none
      | some τ1 => match t τ1 S with
        | some (.ok false S1) => goD nxt g t fk fv n τ0 m (i + 1) S1
        | some (.ok true S1) => match fk τ1 S1 with
          | some (.ok kd S2) => match keyD kd with
            | none => none
            | some k => match fv τ1 S2 with
              | some (.ok d S3) => match S3[n]? with
                | some (.dct acc) => if acc.length < sizeLine then goD nxt g t fk fv n τ0 m (i + 1) (S3.set n (.dct (putD' acc k d))) else none
                | _ => none
              | _ => none
          | _ => none
        | _ => none
def eDc (fi : IF) (g : TF) (t : BF) (fk fv : EF) (vs : List Nat) : EF := fun τ S => match fi τ S with
  | none => none
  | some (.ex x S1) => some (.ex x S1)
  | some (.ok wk S1) => (goD wk.nxt g t fk fv S1.length (wipeD τ vs) (wk.bound + 1) 0 (S1 ++ [.dct []])).bind fun S2 => some (.ok (.loc S1.length) S2)
theorem Ext.putDK {φ : List Addr} {H : Hp} {p : Addr} {ws ws' : List (Key × V)} (hp : p ∈ φ) (ha : H p = some (.dK ws)) : Ext φ H φ (upd H p (.dK ws')) := ⟨⟨[], by simp⟩, fun c vs h => by
  by_cases hb : c = p
  · subst hb; rw [ha] at h; cases h
  · rw [upd_ne hb]; exact h, fun c o w h => by
  by_cases hb : c = p
  · subst hb; rw [ha] at h; cases h
  · rw [upd_ne hb]; exact h, fun c vs hc h => by
  by_cases hb : c = p
  · subst hb; exact absurd hp hc
  · rw [upd_ne hb]; exact h, fun c vs hc h => .inl (by
  by_cases hb : c = p
  · subst hb; exact absurd hp hc
  · rw [upd_ne hb]; exact h), fun _ h => .inl h, fun _ h => upd_dead h⟩
theorem KVs.ext {φ φ1 : List Addr} {H H1 : Hp} (e : Ext φ H φ1 H1) {kvs : List (Key × D)} {w : List (Key × V)} (h : KVs T H φ kvs w) : KVs T H1 φ1 kvs w := ⟨h.1, h.2.ext e _ _⟩
theorem KVs.len {φ : List Addr} {H : Hp} {kvs : List (Key × D)} {w : List (Key × V)} (h : KVs T H φ kvs w) : w.length = kvs.length := by
  have := congrArg List.length h.1
  simpa using this
theorem dc_of {vs us : List Nat} (hus : ∀ k ∈ us, k ∈ vs) {σ : L2.St} {H : Hp} {Q : VK} (h : rdE T W (eDc fi g t fk fv vs) σ H Q) : tDc (rdI T W fi) (rdG T us g) (rdT T W0 t) (rdE T W0 fk) (rdE T W0 fv) vs σ H Q := by
  obtain ⟨φ, S, τ, o, R, r, e, q⟩ := h
  unfold eDc at e
  cases e1 : fi τ S with
  | none => rw [e1] at e; cases e
  | some x =>
    rw [e1] at e
    refine ⟨φ, S, τ, x, R, r, e1, ?_⟩
    cases x with
    | ex x S1 => cases e; exact q
    | ok wk S1 =>
      intro φ1 H1 J E1 R1 sv L hL
      simp only [Option.bind_eq_some_iff] at e
      obtain ⟨S9, e2, e3⟩ := e
      cases e3
      obtain ⟨R2, E2⟩ := R1.new (u := .dK []) (o := .dct []) hL ⟨[], upd_same, rfl, rfl⟩
      have hL2 : (φ1 ++ [L])[S1.length]? = some L := by rw [← R1.len]; simp
      have r0 := ((r.ext E1).ext E2).wipe vs
      refine ⟨fun i m H => ∃ φ3 S3, Ext (φ1 ++ [L]) (upd H1 L (.dK [])) φ3 H ∧ Rel T φ3 S3 H ∧ goD wk.nxt g t fk fv S1.length (wipeD τ vs) m i S3 = some S9, ⟨wk.bound + 1, _, _, .refl, R2, e2⟩, ?_⟩
      rintro i m H3 ⟨φ3, S3, E3, R3, e3⟩
      cases m with
      | zero => cases e3
      | succ m =>
        unfold goD at e3
        obtain ⟨sgo, sst⟩ := sv φ3 S3 H3 i (E2.trans E3) R3
        cases hn : wk.nxt i S3 with
        | none => rw [hn] at e3; cases e3
        | some od =>
          rw [hn] at e3
          cases od with
          | none =>
            cases e3
            exact .inl ⟨sst hn, q φ3 H3 _ ((E1.trans E2).trans E3) R3 ⟨L, rfl, E3.get hL2⟩⟩
          | some d =>
            obtain ⟨go, yl⟩ := sgo d hn
            refine .inr ⟨go, fun H' => ∃ φ4 S4, Ext (φ1 ++ [L]) (upd H1 L (.dK [])) φ4 H' ∧ Rel T φ4 S4 H' ∧ goD wk.nxt g t fk fv S1.length (wipeD τ vs) m (i + 1) S4 = some S9, fun H' h => ⟨m, Nat.lt_succ_self m, h⟩, fun x H' y => ?_⟩
            obtain ⟨E4, R4, r4⟩ := yl x H' y
            simp only at e3
            cases hg1 : g d S3 (wipeD τ vs) with
            | none => rw [hg1] at e3; cases e3
            | some τ4 =>
              rw [hg1] at e3
              refine ⟨φ3, S3, wipeD τ vs, d, τ4, R4, (r0.ext E3).ext E4, r4, hg1, fun σ' r' ks kl => ?_⟩
              refine ⟨(wipe_eq (fun k hk => ks k fun z => hk (hus k z)) kl).trans wipe_wipe, ?_⟩
              simp only at e3
              cases ht : t τ4 S3 with
              | none => rw [ht] at e3; cases e3
              | some ob =>
                rw [ht] at e3
                cases ob with
                | ex x S5 => cases e3
                | ok bb S5 =>
                  refine ⟨φ3, S3, τ4, _, R4, r', ht, fun φ5 H5 E5 R5 => ?_⟩
                  cases bb with
                  | false => exact ⟨φ5, S5, (E3.trans E4).trans E5, R5, e3⟩
                  | true =>
                    rw [if_pos rfl]
                    simp only at e3
                    cases hf : fk τ4 S5 with
                    | none => rw [hf] at e3; cases e3
                    | some od =>
                      rw [hf] at e3
                      cases od with
                      | ex x S6 => cases e3
                      | ok kd S6 =>
                        refine ⟨φ5, S5, τ4, _, R5, r'.ext E5, hf, fun φ6 H6 v6 E6 R6 r6 => ?_⟩
                        simp only at e3
                        cases hk : keyD kd with
                        | none => rw [hk] at e3; cases e3
                        | some k =>
                          rw [hk] at e3
                          simp only at e3
                          have hv6 := keyD_ok r6 hk
                          cases hf2 : fv τ4 S6 with
                          | none => rw [hf2] at e3; cases e3
                          | some od2 =>
                            rw [hf2] at e3
                            cases od2 with
                            | ex x S7 => cases e3
                            | ok d7 S7 =>
                              refine ⟨φ6, S6, τ4, _, R6, (r'.ext E5).ext E6, hf2, fun φ7 H7 v7 E7 R7 r7 => ?_⟩
                              simp only at e3
                              split at e3
                              · rename_i acc hacc
                                split at e3
                                · rename_i hl
                                  have hL7 : φ7[S1.length]? = some L := E7.get (E6.get (E5.get (E4.get (E3.get hL2))))
                                  obtain ⟨ws7, k1, k2⟩ := R7.obj _ _ L hacc hL7
                                  have kv : KVs T H7 φ7 acc ws7 := k2
                                  have E8 := Ext.putDK (ws' := putK ws7 k v7) (List.mem_of_getElem? hL7) k1
                                  obtain ⟨R8, _⟩ := R7.put (o := .dct (putD' acc k d7)) (u := .dK (putK ws7 k v7)) hL7 (mem_lt hacc) ⟨_, upd_same, (kv.put r7).ext E8⟩
                                  exact ⟨ws7, k, hv6, k1, by rw [kv.len]; exact hl, φ7, _, ((((E3.trans E4).trans E5).trans E6).trans E7).trans E8, R8, e3⟩
                                · cases e3
                              · cases e3
variable {us : List Nat}
/-- name = {..} on one line, the name a local -/
theorem ps_setDc {i : Nat} {y : Str} {py spos : Pos} {wi : TI} {g : TG} {tt : TT} {tk tv : TE} (hc : X.calm = true) (hN : X.N.Nodup) (hy : X.N[i]? = some y) (hyl : X.env.scope.names.lookup y = some .local)
    (hsw : swapsWith (.DictComp kx vx [⟨tg, iter, ifs, 0⟩] scope pos) (some (.Name y py)) spos.line X.env = pure true) (hi : PI X tg iter wi) (ok : BlkOk X.N X.env.scope scope own)
    (hg : ∀ (s : Shared) (H : Hp) (C : Addr) (cl : List (Str × Addr)) (fp : List Addr), PG (X.blk s H scope (compEnvC scope cl C X.env) fp) tg g) (ht : ∀ (s : Shared) (H : Hp) (C : Addr) (cl : List (Str × Addr)) (fp : List Addr), PTs (X.blk s H scope (compEnvC scope cl C X.env) fp) ifs tt)
    (hk : ∀ (s : Shared) (H : Hp) (C : Addr) (cl : List (Str × Addr)) (fp : List Addr), PE (X.blk s H scope (compEnvC scope cl C X.env) fp) kx tk)
    (he : ∀ (s : Shared) (H : Hp) (C : Addr) (cl : List (Str × Addr)) (fp : List Addr), PE (X.blk s H scope (compEnvC scope cl C X.env) fp) vx tv) (hs : ∀ x, foldedSetIterable iter X.env x = pure x := by intro _; rfl) :
    PS X (.Assign [.Name y py] (.DictComp kx vx [⟨tg, iter, ifs, 0⟩] scope pos) spos) (tAsg (tDc wi g tt tk tv (own.map (·.2))) (gName i)) := by
  refine ⟨fun pins s σ H D I h => ?_⟩
  rw [exec_Assign_Name_used _ _ _ _ hsw]
  refine wpAny_bind (wpAny_standAt (wpAny_bind ?_))
  show wpAny _ X.A (do let _ ← comprehension (.DictComp kx vx [⟨tg, iter, ifs, 0⟩] scope pos) scope X.env (firstIterPos [⟨tg, iter, ifs, 0⟩] pos) newDict false (eval iter X.env) (some (assign (.Name y py) X.env))) _ _ s
  have h : tDc wi g tt tk tv (own.map (·.2)) σ H (fun x H1 => gName i x σ H1 D.nx) := h
  refine wpAny_bind (thn (dc_core (Qf := fun _ s' => SP X pins D .next s') hc hN I hi ok hg ht hk he hs h fun L C s' m H' I' q hn f => ?_) fun _ s' hq => wpAny_pure (wpAny_pure hq))
  show wpAny _ _ (assign (.Name y py) X.env (.ref L)) _ _ _
  refine wpAny_assign_Name (store_ok2 (v := V.ref L) I' hN hy (.inl hyl) rfl (fun s2 I2 ⟨a, sb, ha⟩ => ?_) (.inr hyl))
  obtain ⟨f0, f1, f2, f3, f4, f5⟩ := f
  have haC : C ≠ a := by
    rcases ha with z | z
    · rw [z]; exact f1
    · exact fun e => f4 y a z e.symm
  refine ⟨m, hn.sameBut sb haC, fun h3 sb3 => ?_⟩
  exact ⟨_, H', I2.turned (t' := s2.toks) (fun b o hb e => (sb3.2 b hb).trans e) f0 f1 f3 f4 f5, q⟩
theorem s_setDc {i : Nat} {y : Str} {py spos : Pos} (hc : X.calm = true) (hN : X.N.Nodup) (hy : X.N[i]? = some y) (hyl : X.env.scope.names.lookup y = some .local)
    (hsw : swapsWith (.DictComp kx vx [⟨tg, iter, ifs, 0⟩] scope pos) (some (.Name y py)) spos.line X.env = pure true) (hi : PI X tg iter (rdI T W fi)) (ok : BlkOk X.N X.env.scope scope own)
    (hg : ∀ (s : Shared) (H : Hp) (C : Addr) (cl : List (Str × Addr)) (fp : List Addr), PG (X.blk s H scope (compEnvC scope cl C X.env) fp) tg (rdG T us g))
    (ht : ∀ (s : Shared) (H : Hp) (C : Addr) (cl : List (Str × Addr)) (fp : List Addr), PTs (X.blk s H scope (compEnvC scope cl C X.env) fp) ifs (rdT T W0 t))
    (hk : ∀ (s : Shared) (H : Hp) (C : Addr) (cl : List (Str × Addr)) (fp : List Addr), PE (X.blk s H scope (compEnvC scope cl C X.env) fp) kx (rdE T W0 fk))
    (he : ∀ (s : Shared) (H : Hp) (C : Addr) (cl : List (Str × Addr)) (fp : List Addr), PE (X.blk s H scope (compEnvC scope cl C X.env) fp) vx (rdE T W0 fv))
    (hus : ∀ k ∈ us, k ∈ own.map (·.2) := by decide) (hs : ∀ x, foldedSetIterable iter X.env x = pure x := by intro _; rfl) :
    PS X (.Assign [.Name y py] (.DictComp kx vx [⟨tg, iter, ifs, 0⟩] scope pos) spos) (rdS T W (sSet i (eDc fi g t fk fv (own.map (·.2))))) :=
  (ps_setDc hc hN hy hyl hsw hi ok hg ht hk he hs).imp fun De σ H h => by
    obtain ⟨φ, S, τ, fl, S', R, r, e, q⟩ := h
    have h2 : rdE T W (eDc fi g t fk fv (own.map (·.2))) σ H (fun v H1 => De.nx (σ.set i (some v)) H1) := by
      refine rdE_sx R r e q fun d S1 v H1 φ1 ⟨E1, R1, r1⟩ e1 q1 => ?_
      cases e1
      exact q1 φ1 H1 _ .refl R1 ((r.ext E1).set i r1)
    exact dc_of hus h2
end
end Sb
end
section
set_option Elab.async false
set_option linter.all false
set_option maxRecDepth 100000
set_option maxHeartbeats 4000000
namespace Sb
open PySem PySem.Spec PyProof.Rows L2
/-! ## dicts: read, asked and written; told ones too -/
section
variable {X : Cx} {T : Tb} {W : WX} {pos : Pos} {a b e : Expr} {fe fa fb : EF}
/-! ## sum(xs), gcd -/
end
end Sb
end
section
set_option Elab.async false
set_option linter.all false
set_option maxRecDepth 100000
set_option maxHeartbeats 4000000
/-! min(xs, default=d) of a list of whole numbers. -/
namespace Sb
open PySem PySem.Spec PyProof.Rows L2
theorem ints_reads (h : Heap) {vs : List Value} {ns : List Int} (H : IntsAre vs ns) : ReadsAll h vs (ns.map PyData.int) [] := by
  induction H with
  | nil => exact .nil
  | cons i t H ih => exact .cons (as := []) (.int i t) ih
theorem alike_ints (ns : List Int) : PySem.W.AlikeAll (ns.map PyData.int) := by
  refine ⟨?_, ?_⟩
  · intro x hx y hy
    obtain ⟨i, _, rfl⟩ := List.mem_map.mp hx
    obtain ⟨j, _, rfl⟩ := List.mem_map.mp hy
    rfl
  · intro x hx
    obtain ⟨i, _, rfl⟩ := List.mem_map.mp hx
    intro z; cases z
section
variable {X : Cx} {T : Tb} {W : WX} {pos kp : Pos} {e : Expr} {ra : AF}
end
end Sb
end
section
set_option Elab.async false
set_option linter.all false
set_option maxRecDepth 100000
set_option maxHeartbeats 4000000
/-! What a law's head observes: the defs, the facts, sys.modules, the classes of errors, gcd, the tables of lambdas. -/
namespace Sb
open PySem PySem.Spec PyProof.Rows L2
def excB (K : PySem.W.Frag) (D : Addr) : Bool := decide (PySem.W.findIn K (.ref D) "__getattribute__" = some (some (.builtin "BaseException.__getattribute__"))) && (decide (PySem.W.findIn K (.ref D) "__getattr__" = some none) && (decide (PySem.W.subIn K (.ref D) (.type "BaseException") = some true) && (PySem.W.hasDictIn K D &&
  (decide (PySem.W.findIn K (.ref D) "__class__" = some (some (.builtin "object.__class__"))) && (decide (PySem.W.specialIn K (.builtin "object.__class__") "__get__" = some (some (.builtin "getset_descriptor.__get__"))) && (decide (PySem.W.takesIn K (.builtin "object.__class__") = some true) && decide (PySem.W.mroIn K D (.type "object") = some true)))))))
/-! ## what the head tells besides: where sys.modules stands, how the classes of errors lie -/
def sysB (g : Addr → Option Obj) : Bool := match g sysModules with
  | some ⟨_, _, .dict _ _, _⟩ => true
  | _ => false
theorem sysB_of {g : Addr → Option Obj} (h : sysB g = true) : ∃ o es ep, g sysModules = some o ∧ o.data = .dict es ep := by
  unfold sysB at h
  split at h
  · rename_i es ep sl q
    exact ⟨_, es, ep, q, rfl⟩
  · cases h
def hookS (n : Nat) (fa : List He.Fa) (fn : List He.DefD) (tf : List He.Defn) (ex : PySem.W.Frag → Bool) : PySem.W.Hook where
  α := He.AlX × Bool
  obs := fun s => ((He.hookX n fa fn [] tf ex).obs s, sysB s.heap.get?)
  val := fun w => ((He.hookX n fa fn [] tf ex).val w, true)
  says := fun w h => (He.hookX n fa fn [] tf ex).says w h ∧ ∃ o es ep, h.get? sysModules = some o ∧ o.data = .dict es ep
  of := fun w s e => ⟨(He.hookX n fa fn [] tf ex).of w s (congrArg Prod.fst e), sysB_of (congrArg Prod.snd e)⟩
  keeps := fun w h h' ⟨a, o, es, ep, b, c⟩ k => ⟨(He.hookX n fa fn [] tf ex).keeps w h h' a k, o, es, ep, k _ _ b, c⟩
def obsS (n : Nat) (fa : List He.Fa) (fn : List He.DefD) (tf : List He.Defn) (ex : PySem.W.Frag → Bool) (g : Addr → Option Obj) : He.AlX × Bool := (He.obsX n fa fn [] tf ex g, sysB g)
theorem obsS_eq {n : Nat} {fa : List He.Fa} {fn : List He.DefD} {tf : List He.Defn} {ex : PySem.W.Frag → Bool} {g : Addr → Option Obj} {s : Shared} (h : ∀ a, g a = s.heap.get? a) : obsS n fa fn tf ex g = (hookS n fa fn tf ex).obs s := by
  have e : g = s.heap.get? := funext h
  rw [e] <;> rfl
/-! ### the classes of errors -/
def errN : List Str := ["NoDeck", "NoCard", "NoName", "NoDepth", "NoPlace", "Twice", "Full", "Last", "NoNumber", "NoStep", "NoLevel", "NotSettled", "NotLasting", "NoOrder", "NoNames", "NoRow", "NoDepths", "TooMany", "NoText", "NoForm", "NoneYet"]
/-- of the classes xs: each is an exception under DeckError and ValueError, and under no other one -/
def clsB (xs : List Str) (K : PySem.W.Frag) : Bool := xs.all fun x => excB K (He.ga K x) && (decide (PySem.W.kitOne K (.ref (He.ga K x)) (.ref (He.ga K "DeckError")) = some true) && (decide (PySem.W.kitOne K (.ref (He.ga K x)) (.type "ValueError") = some true) &&
  (decide (PySem.W.exmOne K (.ref (He.ga K x)) (.ref (He.ga K "DeckError")) = some true) && errN.all fun y => decide (PySem.W.kitOne K (.ref (He.ga K x)) (.ref (He.ga K y)) = some (decide (y = x))))))
end Sb
end
section
set_option Elab.async false
set_option linter.all false
set_option maxRecDepth 100000
set_option maxHeartbeats 4000000
namespace Sb
open PySem PySem.Spec PyProof.Rows L2
section
variable {X : Cx} {T : Tb} {W : WX} {pos : Pos}
variable {a b c e : Expr} {es : List Expr} {fa fb : EF} {ra : AF}
/-! ## products: numbers, a text so many times -/
def gMulX : G2 := fun x y S => match x, y with
  | .int i, .int j => if i.natAbs.log2 + j.natAbs.log2 < 1000000 then some (.int (i * j), S) else none
  | .str z, .int n => if 1 ≤ n ∧ n ≤ 1000 ∧ z.length ≤ 1000 then some (.str (Txt.mul z n), S) else none
  | _, _ => none
theorem mul_fits {z : Str} {n : Int} (h1 : 1 ≤ n) (h2 : n ≤ 1000) (h3 : z.length ≤ 1000) : MulOk z n := by
  refine ⟨?_, fun _ _ h => ?_, fun _ _ => ?_⟩
  · rw [Bool.or_eq_false_iff, decide_eq_false_iff_not, decide_eq_false_iff_not]
    constructor <;> omega
  · have h5 : (9223372036854775807 : Int) / 1000 ≤ (2 ^ 63 - 1) / n := by
      rw [Int.le_ediv_iff_mul_le (by omega)]
      have : (9223372036854775807 : Int) / 1000 = 9223372036854775 := by decide
      rw [this]
      have : (9223372036854775 : Int) * n ≤ 9223372036854775 * 1000 := Int.mul_le_mul_of_nonneg_left h2 (by decide)
      omega
    have : (9223372036854775807 : Int) / 1000 = 9223372036854775 := by decide
    omega
  · have h6 : z.length * n.toNat ≤ 1000 * 1000 := Nat.mul_le_mul h3 (by omega)
    have hz := sizeLine_eq
    show decide (z.length * n.toNat > sizeLine) = false
    rw [decide_eq_false_iff_not]
    omega
theorem o_mulX : OpR X (binaryOp .Mult) (rG2 T gMulX) := by
  intro pins s σ H x y v u Q I rx ry h
  obtain ⟨φ, S, d1, d2, R, r1, r2, f⟩ := h
  unfold gMulX at f
  split at f
  · rename_i i j
    split at f
    · rename_i hc
      refine op_mulW pins s σ H x y v u Q I rx ry ?_
      cases r1; cases r2
      exact ⟨i, j, rfl, rfl, hc, f.val R rfl⟩
    · obtain ⟨_, _, z, _⟩ := f; cases z
  · rename_i z n
    split at f
    · rename_i hc
      cases r1; cases r2
      obtain ⟨t, rfl⟩ := rx
      obtain ⟨t2, rfl⟩ := ry
      exact SB.mul (mul_fits hc.1 hc.2.1 hc.2.2) fun t' k => ⟨.str (Txt.mul z n), H, I.tok k, ⟨t', rfl⟩, f.val R rfl⟩
    · obtain ⟨_, _, z, _⟩ := f; cases z
  · obtain ⟨_, _, z, _⟩ := f; cases z
/-! ## divmod -/
def gDivmod : GN := fun ds S => match ds with
  | [.int i, .int j] => if 0 < j ∧ j < 1073741824 then some (.tup [.int (i / j), .int (i % j)], S) else none
  | _ => none
theorem c_divmod : CallR X (.builtin "divmod") (rGN T gDivmod) := CallR.imp call_divmod fun xs H Q h => by
  obtain ⟨φ, S, ds, R, r, f⟩ := h
  unfold gDivmod at f
  split at f
  · rename_i i j
    split at f
    · rename_i hc
      obtain ⟨v, l, rfl, r1, w, l2, rfl, r2, r3⟩ := r
      cases r3; cases r1; cases r2
      exact ⟨i, j, rfl, hc, fun p hp => Fin.tup f R (show RDs T H φ [.int (i / j), .int (i % j)] _ from ⟨_, _, rfl, rfl, _, _, rfl, rfl, rfl⟩) p hp⟩
    · obtain ⟨_, _, z, _⟩ := f; cases z
  · obtain ⟨_, _, z, _⟩ := f; cases z
/-! ## is True, is not True -/
def gIsB (neg : Bool) : G2 := fun x y S => match x, y with
  | .bl a, .bl b => some (.bl (if neg then !decide (a = b) else decide (a = b)), S)
  | _, _ => none
theorem isB_of {neg : Bool} {x y : V} {H : Hp} {Q : VK} (h : rG2 T (gIsB neg) x y H Q) : ∃ a b : Bool, x = .bl a ∧ y = .bl b ∧ Q (.bl (if neg then !decide (a = b) else decide (a = b))) H := by
  obtain ⟨φ, S, d1, d2, R, r1, r2, f⟩ := h
  unfold gIsB at f
  split at f
  · cases r1; cases r2
    exact ⟨_, _, rfl, rfl, f.val R rfl⟩
  · obtain ⟨_, _, z, _⟩ := f; cases z
theorem o_notB : OpR X (compareOp .IsNot) (rG2 T (gIsB true)) := OpR.imp op_notBl fun _ _ _ _ h => isB_of h
/-! ## slices of texts too -/
def gSlX : GS := fun x lo hi S => match x with
  | .str z => if z.length ≤ sizeLine then some (.str (cutS z lo hi), S) else none
  | x => gSl x lo hi S
theorem s_slX (hK : T.K = X.K) : SlR X (rGS T gSlX) := SlR.imp (SlR.or (s_sl (T := T) hK) sl_str) fun x lo hi H Q h => by
  obtain ⟨φ, S, d, R, r, f⟩ := h
  cases d with
  | str z =>
    cases r
    simp only [gSlX] at f
    split at f
    · rename_i hl
      exact .inr ⟨z, rfl, hl, f.val R rfl⟩
    · obtain ⟨_, _, z, _⟩ := f; cases z
  | _ => exact .inl ⟨φ, S, _, R, r, f⟩
def eSlX (fe : EF) (lo hi : OF) : EF := fun τ => (fe τ).bnd fun x => (lo τ).bnd fun l => (hi τ).bnd fun u S => lft (gSlX x l u S)
theorem d_slX (hK : T.K = X.K) {lo hi : Option Expr} {p2 : Pos} {fl fh : OF} (he : PE X e (rdE T W fa)) (hl : PO X lo (rdO T W fl)) (hu : PO X hi (rdO T W fh)) : PE X (.Subscript e (.Slice lo hi none p2) pos) (rdE T W (eSlX fa fl fh)) :=
  (pe_slice (s_slX (T := T) hK) he hl hu).imp fun σ H Q h => by
    obtain ⟨φ, S, τ, o, R, r, e, q⟩ := h
    refine rdE_bnd R r e q fun d1 S1 v1 H1 φ1 ⟨E1, R1, r1⟩ e1 q1 => ?_
    refine rdO_bnd R1 (r.ext E1) e1 q1 fun l S2 H2 φ2 E2 R2 e2 q2 => ?_
    refine rdO_bnd R2 ((r.ext E1).ext E2) e2 q2 fun u S3 H3 φ3 E3 R3 e3 q3 => ?_
    exact ⟨φ3, S3, d1, R3, (r1.ext E2 _ _).ext E3 _ _, Fin.of e3 q3⟩
theorem eSlX_ok {fe : EF} {lo hi : OF} {τ : Sl} {x d : D} {a b : Option Int} {S S1 S2 S3 S4 : Sto} (h1 : fe τ S = some (.ok x S1)) (h2 : lo τ S1 = some (.ok a S2)) (h3 : hi τ S2 = some (.ok b S3)) (h4 : gSlX x a b S3 = some (d, S4)) : eSlX fe lo hi τ S = some (.ok d S4) := by
  simp only [eSlX, M.bnd, h1, h2, h3, h4, lft]
end
section
variable {X : Cx} {T : Tb} {W : WX} {pos : Pos}
/-! ## break, continue -/
def sBrk : SF := fun τ S => some (.bk τ, S)
theorem s_brk : PS X (.Break pos) (rdS T W sBrk) := ps_break.imp fun De σ H h => by
  obtain ⟨φ, S, τ, fl, S', R, r, e, q⟩ := h
  cases e
  exact q φ H σ .refl R r
end
/-! ## a walk over the script -/
section
variable {X : Cx} {T : Tb} {W : WX} {pos : Pos} {e tg : Expr} {fa : EF}
def iScr (fe : EF) : IF := fun τ => (fe τ).bnd fun d S => match d with
  | .scr ns => some (.ok ⟨ns.length, fun i _ => some ((ns.map D.int)[i]?)⟩ S)
  | d => (wkD S d).bind fun wk => some (.ok wk S)
theorem sv_scr (hK : T.K = X.K) {φ0 : List Addr} {H0 : Hp} {ns : List Int} {p : Addr} {n : Nat} (h : RD T H0 φ0 (.scr ns) (.ref p)) : Serves T φ0 H0 ⟨n, fun i _ => some ((ns.map D.int)[i]?)⟩ (Itl X.K p) := by
  intro φ S H i E R
  have h' := h.ext E _ _
  obtain ⟨a, e, s⟩ := h'
  cases e
  have k := s.seq
  rw [hK] at k
  have r : RDs T H φ (ns.map D.int) (ns.map V.int) := ints_rds ns
  refine ⟨fun d hd => ?_, fun hn => ?_⟩
  · have hd' : (ns.map D.int)[i]? = some d := Option.some.inj hd
    obtain ⟨v, h1, h2⟩ := r.get hd'
    refine ⟨⟨_, v, k, h1⟩, fun x H' y => ?_⟩
    obtain ⟨rfl, y⟩ := y
    exact ⟨.refl, R, rds_at r (y _ k) hd'⟩
  · have hn' : (ns.map D.int)[i]? = none := Option.some.inj hn
    exact ⟨_, k, rds_none r hn'⟩
theorem i_scr (hK : T.K = X.K) (he : PE X e (rdE T W fa)) : PI X tg e (rdI T W (iScr fa)) :=
  ((pi_list he).or (i_seq (tg := tg) he)).imp fun σ H Rr h => by
    obtain ⟨φ, S, τ, o, R, r, e, q⟩ := h
    have e0 := e
    unfold iScr M.bnd at e0
    cases e1 : fa τ S with
    | none => rw [e1] at e0; cases e0
    | some x =>
      rw [e1] at e0
      cases x with
      | ex x S1 =>
        cases e0
        exact .inl ⟨φ, S, τ, _, R, r, e1, q⟩
      | ok d S1 =>
        have go : (∀ ns, d ≠ .scr ns) → iSeq fa τ S = some o := fun hd => by
          have e2 := e0
          unfold iSeq M.bnd
          rw [e1]
          cases d <;> first | exact absurd rfl (hd _) | exact e2
        cases d with
        | scr ns =>
          cases e0
          refine .inl ⟨φ, S, τ, _, R, r, e1, fun φ1 H1 v E1 R1 r1 => ?_⟩
          have r1' := r1
          obtain ⟨p, rfl, s⟩ := r1
          have k := s.seq
          rw [hK] at k
          exact ⟨p, rfl, ⟨_, k⟩, q φ1 H1 _ E1 R1 (sv_scr hK r1')⟩
        | _ => exact .inr ⟨φ, S, τ, o, R, r, go (fun ns z => by cases z), q⟩
theorem iScr_scr {fe : EF} {τ : Sl} {ns : List Int} {S S1 : Sto} (h : fe τ S = some (.ok (.scr ns) S1)) : iScr fe τ S = some (.ok ⟨ns.length, fun i _ => some ((ns.map D.int)[i]?)⟩ S1) := by simp only [iScr, M.bnd, h]
theorem iScr_loc {fe : EF} {τ : Sl} {n : Nat} {ds : List D} {S S1 : Sto} (h : fe τ S = some (.ok (.loc n) S1)) (e : S1[n]? = some (.lst ds)) : iScr fe τ S = some (.ok ⟨ds.length, fun i S => (seqD S (.loc n)).map fun es => es[i]?⟩ S1) := by simp only [iScr, M.bnd, h, wkD, seqD, e, Option.map_some, Option.bind_some]
end
/-! ## str of a whole number -/
section
variable {X : Cx} {T : Tb}
end
end Sb
end
section
set_option Elab.async false
set_option linter.all false
set_option maxRecDepth 100000
set_option maxHeartbeats 4000000
/-! sorted(deck, key=lambda card: card[1]): the cards by a whole number at their second place. -/
namespace Sb
open PySem PySem.Spec PyProof.Rows L2 PySem.W
section
variable {X : Cx} {pins : List (Addr × Obj)} {σ : L2.St} {H : Hp} {s : Shared}
end
section
variable {T : Tb} {φ : List Addr} {S : Sto} {H : Hp}
end
/-! ## the law of the sort -/
section
variable {X : Cx} {T : Tb} {W : WX}
end
/-! ## the tables of a law's lambdas -/
end Sb
end
section
set_option Elab.async false
set_option linter.all false
set_option maxRecDepth 100000
set_option maxHeartbeats 4000000
/-! a def called with no arguments -/
namespace Sb
open PySem PySem.Spec PyProof.Rows L2
section
variable {X : Cx} {T : Tb} {W : WX} {pos : Pos}
end
end Sb
end
section
set_option Elab.async false
set_option linter.all false
set_option maxRecDepth 100000
set_option maxHeartbeats 4000000
/-! min(t) of a tuple of whole numbers. -/
namespace Sb
open PySem PySem.Spec PyProof.Rows L2
def rMinT (K : PySem.W.Frag) : List V → Hp → VK → Prop := fun xs H Q => ∃ (a : Addr) (n : Int) (r : List Int), xs = [V.ref a] ∧ SqT K H a ((n :: r).map V.int) ∧ Q (.int (r.foldl min n)) H
theorem cr_minT {X : Cx} (hc : X.calm = true) (hu : X.A.units + 1 < cLine) : CallR X (.builtin "min") (rMinT X.K) := by
  intro pins s σ H xs us Q I r h
  obtain ⟨a, n, m, rfl, hs, q⟩ := h
  obtain ⟨its, rv, hl, _⟩ := I.tuple hs
  rw [Vals.ref1 r]
  have hr := ints_reads s.heap rv.ints
  refine PySem.W.min_tuple_data (x := PyData.int n) (xs := m.map PyData.int) (as := []) (I.ok.hd hc) hl (by simpa using hr) (alike_ints (n :: m)) (by have := depthAll_ints (n :: m); rw [List.map_cons] at this; rw [this]; exact hu) (fun i v h' tk bs hi rr hk => ?_)
  rw [PySem.W.minD_ints] at rr
  cases rr with
  | int i t => exact ⟨V.int (m.foldl min n), H, I.kept hk, ⟨t, rfl⟩, q⟩
section
variable {X : Cx} {T : Tb}
def gMinT : GN := fun ds S => match ds with
  | [.tup es] => (intsD es).bind fun ns => match ns with
    | n :: r => some (.int (r.foldl min n), S)
    | [] => none
  | _ => none
theorem c_minT (hc : X.calm = true) (hu : X.A.units + 1 < cLine) : CallR X (.builtin "min") (rGN T gMinT) := CallR.imp (cr_minT hc hu) fun xs H Q h => by
  obtain ⟨φ, S, ds, R, r, f⟩ := h
  unfold gMinT at f
  split at f
  · rename_i es
    cases e : intsD es with
    | none => rw [e] at f; obtain ⟨_, _, z, _⟩ := f; cases z
    | some ns =>
      rw [e] at f
      simp only [Option.bind_some] at f
      cases ns with
      | nil => obtain ⟨_, _, z, _⟩ := f; cases z
      | cons n m =>
        obtain ⟨v, l, rfl, r1, r2⟩ := r
        cases r2
        obtain ⟨a, vs, rfl, hH, s⟩ := r1
        have ev := ints_ok s e
        subst ev
        exact ⟨a, n, m, rfl, .inl hH, f.val R rfl⟩
  · obtain ⟨_, _, z, _⟩ := f; cases z
end
end Sb
end
section
set_option Elab.async false
set_option linter.all false
set_option maxRecDepth 100000
set_option maxHeartbeats 4000000
namespace Sb
open PySem PySem.Spec PyProof.Rows L2
/-! ## list comprehensions of two clauses -/
section
variable {X : Cx} {T : Tb} {W : WX} {pos : Pos} {fi fi1 : IF} {g g1 : TF} {t t1 : BF} {fe : EF} {vs vs1 us us1 : List Nat}
variable {elt tg iter tg1 iter1 : Expr} {ifs ifs1 : List Expr} {scope : Scope} {own : List (Str × Nat)}
end
end Sb
end
section
set_option Elab.async false
set_option linter.all false
set_option maxRecDepth 100000
set_option maxHeartbeats 4000000
namespace Sb
open PySem PySem.Spec PyProof.Rows L2
/-! ## an exception that is caught and kept -/
/-- the object of a caught exception -/
abbrev kept (a : Addr) (oe : Obj) : HO := .frz oe (.own a)
section
variable {X : Cx} {x n y : Str} {c : Value} {i j : Nat} {body : List Stmt} {np pos pos' p1 p2 p3 : Pos} {tb : WX → TS} {Wout : WX}
end
end Sb
end
section
set_option Elab.async false
set_option linter.all false
set_option maxRecDepth 100000
set_option maxHeartbeats 4000000
namespace Sb
open PySem PySem.Spec PyProof.Rows L2
/-! ## the kept exception as a value -/
section
variable {X : Cx}
end
section
variable {X : Cx} {T : Tb} {W : WX} {pos : Pos} {e : Expr} {fa : EF}
/-! ### a tuple of classes -/
/-! ### try: .. except C as e: caught = e -/
end
end Sb
end
section
set_option Elab.async false
set_option linter.all false
set_option maxRecDepth 100000
set_option maxHeartbeats 4000000
namespace Sb
open PySem PySem.Spec PyProof.Rows L2
/-! ## l.index(x) of data, where x is there -/
def gIndex : GM := fun x ds S => match ds with
  | [y] => match toPy 8 S x, toPy 8 S y with
    | some (.list es), some d => if SeqAt.shaped (.list es) = true ∧ SeqAt.shaped d = true ∧ es.findIdx (fun z => PyData.eqv z d) < es.length then some (.int (es.findIdx (fun z => PyData.eqv z d) : Nat), S) else none
    | _, _ => none
  | _ => none
theorem m_index {X : Cx} {T : Tb} (hu : X.A.units + 65 < cLine) : MtR X "list.index" (rGM T gIndex) := MtR.imp (mt_indexD hu) fun x xs H Q h => by
  obtain ⟨φ, S, d, ds, R, r, rs, f⟩ := h
  unfold gIndex at f
  split at f
  · rename_i y
    split at f
    · rename_i es p h1 h2
      split at f
      · rename_i hs
        obtain ⟨h3, h4, h5⟩ := hs
        obtain ⟨v, l, rfl, r1, r2⟩ := rs
        cases r2
        have dx := py_dp (K := X.K) R 8 d x _ r h1
        have dy := py_dp (K := X.K) R 8 y v _ r1 h2
        obtain ⟨a, rfl⟩ : ∃ a, x = .ref a := by cases dx; exact ⟨_, rfl⟩
        have hat := List.findIdx_getElem (w := h5)
        refine ⟨a, v, p, es, _, _, rfl, rfl, dx, dy, h3, h4, List.getElem?_eq_getElem h5, hat, fun m z' hm hz => ?_, f.val R rfl⟩
        have hml : m < es.length := by omega
        rw [List.getElem?_eq_getElem hml] at hz
        cases hz
        have := List.not_of_lt_findIdx hm
        simpa using this
      · obtain ⟨_, _, z, _⟩ := f; cases z
    · obtain ⟨_, _, z, _⟩ := f; cases z
  · obtain ⟨_, _, z, _⟩ := f; cases z
end Sb
end
section
set_option Elab.async false
set_option linter.all false
set_option maxRecDepth 100000
namespace Sb
open PySem PySem.Spec PyProof.Rows L2
end Sb
end
section
set_option Elab.async false
set_option linter.all false
set_option maxRecDepth 100000
namespace Sb
open PySem PySem.Spec PyProof.Rows L2
end Sb
end
section
set_option Elab.async false
set_option linter.all false
set_option maxRecDepth 100000
set_option maxHeartbeats 4000000
namespace Sb
open PySem PySem.Spec PyProof.Rows L2
/-! ## enumerate of a list -/
/-- the list at a, each item in a new pair -/
def IteL (K : PySem.W.Frag) (a : Addr) : It :=
  ⟨fun i H => ∃ (xs : List V) (x : V), SqL K H a xs ∧ xs[i]? = some x, fun i H v H' => ∃ P x, v = .ref P ∧ H P = none ∧ H' = upd H P (.tup [.int (i : Nat), x]) ∧ ∀ xs, SqL K H a xs → xs[i]? = some x, fun i H => ∃ xs : List V, SqL K H a xs ∧ xs.length ≤ i⟩
theorem turn_enumL {P : Program} {w : World} {K : PySem.W.Frag} {elts : List Expr} {kk : Nat} {tpos : Pos} (a e it : Addr) :
    Turn P w K (.Tuple elts kk tpos) (IteL K a) [e, it] e (fun i h => (∃ old, IsEnum h e it ((i : Nat) : Int) old) ∧ h.IsListIter it a i ∧ e ≠ it) where
  mem := by simp
  obj := fun i h st b hb => by
    obtain ⟨⟨old, isE⟩, ⟨o, ho, hc, hd⟩, _⟩ := st
    have cases2 : b = e ∨ b = it := by simpa using hb
    rcases cases2 with z | z
    · rw [z]; exact ⟨_, isE, fun v q => nomatch q⟩
    · rw [z]; exact ⟨o, ho, fun v q => by rw [hd] at q; cases q⟩
  keep := fun i h h' st k => let ⟨⟨old, isE⟩, isI, ne⟩ := st; ⟨⟨old, k e (by simp) _ isE⟩, isI.at fun o q => k it (by simp) o q, ne⟩
  item := by
    intro X hP hw hK hc i pins s σ H E I hf st hg
    subst hP hw hK
    obtain ⟨⟨old, isE⟩, isI, ne⟩ := st
    obtain ⟨xs, x, hq, hx⟩ := hg
    obtain ⟨its, rv, isP, hz⟩ := I.list hq
    have isT := isP.isList
    obtain ⟨u, hu, ru⟩ := rv.get hx
    have ltE : e < s.heap.objs.size := Heap.lt_size isE
    have ltI : it < s.heap.objs.size := by obtain ⟨_, q, _⟩ := isI; exact Heap.lt_size q
    have neA : a ≠ it := by
      rintro rfl
      obtain ⟨o1, h1, h2, _⟩ := isI
      obtain ⟨o2, h3, h4, _⟩ := isT
      rw [h1] at h3
      cases h3
      rw [h2] at h4
      exact absurd h4 (by decide)
    have neEA : e ∉ [it, a] := by
      intro z
      rcases List.mem_cons.mp z with z | z
      · exact ne z
      · have z' : e = a := by simpa using z
        rw [← z'] at isT
        obtain ⟨o2, h3, h4, _⟩ := isT
        rw [isE] at h3
        have h5 := Option.some.inj h3
        rw [← h5] at h4
        have h6 : Value.type "enumerate" = Value.type "list" := h4
        injection h6 with h7
        exact absurd h7 (by decide)
    have ltn : i < its.toArray.size := by
      have := (List.getElem?_eq_some_iff.mp hu).1
      simpa using this
    refine wpAny_pyNext_enum_itemD (Draws.list (A := X.A.in1) (I.ok.hd hc) it a neA its.toArray) isE ⟨isI, isT⟩ ltn ne neEA fun y h' tk hy hout hst hnew hsz hk => ?_
    obtain ⟨hit', _⟩ := hst
    have ey : y = u := by
      have : its[i]? = some y := by simpa using hy
      rw [hu] at this
      exact (Option.some.inj this).symm
    subst ey
    refine ⟨_, rfl, wpAny_letOwnedTupleGo_enum (s := { s with heap := h', toks := tk + 1 }) hout fun h'' isE' sb => ?_⟩
    have hnew2 : h''.get? s.heap.objs.size = some { cls := .type "tuple", data := .seq #[.int i tk, y] } := (sb.2 _ (Nat.ne_of_gt ltE)).trans hnew
    have okN : ObjOk X.prog X.w (upd H s.heap.objs.size (.tup [.int (i : Nat), x])) h'' s.heap.objs.size (.tup [.int (i : Nat), x]) :=
      ⟨by show 2 ≤ sizeLine; decide, [.int i tk, y], .cons ⟨_, rfl⟩ (.cons ru .nil), ⟨_, hnew2, rfl, _, rfl⟩⟩
    have I1 : L2.Inv X pins σ (upd H s.heap.objs.size (.tup [.int (i : Nat), x])) { s with heap := h'', toks := tk + 1 } :=
      I.turnedNew (ch := [e, it]) (fun b ob hb q => (sb.2 b (fun z => hb (by simp [z]))).trans (hk b ob (fun z => hb (by simp [z])) (fun z => hb (by simp [z])) q)) hf (Nat.le_refl _) okN
    refine ⟨.ref s.heap.objs.size, _, I1, rfl, ⟨_, x, rfl, I.hok.fresh (Nat.le_refl _), rfl, fun ys hy => by rw [I.list_inj hy hq]; exact hx⟩, ⟨⟨y, ?_⟩, hit'.at fun o q => (sb.2 it (Ne.symm ne)).trans q, ne⟩, fun b hb => ?_⟩
    · rw [show ((i + 1 : Nat) : Int) = (i : Int) + 1 by omega]
      exact isE'
    · have ltb : b < s.heap.objs.size := by
        have cases2 : b = e ∨ b = it := by simpa using hb
        rcases cases2 with z | z
        · rw [z]; exact ltE
        · rw [z]; exact ltI
      rw [upd_ne (Nat.ne_of_lt ltb)]
      exact (hf b hb).1
  done := by
    intro X hP hw hK hc i pins s σ H E I hf st hg
    subst hP hw hK
    obtain ⟨⟨old, isE⟩, isI, ne⟩ := st
    obtain ⟨xs, hq, hx⟩ := hg
    obtain ⟨its, rv, isP, hz⟩ := I.list hq
    have isT := isP.isList
    obtain ⟨f0, f1, f2, f3, f4, f5⟩ := hf it (by simp)
    have len := rv.length
    have neA : a ≠ it := by
      rintro rfl
      obtain ⟨o1, h1, h2, _⟩ := isI
      obtain ⟨o2, h3, h4, _⟩ := isT
      rw [h1] at h3
      cases h3
      rw [h2] at h4
      exact absurd h4 (by decide)
    unfold pyNext
    have tyE : s.TypeIs (.ref e) "enumerate" := ⟨_, isE, rfl⟩
    refine wpAny_bind (wpAny_attempt (wpAny_callSpecial?_slot (name := Str.ofString "__next__") tyE F.slot_enumerate_next
      (wpAny_call_entry F.slot_enumerate_next tyE F.entry_enumerate_next ?_ (F.args_enumerate_next_1 _))))
    show wpAny _ _ (field (.ref e) 2 >>= _) _ _ _
    refine wpAny_bind (wpAny_field isE rfl (x := .ref it) rfl ?_)
    refine wpAny_bind (wpAny_nextOf_list_end (I.ok.hd hc) isI isT (by simp; omega) fun h' xv eb hxv => ?_)
    obtain ⟨ob, hob, hcl⟩ := hxv
    refine wpAny_bind (wpAny_isInstance (T := "StopIteration") (b := true) ⟨ob, hob, hcl⟩ isSubtype_stop ?_)
    exact wpAny_pure ⟨rfl, I.turned (t' := s.toks) (fun b o hb q => eb b o hb q) f0 f1 f3 f4 f5⟩
  self := fun A i s Q E st h => let ⟨⟨_, isE⟩, _⟩ := st; wpAny_pyIter_enum isE h
def iEnumL (K : PySem.W.Frag) (ta : TA) : TI := fun σ H R => ta σ H fun vs H1 => ∃ a xs, vs = [.ref a] ∧ SqL K H1 a xs ∧ R (IteL K a) H1
theorem pi_enumL {X : Cx} {e : Expr} {ta : TA} {p pos tpos : Pos} {elts : List Expr} {kk : Nat} (hg : Gl X "enumerate") (hm : X.mg "enumerate" = none) (ha : PA X [e] ta) (hs : starEach [e] X.env = [(false, eval e X.env)] := by rfl) :
    PI X (.Tuple elts kk tpos) (.Call (.Name "enumerate" p) [e] [] pos) (iEnumL X.K ta) := by
  refine ⟨fun pins s σ H Rr I hh => ?_⟩
  refine Call_ (ld_blt I hg hm boot_enumerate (PyProof.Rows.callWith_type1 (thn (ha.run pos pins s σ H _ I hh) fun us s1 ⟨vs, H1, I1, r1, q1⟩ => ?_) hs rfl))
  obtain ⟨a, xs, ex, hq, q⟩ := q1
  subst ex
  cases r1 with
  | cons r rr =>
    cases rr
    cases r
    obtain ⟨its, rv, isP, hz⟩ := I1.list hq
    have isT := isP.isList
    refine call_enumerate_list isT fun h' isE isI _ hk => wpAny_pyIter_enum isE ?_
    have I2 : L2.Inv X pins σ H1 { s1 with heap := h' } := I1.kept (t' := s1.toks) hk
    refine ⟨s1.heap.objs.size + 1, [s1.heap.objs.size + 1, s1.heap.objs.size], _, _, H1, rfl, I2, turn_enumL a (s1.heap.objs.size + 1) s1.heap.objs.size, ⟨⟨.none, isE⟩, isI, Nat.succ_ne_self _⟩, fun b hb => ?_, q⟩
    have above : s1.heap.objs.size ≤ b := by
      rcases (show b = s1.heap.objs.size + 1 ∨ b = s1.heap.objs.size by simpa using hb) with z | z
      · rw [z]; exact Nat.le_add_right _ _
      · rw [z]; exact Nat.le_refl _
    exact I1.fpOk above (I1.hok.fresh above)
end Sb
end
section
set_option Elab.async false
set_option linter.all false
set_option maxRecDepth 100000
set_option maxHeartbeats 4000000
namespace Sb
open PySem PySem.Spec PyProof.Rows L2 PySem.W
section
variable {X : Cx} {T : Tb} {W : WX} {pos : Pos} {e : Expr} {ra : AF}
/-! ## enumerate of a tuple or of a told list -/
def iEnX (ra : AF) : IF := fun τ => (ra τ).bnd fun ds S => match ds with
  | [.tup es] => some (.ok (wkE es) S)
  | [.fl es] => some (.ok (wkE es) S)
  | _ => none
theorem i_enumX {p tpos : Pos} {elts : List Expr} {kk : Nat} (hK : T.K = X.K) (hg : Gl X "enumerate") (hm : X.mg "enumerate" = none) (ha : PA X [e] (rdA T W ra)) (hs : starEach [e] X.env = [(false, eval e X.env)] := by rfl) :
    PI X (.Tuple elts kk tpos) (.Call (.Name "enumerate" p) [e] [] pos) (rdI T W (iEnX ra)) :=
  ((i_enum (tpos := tpos) (elts := elts) (kk := kk) (p := p) hK hg hm ha hs).or (pi_enumL hg hm ha hs)).imp fun σ H Rr h => by
    obtain ⟨φ, S, τ, o, R, r, e, q⟩ := h
    have e0 := e
    unfold iEnX M.bnd at e0
    cases e1 : ra τ S with
    | none => rw [e1] at e0; cases e0
    | some x =>
      rw [e1] at e0
      have left : (∀ es S1, x ≠ .ok [.fl es] S1) → iEn ra τ S = some o := fun hx => by
        unfold iEn M.bnd
        rw [e1]
        cases x with
        | ex x S1 => exact e0
        | ok ds S1 =>
          revert e0 hx
          cases ds with
          | nil => exact fun z _ => z
          | cons d l =>
            cases l with
            | nil => cases d <;> first | exact fun z _ => z | exact fun _ hx => absurd rfl (hx _ _)
            | cons d2 l2 => exact fun z _ => by cases d <;> exact z
      by_cases hx : ∃ es S1, x = .ok [.fl es] S1
      · obtain ⟨es, S1, rfl⟩ := hx
        cases e0
        refine .inr ⟨φ, S, τ, _, R, r, e1, fun φ1 H1 vs E1 R1 r1 => ?_⟩
        obtain ⟨v, l, rfl, r2, r3⟩ := r1
        cases r3
        obtain ⟨a, xs, rfl, hn, hH, s⟩ := r2
        refine ⟨a, xs, rfl, .inl (.inl hH), q φ1 H1 _ E1 R1 ?_⟩
        intro φ S H i E2 R2
        have h' := E2.lst _ _ hn hH
        have s' := s.ext E2 _ _
        refine ⟨fun d hd => ?_, fun hn => ?_⟩
        · have hd' : (es[i]?).map (fun d => D.tup [.int (i : Nat), d]) = some d := Option.some.inj hd
          simp only [Option.map_eq_some_iff] at hd'
          obtain ⟨y, hy, rfl⟩ := hd'
          obtain ⟨v, hv, rv⟩ := s'.get hy
          refine ⟨⟨xs, v, .inl (.inl h'), hv⟩, fun x H' yl => ?_⟩
          obtain ⟨P, x2, rfl, hP, rfl, hx⟩ := yl
          have ev := hx xs (.inl (.inl h'))
          rw [hv] at ev
          cases ev
          obtain ⟨R3, E3⟩ := R2.garb (u := .tup [.int (i : Nat), v]) hP
          exact ⟨E3, R3, P, _, rfl, (.inl upd_same), .int (i : Nat), _, rfl, rfl, v, _, rfl, rv.ext E3 _ _, rfl⟩
        · have hn' : (es[i]?).map (fun d => D.tup [.int (i : Nat), d]) = none := Option.some.inj hn
          simp only [Option.map_eq_none_iff] at hn'
          exact ⟨xs, .inl (.inl h'), rds_none s' hn'⟩
      · exact .inl ⟨φ, S, τ, o, R, r, left fun es S1 z => hx ⟨es, S1, z⟩, q⟩
end
theorem iEnX_fl {ra : AF} {τ : Sl} {es : List D} {S S1 : Sto} (h : ra τ S = some (.ok [.fl es] S1)) : iEnX ra τ S = some (.ok (wkE es) S1) := by simp only [iEnX, M.bnd, h]
end Sb
end
section
set_option Elab.async false
set_option linter.all false
set_option maxRecDepth 100000
namespace Sb
open PySem PySem.Spec PyProof.Rows L2
def m_often_round : SF := sSeq (sAs (tN2 3 4) (eCB gDivmod (aCons (eVar 2) (aCons (eCB gLenX (aCons (eVar 0) (aNil))) (aNil))))) (sRt (eB gAdd (eB gMul (eVar 3) (eBM "list" gCount (eVar 0) (aCons (eVar 1) (aNil)))) (eBM "list" gCount (eSl (eVar 0) (oNo) (oSo (eVar 4))) (aCons (eVar 1) (aNil)))))
abbrev M_often_round : List D → M D := fnM 5 (m_often_round)
def m_rows_of : SF := sSeq (sSet 2 (eLc (iRg1 (aCons (eVar 1) (aNil))) (tN 3) (tAll) (eCl (M_pattern_of) 2 (aCons (eVar 0) (aCons (eVar 3) (aNil)))) [3])) (sSeq (sEx (eBM "list" gAppend (eVar 2) (aCons (eCl (M_names_of) 1 (aCons (eCl (M_ring_of) 2 (aCons (eVar 0) (aCons (eVar 1) (aNil)))) (aNil))) (aNil)))) (sRt (eVar 2)))
abbrev M_rows_of : List D → M D := fnM 4 (m_rows_of)
def m_x_bag_bag : SF := sSeq (sSet 1 (eC (.int 1))) (sSeq (sFor (iScr (eVar 0)) (tN 2) (sSet 1 (eB gMod (eB gAdd (eB gAdd (eB gMulX (eVar 1) (eC (.int 1000003))) (eB gMod (eVar 2) (eC (.int 2305843009213693951)))) (eC (.int 1))) (eC (.int 2305843009213693951))))) (sRt (eLst (aCons (fz (eCB gList (aCons (eVar 0) (aNil)))) (aCons (eC (.int 0)) (aCons (eC (.int 0)) (aCons (eC (.int 0)) (aCons (eVar 1) (aNil)))))))))
abbrev M_x_bag_bag : List D → M D := fnM 3 (m_x_bag_bag)
def m_bag_stir : SF := sSeq (sSet 2 (eB gMod (eB gAdd (eB gAdd (eB gMulX (eVar 0) (eC (.int 998244353))) (eB gMulX (eVar 1) (eC (.int 1000000007)))) (eC (.int 5))) (eC (.int 2305843009213693951)))) (sSeq (sSet 3 (eB gMod (eB gMulX (eVar 2) (eVar 2)) (eC (.int 2305843009213693951)))) (sRt (eB gDiv (eB gMod (eB gAdd (eB gAdd (eB gMulX (eVar 3) (eC (.int 2860486313))) (eB gMulX (eB gMulX (eVar 1) (eVar 1)) (eC (.int 48271)))) (eB gDiv (eVar 2) (eC (.int 3)))) (eC (.int 2305843009213693921))) (eC (.int 1024)))))
abbrev M_bag_stir : List D → M D := fnM 4 (m_bag_stir)
def m_bag_draw : SF := sSeq (sIf (tB (eB (gEq false) (eVar 1) (eC (.int 1)))) (sRt (eC (.int 0))) (sNop)) (sSeq (sPut (eB gAdd (eB gIx (eVar 0) (eC (.int 3))) (eC (.int 1))) (eVar 0) (eC (.int 3))) (sSeq (sIf (tAn (tB (eB gLtI (eB gIx (eVar 0) (eC (.int 2))) (eC (.int 2)))) (tB (eB (gEq false) (eB gIx (eVar 0) (eC (.int 1))) (eCB gLenX (aCons (eB gIx (eVar 0) (eC (.int 0))) (aNil)))))) (sRt (eB gMod (eCl (M_bag_stir) 2 (aCons (eB gIx (eVar 0) (eC (.int 4))) (aCons (eB gIx (eVar 0) (eC (.int 3))) (aNil)))) (eVar 1))) (sNop)) (sSeq (sIf (tB (eB gLtI (eB gIx (eVar 0) (eC (.int 2))) (eC (.int 2)))) (sSeq (sSet 2 (eB gIx (eB gIx (eVar 0) (eC (.int 0))) (eB gIx (eVar 0) (eC (.int 1))))) (sSeq (sPut (eB gAdd (eB gIx (eVar 0) (eC (.int 1))) (eC (.int 1))) (eVar 0) (eC (.int 1))) (sSeq (sIf (tB (eB gLtI (eVar 2) (eB gPow (eC (.int 10)) (eC (.int 18))))) (sRt (eB gMod (eCl (M_bag_stir) 2 (aCons (eB gMod (eVar 2) (eC (.int 2305843009213693951))) (aCons (eB gIx (eVar 0) (eC (.int 3))) (aNil)))) (eVar 1))) (sNop)) (sPut (eB gSub (eVar 2) (eB gPow (eC (.int 10)) (eC (.int 18)))) (eVar 0) (eC (.int 2)))))) (sNop)) (sSeq (sSet 3 (eB gMod (eB gIx (eVar 0) (eC (.int 2))) (eVar 1))) (sSeq (sPut (eB gDiv (eB gIx (eVar 0) (eC (.int 2))) (eVar 1)) (eVar 0) (eC (.int 2))) (sRt (eVar 3)))))))
abbrev M_bag_draw : List D → M D := fnM 4 (m_bag_draw)
def m_bag_mixed : SF := sSeq (sSet 2 (eCB gList (aCons (eVar 1) (aNil)))) (sRt (fz (eLc (iRg1 (aCons (eCB gLenX (aCons (eVar 1) (aNil))) (aNil))) (tN 3) (tAll) (eBM "list" gPopAt (eVar 2) (aCons (eCl (M_bag_draw) 2 (aCons (eVar 0) (aCons (eCB gLenX (aCons (eVar 2) (aNil))) (aNil)))) (aNil))) [3])))
abbrev M_bag_mixed : List D → M D := fnM 4 (m_bag_mixed)
def m_bag_names : SF := sSeq (sSet 2 (eC (.str "abcdefghijklmnopqrstuvwxyz"))) (sSeq (sSet 3 (eB gAdd (fz (eLc (iRg1 (aCons (eC (.int 38)) (aNil))) (tN 4) (tAll) (eB gMulX (eB gIx (eVar 2) (eB gMod (eVar 4) (eC (.int 26)))) (eB gAdd (eC (.int 1)) (eB gDiv (eVar 4) (eC (.int 26))))) [4])) (fz (eLst (aCons (eC (.str "zyxwvuts")) (aCons (eC (.str "abcdefgh")) (aNil))))))) (sSeq (sIf (tAn (tB (eB gLtI (eVar 1) (eC (.int 27)))) (tB (eB (gEq false) (eCl (M_bag_draw) 2 (aCons (eVar 0) (aCons (eC (.int 2)) (aNil)))) (eC (.int 0))))) (sSeq (sSet 5 (eCl (M_bag_draw) 2 (aCons (eVar 0) (aCons (eC (.int 8)) (aNil))))) (sSeq (sSet 3 (fz (eLc (iSeq (eVar 2)) (tN 6) (tAll) (eB gAdd (eB gAdd (eSlX (eC (.str "mnopqrm")) (oNo) (oSo (eVar 5))) (eVar 6)) (eSlX (eC (.str "mnopqrm")) (oSo (eVar 5)) (oNo))) [6]))) (sIf (tAn (tB (eB gLtI (eVar 1) (eC (.int 16)))) (tB (eB (gEq false) (eCl (M_bag_draw) 2 (aCons (eVar 0) (aCons (eC (.int 2)) (aNil)))) (eC (.int 0))))) (sSet 3 (eB gAdd (fz (eLc (iRg1 (aCons (eC (.int 8)) (aNil))) (tN 4) (tAll) (eB gAdd (eSlX (eC (.str "abcdefgh")) (oSo (eVar 4)) (oNo)) (eSlX (eC (.str "abcdefgh")) (oNo) (oSo (eVar 4)))) [4])) (fz (eLc (iRg2 (aCons (eC (.int 1)) (aCons (eC (.int 8)) (aNil)))) (tN 4) (tAll) (eSlX (eC (.str "abcdefgh")) (oNo) (oSo (eVar 4))) [4])))) (sNop)))) (sNop)) (sRt (eSlX (fz (eCl (M_bag_mixed) 2 (aCons (eVar 0) (aCons (eVar 3) (aNil))))) (oNo) (oSo (eVar 1))))))
abbrev M_bag_names : List D → M D := fnM 7 (m_bag_names)
def m_bag_settled : SF := sSeq (sSet 2 (eB gAdd (eC (.int 1)) (eCl (M_bag_draw) 2 (aCons (eVar 0) (aCons (eVar 1) (aNil)))))) (sSeq (sSet 3 (eB gIx (fz (eLst (aCons (eVar 2) (aCons (eB gAdd (eC (.int 1)) (eCl (M_bag_draw) 2 (aCons (eVar 0) (aCons (eVar 2) (aNil))))) (aNil))))) (eCl (M_bag_draw) 2 (aCons (eVar 0) (aCons (eC (.int 2)) (aNil)))))) (sSeq (sSet 4 (eCl (M_bag_draw) 2 (aCons (eVar 0) (aCons (eC (.int 3)) (aNil))))) (sSeq (sSet 5 (eLst (aNil))) (sSeq (sFor (iEnX (aCons (eCl (M_bag_names) 2 (aCons (eVar 0) (aCons (eVar 2) (aNil)))) (aNil))) (tN2 6 7) (sSeq (sSet 8 (eCl (M_bag_draw) 2 (aCons (eVar 0) (aCons (eB gAdd (eVar 2) (eC (.int 2))) (aNil))))) (sSeq (sIf (tB (eB gLtI (eVar 6) (eVar 3))) (sSeq (sSet 9 (fz (eLst (aCons (eB gAdd (eVar 6) (eCl (M_bag_draw) 2 (aCons (eVar 0) (aCons (eB gSub (eVar 3) (eVar 6)) (aNil))))) (aCons (eB gSub (eVar 3) (eC (.int 1))) (aCons (eVar 6) (aNil))))))) (sSeq (sSet 8 (eB gIx (fz (eLst (aCons (eB gIx (eVar 9) (eC (.int 0))) (aCons (eB gIx (eVar 9) (eCl (M_bag_draw) 2 (aCons (eVar 0) (aCons (eC (.int 3)) (aNil))))) (aCons (eB gIx (eVar 9) (eB gMulX (eC (.int 2)) (eCB gInt (aCons (eB gGtI (eCl (M_bag_draw) 2 (aCons (eVar 0) (aCons (eC (.int 4)) (aNil)))) (eC (.int 0))) (aNil))))) (aNil)))))) (eVar 4))) (sIf (tAn (tB (eB (gEq false) (eVar 3) (eVar 2))) (tB (eB (gEq false) (eVar 8) (eB gSub (eVar 2) (eC (.int 1)))))) (sSet 8 (eB gAdd (eVar 8) (eCl (M_bag_draw) 2 (aCons (eVar 0) (aCons (eB gIx (fz (eLst (aCons (eC (.int 1)) (aCons (eC (.int 9)) (aCons (eB gPow (eC (.int 10)) (eC (.int 28))) (aNil)))))) (eCl (M_bag_draw) 2 (aCons (eVar 0) (aCons (eC (.int 3)) (aNil))))) (aNil)))))) (sNop)))) (sNop)) (sEx (eBM "list" gAppend (eVar 5) (aCons (eTup (aCons (eVar 7) (aCons (eVar 8) (aNil)))) (aNil))))))) (sRt (eCB gTuple (aCons (eVar 5) (aNil))))))))
abbrev M_bag_settled : List D → M D := fnM 10 (m_bag_settled)
def m_bag_slid : SF := sSeq (sSet 1 (eCB gMin2 (aCons (eB gIx (eB gIx (eVar 0) (eC (.int 0))) (eC (.int 1))) (aCons (eB gSub (eCB gLenX (aCons (eVar 0) (aNil))) (eC (.int 1))) (aNil))))) (sRt (eB gAdd (eB gAdd (eSlX (eVar 0) (oSo (eC (.int 1))) (oSo (eB gAdd (eVar 1) (eC (.int 1))))) (eSlX (eVar 0) (oNo) (oSo (eC (.int 1))))) (eSlX (eVar 0) (oSo (eB gAdd (eVar 1) (eC (.int 1)))) (oNo))))
abbrev M_bag_slid : List D → M D := fnM 2 (m_bag_slid)
def m_bag_closed : SF := sSeq (sFor (iRg2 (aCons (eC (.int 1)) (aCons (eCB gLenX (aCons (eVar 0) (aNil))) (aNil)))) (tN 1) (sIf (tB (eB gLtI (eCB gMax (aCons (fz (eLc (iSeq (eSlX (eVar 0) (oNo) (oSo (eVar 1)))) (tN2 2 3) (tAll) (eCB gMin2 (aCons (eVar 3) (aCons (eB gSub (eCB gLenX (aCons (eVar 0) (aNil))) (eC (.int 1))) (aNil)))) [2, 3])) (aNil))) (eVar 1))) (sRt (eVar 1)) (sNop))) (sRt (eCB gLenX (aCons (eVar 0) (aNil))))
abbrev M_bag_closed : List D → M D := fnM 4 (m_bag_closed)
def m_bag_dressed : SF := sSeq (sSet 2 (fz (eLst (aCons (fz (eLc (iSeq (eVar 1)) (tN 3) (tAll) (fz (eCB gList (aCons (eVar 3) (aNil)))) [3])) (aCons (eCB gTuple (aCons (fz (eLc (iSeq (eVar 1)) (tN 3) (tAll) (fz (eCB gList (aCons (eVar 3) (aNil)))) [3])) (aNil))) (aCons (fz (eCB gList (aCons (eVar 1) (aNil)))) (aNil))))))) (sRt (eB gIx (eVar 2) (eCl (M_bag_draw) 2 (aCons (eVar 0) (aCons (eC (.int 3)) (aNil))))))
abbrev M_bag_dressed : List D → M D := fnM 4 (m_bag_dressed)
def m_numbers_in : SF := sSeq (sIf (tOr' (tNt (tB (eCl (M_is_listed) 1 (aCons (eVar 0) (aNil))))) (tB (eB (gEq true) (eCB gLenX (aCons (eVar 0) (aNil))) (eVar 1)))) (sRt (eC .non)) (sNop)) (sRt (eIf (tB (eAll 3 (iSeq (eVar 0)) (tN 2) (eCl (M_is_whole) 1 (aCons (eVar 2) (aNil))))) (eCB gTuple (aCons (eVar 0) (aNil))) (eC .non)))
abbrev M_numbers_in : List D → M D := fnM 3 (m_numbers_in)
def m_bag_deck : SF := sSeq (sSet 2 (eB gAdd (eC (.int 1)) (eCl (M_bag_draw) 2 (aCons (eVar 0) (aCons (eVar 1) (aNil)))))) (sSeq (sSet 3 (eCl (M_bag_draw) 2 (aCons (eVar 0) (aCons (eC (.int 7)) (aNil))))) (sSeq (sSet 4 (fz (eLst (aCons (eCl (M_bag_draw) 2 (aCons (eVar 0) (aCons (eVar 2) (aNil)))) (aCons (eCl (M_bag_draw) 2 (aCons (eVar 0) (aCons (eVar 2) (aNil)))) (aNil)))))) (sSeq (sSet 5 (eLst (aNil))) (sSeq (sFor (iEnX (aCons (eCl (M_bag_names) 2 (aCons (eVar 0) (aCons (eVar 2) (aNil)))) (aNil))) (tN2 6 7) (sSeq (sSet 8 (fz (eLst (aCons (eCl (M_bag_draw) 2 (aCons (eVar 0) (aCons (eB gAdd (eVar 2) (eC (.int 2))) (aNil)))) (aCons (eCB gMax (aCons (eC (.int 0)) (aCons (eB gAdd (eB gSub (eVar 6) (eC (.int 1))) (eCl (M_bag_draw) 2 (aCons (eVar 0) (aCons (eC (.int 4)) (aNil))))) (aNil)))) (aCons (eB gIx (eVar 4) (eCl (M_bag_draw) 2 (aCons (eVar 0) (aCons (eC (.int 2)) (aNil))))) (aNil))))))) (sSeq (sSet 8 (eB gAdd (eVar 8) (fz (eLst (aCons (eB gAdd (eB gPow (eC (.int 10)) (eC (.int 29))) (eCl (M_bag_draw) 2 (aCons (eVar 0) (aCons (eC (.int 9)) (aNil))))) (aCons (eVar 6) (aCons (eB gSub (eB gSub (eVar 2) (eC (.int 1))) (eVar 6)) (aCons (eB gAdd (eC (.int 1)) (eCl (M_bag_draw) 2 (aCons (eVar 0) (aCons (eVar 2) (aNil))))) (aNil))))))))) (sEx (eBM "list" gAppend (eVar 5) (aCons (eTup (aCons (eVar 7) (aCons (eB gIx (eVar 8) (eVar 3)) (aNil)))) (aNil))))))) (sRt (eCB gTuple (aCons (eVar 5) (aNil))))))))
abbrev M_bag_deck : List D → M D := fnM 9 (m_bag_deck)
end Sb
end
section
set_option Elab.async false
set_option linter.all false
set_option maxRecDepth 100000
set_option maxHeartbeats 4000000
namespace Sb
open PySem PySem.Spec PyProof.Rows L2 LamX
end Sb
end
section
set_option Elab.async false
set_option linter.all false
set_option maxRecDepth 100000
set_option maxHeartbeats 4000000
namespace Sb
open PySem PySem.Spec PyProof.Rows L2 LamX
end Sb
end
section
set_option Elab.async false
set_option linter.all false
set_option maxRecDepth 100000
set_option maxHeartbeats 4000000
namespace Sb
open PySem PySem.Spec PyProof.Rows L2
/-! ## in, not in: over a tuple of data -/
section
variable {X : Cx} {T : Tb} {W : WX} {pos : Pos}
/-! ## xs.extend of a told list -/
end
end Sb
end
section
set_option Elab.async false
set_option linter.all false
set_option maxRecDepth 100000
set_option maxHeartbeats 4000000
namespace Sb
open PySem PySem.Spec PyProof.Rows L2
/-! ## reversed(range(n)) -/
end Sb
end
section
set_option Elab.async false
set_option linter.all false
set_option maxRecDepth 100000
set_option maxHeartbeats 4000000
namespace Sb
open PySem PySem.Spec PyProof.Rows L2
/-! ### data -/
section
variable {X : Cx} {T : Tb} {W : WX} {ra : AF}
end
end Sb
end
section
set_option Elab.async false
set_option linter.all false
set_option maxRecDepth 100000
set_option maxHeartbeats 4000000
namespace Sb
open PySem PySem.Spec PyProof.Rows L2 RT
section
variable {X : Cx} {T : Tb} {W : WX} {tg e : Expr} {fa : EF}
/-! ## for x in reversed(xs): a list or a tuple -/
def wkB (ds : List D) : Wk := ⟨ds.length, fun i _ => some (if i < ds.length then ds[ds.length - 1 - i]? else none)⟩
/-- of a list of the store, as long as it was at the start -/
def wkBL (k n : Nat) : Wk := ⟨n, fun i S => if i < n then (seqD S (.loc k)).bind fun es => (es[n - 1 - i]?).map some else some none⟩
def wkRv (S : Sto) : D → Option Wk
  | .tup ds => some (wkB ds)
  | .fl ds => some (wkB ds)
  | .loc k => (seqD S (.loc k)).map fun es => wkBL k es.length
  | _ => none
def iRev (fe : EF) : IF := fun τ => (fe τ).bnd fun d S => (wkRv S d).bind fun wk => some (.ok wk S)
theorem sv_tupB {φ0 : List Addr} {H0 : Hp} {ds : List D} {vs : List V} {p : Addr} (h : Rd H0 p (.tup vs)) (r : RDs T H0 φ0 ds vs) : Serves T φ0 H0 (wkB ds) (ItvT X.K p vs.length) := by
  intro φ S H i E R
  have h' := E.rdT h
  have r' := r.ext E _ _
  have hl := r.length
  refine ⟨fun d hd => ?_, fun hn => ?_⟩
  · have hd' : (if i < ds.length then ds[ds.length - 1 - i]? else none) = some d := Option.some.inj hd
    split at hd'
    · rename_i hi
      obtain ⟨v, h1, h2⟩ := r'.get hd'
      rw [hl] at h1
      refine ⟨⟨by omega, vs, v, .inl h', h1⟩, fun x H' y => ?_⟩
      obtain ⟨rfl, y⟩ := y
      have := y vs (.inl h')
      rw [← hl] at this
      exact ⟨.refl, R, rds_at r' this hd'⟩
    · cases hd'
  · have hn' : (if i < ds.length then ds[ds.length - 1 - i]? else none) = none := Option.some.inj hn
    show vs.length ≤ i
    split at hn'
    · rename_i hi
      rw [List.getElem?_eq_none_iff] at hn'
      omega
    · omega
theorem sv_flB {φ0 : List Addr} {H0 : Hp} {ds : List D} {vs : List V} {p : Addr} (hp : p ∉ φ0) (h : H0 p = some (.lst vs)) (r : RDs T H0 φ0 ds vs) : Serves T φ0 H0 (wkB ds) (Itv X.K p vs.length) := by
  intro φ S H i E R
  have h' := E.lst _ _ hp h
  have r' := r.ext E _ _
  have hl := r.length
  refine ⟨fun d hd => ?_, fun hn => ?_⟩
  · have hd' : (if i < ds.length then ds[ds.length - 1 - i]? else none) = some d := Option.some.inj hd
    split at hd'
    · rename_i hi
      obtain ⟨v, h1, h2⟩ := r'.get hd'
      rw [hl] at h1
      refine ⟨⟨by omega, vs, v, .of h', h1⟩, fun x H' y => ?_⟩
      obtain ⟨rfl, y⟩ := y
      have := y vs (.of h')
      rw [← hl] at this
      exact ⟨.refl, R, rds_at r' this hd'⟩
    · cases hd'
  · have hn' : (if i < ds.length then ds[ds.length - 1 - i]? else none) = none := Option.some.inj hn
    show vs.length ≤ i
    split at hn'
    · rename_i hi
      rw [List.getElem?_eq_none_iff] at hn'
      omega
    · omega
theorem sv_listB {φ0 : List Addr} {H0 : Hp} {k n : Nat} {p : Addr} (hp : φ0[k]? = some p) : Serves T φ0 H0 (wkBL k n) (Itv X.K p n) := by
  intro φ S H i E R
  have hp' := E.get hp
  have key : ∀ ds, seqD S (.loc k) = some ds → ∃ vs, SqL X.K H p vs ∧ RDs T H φ ds vs := fun ds e => by
    simp only [seqD] at e
    split at e
    · rename_i q
      cases e
      obtain ⟨vs, k1, k2⟩ := R.obj k _ p q hp'
      exact ⟨vs, .of k1, k2⟩
    · cases e
  refine ⟨fun d hd => ?_, fun hn => ?_⟩
  · simp only [wkBL] at hd
    split at hd
    · rename_i hi
      simp only [Option.bind_eq_some_iff, Option.map_eq_some_iff] at hd
      obtain ⟨ds, e1, y, e2, e3⟩ := hd
      cases e3
      obtain ⟨vs, k1, k2⟩ := key ds e1
      obtain ⟨v, h1, h2⟩ := k2.get e2
      refine ⟨⟨hi, vs, v, k1, h1⟩, fun x H' y => ?_⟩
      obtain ⟨rfl, y⟩ := y
      exact ⟨.refl, R, rds_at k2 (y vs k1) e2⟩
    · cases hd
  · simp only [wkBL] at hn
    split at hn
    · simp only [Option.bind_eq_some_iff, Option.map_eq_some_iff] at hn
      obtain ⟨ds, e1, y, e2, e3⟩ := hn
      cases e3
    · rename_i hi
      exact Nat.le_of_not_lt hi
theorem i_rev {p pos : Pos} (hK : T.K = X.K) (hg : Gl X "reversed") (hm : X.mg "reversed" = none) (he : PE X e (rdE T W fa)) (hs : starEach [e] X.env = (false, eval e X.env) :: starEach [] X.env := by rfl) :
    PI X tg (.Call (.Name "reversed" p) [e] [] pos) (rdI T W (iRev fa)) :=
  (pi_revA hg hm he hs).imp fun σ H Rr h => by
    obtain ⟨φ, S, τ, o, R, r, e, q⟩ := h
    have e0 := e
    unfold iRev M.bnd at e0
    cases e1 : fa τ S with
    | none => rw [e1] at e0; cases e0
    | some x =>
      rw [e1] at e0
      cases x with
      | ex x S1 =>
        cases e0
        exact ⟨φ, S, τ, _, R, r, e1, q⟩
      | ok d S1 =>
        simp only [Option.bind_eq_some_iff] at e0
        obtain ⟨wk, e2, e3⟩ := e0
        cases e3
        refine ⟨φ, S, τ, _, R, r, e1, fun φ1 H1 v E1 R1 r1 => ?_⟩
        cases d with
        | tup ds =>
          cases e2
          obtain ⟨p, vs, rfl, k1, s⟩ := r1
          exact ⟨p, vs, rfl, .inr ⟨.inl k1, q φ1 H1 _ E1 R1 (sv_tupB k1 s)⟩⟩
        | fl ds =>
          cases e2
          obtain ⟨p, vs, rfl, hp, k1, s⟩ := r1
          exact ⟨p, vs, rfl, .inl ⟨.of k1, q φ1 H1 _ E1 R1 (sv_flB hp k1 s)⟩⟩
        | loc n =>
          simp only [wkRv, Option.map_eq_some_iff] at e2
          obtain ⟨ds, e4, rfl⟩ := e2
          obtain ⟨p, rfl, hp⟩ := r1
          simp only [seqD] at e4
          split at e4
          · rename_i q'
            cases e4
            obtain ⟨vs, k1, k2⟩ := R1.obj n _ p q' hp
            refine ⟨p, vs, rfl, .inl ⟨.of k1, ?_⟩⟩
            have := q φ1 H1 _ E1 R1 (sv_listB (X := X) (T := T) (n := ds.length) hp)
            rw [k2.length] at this
            exact this
          · cases e4
        | _ => cases e2
end
end Sb
end
section
set_option Elab.async false
set_option linter.all false
set_option maxRecDepth 100000
set_option maxHeartbeats 4000000
namespace Sb
open PySem PySem.Spec PyProof.Rows L2
section
variable {X : Cx} {T : Tb} {W : WX} {pos : Pos}
/-! ## a, b, c and a, b, c, d as targets -/
def tN3 (i j k : Nat) : TF := fun d S τ => match seqD S d with
  | some [x, y, z] => some (((τ.set i (some x)).set j (some y)).set k (some z))
  | _ => none
def tN4 (i j k l : Nat) : TF := fun d S τ => match seqD S d with
  | some [x, y, z, u] => some ((((τ.set i (some x)).set j (some y)).set k (some z)).set l (some u))
  | _ => none
theorem g_three (hK : T.K = X.K) {i j k : Nat} {x y z : Str} {p1 p2 p3 : Pos} {m : Nat} (hc : X.calm = true) (hN : X.N.Nodup) (hi : X.N[i]? = some x) (hx : Loc X.env.scope x) (hj : X.N[j]? = some y) (hy : Loc X.env.scope y) (hk : X.N[k]? = some z) (hz : Loc X.env.scope z)
    (hf : X.fn x = true ∨ X.env.scope.names.lookup x = some .local := by first | exact .inl rfl | exact .inr rfl | assumption) (hf2 : X.fn y = true ∨ X.env.scope.names.lookup y = some .local := by first | exact .inl rfl | exact .inr rfl | assumption) (hf3 : X.fn z = true ∨ X.env.scope.names.lookup z = some .local := by first | exact .inl rfl | exact .inr rfl | assumption) :
    PG X (.Tuple [.Name x p1, .Name y p2, .Name z p3] m pos) (rdG T [i, j, k] (tN3 i j k)) :=
  ((pg_lst (n := 3) hc (pgs_cons (pg_name hN hi hx hf) (pgs_cons (pg_name hN hj hy hf2) (pgs_cons (pg_name hN hk hz hf3) pgs_nil)))).or (pg_tup (n := 3) hc (pgs_cons (pg_name hN hi hx hf) (pgs_cons (pg_name hN hj hy hf2) (pgs_cons (pg_name hN hk hz hf3) pgs_nil))))).imp fun v σ H Q h => by
    obtain ⟨φ, S, τ, d, τ', R, r, rd, e, q⟩ := h
    unfold tN3 at e
    split at e
    · rename_i d1 d2 d3 es
      cases e
      obtain ⟨p, vs, rfl, kk, s⟩ := seq_sq R rd es
      rw [hK] at kk
      obtain ⟨v1, l1, rfl, s1, v2, l2, rfl, s2, v3, l3, rfl, s3, s4⟩ := s
      cases s4
      have fin : Q (((σ.set i (some v1)).set j (some v2)).set k (some v3)) H := q _ (((r.set i s1).set j s2).set k s3) (fun k' hk => by
        simp only [List.mem_cons, not_or] at hk
        rw [List.getElem?_set_ne (Ne.symm hk.2.2.1), List.getElem?_set_ne (Ne.symm hk.2.1), List.getElem?_set_ne (Ne.symm hk.1)]) (by simp)
      rcases kk with kk | kk
      · exact .inl ⟨p, _, rfl, kk, rfl, v1, _, rfl, v2, _, rfl, v3, _, rfl, rfl, fin⟩
      · exact .inr ⟨p, _, rfl, kk, rfl, v1, _, rfl, v2, _, rfl, v3, _, rfl, rfl, fin⟩
    · cases e
theorem g_four (hK : T.K = X.K) {i j k l : Nat} {x y z u : Str} {p1 p2 p3 p4 : Pos} {m : Nat} (hc : X.calm = true) (hN : X.N.Nodup) (hi : X.N[i]? = some x) (hx : Loc X.env.scope x) (hj : X.N[j]? = some y) (hy : Loc X.env.scope y) (hk : X.N[k]? = some z) (hz : Loc X.env.scope z) (hl : X.N[l]? = some u) (hu : Loc X.env.scope u)
    (hf : X.fn x = true ∨ X.env.scope.names.lookup x = some .local := by first | exact .inl rfl | exact .inr rfl | assumption) (hf2 : X.fn y = true ∨ X.env.scope.names.lookup y = some .local := by first | exact .inl rfl | exact .inr rfl | assumption) (hf3 : X.fn z = true ∨ X.env.scope.names.lookup z = some .local := by first | exact .inl rfl | exact .inr rfl | assumption) (hf4 : X.fn u = true ∨ X.env.scope.names.lookup u = some .local := by first | exact .inl rfl | exact .inr rfl | assumption) :
    PG X (.Tuple [.Name x p1, .Name y p2, .Name z p3, .Name u p4] m pos) (rdG T [i, j, k, l] (tN4 i j k l)) :=
  ((pg_lst (n := 4) hc (pgs_cons (pg_name hN hi hx hf) (pgs_cons (pg_name hN hj hy hf2) (pgs_cons (pg_name hN hk hz hf3) (pgs_cons (pg_name hN hl hu hf4) pgs_nil))))).or (pg_tup (n := 4) hc (pgs_cons (pg_name hN hi hx hf) (pgs_cons (pg_name hN hj hy hf2) (pgs_cons (pg_name hN hk hz hf3) (pgs_cons (pg_name hN hl hu hf4) pgs_nil)))))).imp fun v σ H Q h => by
    obtain ⟨φ, S, τ, d, τ', R, r, rd, e, q⟩ := h
    unfold tN4 at e
    split at e
    · rename_i d1 d2 d3 d4 es
      cases e
      obtain ⟨p, vs, rfl, kk, s⟩ := seq_sq R rd es
      rw [hK] at kk
      obtain ⟨v1, l1, rfl, s1, v2, l2, rfl, s2, v3, l3, rfl, s3, v4, l4, rfl, s4, s5⟩ := s
      cases s5
      have fin : Q ((((σ.set i (some v1)).set j (some v2)).set k (some v3)).set l (some v4)) H := q _ ((((r.set i s1).set j s2).set k s3).set l s4) (fun k' hk => by
        simp only [List.mem_cons, not_or] at hk
        rw [List.getElem?_set_ne (Ne.symm hk.2.2.2.1), List.getElem?_set_ne (Ne.symm hk.2.2.1), List.getElem?_set_ne (Ne.symm hk.2.1), List.getElem?_set_ne (Ne.symm hk.1)]) (by simp)
      rcases kk with kk | kk
      · exact .inl ⟨p, _, rfl, kk, rfl, v1, _, rfl, v2, _, rfl, v3, _, rfl, v4, _, rfl, rfl, fin⟩
      · exact .inr ⟨p, _, rfl, kk, rfl, v1, _, rfl, v2, _, rfl, v3, _, rfl, v4, _, rfl, rfl, fin⟩
    · cases e
end
end Sb
end
section
set_option Elab.async false
set_option linter.all false
set_option maxRecDepth 100000
set_option maxHeartbeats 4000000
namespace Sb
open PySem PySem.Spec PyProof.Rows L2
section
variable {X : Cx} {T : Tb} {W : WX} {pos : Pos} {e : Expr} {fa : EF}
/-! ## x op= e at a name: x = x op e, read first -/
theorem sx_bin {g : G2} {i : Nat} {fe : EF} {τ : Sl} {S : Sto} {d : D} {k : D → Sto → Option (Fl × Sto)} (hd : τ[i]? = some (some d)) :
    sx (eB g (eVar i) fe τ) τ k S = sx (fe τ) τ (fun d2 S2 => (g d d2 S2).bind fun p => k p.1 p.2) S := by
  simp only [sx, eB, M.bnd, eVar, hd]
  cases fe τ S with
  | none => rfl
  | some x =>
    cases x with
    | ex x S1 => rfl
    | ok d2 S2 =>
      show (match lft (g d d2 S2) with | none => none | some (.ex x S1) => some (.xx x τ, S1) | some (.ok d S1) => k d S1) = (g d d2 S2).bind fun p => k p.1 p.2
      cases g d d2 S2 <;> rfl
theorem s_augN {i : Nat} {x : Str} {pos' : Pos} {op : Operator} {g : G2} (hN : X.N.Nodup) (hi : X.N[i]? = some x) (hx : Loc X.env.scope x) (ho : OpR X (inplaceOp op) (rG2 T g)) (he : PE X e (rdE T W fa))
    (hf : X.fn x = true ∨ X.env.scope.names.lookup x = some .local := by first | exact .inl rfl | exact .inr rfl | assumption) : PS X (.AugAssign (.Name x pos') op e pos) (rdS T W (sSet i (eB g (eVar i) fa))) :=
  (ps_aug hN hi hx he (fun pins s σ H x y v u Q I rx ry q => ho pins s σ H x y v u Q I rx ry q) hf).imp fun De σ H h => by
    obtain ⟨φ, S, τ, fl, S', R, r, e, q⟩ := h
    unfold sSet at e
    cases hd : τ[i]? with
    | none => simp [sx, eB, M.bnd, eVar, hd] at e
    | some z =>
      cases z with
      | none => simp [sx, eB, M.bnd, eVar, hd] at e
      | some d =>
        rw [sx_bin hd] at e
        obtain ⟨v, h1, h2⟩ := r.at_ i d hd
        refine ⟨v, h1, rdE_sx R r e q fun d2 S1 y H1 φ1 ⟨E1, R1, r1⟩ e1 q1 => ?_⟩
        cases eg : g d d2 S1 with
        | none => rw [eg] at e1; cases e1
        | some p =>
          rw [eg] at e1
          cases e1
          refine ⟨φ1, S1, d, d2, R1, h2.ext E1 _ _, r1, p.1, p.2, eg, fun φ2 H2 z E2 R2 r2 => ?_⟩
          exact q1 φ2 H2 _ E2 R2 (((r.ext E1).ext E2).set i r2)
def gAddI : G2 := gI (fun _ _ => true) fun i j => .int (i + j)
theorem gAddI_i {i j : Int} {S : Sto} : gAddI (.int i) (.int j) S = some (.int (i + j), S) := by simp [gAddI, gI]
theorem io_add : OpR X (inplaceOp .Add) (rG2 T gAddI) := o_int0 iop_add fun _ _ _ _ => rfl
theorem io_sub : OpR X (inplaceOp .Sub) (rG2 T gSub) := o_int0 iop_sub fun _ _ _ _ => rfl
end
end Sb
end
section
set_option Elab.async false
set_option linter.all false
set_option maxRecDepth 100000
set_option maxHeartbeats 4000000
namespace Sb
open PySem PySem.Spec PyProof.Rows L2
section
variable {X : Cx} {T : Tb} {W : WX}
/-! ## sorted of a list of whole numbers -/
end
end Sb
end
section
set_option Elab.async false
set_option linter.all false
set_option maxRecDepth 100000
set_option maxHeartbeats 4000000
namespace Sb
open PySem PySem.Spec PyProof.Rows L2
/-! ## list(zip(xs, ys)) -/
/-- where a zip stands behind k pairs, all of them kept -/
structure ZSt (h0 h : Heap) (z TI TO i1 i2 l1 l2 S : Addr) (xs ys : Array Value) (k : Nat) (acc : Array Value) : Prop where
  le : h0.objs.size ≤ h.objs.size
  fr : ∀ c o, c ≠ S → c ≠ z → c ≠ TO → c ≠ i1 → c ≠ i2 → h0.get? c = some o → h.get? c = some o
  zip : (k = 0 ∧ IsZip h z TI TO .none ∧ ∃ a b, IsPair h TO a b) ∨ (∃ T f oT, h0.objs.size ≤ T ∧ IsZipHeld h z TI TO T f ∧ h.get? T = some oT)
  ti : IsPair h TI (.ref i1) (.ref i2)
  p1 : h.IsListIter i1 l1 k
  p2 : h.IsListIter i2 l2 k
  q1 : h.IsList l1 xs
  q2 : h.IsList l2 ys
  lst : ∃ ep, h.get? S = some { cls := .type "list", data := .seq acc ep }
  len : acc.size = k
  els : ∀ j, j < k → ∃ T x y, acc[j]? = some (.ref T) ∧ h0.objs.size ≤ T ∧ xs[j]? = some x ∧ ys[j]? = some y ∧ IsPair h T x y
  dis : ∀ i j T, i < j → j < k → acc[i]? = some (.ref T) → acc[j]? = some (.ref T) → False
/-- the start of a zip, an empty list beside it -/
structure Z0 (h : Heap) (z TI TO i1 i2 l1 l2 S : Addr) (xs ys : Array Value) : Prop where
  zip : IsZip h z TI TO .none
  to_ : ∃ a b, IsPair h TO a b
  ti : IsPair h TI (.ref i1) (.ref i2)
  p1 : h.IsListIter i1 l1 0
  p2 : h.IsListIter i2 l2 0
  q1 : h.IsList l1 xs
  q2 : h.IsList l2 ys
  lst : ∃ ep, h.get? S = some { cls := .type "list", data := .seq #[] ep }
theorem Z0.st {h0 h : Heap} {z TI TO i1 i2 l1 l2 S : Addr} {xs ys : Array Value} (st : Z0 h0 z TI TO i1 i2 l1 l2 S xs ys) (hS : S ≠ z ∧ S ≠ TI ∧ S ≠ TO ∧ S ≠ i1 ∧ S ≠ i2 ∧ S ≠ l1 ∧ S ≠ l2) (sz : h.objs.size = h0.objs.size) (oth : ∀ c, c ≠ S → h.get? c = h0.get? c) (at_ : ∃ ep, h.get? S = some { cls := .type "list", data := .seq #[] ep }) : ZSt h0 h z TI TO i1 i2 l1 l2 S xs ys 0 #[] := by
  obtain ⟨a, b, hto⟩ := st.to_
  refine ⟨by omega, fun c o c0 _ _ _ _ e => by rw [oth c c0]; exact e, .inl ⟨rfl, ?_, a, b, ?_⟩, ?_, ?_, ?_, ?_, ?_, at_, rfl, fun j hj => absurd hj (Nat.not_lt_zero _), fun _ j _ _ hj => absurd hj (Nat.not_lt_zero _)⟩
  · unfold IsZip; rw [oth z (Ne.symm hS.1)]; exact st.zip
  · unfold IsPair; rw [oth TO (Ne.symm hS.2.2.1)]; exact hto
  · unfold IsPair; rw [oth TI (Ne.symm hS.2.1)]; exact st.ti
  · obtain ⟨o, a, b, c⟩ := st.p1
    exact ⟨o, by rw [oth i1 (Ne.symm hS.2.2.2.1)]; exact a, b, c⟩
  · obtain ⟨o, a, b, c⟩ := st.p2
    exact ⟨o, by rw [oth i2 (Ne.symm hS.2.2.2.2.1)]; exact a, b, c⟩
  · obtain ⟨o, a, b, c⟩ := st.q1
    exact ⟨o, by rw [oth l1 (Ne.symm hS.2.2.2.2.2.1)]; exact a, b, c⟩
  · obtain ⟨o, a, b, c⟩ := st.q2
    exact ⟨o, by rw [oth l2 (Ne.symm hS.2.2.2.2.2.2)]; exact a, b, c⟩
end Sb
end
section
set_option Elab.async false
set_option linter.all false
set_option maxRecDepth 100000
set_option maxHeartbeats 4000000
namespace Sb
open PySem PySem.Spec PyProof.Rows L2
/-! ## list(zip(xs, ys)): data -/
section
variable {X : Cx} {T : Tb} {W : WX} {pos : Pos} {ra : AF}
end
end Sb
end
section
set_option Elab.async false
set_option linter.all false
set_option maxRecDepth 100000
set_option maxHeartbeats 4000000
namespace Sb
open PySem PySem.Spec PyProof.Rows L2
/-! ## tuple(zip(xs, ys)) of two lists -/
section
variable {prog : Program} {w : World} {A : Around} {E : Value → Shared → Prop} {s : Shared} {z TI TO i1 i2 l1 l2 : Addr} {xs ys : Array Value}
end
section
variable {X : Cx} {T : Tb} {W : WX} {pos : Pos} {ra : AF}
end
end Sb
end
section
set_option Elab.async false
set_option linter.all false
set_option maxRecDepth 100000
set_option maxHeartbeats 4000000
namespace Sb
open PySem PySem.Spec PyProof.Rows L2
section
variable {X : Cx} {T : Tb}
/-! ## xs.pop() -/
end
end Sb
end
section
set_option Elab.async false
set_option linter.all false
set_option maxRecDepth 100000
set_option maxHeartbeats 4000000
namespace Sb
open PySem PySem.Spec PyProof.Rows L2 PySem.W
section
variable {X : Cx} {T : Tb} {W : WX} {pos : Pos} {e e2 : Expr} {ra : AF}
/-! ## for x, y in zip(xs, ys): two told lists, or two tuples -/
/-! ## a target of two targets -/
end
end Sb
end
section
set_option Elab.async false
set_option linter.all false
set_option maxRecDepth 100000
set_option maxHeartbeats 4000000
namespace Sb
open PySem PySem.Spec PyProof.Rows L2
/-! ## enumerate(zip(xs, ys)) of two lists -/
/-- a zip whose tuple is out or not: u names it -/
abbrev ZI (h : Heap) (z TI TO : Addr) (u : Value) (f : Bool) : Prop :=
  h.get? z = some { cls := .type "zip", dict := none, data := .fields #[u, .bool f, .bool false, .ref TI, .ref TO], slots := #[] }
def ZU (u : Value) : Prop := u = .none ∨ ∃ p : Addr, u = rawInt p
section
variable {prog : Program} {w : World} {A : Around} {E : Value → Shared → Prop} {s : Shared}
end
open AutoSeq1 (wpAny_loadPart') in
/-! ## over data -/
section
variable {X : Cx} {T : Tb} {W : WX} {pos : Pos} {ra : AF}
end
end Sb
end
section
set_option Elab.async false
set_option linter.all false
set_option maxRecDepth 100000
set_option maxHeartbeats 4000000
namespace Sb
open PySem PySem.Spec PyProof.Rows L2
/-! ## range kept under a name -/
section
variable {X : Cx} {T : Tb} {W : WX} {pos : Pos} {fe : EF} {tg e : Expr}
end
end Sb
end
section
set_option Elab.async false
set_option linter.all false
set_option maxRecDepth 100000
set_option maxHeartbeats 4000000
namespace Sb
open PySem PySem.Spec PyProof.Rows L2
/-! ## tuples that are known to have no names of their own -/
/-! ## over data -/
section
variable {X : Cx} {T : Tb} {W : WX} {pos : Pos} {fe : EF} {e : Expr}
/-- what is known of it, forgotten -/
def fgD : D → D
  | .ntu ds => .tup ds
  | d => d
def fg (f : EF) : EF := fun τ S => match f τ S with
  | some (.ok d S1) => some (.ok (fgD d) S1)
  | o => o
end
end Sb
end
section
set_option Elab.async false
set_option linter.all false
set_option maxRecDepth 100000
set_option maxHeartbeats 4000000
/-! A text beside a dict: never equal. -/
namespace Sb
open PySem PySem.Spec PySem.MeetsSeq PySem.SeqAt PyProof.Rows L2
variable {X : Cx} {T : Tb}
end Sb
end
section
set_option Elab.async false
set_option linter.all false
set_option maxRecDepth 100000
set_option maxHeartbeats 4000000
namespace Sb
open PySem PySem.Spec PyProof.Rows L2
section
variable {X : Cx} {T : Tb} {W : WX} {pos : Pos} {e : Expr} {fa : EF}
/-! ## xs[::-1] of a list -/
def eRevL (fe : EF) : EF := fun τ => (fe τ).bnd fun d S => match d with
  | .tup _ => none
  | d => (seqD S d).bind fun es => some (.ok (.loc S.length) (S ++ [.lst es.reverse]))
theorem d_revL (hK : T.K = X.K) {k : Nat} {p1 p2 p3 : Pos} (he : PE X e (rdE T W fa)) : PE X (.Subscript e (.Slice none none (some (.UnaryOp .USub (.Constant (.int 1) k p1) p2)) p3) pos) (rdE T W (eRevL fa)) := (pe_revL he).imp fun σ H Q h => by
  obtain ⟨φ, S, τ, o, R, r, e, q⟩ := h
  refine rdE_bnd R r e q fun d S1 v H1 φ1 ⟨E1, R1, r1⟩ e1 q1 => ?_
  cases d with
  | loc n =>
    simp only [Option.bind_eq_some_iff] at e1
    obtain ⟨es, e2, e3⟩ := e1
    cases e3
    obtain ⟨a, vs, rfl, kk, s⟩ := seq_sq R1 r1 e2
    rw [hK] at kk
    rcases kk with kk | kk
    · exact ⟨a, vs, rfl, kk, fun p hp => Fin.lst (S := S1) ⟨_, _, rfl, q1⟩ R1 s.rev p hp⟩
    · obtain ⟨p, hp0, h1⟩ := r1
      cases hp0
      simp only [seqD] at e2
      split at e2
      · rename_i q
        cases e2
        obtain ⟨vs2, k1, k2⟩ := R1.obj n _ a q h1
        exact ⟨a, vs2, rfl, .of k1, fun p hp => Fin.lst (S := S1) ⟨_, _, rfl, q1⟩ R1 k2.rev p hp⟩
      · cases e2
  | fl ds =>
    simp only [Option.bind_eq_some_iff] at e1
    obtain ⟨es, e2, e3⟩ := e1
    cases e3
    cases e2
    obtain ⟨a, vs, rfl, _, k1, s⟩ := r1
    exact ⟨a, vs, rfl, .of k1, fun p hp => Fin.lst (S := S1) ⟨_, _, rfl, q1⟩ R1 s.rev p hp⟩
  | scr ns =>
    simp only [Option.bind_eq_some_iff] at e1
    obtain ⟨es, e2, e3⟩ := e1
    cases e3
    obtain ⟨a, vs, rfl, kk, s⟩ := seq_sq R1 r1 e2
    obtain ⟨a2, q1', q2⟩ := r1
    cases q1'
    have := q2.seq
    rw [hK] at this
    cases e2
    exact ⟨a, _, rfl, this, fun p hp => Fin.lst (S := S1) ⟨_, _, rfl, q1⟩ R1 (ints_rds ns).rev p hp⟩
  | _ => cases e1
end
end Sb
end
section
set_option Elab.async false
set_option linter.all false
set_option maxRecDepth 100000
set_option maxHeartbeats 4000000
namespace Sb
open PySem PySem.Spec PyProof.Rows L2 GenW
open Sem (wp)

/-! ## generators that sleep stay as they are: what was shown of a state where none of them can be woken holds of the state itself -/
def poi : GenState → GenState
  | .suspended _ l c p fs cl => .suspended (fun _ => .unsupported "asleep") l c p fs cl
  | gs => gs
def slp : GenState → Bool
  | .suspended .. => true
  | _ => false
def plainG : GenState → Prop
  | .suspended _ _ _ _ fs _ => splitAtGen fs = none
  | _ => True
def plainE : End → Prop
  | .susp _ _ _ _ _ _ fs => splitAtGen fs = none
  | .ret _ => True
theorem plainE.gen {e : End} (h : plainE e) : plainG e.genState := by cases e <;> exact h
/-- s: the sleepers (B) cannot be woken; s₁: as it is -/
structure Asl (B : Nat → Option GenState) (s s₁ : Shared) : Prop where
  heap : s₁.heap = s.heap
  drawn : s₁.drawn = s.drawn
  toks : s₁.toks = s.toks
  os : s₁.os = s.os
  size : s₁.gens.size = s.gens.size
  at_ : ∀ i, i < s.gens.size → (∃ st, B i = some st ∧ slp st = true ∧ s₁.gens[i]? = some st ∧ s.gens[i]? = some (poi st)) ∨ (B i = none ∧ ∃ st, s₁.gens[i]? = some st ∧ s.gens[i]? = some st ∧ plainG st)
  out : ∀ i, s.gens.size ≤ i → B i = none
theorem seen_poi (st : GenState) : (poi st).seen = st.seen := by cases st <;> rfl
theorem bare_poi (st : GenState) : (poi st).bare = st.bare := by cases st <;> rfl
theorem no_unsupported0 {M : Model} {Γ : PySem.Ctx} {p : Pos} {w : String} {s s' : Shared} {e : End} (h : Runs M Γ p (.unsupported w) [] s e s') : False := by cases h
theorem no_unsupported {M : Model} {Γ : PySem.Ctx} {p : Pos} {w : String} {fs : List Frame} {s s' : Shared} {e : End} (h : Runs M Γ p (.unsupported w) fs s e s') : False := by
  cases h with
  | segRet h _ => exact no_unsupported0 h
  | segGen h _ => exact no_unsupported0 h
  | segSuspOut _ h => exact no_unsupported0 h
  | segSuspGen _ h _ _ => exact no_unsupported0 h
theorem split_app : ∀ {a b : List Frame}, splitAtGen a = none → splitAtGen b = none → splitAtGen (a ++ b) = none
  | [], b, _, h => h
  | .gen .. :: _, _, h, _ => by simp [splitAtGen] at h
  | .ret .. :: r, b, h, h2 => by
    have h' : splitAtGen r = none := by
      simp only [splitAtGen, Option.map_eq_none_iff] at h
      exact h
    show (splitAtGen (r ++ b)).map _ = none
    rw [split_app h' h2]; rfl
theorem split_ret {k h g l c p kp} {fs : List Frame} : splitAtGen (.ret k h g l c p kp :: fs) = none ↔ splitAtGen fs = none := by
  show (splitAtGen fs).map _ = none ↔ _
  simp
section
variable {B : Nat → Option GenState} {s s₁ : Shared}
theorem Asl.lt (a : Asl B s s₁) {i : Nat} {st : GenState} (h : s.gens[i]? = some st) : i < s.gens.size := (Array.getElem?_eq_some_iff.mp h).1
/-- a state that is not asleep is the same in both -/
theorem Asl.get (a : Asl B s s₁) {i : Nat} {st : GenState} (h : s.gens[i]? = some st) (n : B i = none) : s₁.gens[i]? = some st ∧ plainG st := by
  rcases a.at_ i (a.lt h) with ⟨st', e, _⟩ | ⟨_, st', e1, e2, e3⟩
  · rw [n] at e; cases e
  · rw [h] at e2; cases e2; exact ⟨e1, e3⟩
theorem Asl.awake (a : Asl B s s₁) {i : Nat} {st : GenState} (h : s.gens[i]? = some st) (n : slp st = false) : B i = none := by
  rcases a.at_ i (a.lt h) with ⟨st', e, e1, e2, e3⟩ | ⟨e, _⟩
  · rw [h] at e3; cases e3
    cases st' <;> simp_all [slp, poi]
  · exact e
theorem Asl.setGen (a : Asl B s s₁) {g : Nat} {st : GenState} (n : B g = none) (hp : plainG st) : Asl B (s.setGen g st) (s₁.setGen g st) := by
  refine ⟨a.heap, a.drawn, a.toks, a.os, ?_, fun i hi => ?_, fun i hi => a.out i ?_⟩
  · rw [setGen_size, setGen_size]; exact a.size
  · rw [setGen_size] at hi
    by_cases e : i = g
    · subst e
      refine .inr ⟨n, st, ?_, ?_, hp⟩
      · exact setGen_at (by rw [a.size]; exact hi)
      · exact setGen_at hi
    · have k1 : (s.setGen g st).gens[i]? = s.gens[i]? := by
        show (s.gens.setIfInBounds g st)[i]? = _
        rw [Array.getElem?_setIfInBounds_ne (Ne.symm e)]
      have k2 : (s₁.setGen g st).gens[i]? = s₁.gens[i]? := by
        show (s₁.gens.setIfInBounds g st)[i]? = _
        rw [Array.getElem?_setIfInBounds_ne (Ne.symm e)]
      rw [k1, k2]
      exact a.at_ i hi
  · rw [setGen_size] at hi; exact hi
theorem Asl.heapTo (a : Asl B s s₁) (f : Heap → Heap) : Asl B { s with heap := f s.heap } { s₁ with heap := f s₁.heap } := ⟨congrArg f a.heap, a.drawn, a.toks, a.os, a.size, a.at_, a.out⟩
theorem Asl.tok (a : Asl B s s₁) : Asl B { s with toks := s.toks + 1 } { s₁ with toks := s₁.toks + 1 } := ⟨a.heap, a.drawn, congrArg (· + 1) a.toks, a.os, a.size, a.at_, a.out⟩
theorem Asl.bump (a : Asl B s s₁) (src) : Asl B { s with drawn := s.drawn.bump src } { s₁ with drawn := s₁.drawn.bump src } := ⟨a.heap, congrArg (·.bump src) a.drawn, a.toks, a.os, a.size, a.at_, a.out⟩
theorem Asl.osTo (a : Asl B s s₁) (q) : Asl B { s with os := (Os.step s.os q).1 } { s₁ with os := (Os.step s₁.os q).1 } := ⟨a.heap, a.drawn, a.toks, by show (Os.step s₁.os q).1 = _; rw [a.os], a.size, a.at_, a.out⟩
theorem Asl.push (a : Asl B s s₁) (c : Code) : Asl B { s with gens := s.gens.push (.fresh c) } { s₁ with gens := s₁.gens.push (.fresh c) } := by
  refine ⟨a.heap, a.drawn, a.toks, a.os, ?_, fun i hi => ?_, fun i hi => a.out i ?_⟩
  · show (s₁.gens.push _).size = (s.gens.push _).size
    rw [Array.size_push, Array.size_push, a.size]
  · have hi' : i < (s.gens.push (.fresh c)).size := hi
    rw [Array.size_push] at hi'
    by_cases e : i = s.gens.size
    · subst e
      refine .inr ⟨a.out _ (Nat.le_refl _), .fresh c, ?_, ?_, trivial⟩
      · show (s₁.gens.push _)[s.gens.size]? = _
        rw [← a.size]; simp
      · show (s.gens.push _)[s.gens.size]? = _
        simp
    · have k1 : (s.gens.push (.fresh c))[i]? = s.gens[i]? := by
        rw [Array.getElem?_push]; simp [e]
      have k2 : (s₁.gens.push (.fresh c))[i]? = s₁.gens[i]? := by
        rw [Array.getElem?_push, a.size]; simp [e]
      show (∃ st, _ ∧ _ ∧ (s₁.gens.push (.fresh c))[i]? = some st ∧ (s.gens.push (.fresh c))[i]? = some (poi st)) ∨ (_ ∧ ∃ st, (s₁.gens.push (.fresh c))[i]? = some st ∧ (s.gens.push (.fresh c))[i]? = some st ∧ plainG st)
      rw [k1, k2]
      exact a.at_ i (by omega)
  · have hi' : (s.gens.push (.fresh c)).size ≤ i := hi
    rw [Array.size_push] at hi'; omega
end
theorem runs_asl {M : Model} {B : Nat → Option GenState} {Γ : PySem.Ctx} {p : Pos} {t : Sem PySem.Fin} {fs : List Frame} {s s' : Shared} {e : End} (h : Runs M Γ p t fs s e s') :
    splitAtGen fs = none → ∀ s₁, Asl B s s₁ → ∃ s₁', Runs M Γ p t fs s₁ e s₁' ∧ Asl B s' s₁' ∧ plainE e := by
  induction h with
  | done => intro _ s₁ a; exact ⟨s₁, .done, a, trivial⟩
  | raise => intro _ s₁ a; exact ⟨s₁, .raise, a, trivial⟩
  | again q _ ih => intro hf s₁ a; obtain ⟨s₂, r, a2, pe⟩ := ih hf s₁ a; exact ⟨s₂, .again q r, a2, pe⟩
  | rule _ ih => intro hf s₁ a; obtain ⟨s₂, r, a2, pe⟩ := ih hf s₁ a; exact ⟨s₂, .rule r, a2, pe⟩
  | «at» _ ih => intro hf s₁ a; obtain ⟨s₂, r, a2, pe⟩ := ih hf s₁ a; exact ⟨s₂, .at r, a2, pe⟩
  | load ho _ ih => intro hf s₁ a; obtain ⟨s₂, r, a2, pe⟩ := ih hf s₁ a; exact ⟨s₂, .load (by rw [a.heap]; exact ho) r, a2, pe⟩
  | update ho _ ih =>
    rename_i f _ _ _ _ _
    intro hf s₁ a
    obtain ⟨s₂, r, a2, pe⟩ := ih hf _ (a.heapTo fun h => h.update _ _)
    exact ⟨s₂, .update (by rw [a.heap]; exact ho) r, a2, pe⟩
  | loadIfAlive _ ih => intro hf s₁ a; obtain ⟨s₂, r, a2, pe⟩ := ih hf s₁ a; exact ⟨s₂, .loadIfAlive (by rw [a.heap]; exact r), a2, pe⟩
  | point _ ih => intro hf s₁ a; obtain ⟨s₂, r, a2, pe⟩ := ih hf s₁ a; exact ⟨s₂, .point r, a2, pe⟩
  | alloc _ ih => intro hf s₁ a; obtain ⟨s₂, r, a2, pe⟩ := ih hf _ (a.heapTo fun h => h.push _); exact ⟨s₂, .alloc (by rw [a.heap]; rw [a.heap] at r; exact r), a2, pe⟩
  | fresh _ ih => intro hf s₁ a; obtain ⟨s₂, r, a2, pe⟩ := ih hf _ a.tok; exact ⟨s₂, .fresh (by rw [a.toks]; rw [a.toks] at r; exact r), a2, pe⟩
  | ask _ ih => intro hf s₁ a; obtain ⟨s₂, r, a2, pe⟩ := ih hf s₁ a; exact ⟨s₂, .ask r, a2, pe⟩
  | choose hn _ ih => intro hf s₁ a; obtain ⟨s₂, r, a2, pe⟩ := ih hf _ (a.bump _); exact ⟨s₂, .choose hn (by rw [a.drawn]; rw [a.drawn] at r; exact r), a2, pe⟩
  | os _ ih => intro hf s₁ a; obtain ⟨s₂, r, a2, pe⟩ := ih hf _ (a.osTo _); exact ⟨s₂, .os (by rw [a.os]; rw [a.os] at r; exact r), a2, pe⟩
  | handled _ ih => intro hf s₁ a; obtain ⟨s₂, r, a2, pe⟩ := ih hf s₁ a; exact ⟨s₂, .handled r, a2, pe⟩
  | genState hg _ ih =>
    intro hf s₁ a
    obtain ⟨s₂, r, a2, pe⟩ := ih hf s₁ a
    rcases a.at_ _ (a.lt hg) with ⟨st', e, e1, e2, e3⟩ | ⟨_, st', e1, e2, e3⟩
    · rw [hg] at e3; cases e3
      rw [seen_poi] at r
      exact ⟨s₂, .genState e2 r, a2, pe⟩
    · rw [hg] at e2; cases e2
      exact ⟨s₂, .genState e1 r, a2, pe⟩
  | stack _ ih => intro hf s₁ a; obtain ⟨s₂, r, a2, pe⟩ := ih hf s₁ a; exact ⟨s₂, .stack r, a2, pe⟩
  | thread _ ih => intro hf s₁ a; obtain ⟨s₂, r, a2, pe⟩ := ih hf s₁ a; exact ⟨s₂, .thread r, a2, pe⟩
  | newGen _ ih => intro hf s₁ a; obtain ⟨s₂, r, a2, pe⟩ := ih hf _ (a.push _); exact ⟨s₂, .newGen (by rw [a.size]; exact r), a2, pe⟩
  | call _ _ ih1 ih2 =>
    intro hf s₁ a
    obtain ⟨s₂, r, a2, pe⟩ := ih1 rfl s₁ a
    obtain ⟨s₃, r3, a3, pe3⟩ := ih2 hf s₂ a2
    exact ⟨s₃, .call r r3, a3, pe3⟩
  | callSusp _ ih =>
    intro hf s₁ a
    obtain ⟨s₂, r, a2, pe⟩ := ih rfl s₁ a
    exact ⟨s₂, .callSusp r, a2, split_app pe rfl⟩
  | yield => intro _ s₁ a; exact ⟨s₁, .yield, a, rfl⟩
  | resumeFresh hg _ q _ ih1 ih2 =>
    intro hf s₁ a
    have n := a.awake hg rfl
    obtain ⟨s₂, r, a2, pe⟩ := ih1 rfl _ (a.setGen (st := .running) n trivial)
    obtain ⟨s₃, r3, a3, pe3⟩ := ih2 hf _ (a2.setGen n pe.gen)
    exact ⟨s₃, .resumeFresh (a.get hg n).1 r q r3, a3, pe3⟩
  | resumeSuspended hg hr q _ ih1 ih2 =>
    intro hf s₁ a
    rcases a.at_ _ (a.lt hg) with ⟨st', e, e1, e2, e3⟩ | ⟨n, st', e1, e2, e3⟩
    · rw [hg] at e3
      cases st' with
      | suspended k l c p fs cl =>
        cases e3
        exact (no_unsupported hr).elim
      | _ => cases e1
    · rw [hg] at e2; cases e2
      obtain ⟨s₂, r, a2, pe⟩ := ih1 e3 _ (a.setGen (st := .running) n trivial)
      obtain ⟨s₃, r3, a3, pe3⟩ := ih2 hf _ (a2.setGen n pe.gen)
      exact ⟨s₃, .resumeSuspended e1 r q r3, a3, pe3⟩
  | resumeJustStarted hg hv _ ih =>
    intro hf s₁ a
    obtain ⟨s₂, r, a2, pe⟩ := ih hf s₁ a
    exact ⟨s₂, .resumeJustStarted (a.get hg (a.awake hg rfl)).1 hv r, a2, pe⟩
  | resumeThrowFresh hg _ ih =>
    intro hf s₁ a
    have n := a.awake hg rfl
    obtain ⟨s₂, r, a2, pe⟩ := ih hf _ (a.setGen (st := .finished) n trivial)
    exact ⟨s₂, .resumeThrowFresh (a.get hg n).1 r, a2, pe⟩
  | resumeRunning hg _ ih =>
    intro hf s₁ a
    obtain ⟨s₂, r, a2, pe⟩ := ih hf s₁ a
    exact ⟨s₂, .resumeRunning (a.get hg (a.awake hg rfl)).1 r, a2, pe⟩
  | resumeFinished hg _ ih =>
    intro hf s₁ a
    obtain ⟨s₂, r, a2, pe⟩ := ih hf s₁ a
    exact ⟨s₂, .resumeFinished (a.get hg (a.awake hg rfl)).1 r, a2, pe⟩
  | segRet _ _ ih1 ih2 =>
    intro hf s₁ a
    obtain ⟨s₂, r, a2, pe⟩ := ih1 rfl s₁ a
    obtain ⟨s₃, r3, a3, pe3⟩ := ih2 (split_ret.mp hf) s₂ a2
    exact ⟨s₃, .segRet r r3, a3, pe3⟩
  | segGen _ _ _ _ => intro hf; simp [splitAtGen] at hf
  | segSuspOut hn _ ih =>
    intro hf s₁ a
    obtain ⟨s₂, r, a2, pe⟩ := ih rfl s₁ a
    exact ⟨s₂, .segSuspOut hn r, a2, split_app pe hn⟩
  | segSuspGen hn _ _ _ _ _ => intro hf; rw [hf] at hn; cases hn
theorem returns_asl {M : Model} {B : Nat → Option GenState} {Γ : PySem.Ctx} {p : Pos} {s s' s₁ : Shared} {r : Result} (h : Returns M Γ p s r s') (a : Asl B s s₁) : ∃ s₁', Returns M Γ p s₁ r s₁' ∧ Asl B s' s₁' :=
  let ⟨s2, r, a2, _⟩ := runs_asl h rfl s₁ a
  ⟨s2, r, a2⟩
theorem wakes_asl {M : Model} {B : Nat → Option GenState} {Γ : PySem.Ctx} {p : Pos} {g : Nat} {r : Resume} {s s' s₁ : Shared} {res : GenResult} (h : Wakes M Γ p g r s res s') (a : Asl B s s₁) : ∃ s₁', Wakes M Γ p g r s₁ res s₁' ∧ Asl B s' s₁' := by
  unfold Wakes at h
  split at h
  · exact h.elim
  · rename_i c hg
    have n := a.awake hg rfl
    have hg1 := (a.get hg n).1
    split at h
    · obtain ⟨e₁, s₂, hr, q, rfl, rfl⟩ := h
      obtain ⟨s3, r, a2, pe⟩ := runs_asl hr rfl _ (a.setGen (st := .running) n trivial)
      exact ⟨_, by unfold Wakes; rw [hg1]; exact ⟨e₁, s3, r, q, rfl, rfl⟩, a2.setGen n pe.gen⟩
    · rename_i v hne
      obtain ⟨rfl, rfl⟩ := h
      cases v <;> first
        | exact ⟨s₁, by unfold Wakes; rw [hg1]; exact ⟨rfl, rfl⟩, a⟩
        | exact (hne rfl).elim
    · obtain ⟨rfl, rfl⟩ := h
      exact ⟨_, by unfold Wakes; rw [hg1]; exact ⟨rfl, rfl⟩, a.setGen (st := .finished) n trivial⟩
  · rename_i k₀ l₀ c₀ p₀ fs cl hg
    obtain ⟨e₁, s₂, hr, q, rfl, rfl⟩ := h
    rcases a.at_ _ (a.lt hg) with ⟨st', e, e1, e2, e3⟩ | ⟨n, st', e1, e2, e3⟩
    · rw [hg] at e3
      cases st' with
      | suspended k l c p fs cl =>
        cases e3
        exact (no_unsupported hr).elim
      | _ => cases e1
    · rw [hg] at e2; cases e2
      obtain ⟨s3, r, a2, pe⟩ := runs_asl hr e3 _ (a.setGen (st := .running) n trivial)
      exact ⟨_, by unfold Wakes; rw [e1]; exact ⟨e₁, s3, r, q, rfl, rfl⟩, a2.setGen n pe.gen⟩
  · rename_i hg
    obtain ⟨rfl, rfl⟩ := h
    exact ⟨_, by unfold Wakes; rw [(a.get hg (a.awake hg rfl)).1]; exact ⟨rfl, rfl⟩, a⟩
  · rename_i hg
    obtain ⟨rfl, rfl⟩ := h
    exact ⟨_, by unfold Wakes; rw [(a.get hg (a.awake hg rfl)).1]; exact ⟨rfl, rfl⟩, a⟩
theorem wp_asl {α : Type} (M : Model) (Γ : PySem.Ctx) (B : Nat → Option GenState) (t : Sem α) : ∀ (Q : α → Pos → Shared → Prop) (E : Value → Pos → Shared → Prop) (p : Pos) (s s₁ : Shared), Asl B s s₁ → wp M Γ t Q E p s →
    wp M Γ t (fun a p' s' => ∃ s, Asl B s s' ∧ Q a p' s) (fun e p' s' => ∃ s, Asl B s s' ∧ E e p' s) p s₁ := by
  induction t with
  | pure a => intro Q E p s s₁ hn h; exact ⟨s, hn, h⟩
  | raise e => intro Q E p s s₁ hn h; exact ⟨s, hn, h⟩
  | unsupported _ => intro Q E p s s₁ _ h; exact h
  | finish _ => intro Q E p s s₁ _ h; exact h
  | rule _ k ih => intro Q E p s s₁ hn h; exact ih () Q E p s s₁ hn h
  | «at» p' k ih => intro Q E p s s₁ hn h; exact ih () Q E p' s s₁ hn h
  | load a _ k ih => intro Q E p s s₁ hn h; obtain ⟨o, ho, h⟩ := h; exact ⟨o, by rw [hn.heap]; exact ho, ih o Q E p s s₁ hn h⟩
  | update a _ f k ih => intro Q E p s s₁ hn h; exact ⟨by rw [hn.heap]; exact h.1, ih () Q E p _ _ (hn.heapTo fun h => h.update a f) h.2⟩
  | loadIfAlive a k ih => intro Q E p s s₁ hn h; have := ih _ Q E p s s₁ hn h; rw [← hn.heap] at this; exact this
  | point _ k ih => intro Q E p s s₁ hn h; exact ih () Q E p s s₁ hn h
  | register _ _ => intro Q E p s s₁ _ h; exact h
  | alloc o k ih => intro Q E p s s₁ hn h; have := ih _ Q E p _ _ (hn.heapTo fun h => h.push o) h; rw [← hn.heap] at this; exact this
  | fresh k ih => intro Q E p s s₁ hn h; have := ih _ Q E p _ _ hn.tok h; rw [← hn.toks] at this; exact this
  | ask k ih => intro Q E p s s₁ hn h; exact ih _ Q E p s s₁ hn h
  | choose src m k ih => intro Q E p s s₁ hn h; have := ih _ Q E p _ _ (hn.bump src) h.2; rw [← hn.drawn] at this; exact ⟨h.1, this⟩
  | os q _ k ih => intro Q E p s s₁ hn h; have := ih _ Q E p _ _ (hn.osTo q) h; rw [← hn.os] at this; exact this
  | call c hd _ _ k ih =>
    intro Q E p s s₁ hn h
    obtain ⟨r, s', hr, h⟩ := h
    obtain ⟨s2, r2, a2⟩ := returns_asl hr hn
    exact ⟨r, s2, r2, ih r Q E p s' s2 a2 h⟩
  | handled own k ih => intro Q E p s s₁ hn h; exact ih _ Q E p s s₁ hn h
  | genState g k ih =>
    intro Q E p s s₁ a h
    obtain ⟨st, hs, h⟩ := h
    rcases a.at_ _ (a.lt hs) with ⟨st', e, e1, e2, e3⟩ | ⟨_, st', e1, e2, e3⟩
    · rw [hs] at e3; cases e3
      rw [seen_poi] at h
      exact ⟨st', e2, ih _ Q E p s s₁ a h⟩
    · rw [hs] at e2; cases e2
      exact ⟨_, e1, ih _ Q E p s s₁ a h⟩
  | newGen c k ih => intro Q E p s s₁ hn h; have := ih _ Q E p _ _ (hn.push c) h; rw [← hn.size] at this; exact this
  | resume g r _ k ih =>
    intro Q E p s s₁ hn h
    obtain ⟨res, s', hw, h⟩ := h
    obtain ⟨s2, r2, a2⟩ := wakes_asl hw hn
    exact ⟨res, s2, r2, ih res Q E p s' s2 a2 h⟩
  | yield _ _ _ _ => intro Q E p s s₁ _ h; exact h
  | stack k ih => intro Q E p s s₁ hn h; exact ih _ Q E p s s₁ hn h
  | fork _ _ => intro Q E p s s₁ _ h; exact h
  | thread k ih => intro Q E p s s₁ hn h; exact ih _ Q E p s s₁ hn h
  | await _ _ _ _ _ => intro Q E p s s₁ _ h; exact h
theorem wpAny_asl {α : Type} {M : Model} {A : Around} {B : Nat → Option GenState} {s s₁ : Shared} {t : Sem α} {Q : α → Shared → Prop} {E : Value → Shared → Prop} (a : Asl B s s₁) (h : wpAny M A t Q E s) :
    wpAny M A t (fun a s' => ∃ s, Asl B s s' ∧ Q a s) (fun e s' => ∃ s, Asl B s s' ∧ E e s) s₁ := fun Γ p hΓ => wp_asl M Γ B t _ _ p s s₁ a (h Γ p hΓ)
/-- all that sleep -/
def sleepers (s : Shared) : Nat → Option GenState := fun i => match s.gens[i]? with
  | some st => if slp st = true then some st else none
  | none => none
def lulled (s : Shared) : Shared := { s with gens := s.gens.map poi }
theorem asl_of (s : Shared) : Asl (sleepers s) (lulled s) s := by
  refine ⟨rfl, rfl, rfl, rfl, by show _ = (s.gens.map poi).size; simp, fun i hi => ?_, fun i hi => ?_⟩
  · have hi' : i < s.gens.size := by
      have : i < (s.gens.map poi).size := hi
      simpa using this
    have e := Array.getElem?_eq_getElem hi'
    have e2 : (lulled s).gens[i]? = some (poi s.gens[i]) := by
      show (s.gens.map poi)[i]? = _
      rw [Array.getElem?_map, e]; rfl
    unfold sleepers
    rw [e]
    by_cases q : slp s.gens[i] = true
    · exact .inl ⟨_, by simp only [q, if_true], q, rfl, e2⟩
    · refine .inr ⟨by simp only [q, if_false, Bool.false_eq_true], _, rfl, ?_, ?_⟩
      · rw [e2]; cases h : s.gens[i] <;> simp_all [slp, poi]
      · cases h : s.gens[i] <;> simp_all [slp, plainG]
  · unfold sleepers
    have hi' : s.gens.size ≤ i := by
      have : (s.gens.map poi).size ≤ i := hi
      simpa using this
    rw [Array.getElem?_eq_none hi']
theorem Asl.bare {B : Nat → Option GenState} {s s₁ : Shared} (a : Asl B s s₁) : AllBare s.gens ↔ AllBare s₁.gens := by
  constructor
  · intro h y hy
    obtain ⟨i, hi, rfl⟩ := Array.mem_iff_getElem.mp hy
    have e := Array.getElem?_eq_getElem hi
    rcases a.at_ i (by rw [← a.size]; exact hi) with ⟨st', _, e1, e2, e3⟩ | ⟨_, st', e1, e2, e3⟩
    · rw [e] at e2; cases e2
      rw [← bare_poi]; exact h _ (Array.mem_of_getElem? e3)
    · rw [e] at e1; cases e1
      exact h _ (Array.mem_of_getElem? e2)
  · intro h y hy
    obtain ⟨i, hi, rfl⟩ := Array.mem_iff_getElem.mp hy
    have e := Array.getElem?_eq_getElem hi
    rcases a.at_ i hi with ⟨st', _, e1, e2, e3⟩ | ⟨_, st', e1, e2, e3⟩
    · rw [e] at e3; injection e3 with e3
      rw [e3, bare_poi]; exact h _ (Array.mem_of_getElem? e2)
    · rw [e] at e2; cases e2
      exact h _ (Array.mem_of_getElem? e1)
theorem Asl.inv {B : Nat → Option GenState} {s s₁ : Shared} {X : Cx} {pins : List (Addr × Obj)} {σ : L2.St} {H : Hp} (a : Asl B s s₁) (I : L2.Inv X pins σ H s) : L2.Inv X pins σ H s₁ := Sh.inv I ⟨a.heap, a.os, a.bare.mp I.bare⟩
theorem Asl.inv' {B : Nat → Option GenState} {s s₁ : Shared} {X : Cx} {pins : List (Addr × Obj)} {σ : L2.St} {H : Hp} (a : Asl B s s₁) (I : L2.Inv X pins σ H s₁) : L2.Inv X pins σ H s := Sh.inv I ⟨a.heap.symm, a.os.symm, a.bare.mpr I.bare⟩
theorem Asl.kept {s s₁ s' : Shared} {g : Nat} {st : GenState} (a : Asl (sleepers s) s' s₁) (h : s.gens[g]? = some st) (q : slp st = true) : s₁.gens[g]? = some st := by
  have e : sleepers s g = some st := by unfold sleepers; rw [h]; simp only [q, if_true]
  have hl : g < s'.gens.size := by
    rcases Nat.lt_or_ge g s'.gens.size with z | z
    · exact z
    · have := a.out g z; rw [e] at this; cases this
  rcases a.at_ g hl with ⟨st', e1, _, e2, _⟩ | ⟨n, _⟩
  · rw [e] at e1; cases e1; exact e2
  · rw [e] at n; cases n
end Sb
end
section
set_option Elab.async false
set_option linter.all false
set_option maxRecDepth 100000
set_option maxHeartbeats 4000000
namespace Sb
open PySem PySem.Spec PyProof.Rows L2 GenW
open Sem (wp)

/-! ## one stretch of a generator's code: up to its next yield, or its end -/
abbrev EndP := End → Shared → Prop
def SegX (M : Model) (A : Around) (F : EndP) (c : Code) (t : Sem PySem.Fin) (fs : List Frame) (s : Shared) : Prop :=
  ∀ (Γ : PySem.Ctx) p, Γ.code = c → Γ.Woken A → ∃ e s', Runs M Γ p t fs s e s' ∧ F e s'
section
variable {M : Model} {A : Around} {F : EndP} {c : Code} {fs : List Frame} {s : Shared}
theorem sx_wrap {α : Type} {m : Sem α} {K : α → Sem PySem.Fin} {J : Value → Sem PySem.Fin} {gd lv}
    (h : wpAny M (A.over c fs) m (fun a s' => SegX M A F c (K a) fs s') (fun x s' => SegX M A F c (J x) fs s') s) : SegX M A F c (m.wrap K J gd lv) fs s := by
  rintro Γ p rfl hΓ
  exact runs_wrap_of_wp K J gd lv m (h (Γ.over fs) p (hΓ.over fs)) (fun a p' s' h' => h' Γ p' rfl hΓ) (fun x p' s' h' => h' Γ p' rfl hΓ)
theorem sx_at {p' : Pos} {k : Unit → Sem PySem.Fin} (h : SegX M A F c (k ()) fs s) : SegX M A F c (.at p' k) fs s :=
  sx_wrap (m := standAt p') (K := k) (J := .raise) (gd := id) (lv := id) (wpAny_standAt h)
theorem sx_point {l : List Value} {k : Unit → Sem PySem.Fin} (h : SegX M A F c (k ()) fs s) : SegX M A F c (.point l k) fs s :=
  sx_wrap (m := point) (K := k) (J := .raise) (gd := id) (lv := fun _ => l) (wpAny_point h)
theorem sx_call {c' : Code} {h g l} {k : Result → Sem PySem.Fin} (hc : ∀ p, SegX M A F c' (M.den c') (.ret k h g l c p [] :: fs) s) : SegX M A F c (.call c' h g l k) fs s := by
  rintro Γ p rfl hΓ
  obtain ⟨e, s', hr, he⟩ := hc p (Γ.goto c') p rfl (hΓ.goto c')
  exact ⟨e, s', runs_call_seg hr, he⟩
theorem sx_leaf {k h g l c₁ p₁ kp} (r : Result) (hk : SegX M A F c₁ (k r) fs s) : SegX M A F c (leafOf r) (.ret k h g l c₁ p₁ kp :: fs) s := by
  rintro Γ p rfl hΓ
  obtain ⟨e, s', hr, he⟩ := hk (Γ.goto c₁) p₁ rfl (hΓ.goto c₁)
  exact ⟨e, s', Runs.pop r hr, he⟩
theorem sx_again {c' : Code} (hq : c'.quiet = true) (hc : SegX M A F c' (M.den c') fs s) : SegX M A F c (.pure (.again c')) fs s := by
  rintro Γ p rfl hΓ
  obtain ⟨e, s', hr, he⟩ := hc (Γ.goto c') p rfl (hΓ.goto c')
  exact ⟨e, s', Runs.head (c₁ := c') (fun _ _ x => .again hq x) hr, he⟩
theorem sx_end (r : Result) (h : F (.ret r) s) : SegX M A F c (leafOf r) [] s := by
  rintro Γ p rfl _
  exact ⟨.ret r, s, Runs.leaf r, h⟩
theorem sx_yield {v g l} {k : Resume → Sem PySem.Fin} (hfs : splitAtGen fs = none) (h : ∀ p, F (.susp v g l k c p fs) s) : SegX M A F c (.yield v g l k) fs s := by
  rintro Γ p rfl _
  exact ⟨_, s, Runs.yield' fs hfs, h p⟩
variable {env : Env} {K : Flow → Sem PySem.Fin} {J : Value → Sem PySem.Fin} {gd : Bool → Bool} {lv : List Value → List Value}
theorem sx_execs_nil (h : SegX M A F c (K .next) fs s) : SegX M A F c ((execs [] env).wrap K J gd lv) fs s := h
theorem sx_execs_cons {st : Stmt} {rest : List Stmt}
    (h : SegX M A F c ((exec st env).wrap (fun f => match f with | .next => (execs rest env).wrap K J gd lv | f => K f) J gd lv) fs s) :
    SegX M A F c ((execs (st :: rest) env).wrap K J gd lv) fs s := by rw [execs_cons_wrap]; exact h
/-- yield e -/
theorem sx_Yield {e : Expr} {ypos pos : Pos} (hfs : splitAtGen fs = none) (hgd : gd false = false) (hfg : fs.any Frame.guarded = false)
    (h : wpAny M (A.over c fs) (eval e env) (fun v s' => ∀ l k p, (End.susp v (gd false) l k c p fs).quiet = true → (∀ F' s'', SegX M A F' c (K .next) fs s'' → SegX M A F' c (k (.send .none)) fs s'') → F (.susp v (gd false) l k c p fs) s')
      (fun x s' => SegX M A F c (J x) fs s') s) (hco : env.scope.isCoroutine = false := by rfl) (hi : interactive env = false := by rfl) :
    SegX M A F c ((exec (.Expr (.Yield (some e) ypos) pos) env).wrap K J gd lv) fs s := by
  rw [exec_Expr env _ pos hi rfl]
  show SegX M A F c (.at pos fun _ => ((eval e env >>= fun v => (standAt ypos >>= fun _ => yieldOut env v)) >>= fun x =>
    dropValue (.Yield (some e) ypos) pos x).wrap K J gd lv) fs s
  have hy : ∀ v, yieldOut env v = yieldValue v := fun v => by simp only [yieldOut, hco, Bool.false_eq_true, if_false]
  simp only [hy]
  refine sx_at ?_
  rw [Sem.bind_eq_wrap', Sem.bind_eq_wrap', Sem.wrap_wrap, Sem.wrap_wrap]
  refine sx_wrap (wpAny_mono h (fun v s' h' => ?_) fun _ _ x => x)
  refine sx_at ?_
  refine (sx_yield hfs fun p => ?_)
  exact h' _ _ p (by simp [End.quiet, hgd, hfg]) fun F' s'' hx => hx
end
section
variable {prog : Program} {w : World} {A : Around} {F : EndP} {fs : List Frame} {s : Shared} {env : Env} {c : Code}
  {K : Flow → Sem PySem.Fin} {J : Value → Sem PySem.Fin} {gd : Bool → Bool} {lv : List Value → List Value}
theorem sx_While {test : Expr} {body orelse : List Stmt} {pos : Pos} {M : Model}
    (h : ∀ p, SegX M A F (.whileLoop test body orelse env) (M.den (.whileLoop test body orelse env))
      (.ret (fun r => ((match r with | .ok f => (.pure f : Sem Flow) | .error e => .raise e).onRaise (cameBack env)).wrap K J gd lv) none (gd false) (lv []) c p [] :: fs) s) :
    SegX M A F c ((exec (.While test body orelse pos) env).wrap K J gd lv) fs s :=
  sx_at (sx_call h)
theorem sx_whileLoop {test : Expr} {body orelse : List Stmt}
    (h : wpAny (model prog w) (A.over (.whileLoop test body orelse env) fs) (isTrue test env (eval test env)) (fun b s' =>
        if b = true then
          SegX (model prog w) A F (.whileLoop test body orelse env) ((execs body env).wrap (fun f => match f with
            | .next | .cont => .pure (.again (.whileLoop test body orelse env))
            | .brk => .pure (.done .next)
            | .ret v => .pure (.done (.ret v))) (fun e => (do noteFrame e env; theTreesLotGoes e : Sem Unit).wrap (fun _ => .raise e) .raise id id) id id) fs s'
        else SegX (model prog w) A F (.whileLoop test body orelse env) ((execs orelse env).wrap (fun f => .pure (.done f)) (fun e => (do noteFrame e env; theTreesLotGoes e : Sem Unit).wrap (fun _ => .raise e) .raise id id) id id) fs s')
      (fun x s' => SegX (model prog w) A F (.whileLoop test body orelse env) ((do noteFrame x env; theTreesLotGoes x : Sem Unit).wrap (fun _ => .raise x) .raise id id) fs s') s) :
    SegX (model prog w) A F (.whileLoop test body orelse env) ((model prog w).den (.whileLoop test body orelse env)) fs s := by
  show SegX _ A F _ ((whileTurn test body orelse env).onRaise (fun x => do noteFrame x env; theTreesLotGoes x)) fs s
  unfold whileTurn
  rw [Sem.onRaise_eq_wrap, Sem.bind_eq_wrap', Sem.wrap_wrap]
  refine sx_wrap (wpAny_mono h (fun b s' hb => ?_) fun x s' hx => ?_)
  · cases b with
    | true =>
      rw [if_pos rfl] at hb
      show SegX _ A F _ (Sem.wrap _ _ _ _ (if true = true then _ else _)) fs s'
      rw [if_pos rfl, Sem.bind_eq_wrap', Sem.wrap_wrap]
      rw [Sem.wrap_congr (execs body env) _ _ (K' := fun f => match f with
            | .next | .cont => .pure (.again (.whileLoop test body orelse env))
            | .brk => .pure (.done .next)
            | .ret v => .pure (.done (.ret v))) (H' := (fun e => (do noteFrame e env; theTreesLotGoes e : Sem Unit).wrap (fun _ => .raise e) .raise id id))
        (fun f => by cases f <;> rfl)
        (fun e => by first | exact Sem.bind_eq_wrap _ _ | (show (do noteFrame e env; theTreesLotGoes e : Sem Unit).bind (fun _ => .raise e) = _; rw [Sem.bind_eq_wrap]))]
      exact hb
    | false =>
      rw [if_neg Bool.false_ne_true] at hb
      show SegX _ A F _ (Sem.wrap _ _ _ _ (if false = true then _ else _)) fs s'
      rw [if_neg Bool.false_ne_true, Sem.bind_eq_wrap', Sem.wrap_wrap]
      rw [Sem.wrap_congr (execs orelse env) _ _ (K' := fun f => (.pure (.done f) : Sem PySem.Fin)) (H' := (fun e => (do noteFrame e env; theTreesLotGoes e : Sem Unit).wrap (fun _ => .raise e) .raise id id))
        (fun f => by rfl)
        (fun e => by first | exact Sem.bind_eq_wrap _ _ | (show (do noteFrame e env; theTreesLotGoes e : Sem Unit).bind (fun _ => .raise e) = _; rw [Sem.bind_eq_wrap]))]
      exact hb
  · first
      | (rw [← Sem.bind_eq_wrap] at hx; exact hx)
      | (show SegX _ A F _ ((do noteFrame x env; theTreesLotGoes x : Sem Unit).bind fun _ => .raise x) fs s'; rw [Sem.bind_eq_wrap]; exact hx)
theorem sx_func {body : List Stmt}
    (h : SegX (model prog w) A F (.func body env) ((execs body env).wrap (fun f => .pure (.done (.ret (match f with | .ret v => v | _ => .none))))
      (fun e => (leaving env e).wrap (fun _ => .raise e) .raise id id) id id) fs s) :
    SegX (model prog w) A F (.func body env) ((model prog w).den (.func body env)) fs s := by
  show SegX _ A F _ (.point [] fun _ => ((execs body env).onRaise (leaving env)) >>= _) fs s
  refine sx_point ?_
  rw [Sem.onRaise_eq_wrap, Sem.bind_eq_wrap', Sem.wrap_wrap]
  rw [Sem.wrap_congr (execs body env) _ _ (K' := fun f => .pure (.done (.ret (match f with | .ret v => v | _ => .none))))
    (H' := fun e => (leaving env e).wrap (fun _ => .raise e) .raise id id) (fun f => by cases f <;> rfl)
    (fun e => by rw [Sem.bind_eq_wrap, Sem.wrap_wrap]; rfl)]
  exact h
end
/-! ### woken by next -/
def GoesX (M : Model) (A : Around) (gs : GenState) (F : EndP) (s : Shared) : Prop := match gs with
  | .fresh c => SegX M A F c (M.den c) [] s
  | .suspended k _ c _ fs _ => SegX M A F c (k (.send .none)) fs s
  | _ => False
theorem wpAny_resumeX {M : Model} {A : Around} {F : EndP} {E : Value → Shared → Prop} {s : Shared} {g : Nat} {gs : GenState} {l : List Value} {α : Type} {k : GenResult → Sem α} {Q : α → Shared → Prop} (hg : s.gens[g]? = some gs)
    (hgo : GoesX M A gs F (s.setGen g .running)) (hF : ∀ e s₁, F e s₁ → e.quiet = true ∧ wpAny M A (k e.result) Q E (s₁.setGen g e.genState)) : wpAny M A (.resume g (.send .none) l k) Q E s := by
  intro Γ p hΓ
  rw [Sem.wp_resume]
  have hB : ∀ c, (Γ.wake c p).Woken A := fun c => hΓ.wake c p
  cases gs with
  | fresh c =>
    obtain ⟨e₁, s₁, hr, he⟩ := hgo (Γ.wake c p) p rfl (hB c)
    obtain ⟨q, hw⟩ := hF e₁ s₁ he
    exact ⟨_, _, by unfold Wakes; rw [hg]; exact ⟨e₁, s₁, hr, q, rfl, rfl⟩, hw Γ p hΓ⟩
  | suspended k₀ l₀ c₀ p₀ fs₀ cl =>
    obtain ⟨e₁, s₁, hr, he⟩ := hgo (Γ.wake c₀ p) p₀ rfl (hB c₀)
    obtain ⟨q, hw⟩ := hF e₁ s₁ he
    exact ⟨_, _, by unfold Wakes; rw [hg]; exact ⟨e₁, s₁, hr, q, rfl, rfl⟩, hw Γ p hΓ⟩
  | running => exact hgo.elim
  | finished => exact hgo.elim
/-- next(g) of a generator that raises nothing -/
theorem next_genX {P : Program} {w : World} {A : Around} {E : Value → Shared → Prop} {s : Shared} {a : Addr} {g : Nat} {gs : GenState} {F : EndP} {Q : Option Value → Shared → Prop} (hh : A.handled = none)
    (hl : s.heap.NoLimit) (hroom : A.depth < recursionLimit) (hg : s.heap.IsGen a g) (hgs : s.gens[g]? = some gs) (hgo : GoesX (model P w) A.in1 gs F (s.setGen g .running))
    (hF : ∀ e s₁, F e s₁ → e.quiet = true ∧ match e with
      | .ret r => (r = .ok (.ret .none) ∨ r = .ok .next) ∧ ∀ h', (∀ b o, s₁.heap.get? b = some o → h'.get? b = some o) → Q none { s₁.setGen g .finished with heap := h' }
      | .susp v .. => Q (some v) (s₁.setGen g e.genState)) :
    wpAny (model P w) A (pyNext (.ref a)) Q E s := by
  unfold pyNext
  refine wpAny_bind (wpAny_attempt (wpAny_callSpecial?_slot (name := Str.ofString "__next__") hg.typeIs slot_gen_next
    (wpAny_call_entry slot_gen_next hg.typeIs entry_gen_next ?_ (args_gen_next _))))
  show wpAny _ A.in1 (Builtin.Generator.genWake (.ref a) (.send .none)) _ _ s
  unfold Builtin.Generator.genWake
  refine wpAny_bind (wpAny_holding (wpAny_genNumber hg (wpAny_bind (wpAny_genState hgs ?_))))
  cases gs with
  | running => exact hgo.elim
  | finished => exact hgo.elim
  | _ =>
    refine wpAny_bind (wpAny_roomToWake hl hroom ?_)
    show wpAny _ A.in1 (.resume g (.send .none) [] _) _ _ s
    refine wpAny_resumeX hgs hgo (fun e s₁ he => ?_)
    obtain ⟨q, hx⟩ := hF e s₁ he
    refine ⟨q, ?_⟩
    cases e with
    | ret x =>
      obtain ⟨hr, hp⟩ := hx
      have hres : End.result (.ret x) = .returned .none := by
        rcases hr with hr | hr <;> rw [hr] <;> rfl
      first | rw [hres] | simp only [hres]
      show wpAny _ A.in1 (newExc (.type "StopIteration") [] >>= _) _ _ _
      refine wpAny_bind ?_
      simp only [newExc, newTuple]
      refine wpAny_bind (wpAny_newObj_type ?_ (by size_fits))
      refine wpAny_bind (m := firstArgMember _ _) (wpAny_of_eq (a := Value.none) (by first | rfl | (simp only [firstArgMember]; rfl)) ?_)
      refine wpAny_newObj_type ?_ (by size_fits)
      simp only [raiseNew]
      refine wpAny_bind (wpAny_bind (wpAny_handled ?_))
      first | rw [show A.in1.handled = none from hh] | rw [hh]
      refine wpAny_throw ?_
      refine wpAny_bind (wpAny_isInstance (T := "StopIteration") (b := true) ⟨_, Heap.get?_push_size _ rfl, rfl⟩ isSubtype_stop ?_)
      exact wpAny_pure (hp _ fun b o hb => Heap.get?_push_of_some _ (Heap.get?_push_of_some _ hb))
    | susp v g₀ l₀ k₀ c₀ p₀ fs₀ => exact wpAny_pure ⟨v, rfl, wpAny_pure hx⟩
end Sb
end
section
set_option Elab.async false
set_option linter.all false
set_option maxRecDepth 100000
set_option maxHeartbeats 4000000
namespace Sb
open PySem PySem.Spec PyProof.Rows L2 GenW
open Sem (wp)

/-! ## the heap below an address -/
def cut (h : Heap) (n : Nat) : Heap := { h with objs := h.objs.extract 0 n }
theorem cut_size {h : Heap} {n : Nat} (hn : n ≤ h.objs.size) : (cut h n).objs.size = n := by
  show (h.objs.extract 0 n).size = n
  simp; omega
theorem cut_at {h : Heap} {n b : Nat} (hb : b < n) : (h.objs.extract 0 n)[b]? = h.objs[b]? := by
  rw [Array.getElem?_extract]
  simp; omega
theorem cut_get {h : Heap} {n b : Nat} (hb : b < n) : (cut h n).get? b = h.get? b := by
  simp only [Heap.get?, cut, cut_at hb]
theorem cut_some {h : Heap} {n b : Nat} {o : Obj} (e : (cut h n).get? b = some o) : b < n ∧ h.get? b = some o := by
  have hl := Heap.lt_size e
  have hb : b < n := by
    have : (cut h n).objs.size ≤ n := by show (h.objs.extract 0 n).size ≤ n; simp; omega
    exact Nat.lt_of_lt_of_le hl this
  exact ⟨hb, by rw [← cut_get hb]; exact e⟩

/-! ## the context in which a stretch of a generator's code runs -/
abbrev gX (X : Cx) (N : List Str) (env : Env) (s : Shared) (H : Hp) (pn : List (Addr × Obj)) : Cx :=
  { X with A := X.A.in1.deeper env, N := N, s_0 := { s with heap := cut s.heap env.locals }, H_0 := H, env := env, outer := X.stack, stack := env :: X.stack, ex := [], fn := fun _ => true, calm := true, pn := pn, xe := fun _ _ => False }
/-- the generator's place, seen from its consumer -/
structure GPl (X : Cx) (pins : List (Addr × Obj)) (a : Addr) (go : Obj) (env : Env) : Prop where
  kind : env.scope.kind = .function
  glob : env.globals = mainGlobals
  blt : env.builtins = builtinsNs
  frame : env.frame = some env.locals
  nocell : ∀ x, env.cells.lookup x = none
  nokind : ∀ x, env.kindOf x ≠ some .cell ∧ env.kindOf x ≠ some .free
  lt : X.env.locals < env.locals
  gaf : a ≠ env.locals
  notpin : ∀ p ∈ X.pn ++ pins, p.1 ≠ env.locals
  ax : a ≠ X.env.locals ∧ a ∉ X.fs
  god : ∀ v, go.data ≠ .cell v
  cells : ∀ x c, X.env.cells.lookup x = some c → c < env.locals
  hd : X.A.handled = none
/-- the consumer as it stands when the generator is woken -/
structure Vd (X : Cx) (T : Tb) (pins : List (Addr × Obj)) (a : Addr) (go : Obj) (env : Env) (σ : L2.St) (φ : List Addr) (H : Hp) (S : Sto) (s : Shared) : Prop where
  inv : L2.Inv X pins σ H s
  rel : Rel T φ S H
  ga : s.heap.get? a = some go
  na : H a = none
  nf : H env.locals = none
  wf : wfk S.length S = true
/-- what the frame's object holds -/
def LocO (env : Env) (N : List Str) (fo : Obj) (σ : L2.St) : Prop := σ.length = N.length ∧ ∃ es ep, fo.data = .dict es ep ∧ StrKeys es ∧ ∀ (i : Nat) (x : Str) (v : V), N[i]? = some x → σ[i]? = some (some v) → Vis env.scope x → ∃ u, RelV v u ∧ env.kindOf x = some .local ∧ nsFind es x = some u
section
variable {X : Cx} {T : Tb} {pins : List (Addr × Obj)} {a : Addr} {go : Obj} {env : Env} {N : List Str}
abbrev gpn (X : Cx) (pins : List (Addr × Obj)) (a : Addr) (go : Obj) : List (Addr × Obj) := (a, go) :: (X.pn ++ pins)
theorem frs_lt {σ : L2.St} {H : Hp} {s : Shared} (g : GPl X pins a go env) (I : L2.Inv X pins σ H s) : ∀ b ∈ frs X.stack, b < env.locals := fun b hb => by
  rcases List.mem_cons.mp (I.stkSub b hb) with e | hb
  · rw [e]; exact g.lt
  · obtain ⟨_, o, ho, _⟩ := I.ok.funs.mem hb
    exact Nat.lt_of_lt_of_le (Heap.lt_size ho) (Nat.le_trans I.ok.above (Nat.le_of_lt g.lt))
theorem frames_cut {h : Heap} {base : Heap} {n : Nat} : ∀ {l : List Env}, (∀ b ∈ frs l, b < n) → h.FunFrames base l → (cut h n).FunFrames base l
  | [], _, _ => trivial
  | env :: r, hl, ⟨hk, ⟨L, o, hf, hn, ho, hd⟩, hr⟩ => by
    have hL : L < n := hl L (by unfold frs; rw [List.filterMap_cons, hf]; exact List.mem_cons_self)
    exact ⟨hk, ⟨L, o, hf, hn, by rw [cut_get hL]; exact ho, hd⟩, frames_cut (fun b hb => hl b (by unfold frs; rw [List.filterMap_cons, hf]; exact List.mem_cons_of_mem _ hb)) hr⟩
/-- the generator's frame as a running frame -/
theorem gen_start {σ σg : L2.St} {φ : List Addr} {H : Hp} {S : Sto} {s : Shared} {fo : Obj} (g : GPl X pins a go env) (v : Vd X T pins a go env σ φ H S s) (hf : s.heap.get? env.locals = some fo) (l : LocO env N fo σg) :
    L2.Inv (gX X N env s H (gpn X pins a go)) [] σg H s := by
  obtain ⟨hl, es, ep, hd, hk, hv⟩ := l
  have hsz : env.locals < s.heap.objs.size := Heap.lt_size hf
  have hcut : (cut s.heap env.locals).objs.size = env.locals := cut_size (Nat.le_of_lt hsz)
  have hbase : X.base.objs.size ≤ env.locals := Nat.le_trans v.inv.ok.bsz (Nat.le_trans v.inv.ok.above (Nat.le_of_lt g.lt))
  refine ⟨⟨v.inv.ok.mod, g.kind, g.glob, g.blt, Nat.le_of_eq hcut, fun x y c e => ?_, fun x hx => ?_, fun x c _ e => ?_, fun _ => g.hd, Around.frames_deeper v.inv.ok.frames, .inr ⟨rfl, g.frame⟩, fun b z => absurd z (by simp), fun b o e => ?_, ?_, fun b _ _ => by simp, fun b z => absurd z (by simp), frames_cut (frs_lt g v.inv) v.inv.stack, v.inv.stkFree⟩,
    rfl, v.inv.bare, Un.kept fun b o e => (cut_some e).2, ⟨fun x => nsFind es x, ⟨fo, es, ep, hf, hd, hk, fun _ => rfl⟩, fun i x w e1 e2 e3 => ?_⟩, fun x c e => ?_, v.nf, fun x c e => ?_, fun p hp => ?_, v.inv.hok, hl⟩
  · rw [g.nocell] at e; cases e
  · exact absurd hx (fun z => z.elim (g.nokind x).1 (g.nokind x).2)
  · have e' : env.cells.lookup x = some c := e
    rw [g.nocell] at e'; cases e'
  · obtain ⟨q1, q2⟩ := v.inv.bs b o e
    exact ⟨by show (cut s.heap env.locals).get? b = _; rw [cut_get (Nat.lt_of_lt_of_le (Heap.lt_size e) hbase)]; exact q1, q2⟩
  · show X.base.objs.size ≤ (cut s.heap env.locals).objs.size
    rw [hcut]; exact hbase
  · obtain ⟨u, q1, q2, q3⟩ := hv i x w e1 e2 e3
    exact ⟨u, q1, .inl ⟨q2, q3⟩⟩
  · have e' : env.cells.lookup x = some c := e
    rw [g.nocell] at e'; cases e'
  · have e' : env.cells.lookup x = some c := e
    rw [g.nocell] at e'; cases e'
  · have hp' : p ∈ gpn X pins a go := by simpa using hp
    rcases List.mem_cons.mp hp' with e | hp'
    · rw [e]
      refine ⟨v.ga, v.na, g.gaf, fun hm => ?_, g.god⟩
      rcases List.mem_cons.mp (v.inv.stkSub a hm) with z | z
      · exact g.ax.1 z
      · exact g.ax.2 z
    · obtain ⟨q1, q2, q3, q4, q5⟩ := v.inv.pin p hp'
      refine ⟨q1, q2, g.notpin p hp', fun hm => ?_, q5⟩
      rcases List.mem_cons.mp (v.inv.stkSub p.1 hm) with z | z
      · exact q3 z
      · exact q4 z
/-- behind a stretch: the consumer -/
theorem gen_back {σ σg : L2.St} {φ : List Addr} {H H2 : Hp} {S : Sto} {s s2 : Shared} (g : GPl X pins a go env) (v : Vd X T pins a go env σ φ H S s) (I2 : L2.Inv (gX X N env s H (gpn X pins a go)) [] σg H2 s2) : L2.Inv X pins σ H2 s2 := by
  have I := v.inv
  have U : Un (frs X.stack) [] H H2 (cut s.heap env.locals) s2.heap := I2.base
  have low : ∀ b o, X.s_0.heap.get? b = some o → b < env.locals ∧ b ≠ X.env.locals := fun b o e => by
    have h1 := Heap.lt_size e
    have h2 := I.ok.above
    have h3 := g.lt
    exact ⟨Nat.lt_of_lt_of_le h1 (Nat.le_trans h2 (Nat.le_of_lt h3)), by intro z; rw [z] at h1; exact absurd (Nat.lt_of_lt_of_le h1 h2) (Nat.lt_irrefl _)⟩
  have nfs : ∀ b, b ≠ X.env.locals → b ∉ X.fs → b ∉ frs X.stack := fun b h1 h2 hm => (List.mem_cons.mp (I.stkSub b hm)).elim h1 h2
  have any : ∀ b o, b < env.locals → s.heap.get? b = some o → H b = none → ∃ sl, s2.heap.get? b = some { o with slots := sl } := fun b o hb e n => U.any (by rw [cut_get hb]; exact e) n (by simp)
  have cellK : ∀ x c, X.env.cells.lookup x = some c → ∀ w, s.heap.IsCell c w → s2.heap.IsCell c w := fun x c e w ⟨o, ho, hd⟩ => by
    obtain ⟨sl, q⟩ := any c o (g.cells x c e) ho (I.freeC x c e)
    exact ⟨_, q, hd⟩
  refine ⟨I.ok, ?_, I2.bare, ⟨fun b o e n hb hx => ?_, fun b o e n hb hx => ?_, fun b o e n hx => ?_, fun b o e hx => ?_, fun b xs e => U.tups b xs (I.base.tups b xs e), fun b o xs e => U.frzs b o xs (I.base.frzs b o xs e), fun b ps e => ?_⟩, ?_, fun x c e => ?_, ?_, fun x c e => ?_, fun p hp => ?_, I2.hok, I.len⟩
  · have := I2.os
    exact this.trans I.os
  · obtain ⟨h1, h2⟩ := low b o e
    exact U.keep b o (by rw [cut_get h1]; exact I.base.keep b o e n hb hx) (I.base.free b o e n hx) (nfs b h2 hb) (by simp)
  · obtain ⟨h1, h2⟩ := low b o e
    obtain ⟨sl, e1⟩ := I.base.slot b o e n hb hx
    obtain ⟨sl', e2⟩ := any b _ h1 e1 (I.base.free b o e n hx)
    exact ⟨sl', e2⟩
  · obtain ⟨h1, h2⟩ := low b o e
    obtain ⟨o', e1⟩ := I.base.there b o e hx
    exact U.free b o' (by rw [cut_get h1]; exact e1) (I.base.free b o e n hx) (by simp)
  · obtain ⟨h1, h2⟩ := low b o e
    obtain ⟨o', e1⟩ := I.base.there b o e hx
    exact U.there b o' (by rw [cut_get h1]; exact e1) (by simp)
  · obtain ⟨m1, e1⟩ := I.base.tbls b ps e
    obtain ⟨m2, e2⟩ := U.tbls b _ e1
    exact ⟨m1 ++ m2, by rw [e2, Array.append_assoc]⟩
  · obtain ⟨m, ⟨o, es, ep, ho, hr⟩, hl⟩ := I.loc
    obtain ⟨sl, hL⟩ := any X.env.locals o g.lt ho I.free
    refine ⟨m, ⟨_, es, ep, hL, hr⟩, fun i x w e1 e2 e3 => ?_⟩
    obtain ⟨u, r, l⟩ := hl i x w e1 e2 e3
    refine ⟨u, r, ?_⟩
    rcases l with l | ⟨k, c, e, z⟩
    · exact .inl l
    · exact .inr ⟨k, c, e, cellK x c e _ z⟩
  · obtain ⟨w, z⟩ := I.cell x c e
    exact ⟨w, cellK x c e w z⟩
  · obtain ⟨m, ⟨o, _, _, ho, _⟩, _⟩ := I.loc
    exact U.free _ o (by rw [cut_get g.lt]; exact ho) I.free (by simp)
  · obtain ⟨w, o, ho, hd⟩ := I.cell x c e
    exact U.free c o (by rw [cut_get (g.cells x c e)]; exact ho) (I.freeC x c e) (by simp)
  · obtain ⟨e, n, ne, nf, d⟩ := I.pin p hp
    obtain ⟨q1, q2, _⟩ := I2.pin p (by
      show p ∈ gpn X pins a go ++ []
      rw [List.append_nil]
      exact List.mem_cons_of_mem _ hp)
    exact ⟨q1, q2, ne, nf, d⟩
theorem gen_frame {σg : L2.St} {H H2 : Hp} {s s2 : Shared} {pn : List (Addr × Obj)} (hn : ∀ x, env.cells.lookup x = none) (I2 : L2.Inv (gX X N env s H pn) [] σg H2 s2) : ∃ fo, s2.heap.get? env.locals = some fo ∧ LocO env N fo σg ∧ H2 env.locals = none := by
  obtain ⟨m, ⟨o, es, ep, ho, hd, hk, hm⟩, hl⟩ := I2.loc
  refine ⟨o, ho, ⟨I2.len, es, ep, hd, hk, fun i x w e1 e2 e3 => ?_⟩, I2.free⟩
  obtain ⟨u, r, l⟩ := hl i x w e1 e2 e3
  rcases l with l | ⟨_, c, e, _⟩
  · exact ⟨u, r, l.1, by rw [hm]; exact l.2⟩
  · have e' : env.cells.lookup x = some c := e
    rw [hn] at e'; cases e'

/-! ## how a stretch ends: the data that are still to come -/
def FinG (X : Cx) (T : Tb) (pins : List (Addr × Obj)) (a : Addr) (go : Obj) (env : Env) : List D → L2.St → List Addr → Hp → Sto → EndP
  | [], σ, φ, H, S => fun e s2 => (∃ r, e = .ret r ∧ (r = .ok (.ret .none) ∨ r = .ok .next)) ∧ ∃ φ2 H2, L2.Inv X pins σ H2 s2 ∧ Ext φ H φ2 H2 ∧ Rel T φ2 S H2
  | d :: ds, σ, φ, H, S => fun e s2 => e.quiet = true ∧ ∃ v g l k c p fs, e = .susp v g l k c p fs ∧ ∃ φ2 H2 x fo, L2.Inv X pins σ H2 s2 ∧ Ext φ H φ2 H2 ∧ Rel T φ2 S H2 ∧ RelV x v ∧ RD T H2 φ2 d x ∧ s2.heap.get? a = some go ∧ H2 a = none ∧ s2.heap.get? env.locals = some fo ∧ H2 env.locals = none ∧ (∀ w, fo.data ≠ .cell w) ∧
      ∀ σ' φ' H' S' s', Vd X T pins a go env σ' φ' H' S' s' → Ext φ2 H2 φ' H' → s'.heap.get? env.locals = some fo → GoesX (model X.prog X.w) X.A.in1 e.genState (FinG X T pins a go env ds σ' φ' H' S') s'
/-- what stands while a stretch runs -/
def Rn (X : Cx) (T : Tb) (pins : List (Addr × Obj)) (a : Addr) (go : Obj) (env : Env) (N : List Str) (φ : List Addr) (H : Hp) (S : Sto) (s0 : Shared) (τ : Sl) (s : Shared) : Prop :=
  ∃ φ2 H2 σg, L2.Inv (gX X N env s0 H (gpn X pins a go)) [] σg H2 s ∧ Ext φ H φ2 H2 ∧ Rel T φ2 S H2 ∧ RSl T H2 φ2 τ σg
structure Plc (X : Cx) (env : Env) (c : Code) (fs : List Frame) (gd : Bool → Bool) : Prop where
  over : X.A.in1.over c fs = X.A.in1.deeper env
  split : splitAtGen fs = none
  guard : fs.any Frame.guarded = false
  gd : gd false = false
theorem Plc.loop {c c' : Code} {fs : List Frame} {gd : Bool → Bool} {k : Result → Sem PySem.Fin} {l kp : List Value} {p : Pos} (g : Plc X env c fs gd) (hw : c'.weight = 0) (hu : c'.cUnits = 0) : Plc X env c' (.ret k none (gd false) l c p kp :: fs) id where
  over := (over_loop hw hu).trans g.over
  split := by
    show (splitAtGen fs).map _ = none
    rw [g.split]; rfl
  guard := by
    show (gd false || fs.any Frame.guarded) = false
    rw [g.gd, g.guard]; rfl
  gd := rfl
abbrev GR := Sl → List D → Sl → Prop
structure GSJ (X : Cx) (T : Tb) (pins : List (Addr × Obj)) (a : Addr) (go : Obj) (env : Env) (N : List Str) (st : Stmt) (G : GR) : Prop where
  run : ∀ τ ds τ', G τ ds τ' → ∀ post σ φ H S s0, Vd X T pins a go env σ φ H S s0 → ∀ s, Rn X T pins a go env N φ H S s0 τ s → ∀ c fs K J gd lv, Plc X env c fs gd →
    (∀ σ φ H S s0, Vd X T pins a go env σ φ H S s0 → ∀ s, Rn X T pins a go env N φ H S s0 τ' s → SegX (model X.prog X.w) X.A.in1 (FinG X T pins a go env post σ φ H S) c (K .next) fs s) →
    SegX (model X.prog X.w) X.A.in1 (FinG X T pins a go env (ds ++ post) σ φ H S) c ((exec st env).wrap K J gd lv) fs s
structure GSsJ (X : Cx) (T : Tb) (pins : List (Addr × Obj)) (a : Addr) (go : Obj) (env : Env) (N : List Str) (st : List Stmt) (G : GR) : Prop where
  run : ∀ τ ds τ', G τ ds τ' → ∀ post σ φ H S s0, Vd X T pins a go env σ φ H S s0 → ∀ s, Rn X T pins a go env N φ H S s0 τ s → ∀ c fs K J gd lv, Plc X env c fs gd →
    (∀ σ φ H S s0, Vd X T pins a go env σ φ H S s0 → ∀ s, Rn X T pins a go env N φ H S s0 τ' s → SegX (model X.prog X.w) X.A.in1 (FinG X T pins a go env post σ φ H S) c (K .next) fs s) →
    SegX (model X.prog X.w) X.A.in1 (FinG X T pins a go env (ds ++ post) σ φ H S) c ((execs st env).wrap K J gd lv) fs s
/-- nothing is raised -/
abbrev WN : WX := fun _ _ _ _ => False
def gPl (f : SF) : GR := fun τ ds τ' => ds = [] ∧ ∀ S, wfk S.length S = true → f τ S = some (.nx τ', S)
theorem gs_plain {st : Stmt} {f : SF} (h : ∀ s H, PS (gX X N env s H (gpn X pins a go)) st (rdS T WN f)) : GSJ X T pins a go env N st (gPl f) := by
  refine ⟨fun τ ds τ' hG post σ φ H S s0 v s hR c fs K J gd lv pl hk => ?_⟩
  obtain ⟨rfl, hf⟩ := hG
  obtain ⟨φ2, H2, σg, I, E, R, r⟩ := hR
  refine sx_wrap ?_
  rw [pl.over]
  have run := (h s0 H).run [] s σg H2 { nx := fun σ3 H3 => ∃ φ3, Ext φ2 H2 φ3 H3 ∧ Rel T φ3 S H3 ∧ RSl T H3 φ3 τ' σ3, rt := fun _ _ => False } I
    ⟨φ2, S, τ, _, S, R, r, hf S v.wf, fun φ3 H3 σ3 e3 R3 r3 => ⟨φ3, e3, R3, r3⟩⟩
  refine wpAny_mono run (fun f s' hs => ?_) fun _ _ z => z.elim
  cases f with
  | next =>
    obtain ⟨σ3, H3, I3, φ3, e3, R3, r3⟩ := hs
    exact hk σ φ H S s0 v s' ⟨φ3, H3, σ3, I3, E.trans e3, R3, r3⟩
  | brk => obtain ⟨_, _, _, z⟩ := hs; exact z.elim
  | cont => obtain ⟨_, _, _, z⟩ := hs; exact z.elim
  | ret u => obtain ⟨_, _, _, _, _, z⟩ := hs; exact z.elim
def gYd (f : EF) : GR := fun τ ds τ' => ∃ d, ds = [d] ∧ τ' = τ ∧ ∀ S, wfk S.length S = true → f τ S = some (.ok d S)
theorem gs_yield {e : Expr} {yp pos : Pos} {f : EF} (g : GPl X pins a go env) (h : ∀ s H, PE (gX X N env s H (gpn X pins a go)) e (rdE T WN f)) (hco : env.scope.isCoroutine = false := by rfl) (hi : interactive env = false := by rfl) :
    GSJ X T pins a go env N (.Expr (.Yield (some e) yp) pos) (gYd f) := by
  refine ⟨fun τ ds τ' hG post σ φ H S s0 v s hR c fs K J gd lv pl hk => ?_⟩
  obtain ⟨d, rfl, rfl, hf⟩ := hG
  obtain ⟨φ2, H2, σg, I, E, R, r⟩ := hR
  refine sx_Yield pl.split pl.gd pl.guard ?_ hco hi
  rw [pl.over]
  have run := (h s0 H).run [] s σg H2 (fun x H3 => ∃ φ3, Ext φ2 H2 φ3 H3 ∧ Rel T φ3 S H3 ∧ RD T H3 φ3 d x) I
    ⟨φ2, S, τ', _, R, r, hf S v.wf, fun φ3 H3 x e3 R3 r3 => ⟨φ3, e3, R3, r3⟩⟩
  refine wpAny_mono run (fun u s' hs => ?_) fun _ _ z => z.elim
  obtain ⟨x, H3, I3, rv, φ3, e3, R3, r3⟩ := hs
  intro l k p hq hnext
  obtain ⟨fo, hfo, hloc, hfr⟩ := gen_frame g.nocell I3
  obtain ⟨ga, na, _⟩ := I3.pin (a, go) (List.mem_append_left _ List.mem_cons_self)
  refine ⟨hq, _, _, _, _, _, _, _, rfl, φ3, H3, x, fo, gen_back g v I3, E.trans e3, R3, rv, r3, ga, na, hfo, hfr, fun w q => (by obtain ⟨_, es, ep, hd, _⟩ := hloc; rw [hd] at q; cases q), fun σ' φ' H' S' s'' v' E' hf' => ?_⟩
  refine hnext _ _ (hk σ' φ' H' S' s'' v' s'' ?_)
  exact ⟨φ', H', σg, gen_start g v' hf' hloc, .refl, v'.rel, (r.ext e3).ext E'⟩
def gNl : GR := fun τ ds τ' => ds = [] ∧ τ' = τ
theorem gss_nil : GSsJ X T pins a go env N [] gNl := by
  refine ⟨fun τ ds τ' hG post σ φ H S s0 v s hR c fs K J gd lv pl hk => ?_⟩
  obtain ⟨rfl, rfl⟩ := hG
  exact sx_execs_nil (hk σ φ H S s0 v s hR)
def gSq (G1 G2 : GR) : GR := fun τ ds τ' => ∃ d1 d2 τ1, ds = d1 ++ d2 ∧ G1 τ d1 τ1 ∧ G2 τ1 d2 τ'
theorem gss_cons {st : Stmt} {rest : List Stmt} {G1 G2 : GR} (h1 : GSJ X T pins a go env N st G1) (h2 : GSsJ X T pins a go env N rest G2) : GSsJ X T pins a go env N (st :: rest) (gSq G1 G2) := by
  refine ⟨fun τ ds τ' hG post σ φ H S s0 v s hR c fs K J gd lv pl hk => ?_⟩
  obtain ⟨d1, d2, τ1, rfl, g1, g2⟩ := hG
  rw [List.append_assoc]
  refine sx_execs_cons (h1.run τ d1 τ1 g1 (d2 ++ post) σ φ H S s0 v s hR c fs _ J gd lv pl fun σ φ H S s0 v s hR => ?_)
  exact h2.run τ1 d2 τ' g2 post σ φ H S s0 v s hR c fs K J gd lv pl hk
inductive gWh (tb : BF) (G : GR) : GR
  | done {τ} : (∀ S, wfk S.length S = true → tb τ S = some (.ok false S)) → gWh tb G τ [] τ
  | step {τ τ1 τ2 d1 d2} : (∀ S, wfk S.length S = true → tb τ S = some (.ok true S)) → G τ d1 τ1 → gWh tb G τ1 d2 τ2 → gWh tb G τ (d1 ++ d2) τ2
theorem gs_while {test : Expr} {body : List Stmt} {pos : Pos} {tb : BF} {G : GR} (hc : ∀ s H, PT (gX X N env s H (gpn X pins a go)) test (rdT T WN tb)) (hb : GSsJ X T pins a go env N body G) : GSJ X T pins a go env N (.While test body [] pos) (gWh tb G) := by
  refine ⟨fun τ ds τ' hG post σ φ H S s0 v s hR c fs K J gd lv pl hk => ?_⟩
  refine sx_While fun p => ?_
  have gl := fun (kk : Result → Sem PySem.Fin) => Plc.loop (k := kk) (c' := .whileLoop test body [] env) (l := lv []) (kp := []) (p := p) pl rfl rfl
  induction hG generalizing σ φ H S s0 s with
  | done ht =>
    obtain ⟨φ2, H2, σg, I, E, R, r⟩ := hR
    refine sx_whileLoop ?_
    rw [(gl _).over]
    have run := (hc s0 H).run [] s σg H2 (fun b H3 => b = false ∧ ∃ φ3, Ext φ2 H2 φ3 H3 ∧ Rel T φ3 S H3) I ⟨φ2, S, _, _, R, r, ht S v.wf, fun φ3 H3 e3 R3 => ⟨rfl, φ3, e3, R3⟩⟩
    refine wpAny_mono run (fun b s' hs => ?_) fun _ _ z => z.elim
    obtain ⟨H3, I3, rfl, φ3, e3, R3⟩ := hs
    rw [if_neg Bool.false_ne_true]
    refine sx_execs_nil ?_
    exact sx_leaf (.ok .next) (hk σ φ H S s0 v s' ⟨φ3, H3, σg, I3, E.trans e3, R3, r.ext e3⟩)
  | step ht g1 g2 ih =>
    obtain ⟨φ2, H2, σg, I, E, R, r⟩ := hR
    rw [List.append_assoc]
    refine sx_whileLoop ?_
    rw [(gl _).over]
    have run := (hc s0 H).run [] s σg H2 (fun b H3 => b = true ∧ ∃ φ3, Ext φ2 H2 φ3 H3 ∧ Rel T φ3 S H3) I ⟨φ2, S, _, _, R, r, ht S v.wf, fun φ3 H3 e3 R3 => ⟨rfl, φ3, e3, R3⟩⟩
    refine wpAny_mono run (fun b s' hs => ?_) fun _ _ z => z.elim
    obtain ⟨H3, I3, rfl, φ3, e3, R3⟩ := hs
    rw [if_pos rfl]
    refine hb.run _ _ _ g1 _ σ φ H S s0 v s' ⟨φ3, H3, σg, I3, E.trans e3, R3, r.ext e3⟩ _ _ _ _ id id (gl _) fun σ φ H S s0 v s hR => ?_
    exact sx_again rfl (ih σ φ H S s0 v s hR hk)
end
/-! ## a generator's data are determined -/
def GDet (G : GR) : Prop := ∀ τ d1 τ1 d2 τ2, G τ d1 τ1 → G τ d2 τ2 → d1 = d2 ∧ τ1 = τ2
theorem det_pl {f : SF} : GDet (gPl f) := fun τ d1 τ1 d2 τ2 h1 h2 => by
  obtain ⟨rfl, h1⟩ := h1
  obtain ⟨rfl, h2⟩ := h2
  have := (h1 [] rfl).symm.trans (h2 [] rfl)
  cases this
  exact ⟨rfl, rfl⟩
theorem det_yd {f : EF} : GDet (gYd f) := fun τ d1 τ1 d2 τ2 h1 h2 => by
  obtain ⟨x, rfl, rfl, h1⟩ := h1
  obtain ⟨y, rfl, rfl, h2⟩ := h2
  have := (h1 [] rfl).symm.trans (h2 [] rfl)
  cases this
  exact ⟨rfl, rfl⟩
theorem det_nl : GDet gNl := fun τ d1 τ1 d2 τ2 h1 h2 => by
  obtain ⟨rfl, rfl⟩ := h1
  obtain ⟨rfl, rfl⟩ := h2
  exact ⟨rfl, rfl⟩
theorem det_sq {G1 G2 : GR} (k1 : GDet G1) (k2 : GDet G2) : GDet (gSq G1 G2) := fun τ d1 τ1 d2 τ2 h1 h2 => by
  obtain ⟨x1, x2, u, rfl, a1, a2⟩ := h1
  obtain ⟨y1, y2, w, rfl, b1, b2⟩ := h2
  obtain ⟨rfl, rfl⟩ := k1 _ _ _ _ _ a1 b1
  obtain ⟨rfl, rfl⟩ := k2 _ _ _ _ _ a2 b2
  exact ⟨rfl, rfl⟩
theorem det_wh {tb : BF} {G : GR} (k : GDet G) : GDet (gWh tb G) := by
  intro τ d1 τ1 d2 τ2 h1
  induction h1 generalizing d2 τ2 with
  | done ht =>
    intro h2
    cases h2 with
    | done _ => exact ⟨rfl, rfl⟩
    | step hu _ _ => have := (ht [] rfl).symm.trans (hu [] rfl); cases this
  | step ht g1 _ ih =>
    intro h2
    cases h2 with
    | done hu => have := (ht [] rfl).symm.trans (hu [] rfl); cases this
    | step _ g1' g2' =>
      obtain ⟨rfl, rfl⟩ := k _ _ _ _ _ g1 g1'
      obtain ⟨rfl, rfl⟩ := ih _ _ g2'
      exact ⟨rfl, rfl⟩
end Sb
end
section
set_option Elab.async false
set_option linter.all false
set_option maxRecDepth 100000
set_option maxHeartbeats 4000000
namespace Sb
open PySem PySem.Spec PyProof.Rows L2 GenW
open Sem (wp)

/-! ## a generator def: what its calls hand out -/
noncomputable def yOf (n : Nat) (G : GR) : List D → Option (List D) := fun ds => by
  classical
  exact if h : ∃ L τ', G (ini n ds) L τ' then some (Classical.choose h) else none
theorem yOf_spec {n : Nat} {G : GR} {ds L : List D} (h : yOf n G ds = some L) : ∃ τ', G (ini n ds) L τ' := by
  unfold yOf at h
  split at h
  · rename_i k
    cases h
    exact Classical.choose_spec k
  · cases h
theorem yOf_eq {n : Nat} {G : GR} (k : GDet G) {ds L : List D} {τ' : Sl} (h : G (ini n ds) L τ') : yOf n G ds = some L := by
  have e : ∃ L τ', G (ini n ds) L τ' := ⟨L, τ', h⟩
  unfold yOf
  rw [dif_pos e]
  obtain ⟨τ2, h2⟩ := Classical.choose_spec e
  rw [(k _ _ _ _ _ h2 h).1]
/-- a generator that has been made and has not begun -/
structure GMd (X : Cx) (T : Tb) (pins : List (Addr × Obj)) (σ : L2.St) (φ : List Addr) (H : Hp) (L : List D) (a : Addr) (g : Nat) (go : Obj) (env : Env) (fo : Obj) (c : Code) (s : Shared) : Prop where
  inv : L2.Inv X pins σ H s
  pl : GPl X pins a go env
  ga : s.heap.get? a = some go
  hf : s.heap.get? env.locals = some fo
  gen : s.gens[g]? = some (.fresh c)
  isgen : ∀ h : Heap, h.get? a = some go → h.IsGen a g
  fpa : FpOk X pins H a
  fpe : FpOk X pins H env.locals
  gcl : go.cls = .type "generator"
  gda : ∃ vs, go.data = .fields vs
  fda : ∀ v, fo.data ≠ .cell v
  goes : ∀ σ' φ' H' S' s2, Vd X T pins a go env σ' φ' H' S' s2 → Ext φ H φ' H' → s2.heap.get? env.locals = some fo → GoesX (model X.prog X.w) X.A.in1 (.fresh c) (FinG X T pins a go env L σ' φ' H' S') s2
def GOk (P : Program) (w : World) (mg : Str → Option Value) (base : Heap) (T : Tb) (k : Nat) (f : Addr) (fd : FuncData) (ps : List Str) (y : List D → Option (List D)) : Prop :=
  ∀ (X : Cx), X.prog = P → X.w = w → X.K = T.K → X.mg = mg → X.base = base → X.calm = true → Room k X.A → X.A.guards = some [] → ∀ pins σ φ H S s us vs ds L, L2.Inv X pins σ H s → Rel T φ S H → RDs T H φ ds vs → Vals vs us →
    BindsTo s fd ⟨us, []⟩ (ps.zip us) → vs.length = ps.length → y ds = some L →
    codeAny (model X.prog X.w) X.A (.call (.ref f) ⟨us, []⟩) (fun r s' => ∃ a g go env fo c, r = .ok (.ret (.ref a)) ∧ GMd X T pins σ φ H L a g go env fo c s') s
theorem loc_of {Z : Cx} {pins : List (Addr × Obj)} {σ : L2.St} {H : Hp} {s : Shared} (hn : ∀ x, Z.env.cells.lookup x = none) (I : L2.Inv Z pins σ H s) : ∃ fo, s.heap.get? Z.env.locals = some fo ∧ LocO Z.env Z.N fo σ ∧ H Z.env.locals = none := by
  obtain ⟨m, ⟨o, es, ep, ho, hd, hk, hm⟩, hl⟩ := I.loc
  refine ⟨o, ho, ⟨I.len, es, ep, hd, hk, fun i x w e1 e2 e3 => ?_⟩, I.free⟩
  obtain ⟨u, r, l⟩ := hl i x w e1 e2 e3
  rcases l with l | ⟨_, c, e, _⟩
  · exact ⟨u, r, l.1, by rw [hm]; exact l.2⟩
  · rw [hn] at e; cases e
section
variable {P : Program} {w : World} {mg : Str → Option Value} {base : Heap} {x qual : Str} {params : Arguments} {body : List Stmt} {scope : Scope} {fd : FuncData} {T : Tb} {k : Nat}
theorem gen_ok {p : He.Defn} {N ps : List Str} {G : GR} (F : FunD T.K x qual params body scope [] [] (He.fAd T.K p) fd) (S : GScope N ps scope) (hcl : ∀ n, cellsFrom n scope.names [] = []) (hnk : ∀ y ∈ scope.names, y.2 ≠ .cell ∧ y.2 ≠ .free)
    (hb : ∀ (X : Cx), X.prog = P → X.w = w → X.K = T.K → X.mg = mg → X.base = base → X.calm = true → ∀ n, Room k (X.A.in1.deeper (envOfC qual scope n (He.fAd T.K p) (.ref (He.codeOf T.K p)))) → (X.A.in1.deeper (envOfC qual scope n (He.fAd T.K p) (.ref (He.codeOf T.K p)))).guards = some [] →
      ∀ pins a go, GPl X pins a go (envOfC qual scope n (He.fAd T.K p) (.ref (He.codeOf T.K p))) → GSsJ X T pins a go (envOfC qual scope n (He.fAd T.K p) (.ref (He.codeOf T.K p))) N body G) :
    GOk P w mg base T (k + 2) (He.fAd T.K p) fd ps (yOf N.length G) := by
  obtain ⟨oc, od, dV, kV, doc, pm, an, cdv, ct, osl, rfl, lk, hcd, _, _⟩ := F.ex
  obtain ⟨cc, rfl⟩ := He.codeIn_ref hcd
  have ec := He.codeOf_eq (p := p) lk rfl
  subst ec
  intro X e1 e2 e3 e4 e5 hc room quiet pins σ φ H S0 s us vs ds L I R rd rv bind many hy
  obtain ⟨τ', hG⟩ := yOf_spec hy
  have inK : T.K.In s.heap := by rw [← e3]; exact I.kIn
  have kinds : ∀ y ∈ ps.zip us, scope.names.lookup y.1 = some .local ∨ (scope.names.lookup y.1 = some .cell ∧ ((cellsFrom (s.heap.objs.size + 1) scope.names []).lookup y.1).isSome = true) := fun ⟨n, v⟩ hy =>
    (S.par n (List.of_mem_zip hy).1).imp id fun z => ⟨z, PySem.W.cellsFrom_some _ _ _ (.inl z)⟩
  refine codeAny_call_generator room.depth (inK _ _ lk) rfl S.co S.gen rfl (PySem.W.codeRec_of inK hcd) (bind _ _ _ _ ?_)
  refine wpAny_newFunctionEnv_cells S.kind kinds fun env he s1 started => ?_
  subst he
  have kp1 : ∀ b o, s.heap.get? b = some o → s1.heap.get? b = some o := started.toInCall.keep
  refine ⟨I.nolimit.keeps kp1, ?_⟩
  obtain ⟨h1, tk, es1, hk1⟩ := started.done
  have os1 : s1.os = s.os := by rw [es1]
  have gen1 : s1.gens = s.gens := by rw [es1]
  have lt1 : s.heap.objs.size < s1.heap.objs.size := started.toInCall.ns.lt
  have main : ∀ (go : Obj) (nm qn : Value) (tk2 : Nat), go.cls = .type "generator" → go.data = .fields #[.int s1.gens.size 0, nm, qn] → go.slots = #[] → (∀ h : Heap, (h.push go).get? h.objs.size = some go) →
      ∃ a g go' env fo c, Except.ok (Flow.ret (Value.ref s1.heap.objs.size)) = (Except.ok (Flow.ret (Value.ref a)) : Result) ∧ GMd X T pins σ φ H L a g go' env fo c { s1 with gens := s1.gens.push (.fresh (.func body (envOfC qual scope s.heap.objs.size (He.fAd T.K p) (.ref (He.codeOf T.K p))))), toks := tk2, heap := s1.heap.push go } := by
    intro go nm qn tk2 hgc hgd0 hgs hgp
    have I1 : L2.Inv (gcxOf X.prog X.w X.K X.mg X.base N qual scope (He.fAd T.K p) (.ref (He.codeOf T.K p)) X.A X.stack s H (fun _ _ _ => False) []) [] (L2.start N vs) H s1 := inv_startG S room.hd I.env0 many rv started
    have nocell : ∀ z, (envOfC qual scope s.heap.objs.size (He.fAd T.K p) (.ref (He.codeOf T.K p))).cells.lookup z = none := fun z => by
      show (cellsFrom (s.heap.objs.size + 1) scope.names []).lookup z = none
      rw [hcl]; rfl
    obtain ⟨fo, hfo, hloc, _⟩ := loc_of (Z := gcxOf X.prog X.w X.K X.mg X.base N qual scope (He.fAd T.K p) (.ref (He.codeOf T.K p)) X.A X.stack s H (fun _ _ _ => False) []) nocell I1
    have hfo' : s1.heap.get? s.heap.objs.size = some fo := hfo
    have kp2 : ∀ b o, s.heap.get? b = some o → (s1.heap.push go).get? b = some o := fun b o e => Heap.get?_push_of_some _ (kp1 b o e)
    have IX : L2.Inv X pins σ H { s1 with gens := s1.gens.push (.fresh (.func body (envOfC qual scope s.heap.objs.size (He.fAd T.K p) (.ref (He.codeOf T.K p))))), toks := tk2, heap := s1.heap.push go } :=
      I.call' (ch := []) os1 (Un.kept kp2) (I.hok.kept kp2) (AllBare.push (by rw [gen1]; exact I.bare) rfl) fun b z => by simp at z
    have pl : GPl X pins s1.heap.objs.size go (envOfC qual scope s.heap.objs.size (He.fAd T.K p) (.ref (He.codeOf T.K p))) := by
      refine ⟨S.kind, rfl, rfl, rfl, nocell, fun z => ?_, I.lt, Nat.ne_of_gt lt1, fun q hq => ?_, ⟨Nat.ne_of_gt (Nat.lt_trans I.lt lt1), I.nofs (Nat.le_of_lt lt1)⟩, fun v q => (by rw [hgd0] at q; cases q), fun z c e => ?_, room.hd⟩
      · have kk : ∀ kd, scope.names.lookup z = some kd → kd ≠ .cell ∧ kd ≠ .free := fun kd e => hnk _ (PySem.mem_of_lookup e)
        exact ⟨fun e => (kk _ e).1 rfl, fun e => (kk _ e).2 rfl⟩
      · exact Nat.ne_of_lt (Heap.lt_size (I.pin q hq).1)
      · obtain ⟨v, q⟩ := I.cell z c e
        exact q.lt
    refine ⟨_, s1.gens.size, go, _, fo, .func body (envOfC qual scope s.heap.objs.size (He.fAd T.K p) (.ref (He.codeOf T.K p))), rfl, IX, pl, hgp _, Heap.get?_push_of_some _ hfo', ?_, fun h e => ⟨go, nm, qn, e, hgc, hgd0, hgs⟩, I.fpOk (Nat.le_of_lt lt1) (I.hok.fresh (Nat.le_of_lt lt1)), I.fpOk (Nat.le_refl _) (I.hok.fresh (Nat.le_refl _)), hgc, ⟨_, hgd0⟩, ?_, ?_⟩
    · exact Array.getElem?_push_size ..
    · obtain ⟨_, es, ep, hd, _⟩ := hloc
      intro v q
      rw [hd] at q; cases q
    · intro σ' φ' H' S' s2 vd E hf
      refine sx_func ?_
      have run := (hb X e1 e2 e3 e4 e5 hc s.heap.objs.size (room.in1.deeper _) quiet pins _ go pl).run _ L τ' hG [] σ' φ' H' S' s2 vd s2 ⟨φ', H', L2.start N vs, gen_start pl vd hf hloc, .refl, vd.rel, ini_rsl (rd.ext E _ _)⟩
        (.func body (envOfC qual scope s.heap.objs.size (He.fAd T.K p) (.ref (He.codeOf T.K p)))) [] (fun f => .pure (.done (.ret (match f with | .ret v => v | _ => .none)))) (fun e => (leaving (envOfC qual scope s.heap.objs.size (He.fAd T.K p) (.ref (He.codeOf T.K p))) e).wrap (fun _ => .raise e) .raise id id) id id ⟨over_func, rfl, rfl, rfl⟩
        fun σ3 φ3 H3 S3 s3 v3 s4 ⟨φ4, H4, σg, I4, E4, R4, _⟩ => sx_end (.ok (.ret .none)) ⟨⟨_, rfl, .inl rfl⟩, φ4, H4, gen_back pl v3 I4, E4, R4⟩
      rw [List.append_nil] at run
      exact run
  exact main _ _ _ _ rfl rfl rfl fun h => Heap.get?_push_size _ rfl
/-- a generator def that may be called by its name -/
def GenD (P : Program) (w : World) (mg : Str → Option Value) (base : Heap) (T : Tb) (k n : Nat) (x : Str) (y : List D → Option (List D)) : Prop :=
  ∃ f fd ps, mg x = some (.ref f) ∧ PySem.W.keepIn T.K (.ref f) = true ∧ Binds T.K fd ps [] ∧ ps.length = n ∧ GOk P w mg base T k f fd ps y
theorem gen_of {p : He.Defn} {N ps : List Str} {G : GR} (F : FunD T.K x qual params body scope [] [] (He.fAd T.K p) fd) (S : GScope N ps scope) {y : Str} (hm : mg y = some (.ref (He.fAd T.K p)))
    (bnd : ∀ (kV doc pm : Value) (an : Option Addr) (cdv ct : Value) (us : List Value), us.length = ps.length → bindArgs (PySem.W.fnOf x qual params body scope .none kV doc pm an cdv ct) ⟨us, []⟩ = pure (ps.zip us))
    (hcl : ∀ n, cellsFrom n scope.names [] = []) (hnk : ∀ y ∈ scope.names, y.2 ≠ .cell ∧ y.2 ≠ .free)
    (hb : ∀ (X : Cx), X.prog = P → X.w = w → X.K = T.K → X.mg = mg → X.base = base → X.calm = true → ∀ n, Room k (X.A.in1.deeper (envOfC qual scope n (He.fAd T.K p) (.ref (He.codeOf T.K p)))) → (X.A.in1.deeper (envOfC qual scope n (He.fAd T.K p) (.ref (He.codeOf T.K p)))).guards = some [] →
      ∀ pins a go, GPl X pins a go (envOfC qual scope n (He.fAd T.K p) (.ref (He.codeOf T.K p))) → GSsJ X T pins a go (envOfC qual scope n (He.fAd T.K p) (.ref (He.codeOf T.K p))) N body G) :
    GenD P w mg base T (k + 2) ps.length y (yOf N.length G) :=
  ⟨_, fd, ps, hm, F.kp, F.bindsN bnd, rfl, gen_ok F S hcl hnk hb⟩
end

/-! ## for x in g(..) -/
/-- what leaves by an exception does not look at sleeping generators -/
def Calmly (X : Cx) : Prop := ∀ (B : Nat → Option GenState) e s s', Asl B s s' → X.xe e s → X.xe e s'
theorem cx_asl {P : Program} {w : World} {outer : List Env} {H : Hp} {s0 s s' : Shared} {E : XK} {B : Nat → Option GenState} {e : Value} (a : Asl B s s') (h : L2.CX P w outer H s0 E e s) : L2.CX P w outer H s0 E e s' := by
  obtain ⟨b, B0, H', cls, d, rfl, fl, k, ub, z3, z4, z5, z6⟩ := h
  exact ⟨b, B0, H', cls, d, rfl, by rw [a.heap]; exact fl, k, by rw [a.heap]; exact ub, z3, a.os.trans z4, a.bare.mp z5, z6⟩
theorem bX_calmly {P : Program} {w : World} {K : PySem.W.Frag} {mg : Str → Option Value} {base : Heap} {N : List Str} {qual : Str} {scope : Scope} {f : Addr} {cdv : Value} {A : Around} {outer : List Env} {s : Shared} {H : Hp} {E : XK} : Calmly (bX P w K mg base N qual scope f cdv A outer s H E) := fun B e s1 s2 a h =>
  wpAny_mono (wpAny_asl a h) (fun _ s3 ⟨s4, a4, q⟩ => cx_asl a4 q) fun _ s3 ⟨s4, a4, q⟩ => cx_asl a4 q
/-- the store is looked at ahead of each turn -/
def wkG (L : List D) : Nat → Sto → Option (Option D) := fun i S => if wfk S.length S = true then some L[i]? else none
def sForG (y : List D → Option (List D)) (n : Nat) (ra : AF) (g : TF) (fb : SF) : SF := fun τ S => match ra τ S with
  | none => none
  | some (.ex x S1) => some (.xx x τ, S1)
  | some (.ok ds S1) => if ds.length = n then (y ds).bind fun L => goF (wkG L) g fb (L.length + 1) 0 τ S1 else none
section
variable {X : Cx} {T : Tb} {W : WX} {pos pos' p : Pos} {e tg : Expr} {es : List Expr} {ra : AF} {body : List Stmt} {g : TF} {vs : List Nat} {fbd : SF} {k n : Nat} {x : Str} {y : List D → Option (List D)}
theorem s_forG (G : GenD X.prog X.w X.mg X.base T k n x y) (hK : T.K = X.K) (hr : Room k X.A) (quiet : X.A.guards = some []) (hx : Calmly X) (hp : PassesOwn (model X.prog X.w) X.A X.env X.xe) (hc : X.calm = true)
    (ha : PA X (e :: es) (rdA T W ra)) (hgt : PG X tg (rdG T vs g)) (hb : PSs X body (rdS T W fbd)) (hg : Gl X x := by rfl)
    (hdb : (x == ("__debug__" : Str)) = false := by decide) (he : starEach (e :: es) X.env = (false, eval e X.env) :: starEach es X.env := by rfl) (hpl : (backTo pos (starEach es X.env)).any (·.1) = false := by rfl)
    (hs : ∀ v, foldedSetIterable (.Call (.Name x p) (e :: es) [] pos) X.env v = pure v := by intro _; rfl) :
    PS X (.For tg (.Call (.Name x p) (e :: es) [] pos) body [] pos') (rdS T W (sForG y n ra g fbd)) := by
  obtain ⟨f, fd, ps, hm, hk, hbd, hn, hG⟩ := G
  refine ⟨fun pins s σ H De I h => ?_⟩
  obtain ⟨φ, S, τ, fl, S', R, r, eq, q⟩ := h
  have args : rdA T W ra σ H fun vs H1 => ∃ φ1 S1 ds L, Ext φ H φ1 H1 ∧ Rel T φ1 S1 H1 ∧ RDs T H1 φ1 ds vs ∧ ds.length = n ∧ y ds = some L ∧ goF (wkG L) g fbd (L.length + 1) 0 τ S1 = some (fl, S') ∧ EndS T φ1 H1 fl S' De W := by
    unfold sForG at eq
    cases e1 : ra τ S with
    | none => rw [e1] at eq; cases eq
    | some o =>
      rw [e1] at eq
      refine ⟨φ, S, τ, o, R, r, e1, ?_⟩
      cases o with
      | ex x S1 =>
        cases eq
        exact fun φ' H' d E1 R1 hx => q φ' H' σ d E1 R1 (r.ext E1) hx
      | ok ds S1 =>
        simp only at eq
        split at eq
        · rename_i hl
          simp only [Option.bind_eq_some_iff] at eq
          obtain ⟨L, e2, e3⟩ := eq
          exact fun φ' H' vs E1 R1 r1 => ⟨φ', S1, ds, L, E1, R1, r1, hl, e2, e3, q.mono E1⟩
        · cases eq
  refine wpAny_For ?_ hs
  refine wpAny_Call_Name_kw (ld_glob I hg hm ?_ hdb)
  rw [hK] at hk hbd
  refine PySem.W.callWith_K (h₀ := X.base) I.ok.mod.kin hk (thn (ha.run pos pins s σ H _ I args) fun us s1 ⟨vs1, H1, I1, rv, φ1, S1, ds, L, E1, R1, rd, hl, hy, hgo, hend⟩ => ⟨I1.kIn, ?_⟩) he hpl
  have hlv : vs1.length = ps.length := by rw [hn, ← hl, rd.length]
  have hlu : us.length = ps.length := by rw [← rv.length]; exact hlv
  have b := hbd s1 us I1.kIn (by rw [List.append_nil]; exact hlu)
  rw [List.append_nil] at b
  refine wpAny_call (codeAny_mono (hG X rfl rfl hK.symm rfl rfl hc hr quiet pins σ φ1 H1 S1 s1 us vs1 ds L I1 R1 rd rv b hlv hy) fun r2 s2 hq => ?_)
  obtain ⟨a, gn, go, env, fo0, c0, rfl, M⟩ := hq
  refine wpAny_pyIter_gen (M.isgen _ M.ga) ?_
  have room : X.A.depth < recursionLimit := hr.depth
  -- the consumer's pins and the generator's two objects
  have pinsOk : ∀ {σ' : L2.St} {H' : Hp} {s' : Shared} {fo : Obj}, L2.Inv X pins σ' H' s' → H' a = none → H' env.locals = none → s'.heap.get? a = some go → s'.heap.get? env.locals = some fo → (∀ v, fo.data ≠ .cell v) → L2.Inv X (pins ++ [(a, go), (env.locals, fo)]) σ' H' s' := fun {σ' H' s' fo} I' n1 n2 g1 g2 g3 => by
    refine I'.pins_of fun p hp => ?_
    rcases List.mem_append.mp hp with hp | hp
    · exact I'.pin p (List.mem_append_right _ hp)
    · rcases List.mem_cons.mp hp with e | hp
      · rw [e]; exact ⟨g1, n1, M.fpa.2.1, M.fpa.2.2.1, M.pl.god⟩
      · rw [List.mem_singleton.mp hp]; exact ⟨g2, n2, M.fpe.2.1, M.fpe.2.2.1, g3⟩
  refine codeAny_forLoop_any (fun m s' => ∃ i σ' H' φ' S2 τ' gs fo, L2.Inv X pins σ' H' s' ∧ Rel T φ' S2 H' ∧ RSl T H' φ' τ' σ' ∧ goF (wkG L) g fbd m i τ' S2 = some (fl, S') ∧ EndS T φ' H' fl S' De W ∧
      s'.gens[gn]? = some gs ∧ s'.heap.get? a = some go ∧ s'.heap.get? env.locals = some fo ∧ H' a = none ∧ H' env.locals = none ∧
      ∀ σ3 φ3 H3 S3 s3, Vd X T pins a go env σ3 φ3 H3 S3 s3 → Ext φ' H' φ3 H3 → s3.heap.get? env.locals = some fo → GoesX (model X.prog X.w) X.A.in1 gs (FinG X T pins a go env (L.drop i) σ3 φ3 H3 S3) s3) ?_ (L.length + 1)
    ⟨0, σ, H1, φ1, S1, τ, _, fo0, M.inv, R1, r.ext E1, hgo, hend, M.gen, M.ga, M.hf, M.fpa.1, M.fpe.1, by rw [List.drop_zero]; exact M.goes⟩
  rintro m s3 ⟨i, σ3, H3, φ3, S3, τ3, gs, fo, I3, R3, r3, e3, q3, hgs, ga3, gf3, na3, nf3, goes⟩
  cases m with
  | zero => cases e3
  | succ m =>
  unfold goF at e3
  have hwf : wfk S3.length S3 = true := by
    unfold wkG at e3
    by_cases q : wfk S3.length S3 = true
    · exact q
    · rw [if_neg q] at e3; cases e3
  have hn3 : wkG L i S3 = some L[i]? := by unfold wkG; rw [if_pos hwf]
  rw [hn3] at e3
  have hlt : gn < s3.gens.size := (Array.getElem?_eq_some_iff.mp hgs).1
  have sh : Sh s3 (s3.setGen gn .running) := ⟨rfl, rfl, allBare_setGen I3.bare rfl⟩
  have vd : Vd X T pins a go env σ3 φ3 H3 S3 (s3.setGen gn .running) := ⟨sh.inv I3, R3, ga3, na3, nf3, hwf⟩
  have hgo3 := goes σ3 φ3 H3 S3 _ vd .refl gf3
  cases hd : L[i]? with
  | none =>
    rw [hd] at e3
    cases e3
    have hdr : L.drop i = [] := List.drop_eq_nil_iff.mpr (List.getElem?_eq_none_iff.mp hd)
    rw [hdr] at hgo3
    refine wpAny_passesOwn hp (next_genX (E := X.xe) (I3.ok.hd hc) I3.nolimit room (M.isgen _ ga3) hgs hgo3 fun en s4 hen => ?_)
    obtain ⟨⟨rr, rfl, hrr⟩, φ4, H4, I4, E4, R4⟩ := hen
    refine ⟨rfl, hrr, fun h' hk' => ?_⟩
    refine wpAny_execs_nil ⟨σ3, H4, ?_, q3 φ4 H4 σ3 E4 R4 (r3.ext E4)⟩
    have I5 := I4.kept (h' := h') (t' := s4.toks) hk'
    exact Sh.inv I5 ⟨rfl, rfl, allBare_setGen (s := s4) I4.bare rfl⟩
  | some d =>
    rw [hd] at e3
    have hil : i < L.length := (List.getElem?_eq_some_iff.mp hd).1
    have hdr : L.drop i = d :: L.drop (i + 1) := by
      rw [List.drop_eq_getElem_cons hil]
      have : L[i] = d := (List.getElem?_eq_some_iff.mp hd).2
      rw [this]
    rw [hdr] at hgo3
    refine wpAny_passesOwn hp (wpAny_gsz (n := gn + 1) hlt (next_genX (E := fun e s => gn + 1 ≤ s.gens.size → X.xe e s) (I3.ok.hd hc) I3.nolimit room (M.isgen _ ga3) hgs hgo3 fun en s4 hen => ?_))
    obtain ⟨hq, v, g0, l0, k0, c1, p1, fs1, rfl, φ4, H4, xv, fo4, I4, E4, R4, rv4, rd4, ga4, na4, gf4, nf4, fcell, goes4⟩ := hen
    refine ⟨hq, fun hsz => ?_⟩
    rw [setGen_size] at hsz
    generalize hgs4 : (End.susp v g0 l0 k0 c1 p1 fs1).genState = gs4 at goes4 hsz ⊢
    have hslp : slp gs4 = true := by rw [← hgs4]; rfl
    have hbare : gs4.bare = true := by rw [← hgs4]; exact End.bare_of_quiet hq
    have I5 : L2.Inv X pins σ3 H4 (s4.setGen gn gs4) := Sh.inv I4 ⟨rfl, rfl, allBare_setGen I4.bare hbare⟩
    have hg5 : (s4.setGen gn gs4).gens[gn]? = some gs4 := setGen_at hsz
    simp only at e3
    cases hg1 : g d S3 τ3 with
    | none => rw [hg1] at e3; cases e3
    | some τ4 =>
    rw [hg1] at e3
    simp only at e3
    obtain ⟨gvs, hgda⟩ := M.gda
    refine wpAny_passesOwn hp (go_of (o := go) (n := "generator") (vs := gvs) ga4 M.gcl hgda (by decide) ?_)
    have I5p := pinsOk I5 na4 nf4 ga4 gf4 fcell
    -- the target
    let NX : Hp → L2.St → Hp → Prop := fun H6 σ' H' => ∃ φ7 S7 τ7, Ext φ4 H6 φ7 H' ∧ Rel T φ7 S7 H' ∧ RSl T H' φ7 τ7 σ' ∧ goF (wkG L) g fbd m (i + 1) τ7 S7 = some (fl, S') ∧ EndS T φ7 H' fl S' De W
    have asg := hgt.run _ (lulled (s4.setGen gn gs4)) σ3 H4 xv v (fun σ' H' => H' = H4 ∧ RSl T H4 φ4 τ4 σ') ((asl_of _).inv' I5p) rv4 ⟨φ4, S3, τ3, d, τ4, R4, r3.ext E4, rd4, hg1, fun σ' r' _ _ => ⟨rfl, r'⟩⟩
    refine wpAny_passesOwn hp (wpAny_mono (wpAny_asl (asl_of _) asg) (fun _ s6 h6 => ?_) fun e6 s6 ⟨s7, a7, hx7⟩ => hx _ _ _ _ a7 hx7)
    obtain ⟨s7, a7, σ6, H6, I6, rfl, r6⟩ := h6
    have I6' := a7.inv I6
    have hg6 := a7.kept hg5 hslp
    cases hb1 : fbd τ4 S3 with
    | none => rw [hb1] at e3; cases e3
    | some pr =>
    obtain ⟨fl1, S4⟩ := pr
    rw [hb1] at e3
    have bod := hb.run _ (lulled s6) σ6 H6 ⟨NX H6, De.rt, De.nx, NX H6⟩ ((asl_of _).inv' I6')
      ⟨φ4, S3, τ4, fl1, S4, R4, r6, hb1, by
        cases fl1 with
        | nx τ8 => exact fun φ' H'' σ'' E8 R8 r8 => ⟨φ', S4, τ8, E8, R8, r8, e3, (q3.mono E4).mono E8⟩
        | ct τ8 => exact fun φ' H'' σ'' E8 R8 r8 => ⟨φ', S4, τ8, E8, R8, r8, e3, (q3.mono E4).mono E8⟩
        | bk τ8 => cases e3; exact fun φ' H'' σ'' E8 R8 r8 => (q3.mono E4) φ' H'' σ'' E8 R8 r8
        | rt d8 => cases e3; exact fun φ' H'' v E8 R8 r8 => (q3.mono E4) φ' H'' v E8 R8 r8
        | xx x8 τ8 => cases e3; exact fun φ' H'' σ'' d8 E8 R8 r8 hx => (q3.mono E4) φ' H'' σ'' d8 E8 R8 r8 hx⟩
    refine wpAny_passesOwn hp (wpAny_mono (wpAny_asl (asl_of s6) bod) (fun f s8 h8 => ?_) fun e8 s8 ⟨s9, a9, hx9⟩ => hx _ _ _ _ a9 hx9)
    obtain ⟨s9, a9, h9⟩ := h8
    have hg8 := a9.kept hg6 hslp
    have again : ∀ {σ8 : L2.St} {H8 : Hp}, L2.Inv X (pins ++ [(a, go), (env.locals, fo4)]) σ8 H8 s9 → (∃ φ7 S7 τ7, Ext φ4 H6 φ7 H8 ∧ Rel T φ7 S7 H8 ∧ RSl T H8 φ7 τ7 σ8 ∧ goF (wkG L) g fbd m (i + 1) τ7 S7 = some (fl, S') ∧ EndS T φ7 H8 fl S' De W) →
        ∃ m', m' < m + 1 ∧ ∃ i σ' H' φ' S2 τ' gs fo, L2.Inv X pins σ' H' s8 ∧ Rel T φ' S2 H' ∧ RSl T H' φ' τ' σ' ∧ goF (wkG L) g fbd m' i τ' S2 = some (fl, S') ∧ EndS T φ' H' fl S' De W ∧
          s8.gens[gn]? = some gs ∧ s8.heap.get? a = some go ∧ s8.heap.get? env.locals = some fo ∧ H' a = none ∧ H' env.locals = none ∧
          ∀ σ3 φ3 H3 S3 s3, Vd X T pins a go env σ3 φ3 H3 S3 s3 → Ext φ' H' φ3 H3 → s3.heap.get? env.locals = some fo → GoesX (model X.prog X.w) X.A.in1 gs (FinG X T pins a go env (L.drop i) σ3 φ3 H3 S3) s3 := fun {σ8 H8} I8 ⟨φ7, S7, τ7, E7, R7, r7, e7, q7⟩ => by
      have I8' := a9.inv I8
      have p1 := I8'.pin (a, go) (List.mem_append_right _ (List.mem_append_right _ (by simp)))
      have p2 := I8'.pin (env.locals, fo4) (List.mem_append_right _ (List.mem_append_right _ (by simp)))
      exact ⟨m, Nat.lt_succ_self m, i + 1, σ8, H8, φ7, S7, τ7, gs4, fo4, I8'.unpinned, R7, r7, e7, q7, hg8, p1.1, p2.1, p1.2.1, p2.2.1, fun σ' φ' H' S' s' vd' E' hf' => goes4 σ' φ' H' S' s' vd' (E7.trans E') hf'⟩
    cases f with
    | next => obtain ⟨σ8, H8, I8, n8⟩ := h9; exact again I8 n8
    | cont => obtain ⟨σ8, H8, I8, n8⟩ := h9; exact again I8 n8
    | brk => obtain ⟨σ8, H8, I8, n8⟩ := h9; exact ⟨σ8, H8, (a9.inv I8).unpinned, n8⟩
    | ret u => obtain ⟨x8, σ8, H8, I8, r8, n8⟩ := h9; exact ⟨x8, σ8, H8, (a9.inv I8).unpinned, r8, n8⟩
end
end Sb
end
section
set_option Elab.async false
set_option linter.all false
set_option maxRecDepth 100000
set_option maxHeartbeats 4000000
namespace Sb
open PySem PySem.Spec PyProof.Rows L2
section
variable {X : Cx} {T : Tb}
/-! ## list * n -/
end
end Sb
end
section
set_option Elab.async false
set_option linter.all false
set_option maxRecDepth 100000
set_option maxHeartbeats 4000000
namespace Sb
open PySem PySem.Spec PyProof.Rows L2
section
variable {X : Cx} {T : Tb}
end
end Sb
end
section
set_option Elab.async false
set_option linter.all false
set_option maxRecDepth 100000
namespace Sb
open PySem PySem.Spec PyProof.Rows L2
noncomputable section
def m_when_round : SF := sSeq (sSet 3 (fz (eLc (iEnX (aCons (eVar 0) (aNil))) (tN2 4 5) (tB (eB (gEq false) (eVar 5) (eVar 1))) (eVar 4) [4, 5]))) (sSeq (sAs (tN2 6 7) (eCB gDivmod (aCons (eVar 2) (aCons (eCB gLenX (aCons (eVar 3) (aNil))) (aNil))))) (sRt (eB gAdd (eB gMul (eVar 6) (eCB gLenX (aCons (eVar 0) (aNil)))) (eB gIx (eVar 3) (eVar 7)))))
abbrev M_when_round : List D → M D := fnM 8 (m_when_round)
def m_step_shown : SF := sSeq (sFor (iRev (eSl (eVar 0) (oNo) (oSo (eVar 1)))) (tN 3) (sSet 2 (eCl (M_when_round) 3 (aCons (eVar 3) (aCons (eC .non) (aCons (eVar 2) (aNil))))))) (sRt (eVar 2))
abbrev M_step_shown : List D → M D := fnM 4 (m_step_shown)
def m_filled : SF := sSeq (sSet 2 (eLst (aNil))) (sSeq (sSet 3 (eC (.int 0))) (sSeq (sFor (iSeq (eVar 0)) (tN 4) (sIf (tB (eB (gIsN false) (eVar 4) (eC .non))) (sSeq (sEx (eBM "list" gAppend (eVar 2) (aCons (eB gIx (eVar 1) (eVar 3)) (aNil)))) (sSet 3 (eB gAddI (eVar 3) (eC (.int 1))))) (sEx (eBM "list" gAppend (eVar 2) (aCons (eVar 4) (aNil)))))) (sRt (eVar 2))))
abbrev M_filled : List D → M D := fnM 5 (m_filled)
def m_turned : SF := sSeq (sSet 3 (eLst (aNil))) (sSeq (sSet 4 (eVar 2)) (sSeq (sFor (iSeq (eVar 1)) (tN 5) (sSeq (sSet 6 (eB gMod (eVar 4) (eCB gLenX (aCons (eVar 5) (aNil))))) (sSeq (sEx (eBM "list" gAppend (eVar 3) (aCons (eB gAdd (eSl (eVar 5) (oSo (eVar 6)) (oNo)) (eSl (eVar 5) (oNo) (oSo (eVar 6)))) (aNil)))) (sSet 4 (eCl (M_often_round) 3 (aCons (eVar 5) (aCons (eC .non) (aCons (eVar 4) (aNil))))))))) (sSeq (sSet 7 (eDc (iSeq (eVar 0)) (tN 8) (tAll) (eB gIx (eVar 8) (eC (.int 0))) (eVar 8) [8])) (sSeq (sSet 9 (eLst (aNil))) (sSeq (sSet 10 (fz (eLst (aNil)))) (sSeq (sFor (iRev (eVar 3)) (tN 5) (sSeq (sSet 11 (fz (eCl (M_filled) 2 (aCons (eVar 5) (aCons (eVar 10) (aNil)))))) (sSeq (sEx (eBM "list" gAppend (eVar 9) (aCons (eB gGet (eVar 7) (eB gIx (eVar 11) (eNeg (eC (.int 1))))) (aNil)))) (sSet 10 (eSl (eVar 11) (oNo) (oSo (eNeg (eC (.int 1))))))))) (sRt (eB gAdd (eCB gTuple (aCons (fz (eRevL (eVar 9))) (aNil))) (eSl (eVar 0) (oSo (eCB gLenX (aCons (eVar 1) (aNil)))) (oNo))))))))))
abbrev M_turned : List D → M D := fnM 12 (m_turned)
def G_stretches : GR := gSq (gPl (sSet 1 (eVar 0))) (gSq (gPl (sSet 2 (eCl (M_away_places) 1 (aCons (eVar 1) (aNil))))) (gSq (gWh (tTr (eVar 2)) (gSq (gPl (sSet 3 (fz (eCl (M_rows_of) 2 (aCons (eVar 1) (aCons (eB gIx (eVar 2) (eC (.int 0))) (aNil))))))) (gSq (gPl (sSet 4 (eB gAdd (eCl (M_step_shown) 3 (aCons (eVar 3) (aCons (eB gIx (eVar 2) (eC (.int 0))) (aCons (eC (.int 0)) (aNil))))) (eC (.int 1))))) (gSq (gYd (eTup (aCons (eVar 1) (aCons (eVar 3) (aCons (eVar 4) (aNil)))))) (gSq (gPl (sSet 1 (eCl (M_step_of) 1 (aCons (fz (eCl (M_turned) 3 (aCons (eVar 1) (aCons (eVar 3) (aCons (eB gSub (eVar 4) (eC (.int 1))) (aNil)))))) (aNil))))) (gSq (gPl (sSet 2 (eCl (M_away_places) 1 (aCons (eVar 1) (aNil))))) (gNl))))))) (gSq (gYd (eTup (aCons (eVar 1) (aCons (fz (eCl (M_rows_of) 2 (aCons (eVar 1) (aCons (eB gSub (eCl (M_closed_of) 1 (aCons (eVar 1) (aNil))) (eC (.int 1))) (aNil))))) (aCons (eC .non) (aNil)))))) (gNl))))
noncomputable abbrev Y_stretches : List D → Option (List D) := yOf 5 G_stretches
theorem det_stretches : GDet G_stretches := det_sq (det_pl) (det_sq (det_pl) (det_sq (det_wh (det_sq (det_pl) (det_sq (det_pl) (det_sq (det_yd) (det_sq (det_pl) (det_sq (det_pl) (det_nl))))))) (det_sq (det_yd) (det_nl))))
def m_stretches_gone : SF := sSeq (sSet 2 (eLst (aNil))) (sSeq (sSet 3 (eVar 1)) (sSeq (sForG Y_stretches 1 (aCons (eVar 0) (aNil)) (tN3 4 5 6) (sSeq (sIf (tOr' (tB (eB (gIsN false) (eVar 6) (eC .non))) (tB (eB gLtI (eVar 3) (eVar 6)))) (sSeq (sEx (eBM "list" gAppend (eVar 2) (aCons (eTup (aCons (eVar 4) (aCons (eVar 5) (aCons (eVar 3) (aNil))))) (aNil)))) (sBrk)) (sNop)) (sSeq (sEx (eBM "list" gAppend (eVar 2) (aCons (eTup (aCons (eVar 4) (aCons (eVar 5) (aCons (eVar 6) (aNil))))) (aNil)))) (sSet 3 (eB gSub (eVar 3) (eVar 6)))))) (sRt (eVar 2))))
abbrev M_stretches_gone : List D → M D := fnM 7 (m_stretches_gone)
def m_deck_after : SF := sSeq (sAs (tN3 2 3 4) (eB gIx (fz (eCl (M_stretches_gone) 2 (aCons (eVar 0) (aCons (eVar 1) (aNil))))) (eNeg (eC (.int 1))))) (sRt (fz (eCl (M_turned) 3 (aCons (eVar 2) (aCons (eVar 3) (aCons (eVar 4) (aNil)))))))
abbrev M_deck_after : List D → M D := fnM 5 (m_deck_after)
end
end Sb
end
section
set_option Elab.async false
set_option linter.all false
set_option maxRecDepth 100000
set_option maxHeartbeats 4000000
namespace Sb
open PySem PySem.Spec PyProof.Rows L2
variable {K : PySem.W.Frag} {S : Sto}
/-! ## reaches, the closed place -/
def rch (n : Nat) (c : Card) : Nat := min c.2.toNat (n - 1)
theorem reach_n {c : Card} {n : Nat} (h : 0 ≤ c.2) (hn : 1 ≤ n) : M_reach_of [dC c, .int (n : Nat)] S = some (.ok (.int (rch n c : Nat)) S) := by
  rw [reach_ok]
  have : (if ((n : Nat) : Int) - 1 < c.2 then ((n : Nat) : Int) - 1 else c.2) = ((rch n c : Nat) : Int) := by
    unfold rch; split <;> omega
  rw [this]
abbrev at0 (l : List Card) (i : Nat) : Card := l.getD i ("", 0)
/-- the reach of the card at a place -/
def ra (l : List Card) (i : Nat) : Nat := rch l.length (at0 l i)
theorem at0_get {l : List Card} {i : Nat} (h : i < l.length) : l[i]? = some (at0 l i) := by
  unfold at0; rw [List.getD_eq_getElem?_getD, List.getElem?_eq_getElem h]; rfl
theorem at0_eq {l : List Card} {i : Nat} (h : i < l.length) : at0 l i = l[i] := by
  unfold at0; rw [List.getD_eq_getElem?_getD, List.getElem?_eq_getElem h]; rfl
theorem at0_mem {l : List Card} {i : Nat} (h : i < l.length) : at0 l i ∈ l := by rw [at0_eq h]; exact List.getElem_mem h
theorem ra_lt {l : List Card} (h : 1 ≤ l.length) (i : Nat) : ra l i < l.length := by unfold ra rch; omega
def clf (r : Nat → Nat) : Nat → Nat → Nat → Nat
  | 0, p, _ => p
  | k + 1, p, f => if f < p then p else clf r k (p + 1) (max f (r p))
def clo (l : List Card) : Nat := clf (ra l) l.length 0 0
structure IsClo (r : Nat → Nat) (n c : Nat) : Prop where
  lo : 1 ≤ c
  hi : c ≤ n
  all : ∀ i, i < c → r i < c
  no : ∀ m, 1 ≤ m → m < c → ∃ i, i < m ∧ m ≤ r i
theorem IsClo.uniq {r : Nat → Nat} {n c d : Nat} (h : IsClo r n c) (k : IsClo r n d) : c = d := by
  rcases Nat.lt_trichotomy c d with q | q | q
  · obtain ⟨i, h1, h2⟩ := k.no c h.lo q
    have := h.all i h1; omega
  · exact q
  · obtain ⟨i, h1, h2⟩ := h.no d k.lo q
    have := k.all i h1; omega
theorem clf_is {r : Nat → Nat} {n : Nat} (hn : 1 ≤ n) (hr : ∀ i, r i < n) : ∀ (k p f : Nat), p + k = n → (∀ i, i < p → r i ≤ f) → (f = 0 ∨ ∃ i, i < p ∧ r i = f) → (∀ m, 1 ≤ m → m < p → ∃ i, i < m ∧ m ≤ r i) → IsClo r n (clf r k p f)
  | 0, p, f, e, _, _, h3 => by
    have : p = n := by omega
    subst this
    exact ⟨hn, Nat.le_refl _, fun i _ => hr i, h3⟩
  | k + 1, p, f, e, h1, h2, h3 => by
    unfold clf
    split
    · rename_i q
      exact ⟨by omega, by omega, fun i hi => Nat.lt_of_le_of_lt (h1 i hi) q, h3⟩
    · rename_i q
      refine clf_is hn hr k (p + 1) (max f (r p)) (by omega) (fun i hi => ?_) ?_ fun m m1 m2 => ?_
      · by_cases z : i = p
        · subst z; omega
        · have := h1 i (by omega); omega
      · by_cases z : f ≤ r p
        · exact .inr ⟨p, by omega, by omega⟩
        · rcases h2 with h2 | ⟨i, h4, h5⟩
          · omega
          · exact .inr ⟨i, by omega, by omega⟩
      · by_cases z : m = p
        · subst z
          rcases h2 with h2 | ⟨i, h4, h5⟩
          · omega
          · exact ⟨i, h4, by omega⟩
        · exact h3 m m1 (by omega)
theorem clo_is {l : List Card} (h : 1 ≤ l.length) : IsClo (ra l) l.length (clo l) := clf_is h (ra_lt h) _ _ _ (by omega) (fun i hi => absurd hi (Nat.not_lt_zero _)) (.inl rfl) fun m h1 h2 => by omega
theorem gMax_2 {i j : Nat} : gMax [.int (i : Nat), .int (j : Nat)] S = some (.int (max i j : Nat), S) := by
  simp only [gMax, gMax2]
  congr 3
  split <;> omega
theorem closed_ok {l : List Card} (ok : DeckOk l) : M_closed_of [dK l] S = some (.ok (.int (clo l : Nat)) S) := by
  have h1 := ok.lo
  have L := goF_ret (nxt := (wkE (l.map dC)).nxt) (g := tN2 2 3) (n := l.length)
    (fb := (sSeq (sIf (tB (eB gLtI (eVar 1) (eVar 2))) (sRt (eVar 2)) (sNop)) (sSet 1 (eCB gMax (aCons (eVar 1) (aCons (eCl (M_reach_of) 2 (aCons (eVar 3) (aCons (eCB gLenX (aCons (eVar 0) (aNil))) (aNil)))) (aNil)))))))
    (fun i τ S' => S' = S ∧ ∃ (f : Nat) (x2 x3 : Option D), τ = [some (dK l), some (.int (f : Nat)), x2, x3] ∧ clf (ra l) (l.length - i) i f = clo l) (fun d S' => S' = S ∧ d = .int (clo l : Nat)) (fun i => .tup [.int (i : Nat), dC (at0 l i)])
    (fun i τ S' hi ⟨e, f, x2, x3, e2, e3⟩ => by
      subst e e2
      refine ⟨by simp only [wkE, List.getElem?_map, at0_get hi, Option.map_some], [some (dK l), some (.int (f : Nat)), some (.int (i : Nat)), some (dC (at0 l i))], by simp [tN2, seqD], ?_⟩
      rw [show l.length - i = (l.length - (i + 1)) + 1 by omega] at e3
      unfold clf at e3
      by_cases q : f < i
      · rw [if_pos q] at e3
        have q' : (f : Int) < (i : Int) := by omega
        refine .inr ⟨_, _, sSeq_rt ((sIf_t (tB_ok (b := true) (eB_ok rfl rfl (by simp [gLtI, gI, q'])))).trans (sRt_ok rfl)), rfl, by rw [e3]⟩
      · rw [if_neg q] at e3
        have q' : ¬ (f : Int) < (i : Int) := by omega
        have hr := reach_n (S := S') (c := at0 l i) (n := l.length) (ok.dep _ (at0_mem hi)) h1
        refine .inl ⟨_, _, (sSeq_nx (sIf_f (tB_ok (b := false) (eB_ok rfl rfl (by simp [gLtI, gI, q']))))).trans (sSet_ok (eCB_ok (a2_ok rfl (eCl_ok (a2_ok rfl (eCB_ok (a1_ok rfl) len_deck)) rfl hr)) gMax_2)), rfl, max f (ra l i), _, _, rfl, e3⟩)
    (fun τ S' _ => by simp [wkE]) (l.length + 1) 0 [some (dK l), some (.int 0), none, none] S (Nat.zero_le _) (by omega) ⟨rfl, 0, none, none, rfl, rfl⟩
  have eW : iEn (aCons (eVar 0) aNil) [some (dK l), some (.int 0), none, none] S = some (.ok (wkE (l.map dC)) S) := rfl
  have eb : (wkE (l.map dC)).bound = l.length := by simp [wkE]
  refine fnM_rt ?_
  refine (sSeq_nx (sSet_ok rfl)).trans ?_
  rcases L with ⟨τ', S', e1, rfl, f, x2, x3, rfl, e3⟩ | ⟨d, S', e1, rfl, rfl⟩
  · rw [Nat.sub_self] at e3
    have e3 : l.length = clo l := e3
    refine (sSeq_nx (sFor_ok eW (by rw [eb]; exact e1))).trans ?_
    rw [← e3]
    exact sRt_ok (eCB_ok (a1_ok rfl) len_deck)
  · exact sSeq_rt (sFor_ok eW (by rw [eb]; exact e1))

theorem deck_fz {d : D} {l : List Card} {a : AF} {τ : Sl} (w : Wf S) (h : isDeck S d l) (ok : DeckOk l) (ha : a τ S = some (.ok [d] S)) : fz (eCl (M_deck_of K) 1 a) τ S = some (.ok (dK l) S) := by
  obtain ⟨X, e⟩ := deck_of_ok (K := K) h ok
  exact fz_app w (eCl_ok ha rfl e) bd_dK
theorem gLt_i {i j : Int} : gLtI (.int i) (.int j) S = some (.bl (decide (i < j)), S) := by simp [gLtI, gI]
theorem gLe_i {i j : Int} : gLe (.int i) (.int j) S = some (.bl (decide (i ≤ j)), S) := by simp [gLe]
theorem gGt_i {i j : Int} : gGtI (.int i) (.int j) S = some (.bl (decide (j < i)), S) := by simp [gGtI, gI]
theorem gGe_i {i j : Int} : gGeI (.int i) (.int j) S = some (.bl (decide (j ≤ i)), S) := by simp [gGeI, gI]
theorem gEq_nat {neg : Bool} {i j : Nat} : gEq neg (.int (i : Nat)) (.int (j : Nat)) S = some (.bl (if neg then !decide (i = j) else decide (i = j)), S) := by
  rw [gEq_int]
  have : decide (((i : Nat) : Int) = ((j : Nat) : Int)) = decide (i = j) := by
    by_cases h : i = j
    · subst h; simp
    · rw [decide_eq_false h, decide_eq_false (by omega)]
  rw [this]
theorem dec_le {i j : Nat} : decide (((i : Nat) : Int) ≤ ((j : Nat) : Int)) = decide (i ≤ j) := by
  by_cases h : i ≤ j
  · rw [decide_eq_true h, decide_eq_true (by omega)]
  · rw [decide_eq_false h, decide_eq_false (by omega)]
theorem dec_lt {i j : Nat} : decide (((i : Nat) : Int) < ((j : Nat) : Int)) = decide (i < j) := by
  by_cases h : i < j
  · rw [decide_eq_true h, decide_eq_true (by omega)]
  · rw [decide_eq_false h, decide_eq_false (by omega)]
theorem filter_tt {α : Type} (l : List α) : l.filter (fun _ => true) = l := by induction l <;> simp_all
/-! ## hands, rings -/
def hand (l : List Card) (m : Nat) : List Card := (l.take m).filter fun c => decide (m ≤ rch l.length c)
def ring (l : List Card) (m : Nat) : List Card := hand l m ++ [at0 l m]
abbrev nms (l : List Card) : List Str := l.map (·.1)
theorem hand_len (l : List Card) (m : Nat) : (hand l m).length ≤ l.length := Nat.le_trans (List.length_filter_le _ _) (by rw [List.length_take]; omega)
theorem hand_mem {l : List Card} {m : Nat} {c : Card} (h : c ∈ hand l m) : c ∈ l := List.mem_of_mem_take (List.mem_filter.mp h).1
theorem ring_mem {l : List Card} {m : Nat} {c : Card} (hm : m < l.length) (h : c ∈ ring l m) : c ∈ l := by
  rcases List.mem_append.mp h with q | q
  · exact hand_mem q
  · simp at q; subst q; exact at0_mem hm
theorem nms_map {m : List Card} : (m.map fun c => D.str c.1) = (nms m).map D.str := by rw [List.map_map]; rfl
theorem names_of_ok {m : List Card} (w : Wf S) (hl : m.length ≤ 1000) : M_names_of [.fl (m.map dC)] S = some (.ok (.fl ((nms m).map D.str)) S) := by
  refine fnM_rt (sRt_ok ?_)
  have e := lc_pu (fi := iSeq (eVar 0)) (g := tN 1) (t := tAll) (fe := eB gIx (eVar 1) (eC (.int 0))) (vs := [1]) (τ := [some (.fl (m.map dC)), none]) (S := S) (ds := m.map dC) (fun _ => true) (fun d => match d with | .tup (x :: _) => x | _ => .non) w (iSeq_ok rfl wk_fl) wks_ds (by simp; omega)
    (fun d hd _ => by obtain ⟨c, _, rfl⟩ := List.mem_map.mp hd; rfl)
    (fun d hd S' _ _ => by obtain ⟨c, _, rfl⟩ := List.mem_map.mp hd; exact ⟨_, rfl, rfl, fun _ => eB_ok rfl rfl ix_name⟩)
  rw [filter_tt, List.map_map] at e
  rw [← nms_map]
  exact e
theorem cut_deck {l : List Card} {m : Nat} : gSl (dK l) none (some (m : Nat)) S = some (dK (l.take m), S) := by
  rw [gSl]; rw [cut_to]
theorem hand_ok {l : List Card} {m : Nat} (w : Wf S) (ok : DeckOk l) : M_hand_of [dK l, .int (m : Nat)] S = some (.ok (.fl ((hand l m).map dC)) S) := by
  refine fnM_rt (sRt_ok ?_)
  have h1 := ok.lo
  have h2 := ok.hi
  have e := lc_pu (fi := iSeq (eSl (eVar 0) (oNo) (oSo (eVar 1)))) (g := tN 2) (t := tB (eB gGeI (eCl (M_reach_of) 2 (aCons (eVar 2) (aCons (eCB gLenX (aCons (eVar 0) (aNil))) (aNil)))) (eVar 1))) (fe := eVar 2) (vs := [2]) (τ := [some (dK l), some (.int (m : Nat)), none]) (S := S) (ds := (l.take m).map dC)
    (fun d => match d with | .tup [.str x, .int i] => decide (m ≤ rch l.length (x, i)) | _ => false) id w (iSeq_ok (eSl_ok rfl rfl (oSo_ok rfl) cut_deck) wk_tup) wks_ds (by simp; omega)
    (fun d hd _ => by obtain ⟨c, _, rfl⟩ := List.mem_map.mp hd; rfl)
    (fun d hd S' _ _ => by
      obtain ⟨c, hc, rfl⟩ := List.mem_map.mp hd
      have hr := reach_n (S := S') (c := c) (n := l.length) (ok.dep _ (List.mem_of_mem_take hc)) h1
      refine ⟨_, rfl, tB_ok (eB_ok (eCl_ok (a2_ok rfl (eCB_ok (a1_ok rfl) len_deck)) rfl hr) rfl ?_), fun _ => rfl⟩
      rw [gGe_i]
      rw [dec_le])
  rw [List.filter_map, List.map_id] at e
  exact e
theorem ring_ok {l : List Card} {m : Nat} (w : Wf S) (ok : DeckOk l) (hm : m < l.length) : M_ring_of [dK l, .int (m : Nat)] S = some (.ok (.fl ((ring l m).map dC)) S) := by
  have h2 := ok.hi
  have hl := hand_len l m
  refine fnM_rt (sRt_ok (eB_ok (eCl_ok (a2_ok rfl rfl) rfl (hand_ok w ok)) (fz_list (a1_ok (eB_ok rfl rfl (ix_deck (at0_get hm)))) rfl w (by simp) (by simp [bds])) ?_))
  have hz := sizeLine_eq
  have : (List.map dC (hand l m)).length + [dC (at0 l m)].length ≤ sizeLine := by simp; omega
  simp only [gAdd, flD, Option.bind_some, if_pos this, ring, List.map_append, List.map_cons, List.map_nil]
theorem clo_le {l : List Card} (ok : DeckOk l) : clo l ≤ l.length := (clo_is ok.lo).hi
/-! ## homes, places, those away -/
theorem home_at_ok {l : List Card} {i : Nat} (ok : DeckOk l) (hi : i < l.length) : M_is_home_at [dK l, .int (i : Nat)] S = some (.ok (.bl (decide (i ≤ ra l i))) S) := by
  have hr := reach_n (S := S) (c := at0 l i) (n := l.length) (ok.dep _ (at0_mem hi)) ok.lo
  refine fnM_rt (sRt_ok (eB_ok rfl (eCl_ok (a2_ok (eB_ok rfl rfl (ix_deck (at0_get hi))) (eCB_ok (a1_ok rfl) len_deck)) rfl hr) ?_))
  rw [gLe_i]
  rw [dec_le]; rfl
def aw (l : List Card) : List Nat := (List.range (clo l)).filter fun i => !decide (i ≤ ra l i)
theorem away_places_ok {l : List Card} (w : Wf S) (ok : DeckOk l) : M_away_places [dK l] S = some (.ok (.fl ((aw l).map fun i : Nat => D.int i)) S) := by
  refine fnM_rt (sRt_ok ?_)
  have hc := clo_le ok
  have h2 := ok.hi
  have e := lc_pu (fi := iRg1 (aCons (eCl (M_closed_of) 1 (aCons (eVar 0) (aNil))) (aNil))) (g := tN 1) (t := tNt (tB (eCl (M_is_home_at) 2 (aCons (eVar 0) (aCons (eVar 1) (aNil)))))) (fe := eVar 1) (vs := [1]) (τ := [some (dK l), none]) (S := S) (ds := (List.range (clo l)).map fun i : Nat => D.int i)
    (fun d => match d with | .int i => !decide (i.toNat ≤ ra l i.toNat) | _ => false) id w (iRg1_ok (a1_ok (eCl_ok (a1_ok rfl) rfl (closed_ok ok))) (by omega)) wks_rg (by simp; omega)
    (fun d hd _ => by obtain ⟨c, _, rfl⟩ := List.mem_map.mp hd; rfl)
    (fun d hd S' _ _ => by
      obtain ⟨i, hi, rfl⟩ := List.mem_map.mp hd
      have hi' := List.mem_range.mp hi
      exact ⟨_, rfl, tNt_ok (tB_ok (eCl_ok (a2_ok rfl rfl) rfl (home_at_ok ok (by omega)))), fun _ => rfl⟩)
  rw [List.filter_map, List.map_id] at e
  exact e
end Sb
end
section
set_option Elab.async false
set_option linter.all false
set_option maxRecDepth 100000
set_option maxHeartbeats 4000000
namespace Sb
open PySem PySem.Spec PyProof.Rows L2
variable {K : PySem.W.Frag} {S : Sto}
/-! ## draws, all else the same -/
theorem Sm.get {n i : Nat} {S S' : Sto} {o : Ob} (a : Sm n S S') (h : S[i]? = some o) (hi : i ≠ n) : S'[i]? = some o := (a.at_ i hi).trans h
theorem Sm.fr {n : Nat} {S S' : Sto} (a : Sm n S S') : Fr n S S' := ⟨by rw [a.len]; exact Nat.le_refl _, fun i h _ => a.at_ i h⟩
theorem Sm.of {n : Nat} {S S' : Sto} (f : Fr n S S') (l : S'.length = S.length) : Sm n S S' := ⟨l, fun i h => by
  by_cases q : i < S.length
  · exact f.at_ i h q
  · rw [List.getElem?_eq_none (by omega), List.getElem?_eq_none (by omega)]⟩
theorem ix_fints {is : List Int} {v : Nat} (h : v < is.length) : gIx (.fl (is.map D.int)) (.int (v : Nat)) S = some (.int (is.getD v 0), S) := by
  have h1 : ((v : Nat) : Int) < ((is.map D.int).length : Int) := by simpa using h
  have h0 : (0 : Int) ≤ (v : Nat) := by omega
  simp only [gIx, seqD, Option.bind_some, atI, ixN, if_pos h0, if_pos h1, Int.toNat_natCast, List.getElem?_map, List.getElem?_eq_getElem h, Option.map_some, List.getD_eq_getElem?_getD, Option.getD_some]
/-! ## home decks drawn -/
def HomeD (l : List Card) : Prop := ∀ i, i < l.length → (i : Int) ≤ (at0 l i).2
end Sb
end
section
set_option Elab.async false
set_option linter.all false
set_option maxRecDepth 100000
set_option maxHeartbeats 4000000
namespace Sb
open PySem PySem.Spec PyProof.Rows L2
variable {K : PySem.W.Frag} {S : Sto}
/-! ## what is wanted of an outcome -/
def Ws (m : Option (Fl × Sto)) (Q : Fl → Sto → Prop) : Prop := ∃ fl S', m = some (fl, S') ∧ Q fl S'
theorem Ws.mono {m : Option (Fl × Sto)} {Q Q' : Fl → Sto → Prop} (h : Ws m Q) (i : ∀ fl S, Q fl S → Q' fl S) : Ws m Q' := by
  obtain ⟨fl, S', e, q⟩ := h
  exact ⟨fl, S', e, i _ _ q⟩
theorem ws_nx {f g : SF} {τ τ1 : Sl} {S S1 : Sto} {Q : Fl → Sto → Prop} (h : f τ S = some (.nx τ1, S1)) (k : Ws (g τ1 S1) Q) : Ws (sSeq f g τ S) Q := by
  rw [show sSeq f g τ S = g τ1 S1 from sSeq_nx h]; exact k
theorem ws_set {i : Nat} {fe : EF} {g : SF} {τ : Sl} {d : D} {S S1 : Sto} {Q : Fl → Sto → Prop} (h : fe τ S = some (.ok d S1)) (k : Ws (g (τ.set i (some d)) S1) Q) : Ws (sSeq (sSet i fe) g τ S) Q := ws_nx (sSet_ok h) k
theorem ws_set1 {i : Nat} {fe : EF} {τ : Sl} {d : D} {S S1 : Sto} {Q : Fl → Sto → Prop} (h : fe τ S = some (.ok d S1)) (k : Q (.nx (τ.set i (some d))) S1) : Ws (sSet i fe τ S) Q := ⟨_, _, sSet_ok h, k⟩
theorem ws_ex {fe : EF} {g : SF} {τ : Sl} {d : D} {S S1 : Sto} {Q : Fl → Sto → Prop} (h : fe τ S = some (.ok d S1)) (k : Ws (g τ S1) Q) : Ws (sSeq (sEx fe) g τ S) Q := ws_nx (sEx_ok h) k
theorem ws_rt {fe : EF} {τ : Sl} {d : D} {S S1 : Sto} {Q : Fl → Sto → Prop} (h : fe τ S = some (.ok d S1)) (k : Q (.rt d) S1) : Ws (sRt fe τ S) Q := ⟨_, _, sRt_ok h, k⟩
theorem ws_nop {τ : Sl} {S : Sto} {Q : Fl → Sto → Prop} (k : Q (.nx τ) S) : Ws (sNop τ S) Q := ⟨_, _, rfl, k⟩
theorem ws_if {t : BF} {f g : SF} {τ : Sl} {b : Bool} {S S1 : Sto} {Q : Fl → Sto → Prop} (h : t τ S = some (.ok b S1)) (k1 : b = true → Ws (f τ S1) Q) (k2 : b = false → Ws (g τ S1) Q) : Ws (sIf t f g τ S) Q := by
  cases b with
  | true => rw [show sIf t f g τ S = f τ S1 from sIf_t h]; exact k1 rfl
  | false => rw [show sIf t f g τ S = g τ S1 from sIf_f h]; exact k2 rfl
/-- an if without an else, which does not come about -/
theorem ws_no {t : BF} {f g : SF} {τ : Sl} {S S1 : Sto} {Q : Fl → Sto → Prop} (h : t τ S = some (.ok false S1)) (k : Ws (g τ S1) Q) : Ws (sSeq (sIf t f sNop) g τ S) Q := ws_nx (sIf_f h) k
def flK (Q1 : Sl → Sto → Prop) (Q : Fl → Sto → Prop) : Fl → Sto → Prop := fun fl S => match fl with
  | .nx τ => Q1 τ S
  | .ct τ => Q1 τ S
  | .rt d => Q (.rt d) S
  | _ => False
theorem ws_for {fi : IF} {g : TF} {fb rest : SF} {τ : Sl} {S S1 : Sto} {wk : Wk} {Q : Fl → Sto → Prop} (n : Nat) (I : Nat → Sl → Sto → Prop) (item : Nat → D) (hfi : fi τ S = some (.ok wk S1)) (hb : n ≤ wk.bound) (h0 : I 0 τ S1)
    (h : ∀ i τ S, i < n → I i τ S → wk.nxt i S = some (some (item i)) ∧ ∃ τ1, g (item i) S τ = some τ1 ∧ Ws (fb τ1 S) (flK (I (i + 1)) Q))
    (he : ∀ τ S, I n τ S → wk.nxt n S = some none) (k : ∀ τ' S', I n τ' S' → Ws (rest τ' S') Q) : Ws (sSeq (sFor fi g fb) rest τ S) Q := by
  have key : ∀ (m i : Nat) (τ : Sl) (S : Sto), i ≤ n → n - i < m → I i τ S → Ws (goF wk.nxt g fb m i τ S) (flK (I n) Q) := by
    intro m
    induction m with
    | zero => exact fun i τ S _ hm _ => absurd hm (Nat.not_lt_zero _)
    | succ m ih =>
      intro i τ S hi hm hI
      unfold goF
      by_cases e : i = n
      · subst e
        rw [he τ S hI]
        exact ⟨_, _, rfl, hI⟩
      · obtain ⟨h1, τ1, h2, fl, S2, h3, h4⟩ := h i τ S (by omega) hI
        rw [h1]
        simp only [h2, h3]
        cases fl with
        | nx τ2 => exact ih (i + 1) τ2 S2 (by omega) (by omega) h4
        | ct τ2 => exact ih (i + 1) τ2 S2 (by omega) (by omega) h4
        | rt d => exact ⟨_, _, rfl, h4⟩
        | bk τ2 => exact absurd h4 id
        | xx x τ2 => exact absurd h4 id
  obtain ⟨fl, S2, e, q⟩ := key (wk.bound + 1) 0 τ S1 (Nat.zero_le _) (by omega) h0
  have e2 : sFor fi g fb τ S = some (fl, S2) := sFor_ok hfi e
  cases fl with
  | nx τ2 =>
    rw [show sSeq (sFor fi g fb) rest τ S = rest τ2 S2 from sSeq_nx e2]
    exact k τ2 S2 q
  | rt d =>
    rw [show sSeq (sFor fi g fb) rest τ S = some (.rt d, S2) from sSeq_rt e2]
    exact ⟨_, _, rfl, q⟩
  | ct τ2 => 
    exfalso
    have : ∀ (m i : Nat) (τ : Sl) (S : Sto), goF wk.nxt g fb m i τ S ≠ some (.ct τ2, S2) := by
      intro m
      induction m with
      | zero => intro i τ S e; cases e
      | succ m ih =>
        intro i τ S e
        unfold goF at e
        split at e
        · cases e
        · cases e
        · split at e
          · cases e
          · split at e
            · exact ih _ _ _ e
            · exact ih _ _ _ e
            · cases e
            · rename_i hx _ _
              first | exact hx _ _ e | (rename_i hy; exact hy _ _ e) | simp_all
    exact this _ _ _ _ e
  | bk τ2 => exact absurd q id
  | xx x τ2 => exact absurd q id
/-- a loop that is the last row -/
theorem ws_for1 {fi : IF} {g : TF} {fb : SF} {τ : Sl} {S S1 : Sto} {wk : Wk} {Q : Fl → Sto → Prop} (n : Nat) (I : Nat → Sl → Sto → Prop) (item : Nat → D) (hfi : fi τ S = some (.ok wk S1)) (hb : n ≤ wk.bound) (h0 : I 0 τ S1)
    (h : ∀ i τ S, i < n → I i τ S → wk.nxt i S = some (some (item i)) ∧ ∃ τ1, g (item i) S τ = some τ1 ∧ Ws (fb τ1 S) (flK (I (i + 1)) Q))
    (he : ∀ τ S, I n τ S → wk.nxt n S = some none) (k : ∀ τ' S', I n τ' S' → Q (.nx τ') S') : Ws (sFor fi g fb τ S) Q := by
  have e : ∀ τ S, sSeq (sFor fi g fb) sNop τ S = sFor fi g fb τ S := fun τ S => by
    unfold sSeq
    cases sFor fi g fb τ S with
    | none => rfl
    | some p => obtain ⟨fl, S'⟩ := p; cases fl <;> rfl
  rw [← e]
  exact ws_for n I item hfi hb h0 h he fun τ' S' hI => ws_nop (k τ' S' hI)
theorem fn_ws {n : Nat} {f : SF} {ds : List D} {S : Sto} {Q : D → Sto → Prop} (h : Ws (f (ini n ds) S) fun fl S' => ∃ d, fl = .rt d ∧ Q d S') : ∃ d S', fnM n f ds S = some (.ok d S') ∧ Q d S' := by
  obtain ⟨fl, S', e, d, rfl, q⟩ := h
  exact ⟨d, S', fnM_rt e, q⟩
theorem fn_wt {n : Nat} {f : SF} {ds : List D} {S : Sto} {d : D} (h : Ws (f (ini n ds) S) fun fl S' => fl = .rt d ∧ S' = S) : fnM n f ds S = some (.ok d S) := by
  obtain ⟨fl, S', e, rfl, rfl⟩ := h
  exact fnM_rt e
/-! ## the head of a law -/
theorem law_ws {n : Nat} {f : SF} {ds : List D} {S : Sto} (h : Ws (f (ini n ds) S) fun fl _ => fl = .rt (.bl true)) : ∃ S', fnM n f ds S = some (.ok (.bl true) S') := by
  obtain ⟨fl, S', e, rfl⟩ := h
  exact ⟨S', fnM_rt e⟩
theorem ws_iret {t : BF} {fe : EF} {g h : SF} {τ : Sl} {d : D} {S S1 S2 : Sto} {Q : Fl → Sto → Prop} (h1 : t τ S = some (.ok true S1)) (h2 : fe τ S1 = some (.ok d S2)) (k : Q (.rt d) S2) : Ws (sSeq (sIf t (sRt fe) h) g τ S) Q :=
  ⟨_, _, sSeq_rt ((sIf_t h1).trans (sRt_ok h2)), k⟩
def flN (Q1 : Sl → Sto → Prop) (Q : Fl → Sto → Prop) : Fl → Sto → Prop := fun fl S => match fl with
  | .nx τ => Q1 τ S
  | .rt d => Q (.rt d) S
  | _ => False
theorem ws_seq {f g : SF} {τ : Sl} {S : Sto} {Q : Fl → Sto → Prop} (h : Ws (f τ S) (flN (fun τ1 S1 => Ws (g τ1 S1) Q) Q)) : Ws (sSeq f g τ S) Q := by
  obtain ⟨fl, S1, e, q⟩ := h
  cases fl with
  | nx τ1 => rw [show sSeq f g τ S = g τ1 S1 from sSeq_nx e]; exact q
  | rt d => exact ⟨_, _, sSeq_rt e, q⟩
  | ct τ => exact absurd q id
  | bk τ => exact absurd q id
  | xx x τ => exact absurd q id
end Sb
end
section
set_option Elab.async false
set_option linter.all false
set_option maxRecDepth 100000
set_option maxHeartbeats 4000000
namespace Sb
open PySem PySem.Spec PyProof.Rows L2
/-! ## a step, place by place -/
theorem stp_k {c : Card} {r : List Card} : stp (c :: r) = r.take (ra (c :: r) 0) ++ c :: r.drop (ra (c :: r) 0) := by
  unfold stp ra rch at0; simp
theorem ra0_le {c : Card} {r : List Card} : ra (c :: r) 0 ≤ r.length := by unfold ra rch at0; simp; omega
theorem stp_at0 {l : List Card} {i : Nat} (h : 1 ≤ l.length) : at0 (stp l) i = if i < ra l 0 then at0 l (i + 1) else if i = ra l 0 then at0 l 0 else at0 l i := by
  cases l with
  | nil => simp at h
  | cons c r =>
    have hk := ra0_le (c := c) (r := r)
    rw [stp_k]
    generalize ra (c :: r) 0 = k at hk ⊢
    unfold at0
    simp only [List.getD_eq_getElem?_getD]
    by_cases h1 : i < k
    · rw [if_pos h1, List.getElem?_append_left (by rw [List.length_take]; omega), List.getElem?_take_of_lt h1, List.getElem?_cons_succ]
    · rw [if_neg h1]
      rw [List.getElem?_append_right (by rw [List.length_take]; omega), List.length_take, Nat.min_eq_left hk]
      by_cases h2 : i = k
      · subst h2; simp
      · rw [if_neg h2]
        obtain ⟨j, rfl⟩ : ∃ j, i = k + j + 1 := ⟨i - k - 1, by omega⟩
        rw [show k + j + 1 - k = j + 1 by omega, List.getElem?_cons_succ, List.getElem?_drop, List.getElem?_cons_succ]
theorem ra_stp {l : List Card} {i : Nat} (h : 1 ≤ l.length) : ra (stp l) i = if i < ra l 0 then ra l (i + 1) else if i = ra l 0 then ra l 0 else ra l i := by
  have e : ra (stp l) i = rch l.length (at0 (stp l) i) := by unfold ra; rw [stp_len]
  rw [e, stp_at0 h]
  by_cases h1 : i < ra l 0
  · rw [if_pos h1, if_pos h1]; rfl
  · rw [if_neg h1, if_neg h1]
    by_cases h2 : i = ra l 0
    · rw [if_pos h2, if_pos h2]; rfl
    · rw [if_neg h2, if_neg h2]; rfl
/-- home by its place -/
theorem HomeD.ra {l : List Card} (h : HomeD l) {i : Nat} (hi : i < l.length) : i ≤ ra l i := by
  have := h i hi
  unfold Sb.ra rch; omega
/-- the closed place goes no nearer to the end by a step -/
theorem clo_all {l : List Card} (hl : 1 ≤ l.length) : ∀ m, 1 ≤ m → (∀ i, i < m → ra l i < m) → ∀ i, i < m → ra (stp l) i < m := by
  intro m hm h i hi
  have h0 := h 0 (by omega)
  rw [ra_stp hl]
  split
  · exact h _ (by omega)
  · split
    · exact h0
    · exact h i hi
/-! ## rings by a step -/
theorem hand_lo {c : Card} {r : List Card} {m : Nat} (h : ra (c :: r) 0 < m) : hand (stp (c :: r)) m = hand (c :: r) m := by
  have hk := ra0_le (c := c) (r := r)
  have hp : decide (m ≤ rch (c :: r).length c) = false := decide_eq_false (by have : ra (c :: r) 0 = rch (c :: r).length c := rfl; omega)
  unfold hand
  rw [stp_len, stp_k]
  generalize ra (c :: r) 0 = k at h hk
  obtain ⟨j, rfl⟩ : ∃ j, m = k + 1 + j := ⟨m - k - 1, by omega⟩
  have e1 : (r.take k ++ c :: r.drop k).take (k + 1 + j) = r.take k ++ c :: (r.drop k).take j := by
    rw [List.take_append, List.take_of_length_le (by rw [List.length_take]; omega), List.length_take, Nat.min_eq_left hk, show k + 1 + j - k = j + 1 by omega, List.take_succ_cons]
  rw [e1, List.filter_append, List.filter_cons, if_neg (by rw [hp]; simp), ← List.filter_append, show k + 1 + j = (k + j) + 1 by omega, List.take_succ_cons, List.filter_cons, if_neg (by rw [show k + j + 1 = k + 1 + j by omega, hp]; simp)]
  rw [List.take_add]
theorem ring_lo {l : List Card} {m : Nat} (h : ra l 0 < m) (hm : m < l.length) : ring (stp l) m = ring l m := by
  cases l with
  | nil => simp at hm
  | cons c r =>
    unfold ring
    rw [hand_lo h, stp_at0 (by simp), if_neg (by omega), if_neg (by omega)]
theorem ring_hi2 {l : List Card} {m : Nat} (h : m ≤ ra l 0) (hm : m < l.length) : ring (stp l) m = hand (stp l) m ++ [if m < ra l 0 then at0 l (m + 1) else at0 l 0] := by
  unfold ring
  rw [stp_at0 (by omega)]
  congr 2
  split
  · rfl
  · rw [if_pos (by omega)]
/-! ## ends of told lists -/
theorem sl_init {ds : List D} {x : D} {S : Sto} : gSl (.fl (ds ++ [x])) none (some (-1)) S = some (.fl ds, S) := by
  have : cutD (ds ++ [x]) none (some (-1)) = ds := by
    unfold cutD
    have e : HT.sIx (ds ++ [x]).length (ds ++ [x]).length (some (-1)) = ds.length := by
      show (if (-1 : Int) < 0 then ((-1 : Int) + (((ds ++ [x]).length : Nat) : Int)).toNat else min (-1 : Int).toNat (ds ++ [x]).length) = ds.length
      rw [if_pos (by decide), List.length_append, List.length_singleton]; omega
    rw [e, HT.sIx_none, List.drop_zero, Nat.sub_zero, List.take_left]
  simp only [gSl, this]
theorem ix_last {ds : List D} {x : D} {S : Sto} : gIx (.fl (ds ++ [x])) (.int (-1)) S = some (x, S) := by
  have e : ixN (ds ++ [x]).length (-1) = some ds.length := by
    unfold ixN
    rw [if_neg (by decide), List.length_append, List.length_singleton, if_pos (by omega)]
    congr 1; omega
  simp only [gIx, seqD, Option.bind_some, atI, e]
  simp
theorem ix_head {ds : List D} {x : D} {S : Sto} : gIx (.fl (x :: ds)) (.int 0) S = some (x, S) := by
  have e : ixN (x :: ds).length 0 = some 0 := by
    unfold ixN
    rw [if_pos (by decide), List.length_cons, if_pos (by omega)]; rfl
  simp only [gIx, seqD, Option.bind_some, atI, e]
  simp
theorem eNeg_ok {f : EF} {τ : Sl} {i : Int} {S S1 : Sto} (h : f τ S = some (.ok (.int i) S1)) : eNeg f τ S = some (.ok (.int (-i)) S1) := by simp only [eNeg, M.bnd, h]
theorem or_f {t u : BF} {τ : Sl} {S : Sto} (h1 : t τ S = some (.ok false S)) (h2 : u τ S = some (.ok false S)) : tOr' t u τ S = some (.ok false S) := tOr_f h1 h2
theorem an_b {t u : BF} {τ : Sl} {a b : Bool} {S : Sto} (h1 : t τ S = some (.ok a S)) (h2 : a = true → u τ S = some (.ok b S)) : tAn t u τ S = some (.ok (a && b) S) := by
  cases a with
  | true => rw [an_t h1 (h2 rfl)]; rfl
  | false => rw [an_f h1]; rfl
theorem app_last {S : Sto} {ds : List D} {x : D} (h : ds.length < sizeLine) : gAppend (.loc S.length) [x] (S ++ [.lst ds]) = some (.non, S ++ [.lst (ds ++ [x])]) := by
  simp only [gAppend, listD, get_last, Option.bind_some, if_pos h, set_last]
end Sb
end
section
set_option Elab.async false
set_option linter.all false
set_option maxRecDepth 100000
set_option maxHeartbeats 4000000
namespace Sb
open PySem PySem.Spec PyProof.Rows L2
/-! ## patterns, and what they show -/
abbrev Pat := List (Option Str)
def pat (l : List Card) (m : Nat) : Pat := (ring l m).map fun c => if m < rch l.length c then none else some c.1
def told (l : List Card) : List Pat := (List.range (clo l)).map (pat l)
def nxt (p : Pat) (i : Nat) : Nat := i / p.length * p.count none + (p.take (i % p.length)).count none
theorem pat_ne (l : List Card) (m : Nat) : 1 ≤ (pat l m).length := by unfold pat ring; simp
theorem rot_nxt {a : Option Str} {Q : Pat} {i : Nat} : nxt (a :: Q) (i + 1) = (if a = none then 1 else 0) + nxt (Q ++ [a]) i := by
  unfold nxt
  have hc : ∀ R : Pat, (a :: R).count none = (if a = none then 1 else 0) + R.count none := fun R => by
    rw [List.count_cons]
    cases a <;> simp [Nat.add_comm]
  have hc2 : (Q ++ [a]).count none = (if a = none then 1 else 0) + Q.count none := by
    rw [List.count_append, ← hc]
    cases a <;> simp [Nat.add_comm, List.count_cons]
  rw [hc, hc2]
  simp only [List.length_cons, List.length_append, List.length_nil, Nat.zero_add]
  have ht := Nat.mod_lt i (show 0 < Q.length + 1 by omega)
  have hd := Nat.div_add_mod i (Q.length + 1)
  by_cases h : i % (Q.length + 1) + 1 < Q.length + 1
  · have e1 : (i + 1) / (Q.length + 1) = i / (Q.length + 1) := by
      rw [Nat.div_eq_iff (by omega)]
      generalize i / (Q.length + 1) = q at *
      have : q * (Q.length + 1) = (Q.length + 1) * q := Nat.mul_comm _ _
      omega
    have e2 : (i + 1) % (Q.length + 1) = i % (Q.length + 1) + 1 := by
      have := Nat.div_add_mod (i + 1) (Q.length + 1)
      rw [e1] at this; omega
    rw [e1, e2, List.take_succ_cons, hc, List.take_append_of_le_length (by omega)]
    omega
  · have e : i % (Q.length + 1) = Q.length := by omega
    have e1 : (i + 1) / (Q.length + 1) = i / (Q.length + 1) + 1 := by
      rw [Nat.div_eq_iff (by omega)]
      rw [e] at hd
      generalize i / (Q.length + 1) = q at *
      have : (q + 1) * (Q.length + 1) = (Q.length + 1) * q + (Q.length + 1) := by rw [Nat.add_mul, Nat.mul_comm, Nat.one_mul]
      omega
    have e2 : (i + 1) % (Q.length + 1) = 0 := by
      have := Nat.div_add_mod (i + 1) (Q.length + 1)
      rw [e1, Nat.mul_add] at this; omega
    rw [e1, e2, e, List.take_zero, List.take_left, Nat.add_mul, Nat.one_mul, List.count_nil]
    omega
theorem pat_lo {l : List Card} {m : Nat} (h : ra l 0 < m) (hm : m < l.length) : pat (stp l) m = pat l m := by
  unfold pat
  rw [ring_lo h hm, stp_len]
end Sb
end
section
set_option Elab.async false
set_option linter.all false
set_option maxRecDepth 100000
set_option maxHeartbeats 4000000
namespace Sb
open PySem PySem.Spec PyProof.Rows L2
/-! ## rows that turn: the levels above q as patterns, q's ring -/
def rot (p : Pat) (k : Nat) : Pat := p.drop k ++ p.take k
def trn : List Pat → Nat → List Pat
  | [], _ => []
  | p :: ps, i => rot p (i % p.length) :: trn ps (nxt p i)
def adv : List Pat → Nat → Nat
  | [], i => i
  | p :: ps, i => adv ps (nxt p i)
def lring (l : List Card) (q : Nat) : Pat := (ring l q).map fun c => some c.1
def pats (l : List Card) (q m : Nat) : List Pat := (List.range' m (q - m)).map (pat l)
def frk (l : List Card) (q m : Nat) : List Pat := pats l q m ++ [lring l q]
abbrev frw (l : List Card) (q : Nat) : List Pat := frk l q 0
theorem pats_cons {l : List Card} {q m : Nat} (h : m < q) : pats l q m = pat l m :: pats l q (m + 1) := by
  unfold pats
  rw [show q - m = (q - (m + 1)) + 1 by omega, List.range'_succ, List.map_cons]
theorem pats_end {l : List Card} {q : Nat} : pats l q q = [] := by unfold pats; rw [Nat.sub_self]; rfl
theorem frk_cons {l : List Card} {q m : Nat} (h : m < q) : frk l q m = pat l m :: frk l q (m + 1) := by
  unfold frk; rw [pats_cons h, List.cons_append]
theorem frk_end {l : List Card} {q : Nat} : frk l q q = [lring l q] := by unfold frk; rw [pats_end]; rfl
theorem rot_rot {a : Option Str} {Q : Pat} {i : Nat} : rot (a :: Q) ((i + 1) % (a :: Q).length) = rot (Q ++ [a]) (i % (Q ++ [a]).length) := by
  simp only [List.length_cons, List.length_append, List.length_nil, Nat.zero_add]
  have ht := Nat.mod_lt i (show 0 < Q.length + 1 by omega)
  rw [Nat.add_mod]
  by_cases h : i % (Q.length + 1) + 1 < Q.length + 1
  · rw [show 1 % (Q.length + 1) = 1 from Nat.mod_eq_of_lt (by omega), Nat.mod_eq_of_lt h]
    unfold rot
    rw [List.drop_succ_cons, List.take_succ_cons, List.drop_append_of_le_length (by omega), List.take_append_of_le_length (by omega), List.append_assoc]; rfl
  · have e : i % (Q.length + 1) = Q.length := by omega
    rw [e]
    have e2 : (Q.length + 1 % (Q.length + 1)) % (Q.length + 1) = 0 := by
      by_cases hq : Q.length = 0
      · rw [hq]
      · rw [show 1 % (Q.length + 1) = 1 from Nat.mod_eq_of_lt (by omega), Nat.mod_self]
    rw [e2]
    unfold rot
    simp
theorem rot_zero (p : Pat) : rot p 0 = p := by unfold rot; simp
theorem nxt_zero (p : Pat) : nxt p 0 = 0 := by unfold nxt; simp
theorem trn_zero : ∀ ps : List Pat, trn ps 0 = ps
  | [] => rfl
  | p :: ps => by unfold trn; rw [Nat.zero_mod, rot_zero, nxt_zero, trn_zero ps]
theorem adv_zero : ∀ ps : List Pat, adv ps 0 = 0
  | [] => rfl
  | p :: ps => by unfold adv; rw [nxt_zero, adv_zero ps]
/-! ## a ring whose card at its place is home -/
theorem ring_hi1' {c : Card} {r : List Card} {m : Nat} (hh : m ≤ ra (c :: r) m) (h : m ≤ ra (c :: r) 0) (hm : m < (c :: r).length) : ring (c :: r) m = c :: hand (stp (c :: r)) m := by
  have hk := ra0_le (c := c) (r := r)
  have hc : decide (m ≤ rch (c :: r).length c) = true := decide_eq_true h
  unfold ring hand
  rw [stp_len, stp_k]
  generalize ra (c :: r) 0 = k at h hk
  rw [List.take_append_of_le_length (by rw [List.length_take]; omega), List.take_take, Nat.min_eq_left h]
  cases m with
  | zero => simp [at0]
  | succ m =>
    rw [List.take_succ_cons, List.filter_cons, if_pos hc, List.cons_append]
    have hm' : m < r.length := by simp at hm; omega
    have e : at0 (c :: r) (m + 1) = r[m] := by rw [at0_eq hm]; rfl
    have hp : decide (m + 1 ≤ rch (c :: r).length r[m]) = true := by rw [← e]; exact decide_eq_true hh
    rw [List.take_succ_eq_append_getElem hm', List.filter_append, e]
    congr 2
    rw [List.filter_cons, if_pos hp]; rfl
theorem pat_hi' {l : List Card} {m : Nat} (hl : 1 ≤ l.length) (h : m ≤ ra l 0) (h1 : m ≤ ra l m) (h2 : m < ra l 0 → m + 1 ≤ ra l (m + 1)) : ∃ Q : Pat, ∃ a : Option Str, pat l m = a :: Q ∧ pat (stp l) m = Q ++ [a] ∧ a = if m < ra l 0 then none else some (at0 l 0).1 := by
  cases l with
  | nil => simp at hl
  | cons c r =>
    have hm : m < (c :: r).length := by have := ra_lt (l := c :: r) (by simp) 0; omega
    refine ⟨(hand (stp (c :: r)) m).map fun x => if m < rch (c :: r).length x then none else some x.1, _, ?_, ?_, rfl⟩
    · unfold pat
      rw [ring_hi1' h1 h hm, List.map_cons]; rfl
    · unfold pat
      rw [ring_hi2 h hm, stp_len, List.map_append, List.map_singleton]
      congr 2
      by_cases q : m < ra (c :: r) 0
      · rw [if_pos q, if_pos q, if_pos]
        exact h2 q
      · rw [if_neg q, if_neg q, if_neg]
        have : ra (c :: r) 0 = rch (c :: r).length (at0 (c :: r) 0) := rfl
        omega
/-- all above q are home -/
def HomeTo (l : List Card) (q : Nat) : Prop := q < l.length ∧ ∀ i, i < q → i ≤ ra l i
/-- the step moves none but above q, or q is home as well and none reaches deeper -/
def StepIn (l : List Card) (q : Nat) : Prop := ra l 0 < q ∨ (q ≤ ra l q ∧ ra l 0 ≤ q)
theorem lring_lo {l : List Card} {q : Nat} (h : ra l 0 < q) (hq : q < l.length) : lring (stp l) q = lring l q := by unfold lring; rw [ring_lo h hq]
theorem frk_lo {l : List Card} {q m : Nat} (h : ra l 0 < m) (hm : m ≤ q) (hq : q < l.length) : frk (stp l) q m = frk l q m := by
  unfold frk pats
  rw [lring_lo (by omega) hq]
  congr 1
  refine List.map_congr_left fun i hi => ?_
  rw [List.mem_range'_1] at hi
  exact pat_lo (by omega) (by omega)
theorem StepIn.nxt {l : List Card} {q m : Nat} (hs : StepIn l q) (hh : HomeTo l q) (h : m < ra l 0) : m + 1 ≤ ra l (m + 1) := by
  rcases hs with hs | ⟨h1, h2⟩
  · exact hh.2 _ (by omega)
  · by_cases e : m + 1 = q
    · rw [e]; exact h1
    · exact hh.2 _ (by omega)
theorem StepIn.le {l : List Card} {q : Nat} (hs : StepIn l q) : ra l 0 ≤ q := by rcases hs with h | h <;> omega
theorem trn_step {l : List Card} {q : Nat} (hs : StepIn l q) (hh : HomeTo l q) : ∀ (j m : Nat), ra l 0 - m = j → m ≤ ra l 0 → ∀ s, trn (frk l q m) (s + 1) = trn (frk (stp l) q m) s := by
  have hl : 1 ≤ l.length := by have := hh.1; omega
  have hle := hs.le
  intro j
  induction j with
  | zero =>
    intro m hj hm s
    have e : m = ra l 0 := by omega
    by_cases hq : m < q
    · obtain ⟨Q, a, h1, h2, h3⟩ := pat_hi' hl hm (hh.2 m hq) (fun h => by omega)
      rw [if_neg (by omega)] at h3
      subst h3
      rw [frk_cons (l := l) hq, frk_cons (l := stp l) hq, h1, h2]
      unfold trn
      rw [rot_rot, rot_nxt, if_neg (by simp), Nat.zero_add, frk_lo (by omega) (by omega) hh.1]
    · have e2 : m = q := by omega
      subst e2
      rcases hs with hs | ⟨h1, _⟩
      · omega
      rw [frk_end, frk_end]
      cases l with
      | nil => simp at hl
      | cons c r =>
        have r1 := ring_hi1' h1 hm hh.1
        have r2 := ring_hi2 hm hh.1
        rw [if_neg (by omega)] at r2
        have e1 : lring (c :: r) m = some c.1 :: (hand (stp (c :: r)) m).map fun c => some c.1 := by unfold lring; rw [r1]; rfl
        have e2 : lring (stp (c :: r)) m = ((hand (stp (c :: r)) m).map fun c => some c.1) ++ [some c.1] := by unfold lring; rw [r2, List.map_append]; rfl
        rw [e1, e2]
        unfold trn
        rw [rot_rot]
        rfl
  | succ j ih =>
    intro m hj hm s
    have hq : m < q := by omega
    obtain ⟨Q, a, h1, h2, h3⟩ := pat_hi' hl hm (hh.2 m hq) (fun h => hs.nxt hh h)
    rw [if_pos (by omega)] at h3
    subst h3
    rw [frk_cons (l := l) hq, frk_cons (l := stp l) hq, h1, h2]
    unfold trn
    rw [rot_rot, rot_nxt, if_pos rfl, Nat.add_comm 1, ih (m + 1) (by omega) (by omega)]
theorem trn_stp {l : List Card} {q : Nat} (hs : StepIn l q) (hh : HomeTo l q) (s : Nat) : trn (frw l q) (s + 1) = trn (frw (stp l) q) s := trn_step hs hh _ 0 rfl (Nat.zero_le _) s
theorem homeTo_stp {l : List Card} {q : Nat} (hs : StepIn l q) (hh : HomeTo l q) : HomeTo (stp l) q := by
  have hl : 1 ≤ l.length := by have := hh.1; omega
  refine ⟨by rw [stp_len]; exact hh.1, fun i hi => ?_⟩
  rw [ra_stp hl]
  split
  · rename_i h
    have := hs.nxt hh h; omega
  · split
    · omega
    · exact hh.2 i hi
theorem drop_stp {l : List Card} {q : Nat} (h : ra l 0 ≤ q) : (stp l).drop (q + 1) = l.drop (q + 1) := by
  cases l with
  | nil => rfl
  | cons c r =>
    have hk := ra0_le (c := c) (r := r)
    rw [stp_k, List.drop_succ_cons]
    generalize ra (c :: r) 0 = k at h hk
    rw [List.drop_append, List.drop_of_length_le (by rw [List.length_take]; omega), List.nil_append, List.length_take, Nat.min_eq_left hk, show q + 1 - k = (q - k) + 1 by omega, List.drop_succ_cons, List.drop_drop]
    congr 1; omega
theorem stps_front (n : Nat) (l : List Card) : stps (n + 1) l = stps n (stp l) := by
  induction n with
  | zero => rfl
  | succ n ih => show stp (stps (n + 1) l) = _; rw [ih]; rfl
/-- all of the first s steps are within -/
def Within (l : List Card) (q s : Nat) : Prop := ∀ t, t < s → StepIn (stps t l) q
theorem within_all : ∀ (s : Nat) {l : List Card} {q : Nat}, HomeTo l q → Within l q s → HomeTo (stps s l) q ∧ trn (frw l q) s = frw (stps s l) q ∧ (stps s l).drop (q + 1) = l.drop (q + 1)
  | 0, l, q, hh, hw => ⟨hh, trn_zero _, rfl⟩
  | s + 1, l, q, hh, hw => by
    have h0 : StepIn l q := hw 0 (by omega)
    have hh1 := homeTo_stp h0 hh
    obtain ⟨a, b, c⟩ := within_all s hh1 (fun t ht => by have := hw (t + 1) (by omega); rwa [stps_front] at this)
    rw [stps_front, trn_stp h0 hh]
    exact ⟨a, b, c.trans (drop_stp h0.le)⟩
/-! ## rows put together again -/
def fil : Pat → List Str → List Str
  | [], _ => []
  | some x :: r, h => x :: fil r h
  | none :: r, h => h.headD "" :: fil r h.tail
def bl : List Pat → List Str × List Str
  | [] => ([], [])
  | p :: ps => ((fil p (bl ps).1).dropLast, (bl ps).2 ++ [(fil p (bl ps).1).getLastD ""])
theorem fil_map {P : Card → Bool} : ∀ (L : List Card), fil (L.map fun c => if P c = true then none else some c.1) ((L.filter P).map (·.1)) = L.map (·.1)
  | [] => rfl
  | c :: r => by
    rw [List.map_cons, List.filter_cons]
    by_cases h : P c = true
    · rw [if_pos h, if_pos h, List.map_cons]
      show _ :: fil _ _ = _
      rw [List.tail_cons, fil_map r]; rfl
    · rw [if_neg h, if_neg h]
      show _ :: fil _ _ = _
      rw [fil_map r]; rfl
theorem fil_some : ∀ (L : List Card) (h : List Str), fil (L.map fun c => some c.1) h = L.map (·.1)
  | [], _ => rfl
  | c :: r, h => by
    rw [List.map_cons]
    show _ :: fil _ _ = _
    rw [fil_some r]; rfl
theorem ring_take {l : List Card} {m : Nat} (hm : m < l.length) (h : m ≤ ra l m) : ring l m = (l.take (m + 1)).filter fun c => decide (m ≤ rch l.length c) := by
  unfold ring hand
  rw [List.take_succ_eq_append_getElem hm, List.filter_append]
  congr 1
  rw [at0_eq hm, List.filter_cons, if_pos]
  · rfl
  · have : ra l m = rch l.length l[m] := by unfold ra; rw [at0_eq hm]
    rw [← this]; exact decide_eq_true h
theorem ring_holes {l : List Card} {m : Nat} (hm : m < l.length) (h : m ≤ ra l m) : (ring l m).filter (fun c => decide (m < rch l.length c)) = hand l (m + 1) := by
  rw [ring_take hm h, List.filter_filter]
  unfold hand
  refine List.filter_congr fun c _ => ?_
  by_cases q : m < rch l.length c
  · have : m + 1 ≤ rch l.length c := q
    simp [q, this]; omega
  · have : ¬ (m + 1 ≤ rch l.length c) := q
    simp [q, this]
theorem fil_pat {l : List Card} {m : Nat} (hm : m < l.length) (h : m ≤ ra l m) : fil (pat l m) (nms (hand l (m + 1))) = nms (ring l m) := by
  rw [← ring_holes hm h]
  have := fil_map (P := fun c => decide (m < rch l.length c)) (ring l m)
  unfold pat
  simp only [decide_eq_true_eq] at this
  exact this
/-! ## how far a stretch goes -/
def idx (p : Pat) (x : Option Str) : List Nat := (List.range p.length).filter fun i => decide (p.getD i none = x)
def whn (p : Pat) (x : Option Str) (k : Nat) : Nat := k / (idx p x).length * p.length + (idx p x).getD (k % (idx p x).length) 0
def shw : List Pat → Nat → Nat
  | [], i => i
  | p :: ps, i => whn p none (shw ps i)
end Sb
end
section
set_option Elab.async false
set_option linter.all false
set_option maxRecDepth 100000
set_option maxHeartbeats 4000000
namespace Sb
open PySem PySem.Spec PyProof.Rows L2
/-! ## how often, and when, a thing is shown by a row that goes round -/
def cnt (p : Pat) (x : Option Str) (b : Nat) : Nat := (p.take b).count x
def ofr (p : Pat) (x : Option Str) (i : Nat) : Nat := i / p.length * p.count x + (p.take (i % p.length)).count x
theorem nxt_ofr (p : Pat) (i : Nat) : nxt p i = ofr p none i := rfl
theorem filt_at {P : Nat → Bool} : ∀ (n j b : Nat), ((List.range n).filter P)[j]? = some b → b < n ∧ P b = true ∧ ((List.range b).filter P).length = j
  | 0, j, b, h => by simp at h
  | n + 1, j, b, h => by
    rw [List.range_succ, List.filter_append] at h
    by_cases q : j < ((List.range n).filter P).length
    · rw [List.getElem?_append_left q] at h
      obtain ⟨h1, h2, h3⟩ := filt_at n j b h
      exact ⟨by omega, h2, h3⟩
    · rw [List.getElem?_append_right (by omega)] at h
      by_cases hP : P n = true
      · rw [List.filter_cons, if_pos hP] at h
        have hj : j - ((List.range n).filter P).length = 0 := by
          have := (List.getElem?_eq_some_iff.mp h).1
          simp at this; omega
        rw [hj] at h
        simp at h
        subst h
        exact ⟨by omega, hP, by omega⟩
      · rw [List.filter_cons, if_neg hP] at h
        simp at h
theorem cnt_filt {p : Pat} {x : Option Str} : ∀ {b : Nat}, b ≤ p.length → cnt p x b = ((List.range b).filter fun i => decide (p.getD i none = x)).length
  | 0, _ => by simp [cnt]
  | b + 1, h => by
    have ih := cnt_filt (p := p) (x := x) (b := b) (by omega)
    unfold cnt at ih ⊢
    rw [List.take_succ_eq_append_getElem (by omega), List.count_append, ih, List.range_succ, List.filter_append, List.length_append]
    congr 1
    have e : p.getD b none = p[b] := by rw [List.getD_eq_getElem?_getD, List.getElem?_eq_getElem (by omega)]; rfl
    rw [List.filter_cons]
    by_cases q : p[b] = x
    · rw [if_pos (by rw [e]; exact decide_eq_true q), q]; simp
    · rw [if_neg (by rw [e]; simpa using q), List.count_singleton]
      simp only [List.filter_nil, List.length_nil]
      rw [if_neg]; simpa using q
theorem idx_len (p : Pat) (x : Option Str) : (idx p x).length = p.count x := by
  have := cnt_filt (p := p) (x := x) (Nat.le_refl _)
  unfold cnt at this
  rw [List.take_length] at this
  unfold idx
  exact this.symm
theorem idx_at {p : Pat} {x : Option Str} {j : Nat} (h : j < p.count x) : (idx p x).getD j 0 < p.length ∧ p.getD ((idx p x).getD j 0) none = x ∧ cnt p x ((idx p x).getD j 0) = j := by
  have hj : j < (idx p x).length := by rw [idx_len]; exact h
  have e : (idx p x)[j]? = some ((idx p x).getD j 0) := by rw [List.getD_eq_getElem?_getD, List.getElem?_eq_getElem hj]; rfl
  obtain ⟨h1, h2, h3⟩ := filt_at _ _ _ e
  exact ⟨h1, of_decide_eq_true h2, by rw [cnt_filt (by omega)]; exact h3⟩
theorem ofr_succ {p : Pat} {x : Option Str} (hp : 1 ≤ p.length) (i : Nat) : ofr p x (i + 1) = ofr p x i + (if p.getD (i % p.length) none = x then 1 else 0) := by
  unfold ofr
  have ht := Nat.mod_lt i (show 0 < p.length by omega)
  have hd := Nat.div_add_mod i p.length
  have e : p.getD (i % p.length) none = p[i % p.length] := by rw [List.getD_eq_getElem?_getD, List.getElem?_eq_getElem ht]; rfl
  have hc : (p.take (i % p.length + 1)).count x = (p.take (i % p.length)).count x + (if p.getD (i % p.length) none = x then 1 else 0) := by
    rw [List.take_succ_eq_append_getElem ht, List.count_append, List.count_singleton, e]
    congr 1
    by_cases q : p[i % p.length] = x
    · rw [if_pos q, q]; simp
    · rw [if_neg q, if_neg]; simpa using q
  by_cases h : i % p.length + 1 < p.length
  · have e1 : (i + 1) / p.length = i / p.length := by
      rw [Nat.div_eq_iff (by omega)]
      generalize i / p.length = q at *
      have : q * p.length = p.length * q := Nat.mul_comm _ _
      omega
    have e2 : (i + 1) % p.length = i % p.length + 1 := by
      have := Nat.div_add_mod (i + 1) p.length
      rw [e1] at this; omega
    rw [e1, e2, hc]; omega
  · have e0 : i % p.length + 1 = p.length := by omega
    have e1 : (i + 1) / p.length = i / p.length + 1 := by
      rw [Nat.div_eq_iff (by omega)]
      generalize i / p.length = q at *
      have : (q + 1) * p.length = p.length * q + p.length := by rw [Nat.add_mul, Nat.mul_comm, Nat.one_mul]
      omega
    have e2 : (i + 1) % p.length = 0 := by
      have := Nat.div_add_mod (i + 1) p.length
      rw [e1, Nat.mul_add] at this; omega
    rw [e0, List.take_length] at hc
    rw [e1, e2, List.take_zero, List.count_nil, Nat.add_mul, Nat.one_mul]; omega
theorem whn_at {p : Pat} {x : Option Str} (h : 1 ≤ p.count x) (k : Nat) : ofr p x (whn p x k) = k ∧ p.getD (whn p x k % p.length) none = x := by
  obtain ⟨h1, h2, h3⟩ := idx_at (p := p) (x := x) (j := k % p.count x) (Nat.mod_lt _ h)
  unfold whn ofr
  rw [idx_len]
  generalize (idx p x).getD (k % p.count x) 0 = b at *
  have e1 : (k / p.count x * p.length + b) / p.length = k / p.count x := by
    rw [Nat.mul_comm, Nat.mul_add_div (by omega), Nat.div_eq_of_lt h1, Nat.add_zero]
  have e2 : (k / p.count x * p.length + b) % p.length = b := by
    rw [Nat.mul_comm, Nat.mul_add_mod, Nat.mod_eq_of_lt h1]
  rw [e1, e2]
  refine ⟨?_, h2⟩
  have : (p.take b).count x = k % p.count x := h3
  rw [this, Nat.mul_comm]
  exact Nat.div_add_mod k _
theorem whn_len {p : Pat} {x : Option Str} (h : 1 ≤ p.count x) : 1 ≤ p.length := Nat.le_trans h List.count_le_length
theorem whn_succ {p : Pat} {x : Option Str} (h : 1 ≤ p.count x) (k : Nat) : ofr p x (whn p x k + 1) = k + 1 := by
  obtain ⟨h1, h2⟩ := whn_at h k
  rw [ofr_succ (whn_len h), h1, if_pos h2]
def Holed (ps : List Pat) : Prop := ∀ p ∈ ps, 1 ≤ p.count none
theorem adv_shw : ∀ {ps : List Pat}, Holed ps → ∀ k, adv ps (shw ps k) = k ∧ adv ps (shw ps k + 1) = k + 1
  | [], _, k => ⟨rfl, rfl⟩
  | p :: ps, h, k => by
    obtain ⟨i1, i2⟩ := adv_shw (ps := ps) (fun q hq => h q (List.mem_cons_of_mem _ hq)) k
    have hp := h p List.mem_cons_self
    unfold adv shw
    rw [nxt_ofr, nxt_ofr, (whn_at hp _).1, whn_succ hp]
    exact ⟨i1, i2⟩
/-! ## a stretch: up to the first step of q's level -/
theorem adv_lo {l : List Card} {q : Nat} (hs : ra l 0 < q) (hh : HomeTo l q) : ∀ (j m : Nat), ra l 0 - m = j → m ≤ ra l 0 → ∀ s, adv (pats l q m) (s + 1) = adv (pats (stp l) q m) s := by
  have hl : 1 ≤ l.length := by have := hh.1; omega
  intro j
  induction j with
  | zero =>
    intro m hj hm s
    have hq : m < q := by omega
    obtain ⟨Q, a, h1, h2, h3⟩ := pat_hi' hl hm (hh.2 m hq) (fun h => by omega)
    rw [if_neg (by omega)] at h3
    subst h3
    rw [pats_cons (l := l) hq, pats_cons (l := stp l) hq, h1, h2]
    unfold adv
    rw [rot_nxt, if_neg (by simp), Nat.zero_add]
    have : pats (stp l) q (m + 1) = pats l q (m + 1) := by
      unfold pats
      refine List.map_congr_left fun i hi => ?_
      rw [List.mem_range'_1] at hi
      exact pat_lo (by omega) (by have := hh.1; omega)
    rw [this]
  | succ j ih =>
    intro m hj hm s
    have hq : m < q := by omega
    obtain ⟨Q, a, h1, h2, h3⟩ := pat_hi' hl hm (hh.2 m hq) (fun h => hh.2 _ (by omega))
    rw [if_pos (by omega)] at h3
    subst h3
    rw [pats_cons (l := l) hq, pats_cons (l := stp l) hq, h1, h2]
    unfold adv
    rw [rot_nxt, if_pos rfl, Nat.add_comm 1, ih (m + 1) (by omega) (by omega)]
theorem adv_hi {l : List Card} {q : Nat} (hs : q ≤ ra l 0) (hh : HomeTo l q) : ∀ (j m : Nat), q - m = j → m ≤ q → ∀ i, 1 ≤ adv (pats l q m) (i + 1) := by
  have hl : 1 ≤ l.length := by have := hh.1; omega
  intro j
  induction j with
  | zero =>
    intro m hj hm i
    have e : m = q := by omega
    subst e
    rw [pats_end]
    unfold adv; omega
  | succ j ih =>
    intro m hj hm i
    have hq : m < q := by omega
    have hml : m < l.length := by have := hh.1; omega
    have hp : ∃ Q : Pat, pat l m = none :: Q := by
      cases l with
      | nil => simp at hl
      | cons c r =>
        refine ⟨(hand (stp (c :: r)) m).map fun x => if m < rch (c :: r).length x then none else some x.1, ?_⟩
        unfold pat
        rw [ring_hi1' (hh.2 m hq) (by omega) hml, List.map_cons, if_pos]
        have : ra (c :: r) 0 = rch (c :: r).length c := rfl
        omega
    obtain ⟨Q, hQ⟩ := hp
    rw [pats_cons hq, hQ]
    unfold adv
    rw [rot_nxt, if_pos rfl, Nat.add_comm 1]
    exact ih (m + 1) (by omega) (by omega) _
theorem below_of {q : Nat} : ∀ (s : Nat) {l : List Card}, HomeTo l q → adv (pats l q 0) s = 0 → ∀ t, t < s → ra (stps t l) 0 < q
  | 0, l, hh, ha, t, ht => absurd ht (Nat.not_lt_zero _)
  | s + 1, l, hh, ha, t, ht => by
    have h0 : ra l 0 < q := by
      rcases Nat.lt_or_ge (ra l 0) q with z | z
      · exact z
      · have := adv_hi z hh _ 0 rfl (Nat.zero_le _) s
        omega
    cases t with
    | zero => exact h0
    | succ t =>
      rw [stps_front]
      refine below_of s (homeTo_stp (.inl h0) hh) ?_ t (by omega)
      rw [← adv_lo h0 hh _ 0 rfl (Nat.zero_le _)]; exact ha
theorem adv_on {q : Nat} : ∀ (s : Nat) {l : List Card}, HomeTo l q → (∀ t, t < s → ra (stps t l) 0 < q) → ∀ d, adv (pats l q 0) (s + d) = adv (pats (stps s l) q 0) d
  | 0, l, hh, _, d => by rw [Nat.zero_add]; rfl
  | s + 1, l, hh, hb, d => by
    have h0 : ra l 0 < q := hb 0 (by omega)
    rw [show s + 1 + d = (s + d) + 1 by omega, adv_lo h0 hh _ 0 rfl (Nat.zero_le _), stps_front]
    exact adv_on s (homeTo_stp (.inl h0) hh) (fun t ht => by have := hb (t + 1) (by omega); rwa [stps_front] at this) d
/-- the steps of a stretch less its last one -/
def stl (l : List Card) (q : Nat) : Nat := shw (pats l q 0) 0
theorem holed {l : List Card} {q : Nat} (ok : DeckOk l) (hh : HomeTo l q) (hq : q < clo l) : Holed (pats l q 0) := fun p hp => by
  unfold pats at hp
  obtain ⟨m, hm, rfl⟩ := List.mem_map.mp hp
  rw [List.mem_range'_1] at hm
  obtain ⟨i, h1, h2⟩ := (clo_is ok.lo).no (m + 1) (by omega) (by omega)
  have hml : m < l.length := by have := hh.1; omega
  have hc : at0 l i ∈ ring l m := by
    rw [ring_take hml (hh.2 m (by omega))]
    refine List.mem_filter.mpr ⟨?_, decide_eq_true (by show m ≤ ra l i; omega)⟩
    rw [at0_eq (by omega)]
    exact List.mem_take_iff_getElem.mpr ⟨i, by omega, rfl⟩
  unfold pat
  refine List.count_pos_iff.mpr (List.mem_map.mpr ⟨at0 l i, hc, if_pos ?_⟩)
  have : ra l i = rch l.length (at0 l i) := rfl
  omega
theorem stretch {l : List Card} {q : Nat} (ok : DeckOk l) (hh : HomeTo l q) (hq : q < clo l) : (∀ t, t < stl l q → ra (stps t l) 0 < q) ∧ q ≤ ra (stps (stl l q) l) 0 := by
  obtain ⟨h1, h2⟩ := adv_shw (holed ok hh hq) 0
  have hb := below_of (stl l q) hh h1
  refine ⟨hb, ?_⟩
  have h3 := adv_on (stl l q) hh hb 1
  have h4 : adv (pats l q 0) (stl l q + 1) = 1 := h2
  rw [h4] at h3
  rcases Nat.lt_or_ge (ra (stps (stl l q) l) 0) q with z | z
  · have hh' : HomeTo (stps (stl l q) l) q := (within_all _ hh fun t ht => .inl (hb t ht)).1
    have h5 : adv (pats (stps (stl l q) l) q 0) 1 = adv (pats (stp (stps (stl l q) l)) q 0) 0 := adv_lo z hh' _ 0 rfl (Nat.zero_le _) 0
    rw [adv_zero] at h5
    omega
  · exact z
/-! ## how far the cards are from home, in all -/
def sm (f : Nat → Nat) : Nat → Nat
  | 0 => 0
  | n + 1 => sm f n + f n
theorem sm_shift (f : Nat → Nat) : ∀ n, sm f (n + 1) = f 0 + sm (fun i => f (i + 1)) n
  | 0 => by simp [sm]
  | n + 1 => by
    show sm f (n + 1) + f (n + 1) = _
    rw [sm_shift f n]
    show _ = f 0 + (sm (fun i => f (i + 1)) n + f (n + 1))
    omega
theorem sm_le {f g : Nat → Nat} : ∀ {n : Nat}, (∀ i, i < n → f i ≤ g i) → sm f n ≤ sm g n
  | 0, _ => Nat.le_refl _
  | n + 1, h => Nat.add_le_add (sm_le fun i hi => h i (by omega)) (h n (by omega))
theorem sm_lt {f g : Nat → Nat} : ∀ {n : Nat}, (∀ i, i < n → f i ≤ g i) → ∀ j, j < n → f j < g j → sm f n < sm g n
  | 0, _, j, hj, _ => absurd hj (Nat.not_lt_zero _)
  | n + 1, h, j, hj, hlt => by
    show sm f n + f n < sm g n + g n
    by_cases e : j = n
    · subst e
      have := sm_le (f := f) (g := g) (n := j) fun i hi => h i (by omega)
      omega
    · have := sm_lt (f := f) (g := g) (n := n) (fun i hi => h i (by omega)) j (by omega) hlt
      have := h n (by omega)
      omega
theorem sm_tail {f g : Nat → Nat} {k : Nat} (h : ∀ i, k ≤ i → f i = g i) : ∀ d, sm f (k + d) + sm g k = sm g (k + d) + sm f k
  | 0 => by rw [Nat.add_zero]; omega
  | d + 1 => by
    show sm f (k + d) + f (k + d) + _ = sm g (k + d) + g (k + d) + _
    have := sm_tail h d
    rw [h (k + d) (by omega)]; omega
def pot (l : List Card) : Nat := sm (fun i => i - ra l i) l.length
theorem pot_stp {l : List Card} (hl : 1 ≤ l.length) : pot (stp l) ≤ pot l ∧ ∀ q, 1 ≤ q → q ≤ ra l 0 → ra l q < q → pot (stp l) < pot l := by
  have hk : ra l 0 < l.length := ra_lt hl 0
  unfold pot
  rw [stp_len]
  obtain ⟨d, hd⟩ : ∃ d, l.length = ra l 0 + 1 + d := ⟨l.length - (ra l 0 + 1), by omega⟩
  have tail := sm_tail (f := fun i => i - ra (stp l) i) (g := fun i => i - ra l i) (k := ra l 0 + 1) (fun i hi => by
    show i - ra (stp l) i = i - ra l i
    rw [ra_stp hl, if_neg (by omega), if_neg (by omega)]) d
  rw [← hd] at tail
  have e1 : sm (fun i => i - ra (stp l) i) (ra l 0 + 1) = sm (fun i => i - ra (stp l) i) (ra l 0) := by
    show sm _ (ra l 0) + (ra l 0 - ra (stp l) (ra l 0)) = _
    rw [ra_stp hl, if_neg (by omega), if_pos rfl]; omega
  have e2 := sm_shift (fun i => i - ra l i) (ra l 0)
  have le1 : ∀ i, i < ra l 0 → (fun i => i - ra (stp l) i) i ≤ (fun i => (i + 1) - ra l (i + 1)) i := fun i hi => by
    show i - ra (stp l) i ≤ (i + 1) - ra l (i + 1)
    rw [ra_stp hl, if_pos hi]; omega
  have le2 := sm_le le1
  refine ⟨by omega, fun q h1 h2 h3 => ?_⟩
  have lt2 := sm_lt le1 (q - 1) (by omega) (by
    show (q - 1) - ra (stp l) (q - 1) < (q - 1 + 1) - ra l (q - 1 + 1)
    rw [ra_stp hl, if_pos (by omega), show q - 1 + 1 = q by omega]; omega)
  omega
theorem pot_stps {l : List Card} (ok : DeckOk l) : ∀ n, pot (stps n l) ≤ pot l
  | 0 => Nat.le_refl _
  | n + 1 => Nat.le_trans (pot_stp (stps_ok ok n).lo).1 (pot_stps ok n)
theorem len_stps {l : List Card} : ∀ n, (stps n l).length = l.length
  | 0 => rfl
  | n + 1 => by show (stp _).length = _; rw [stp_len, len_stps n]
theorem pot_stretch {l : List Card} {q : Nat} (ok : DeckOk l) (hh : HomeTo l q) (hq : q < clo l) (ha : ra l q < q) : pot (stps (stl l q + 1) l) < pot l := by
  obtain ⟨hb, h2⟩ := stretch ok hh hq
  have hw : Within l (q - 1) (stl l q) → True := fun _ => trivial
  have ed : ∀ s, s ≤ stl l q → (stps s l).drop q = l.drop q := by
    intro s
    induction s with
    | zero => intro _; rfl
    | succ s ih =>
      intro hs
      have := hb s (by omega)
      have e := drop_stp (l := stps s l) (q := q - 1) (by omega)
      rw [show q - 1 + 1 = q by omega] at e
      show (stp (stps s l)).drop q = _
      rw [e, ih (by omega)]
  have ee := ed _ (Nat.le_refl _)
  have e1 : at0 (stps (stl l q) l) q = at0 l q := by
    have h1 := congrArg (fun m : List Card => m[0]?) ee
    simp only [List.getElem?_drop, Nat.add_zero] at h1
    unfold at0
    rw [List.getD_eq_getElem?_getD, List.getD_eq_getElem?_getD, h1]
  have e2 : ra (stps (stl l q) l) q = ra l q := by unfold ra; rw [e1, len_stps]
  have := (pot_stp (stps_ok ok (stl l q)).lo).2 q (by omega) h2 (by rw [e2]; exact ha)
  exact Nat.lt_of_lt_of_le this (pot_stps ok _)
end Sb
end
section
set_option Elab.async false
set_option linter.all false
set_option maxRecDepth 100000
set_option maxHeartbeats 4000000
namespace Sb
open PySem PySem.Spec PyProof.Rows L2
variable {K : PySem.W.Frag} {S : Sto}
def optD : Option Str → D
  | none => .non
  | some x => .str x
def optP : Option Str → PyData
  | none => .none
  | some x => .str x
abbrev pD (p : Pat) : D := .fl (p.map optD)
@[simp] theorem bd_opt {k : Nat} {o : Option Str} : bd k (optD o) = true := by cases o <;> rfl
@[simp] theorem bd_pD {k : Nat} {p : Pat} : bd k (pD p) = true := by
  show bds k _ = true
  exact bds_map fun _ _ => bd_opt
theorem tTr_ok {fe : EF} {τ : Sl} {d : D} {b : Bool} {S S1 : Sto} (h : fe τ S = some (.ok d S1)) (h2 : truD S1 d = some b) : tTr fe τ S = some (.ok b S1) := by simp only [tTr, M.bnd, h, h2, Option.bind_some]
theorem pattern_ok {l : List Card} {m : Nat} (w : Wf S) (ok : DeckOk l) (hm : m < l.length) : M_pattern_of [dK l, .int (m : Nat)] S = some (.ok (pD (pat l m)) S) := by
  have h1 := ok.lo
  have h2 := ok.hi
  have hl := hand_len l m
  refine fnM_rt ((sSeq_nx (sSet_ok (eCB_ok (a1_ok rfl) len_deck))).trans (sRt_ok ?_))
  have e := lc_pu (fi := iSeq (eCl (M_ring_of) 2 (aCons (eVar 0) (aCons (eVar 1) (aNil))))) (g := tN 3) (t := tAll) (fe := eIf (tB (eB gGtI (eCl (M_reach_of) 2 (aCons (eVar 3) (aCons (eVar 2) (aNil)))) (eVar 1))) (eC .non) (eB gIx (eVar 3) (eC (.int 0)))) (vs := [3]) (τ := [some (dK l), some (.int (m : Nat)), some (.int (l.length : Nat)), none]) (S := S) (ds := (ring l m).map dC)
    (fun _ => true) (fun d => match d with | .tup [.str x, .int i] => optD (if m < rch l.length (x, i) then none else some x) | _ => .non) w (iSeq_ok (eCl_ok (a2_ok rfl rfl) rfl (ring_ok w ok hm)) wk_fl) wks_ds (by unfold ring; simp; omega)
    (fun d hd _ => by obtain ⟨c, _, rfl⟩ := List.mem_map.mp hd; exact bd_opt)
    (fun d hd S' _ _ => by
      obtain ⟨c, hc, rfl⟩ := List.mem_map.mp hd
      have hr := reach_n (S := S') (c := c) (n := l.length) (ok.dep _ (ring_mem hm hc)) h1
      refine ⟨_, rfl, rfl, fun _ => ?_⟩
      by_cases q : m < rch l.length c
      · refine (eIf_t (tB_ok (eB_ok (eCl_ok (a2_ok rfl rfl) rfl hr) rfl (gGt_i.trans (by rw [dec_lt, decide_eq_true q])))) rfl).trans ?_
        show _ = some (Rs.ok (optD (if m < rch l.length c then none else some c.1)) S')
        rw [if_pos q]; rfl
      · refine (eIf_f (tB_ok (eB_ok (eCl_ok (a2_ok rfl rfl) rfl hr) rfl (gGt_i.trans (by rw [dec_lt, decide_eq_false q])))) (eB_ok rfl rfl ix_name)).trans ?_
        show _ = some (Rs.ok (optD (if m < rch l.length c then none else some c.1)) S')
        rw [if_neg q]; rfl)
  rw [filter_tt, List.map_map] at e
  show _ = some (Rs.ok (D.fl ((pat l m).map optD)) S)
  rw [show (pat l m).map optD = (ring l m).map fun c => optD (if m < rch l.length c then none else some c.1) from by unfold pat; rw [List.map_map]; rfl]
  exact e
/-! ## what a told list of patterns shows -/
theorem toPy_pat (n : Nat) (S : Sto) (p : Pat) : toPy (n + 2) S (pD p) = some (.list (p.map optP)) := by
  show ((p.map optD).mapM (toPy (n + 1) S)).map PyData.list = _
  rw [List.mapM_map, mapM_some (f := toPy (n + 1) S ∘ optD) (g := optP) fun x _ => by cases x <;> rfl]
  rfl
def PatNm (p : Pat) : Prop := ∀ x, some x ∈ p → Nm x
theorem shp_pat {p : Pat} (h : PatNm p) : SeqAt.shaped (.list (p.map optP)) = true := by
  unfold SeqAt.shaped
  have e1 : PyData.canLay0 (.list (p.map optP)) = true := lay_all fun x hx => by
    cases x with
    | none => rfl
    | some x => exact nm_ok (h x hx)
  have e2 : PyData.depth (.list (p.map optP)) ≤ 1 := Nat.succ_le_succ (depth_all (k := 0) fun x _ => by cases x <;> exact Nat.le_refl 0)
  rw [e1, Bool.true_and]
  exact decide_eq_true (Nat.le_trans e2 (by decide))
theorem cnt_none {ds : List D} {p : Pat} (hp : PatNm p) (e : ds = p.map optD) : gCount (.fl ds) [.non] S = some (.int (p.count none : Nat), S) := by
  subst e
  have h1 : toPy 8 S (.fl (p.map optD)) = some (.list (p.map optP)) := toPy_pat 6 S p
  have h2 : toPy 8 S .non = some .none := rfl
  have h3 : SeqAt.shaped .none = true := by decide +kernel
  simp only [gCount, h1, h2, shp_pat hp, h3, and_self, if_true]
  have : (p.map optP).countP (fun z => PyData.eqv z .none) = p.count none := by
    rw [List.countP_map, List.count]
    refine List.countP_congr fun x _ => ?_
    cases x with
    | none => simp [optP, PyData.eqv]
    | some x => simp [optP, PyData.eqv]
  rw [this]
theorem len_fl {ds : List D} : gLenX [.fl ds] S = some (.int ds.length, S) := by simp [gLenX, gLen, seqD]
theorem cut_fl {ds : List D} {b : Nat} : gSl (.fl ds) none (some (b : Nat)) S = some (.fl (ds.take b), S) := by
  have : cutD ds none (some (b : Int)) = ds.take b := by
    unfold cutD
    rw [HT.sIx_nat, HT.sIx_none, List.drop_zero, Nat.sub_zero]
    by_cases h : b ≤ ds.length
    · rw [Nat.min_eq_left h]
    · rw [Nat.min_eq_right (by omega), List.take_of_length_le (Nat.le_refl _), List.take_of_length_le (by omega)]
  simp only [gSl, this]
theorem gMod_n {i j : Nat} (h : 0 < j) : gMod (.int (i : Nat)) (.int (j : Nat)) S = some (.int (i % j : Nat), S) := by
  have : (0 : Int) < (j : Nat) := by omega
  simp only [gMod, gI, decide_eq_true this, if_true]
  rfl
theorem gMul_n {i j : Nat} (h : i < 2 ^ 400000) (h2 : j < 2 ^ 400000) : gMul (.int (i : Nat)) (.int (j : Nat)) S = some (.int (i * j : Nat), S) := by
  have : (((i : Nat) : Int)).natAbs.log2 + (((j : Nat) : Int)).natAbs.log2 < 1000000 := by
    have a : (((i : Nat) : Int)).natAbs.log2 < 400000 := log2_lt (by decide) h
    have b : (((j : Nat) : Int)).natAbs.log2 < 400000 := log2_lt (by decide) h2
    omega
  simp only [gMul, gI, decide_eq_true this, if_true]
  rfl
theorem nxt_le {p : Pat} (i : Nat) : nxt p i ≤ i := by
  unfold nxt
  have h1 : p.count none ≤ p.length := List.count_le_length
  have h2 : (p.take (i % p.length)).count none ≤ i % p.length := Nat.le_trans List.count_le_length (by rw [List.length_take]; omega)
  have h3 := Nat.div_add_mod i p.length
  have h4 : i / p.length * p.count none ≤ p.length * (i / p.length) := by rw [Nat.mul_comm p.length]; exact Nat.mul_le_mul_left _ h1
  omega
end Sb
end
section
set_option Elab.async false
set_option linter.all false
set_option maxRecDepth 100000
set_option maxHeartbeats 4000000
namespace Sb
open PySem PySem.Spec PyProof.Rows L2
/-! ## comprehensions that draw -/
/-- a list under way behind S1, at its end -/
structure Und (n k : Nat) (S1 S' : Sto) (acc : List D) : Prop where
  len : S'.length = S1.length + 1
  at_ : S'[S1.length]? = some (.lst acc)
  keep : ∀ j, j ≠ n → j < S1.length → S'[j]? = S1[j]?
  sp : Spr n k S'
  wf : Wf S'
theorem Und.take {n k : Nat} {S1 S' : Sto} {acc : List D} (u : Und n k S1 S' acc) (hn : n < S1.length) (w : Wf S1) : Sm n S1 (S'.take S1.length) ∧ Spr n k (S'.take S1.length) ∧ Wf (S'.take S1.length) := by
  have sm : Sm n S1 (S'.take S1.length) := ⟨by rw [List.length_take, u.len]; omega, fun i hi => by
    by_cases q : i < S1.length
    · rw [List.getElem?_take_of_lt q]; exact u.keep i hi q
    · rw [List.getElem?_eq_none (by rw [List.length_take]; omega), List.getElem?_eq_none (by omega)]⟩
  have sp' : Spr n k (S'.take S1.length) := by
    obtain ⟨a, b, c, e, r⟩ := u.sp
    exact ⟨a, b, c, by rw [List.getElem?_take_of_lt hn]; exact e, r⟩
  exact ⟨sm, sp', sm.wf w sp'⟩
/-! ## decks alike above a place -/
structure Top (c : Nat) (l m : List Card) : Prop where
  h1 : c ≤ l.length
  h2 : c ≤ m.length
  nm : ∀ i, i < c → (at0 l i).1 = (at0 m i).1
  ra : ∀ i, i < c → ra l i = ra m i
  lt : ∀ i, i < c → Sb.ra l i < c
theorem Top.pos {c : Nat} {l m : List Card} (t : Top c l m) (h : 1 ≤ c) : 1 ≤ l.length ∧ 1 ≤ m.length := ⟨Nat.le_trans h t.h1, Nat.le_trans h t.h2⟩
theorem Top.stp {c : Nat} {l m : List Card} (t : Top c l m) (h : 1 ≤ c) : Top c (stp l) (stp m) := by
  obtain ⟨p1, p2⟩ := t.pos h
  have h0 := t.lt 0 h
  have e0 := t.ra 0 h
  refine ⟨by rw [stp_len]; exact t.h1, by rw [stp_len]; exact t.h2, fun i hi => ?_, fun i hi => ?_, fun i hi => ?_⟩
  · rw [stp_at0 p1, stp_at0 p2, ← e0]
    split
    · exact t.nm _ (by omega)
    · split
      · exact t.nm _ h
      · exact t.nm _ hi
  · rw [ra_stp p1, ra_stp p2, ← e0]
    split
    · exact t.ra _ (by omega)
    · split
      · rfl
      · exact t.ra _ hi
  · exact clo_all p1 c h t.lt i hi
theorem Top.stps {c : Nat} {l m : List Card} (t : Top c l m) (h : 1 ≤ c) : ∀ n, Top c (stps n l) (stps n m)
  | 0 => t
  | n + 1 => (t.stps h n).stp h
theorem Top.clo {l m : List Card} (hl : 1 ≤ l.length) (t : Top (clo l) l m) : Sb.clo m = Sb.clo l := by
  have A := clo_is hl
  have B := clo_is (l := m) (t.pos A.lo).2
  refine B.uniq ⟨A.lo, t.h2, fun i hi => by rw [← t.ra i hi]; exact A.all i hi, fun k h1 h2 => ?_⟩
  obtain ⟨i, h3, h4⟩ := A.no k h1 h2
  exact ⟨i, h3, by rw [← t.ra i (by omega)]; exact h4⟩
/-- hands by their places -/
theorem take_range {l : List Card} {m : Nat} (h : m ≤ l.length) : l.take m = (List.range m).map (at0 l) := by
  refine List.ext_getElem (by simp; omega) fun i h1 h2 => ?_
  simp at h1 h2
  rw [List.getElem_take, List.getElem_map, List.getElem_range, at0_eq (by omega)]
theorem hand_range {l : List Card} {m : Nat} (h : m ≤ l.length) : hand l m = ((List.range m).filter fun i => decide (m ≤ ra l i)).map (at0 l) := by
  unfold hand
  rw [take_range h, List.filter_map]; rfl
theorem Top.hand {c m : Nat} {l k : List Card} (t : Top c l k) (h : m ≤ c) : nms (Sb.hand k m) = nms (Sb.hand l m) := by
  rw [hand_range (Nat.le_trans h t.h1), hand_range (Nat.le_trans h t.h2)]
  unfold nms
  rw [List.map_map, List.map_map]
  have e : ((List.range m).filter fun i => decide (m ≤ Sb.ra k i)) = (List.range m).filter fun i => decide (m ≤ Sb.ra l i) := List.filter_congr fun i hi => by rw [t.ra i (by have := List.mem_range.mp hi; omega)]
  rw [e]
  exact List.map_congr_left fun i hi => (t.nm i (by have := List.mem_range.mp (List.mem_filter.mp hi).1; omega)).symm
theorem Top.ring {c m : Nat} {l k : List Card} (t : Top c l k) (h : m < c) : nms (Sb.ring k m) = nms (Sb.ring l m) := by
  have e := t.hand (m := m) (by omega)
  unfold Sb.ring nms at *
  rw [List.map_append, List.map_append, e, List.map_singleton, List.map_singleton, t.nm m h]
end Sb
end
section
set_option Elab.async false
set_option linter.all false
set_option maxRecDepth 100000
set_option maxHeartbeats 4000000
namespace Sb
open PySem PySem.Spec PyProof.Rows L2
variable {K : PySem.W.Frag} {S : Sto}
/-! ### a deck as lists of lists -/
abbrev oC (c : Card) : Ob := .lst [.str c.1, .int c.2]
/-- a card as a list -/
abbrev fC (c : Card) : D := .fl [.str c.1, .int c.2]
/-! ### a deck handed in otherwise -/
def HD (l : List Card) (d : D) : Prop := ∃ es : List D, (d = .tup es ∨ d = .fl es) ∧ es.length = l.length ∧ ∀ i, (h : i < l.length) → es[i]? = some (dC l[i]) ∨ es[i]? = some (fC l[i])
theorem HD.deck {l : List Card} {d : D} (h : HD l d) : isDeck S d l := by
  obtain ⟨es, h1, h2, h3⟩ := h
  refine ⟨es, h1.imp id .inl, h2, fun i e c he hc => ?_⟩
  obtain ⟨hi, rfl⟩ := List.getElem?_eq_some_iff.mp hc
  rcases h3 i hi with q | q
  · rw [he] at q; cases q; exact .inl rfl
  · rw [he] at q; cases q; exact .inr (.inl rfl)
theorem HD.items {l : List Card} {es : List D} (h2 : es.length = l.length) (h3 : ∀ i, (h : i < l.length) → es[i]? = some (dC l[i]) ∨ es[i]? = some (fC l[i])) : ∀ e ∈ es, ∃ c ∈ l, e = dC c ∨ e = fC c := fun e he => by
  obtain ⟨i, hi, rfl⟩ := List.getElem_of_mem he
  have hi' : i < l.length := by omega
  refine ⟨l[i], List.getElem_mem hi', ?_⟩
  rcases h3 i hi' with q | q <;> rw [List.getElem?_eq_getElem hi] at q
  · exact .inl (Option.some.inj q)
  · exact .inr (Option.some.inj q)
theorem HD.bd {l : List Card} {d : D} (h : HD l d) {k : Nat} : Sb.bd k d = true := by
  obtain ⟨es, h1, h2, h3⟩ := h
  have : bds k es = true := bds_all.mpr fun e he => by
    obtain ⟨c, _, q | q⟩ := HD.items h2 h3 e he <;> rw [q] <;> rfl
  rcases h1 with rfl | rfl <;> simpa [Sb.bd] using this
def Big (l : List Card) : Prop := ∀ c ∈ l, c.2 < 10 ^ 40
theorem Big.stp {l : List Card} (h : Big l) : Big (stp l) := fun c hc => h c ((stp_perm l).mem_iff.mp hc)
abbrev pF (c : Card) : PyData := .list [.str c.1, .int c.2]
/-- its repr -/
theorem shown_card {c : Card} (hn : Nm c.1) (h0 : 0 ≤ c.2) (hb : c.2 < 10 ^ 40) : ∀ p, p = pC c ∨ p = pF c → PyData.showable p = true ∧ PyData.hasDict p = false ∧ PyData.leavesShort 50 p = true ∧ PyData.weight p ≤ 200 ∧ PyData.depth p ≤ 1 := by
  have e40 : (10 : Int) ^ 40 = 10000000000000000000000000000000000000000 := by decide
  have hlog : c.2.natAbs.log2 < 140 := log2_lt (by decide) (by
    have : (2 : Nat) ^ 140 = 1393796574908163946345982392040522594123776 := by decide
    rw [this]; omega)
  have hs : PyData.showable (.int c.2) = true := decide_eq_true (by omega)
  have hz : c.1.cps.size ≤ 8 := hn.hi
  have hl : PyData.leavesShort 50 (.int c.2) = true := by
    refine decide_eq_true ?_
    have e := int_text_length_le10 (a := c.2) (k := 40) (by decide) (by
      have : (10 : Nat) ^ 40 = 10000000000000000000000000000000000000000 := by decide
      rw [this]; omega)
    show (Str.ofString (toString c.2)).length ≤ 50
    rw [PySem.ofString_length]; omega
  have hl2 : PyData.leavesShort 50 (.str c.1) = true := by
    simp only [PyData.leavesShort, List.all_eq_true, decide_eq_true_eq]
    intro x hx
    have := (hn.let_ x hx).2
    have e : (16 : Nat) ^ 8 = 4294967296 := by decide
    omega
  have hw : PyData.weight (.int c.2) ≤ 141 := by simp only [PyData.weight]; split <;> omega
  rintro p (rfl | rfl) <;> refine ⟨?_, rfl, ?_, ?_, ?_⟩
  · simp only [pC, PyData.showable, PyData.showableAll]; rw [decide_eq_true (by omega)]; rfl
  · simp only [pC, PyData.leavesShort, PyData.leavesShortAll] at hl hl2 ⊢; rw [hl, hl2]; rfl
  · simp only [pC, PyData.weight, PyData.weightAll] at hw ⊢; omega
  · exact dep_card c
  · simp only [pF, PyData.showable, PyData.showableAll]; rw [decide_eq_true (by omega)]; rfl
  · simp only [pF, PyData.leavesShort, PyData.leavesShortAll] at hl hl2 ⊢; rw [hl, hl2]; rfl
  · simp only [pF, PyData.weight, PyData.weightAll] at hw ⊢; omega
  · exact dep_card c
theorem all_show {ps : List PyData} {N : Nat} (h : ∀ p ∈ ps, PyData.showable p = true ∧ PyData.hasDict p = false ∧ PyData.leavesShort 50 p = true ∧ PyData.weight p ≤ 200 ∧ PyData.depth p ≤ 1) (hl : ps.length ≤ N) :
    PyData.showableAll ps = true ∧ PyData.hasDictAll ps = false ∧ PyData.leavesShortAll 50 ps = true ∧ PyData.weightAll ps ≤ 201 * ps.length ∧ PyData.depthAll ps ≤ 1 := by
  induction ps generalizing N with
  | nil => exact ⟨rfl, rfl, rfl, Nat.zero_le _, Nat.zero_le _⟩
  | cons p ps ih =>
    obtain ⟨h1, h2, h3, h4, h5⟩ := h p List.mem_cons_self
    obtain ⟨g1, g2, g3, g4, g5⟩ := ih (N := ps.length) (fun q hq => h q (List.mem_cons_of_mem _ hq)) (Nat.le_refl _)
    refine ⟨?_, ?_, ?_, ?_, ?_⟩
    · simp only [PyData.showableAll, h1, g1, Bool.and_self]
    · simp only [PyData.hasDictAll, h2, g2, Bool.or_self]
    · simp only [PyData.leavesShortAll, h3, g3, Bool.and_self]
    · simp only [PyData.weightAll, List.length_cons]; omega
    · simp only [PyData.depthAll]; exact Nat.max_le.mpr ⟨h5, g5⟩
theorem HD.repr {l : List Card} {d : D} (h : HD l d) (ok : DeckOk l) (hb : Big l) : ∃ t : Str, ∀ S : Sto, gRepr [d] S = some (.str t, S) := by
  obtain ⟨es, h1, h2, h3⟩ := h
  have hi := HD.items h2 h3
  let pf : D → PyData := fun e => match e with | .tup [.str x, .int i] => pC (x, i) | .fl [.str x, .int i] => pF (x, i) | _ => .none
  have hm : ∀ (n : Nat) (S : Sto), es.mapM (toPy (n + 2) S) = some (es.map pf) := fun n S => mapM_some fun e he => by
    obtain ⟨c, _, q | q⟩ := hi e he <;> rw [q] <;> rfl
  have hs := all_show (ps := es.map pf) (N := 40) (fun p hp => by
    obtain ⟨e, he, rfl⟩ := List.mem_map.mp hp
    obtain ⟨c, hc, q | q⟩ := hi e he <;> rw [q]
    · exact shown_card (ok.nm c hc) (ok.dep c hc) (hb c hc) _ (.inl rfl)
    · exact shown_card (ok.nm c hc) (ok.dep c hc) (hb c hc) _ (.inr rfl)) (by have := ok.hi; simp; omega)
  obtain ⟨g1, g2, g3, g4, g5⟩ := hs
  have hlen : (es.map pf).length ≤ 40 := by have := ok.hi; simp; omega
  have hz := sizeLine_eq
  have key : ∀ p : PyData, (p = .tuple (es.map pf) ∨ p = .list (es.map pf)) → p.showable = true ∧ p.hasDict = false ∧ p.depth ≤ 8 ∧ p.shown.length ≤ sizeLine := by
    rintro p (rfl | rfl)
    · refine ⟨by simp only [PyData.showable, g1], by simp only [PyData.hasDict, g2], by simp only [PyData.depth]; omega, ?_⟩
      have := PyData.shown_le 50 (by decide) (.tuple (es.map pf)) (by simp only [PyData.leavesShort, g3])
      simp only [PyData.weight] at this
      omega
    · refine ⟨by simp only [PyData.showable, g1], by simp only [PyData.hasDict, g2], by simp only [PyData.depth]; omega, ?_⟩
      have := PyData.shown_le 50 (by decide) (.list (es.map pf)) (by simp only [PyData.leavesShort, g3])
      simp only [PyData.weight] at this
      omega
  rcases h1 with rfl | rfl
  · refine ⟨PyData.shown (.tuple (es.map pf)), fun S => ?_⟩
    have e : toPy 8 S (.tup es) = some (.tuple (es.map pf)) := by show (es.mapM (toPy 7 S)).map PyData.tuple = _; rw [hm 5 S]; rfl
    simp only [gRepr, e, Option.bind_some, if_pos (key _ (.inl rfl))]
  · refine ⟨PyData.shown (.list (es.map pf)), fun S => ?_⟩
    have e : toPy 8 S (.fl es) = some (.list (es.map pf)) := by show (es.mapM (toPy 7 S)).map PyData.list = _; rw [hm 5 S]; rfl
    simp only [gRepr, e, Option.bind_some, if_pos (key _ (.inr rfl))]
theorem gEqS_same {x : Str} : gEqS true (.str x) (.str x) S = some (.bl false, S) := by simp [gEqS]
end Sb
end
section
set_option Elab.async false
set_option linter.all false
set_option maxRecDepth 100000
set_option maxHeartbeats 4000000
namespace Sb
open PySem PySem.Spec PyProof.Rows L2
variable {K : PySem.W.Frag} {S : Sto}
/-! ## alike, of the same kinds all through -/
def Rl : Nat → Sto → D → D → Prop
  | 0, _, _, _ => False
  | n + 1, S, d, e => (d = .non ∧ e = .non) ∨ (∃ b, d = .bl b ∧ e = .bl b) ∨ (∃ i, d = .int i ∧ e = .int i) ∨ (∃ x, SeqAt.shaped (.str x) = true ∧ d = .str x ∧ e = .str x) ∨
    ∃ (ds es : List D) (c : String), kindD S d = some c ∧ kindD S e = some c ∧ (c = "list" ∨ c = "tuple") ∧ seqD S d = some ds ∧ seqD S e = some es ∧ ds.length = es.length ∧ es.length ≤ 10000 ∧ ∀ (i : Nat) (a b : D), ds[i]? = some a → es[i]? = some b → Rl n S a b
theorem seqD_app {d : D} {ds : List D} {X : Sto} (h : seqD S d = some ds) : seqD (S ++ X) d = some ds := by
  cases d with
  | loc n =>
    simp only [seqD] at h ⊢
    split at h
    · rename_i q; cases h; rw [pre_get q]
    · cases h
  | _ => exact h
theorem kindD_app {d : D} {c : String} {X : Sto} (h : kindD S d = some c) : kindD (S ++ X) d = some c := by
  cases d with
  | loc n =>
    simp only [kindD] at h ⊢
    split at h
    · rename_i q; rw [pre_get q]; exact h
    · rename_i q; rw [pre_get q]; exact h
    · cases h
  | _ => exact h
theorem Rl.app : ∀ {n : Nat} {d e : D} {X : Sto}, Rl n S d e → Rl n (S ++ X) d e
  | 0, _, _, _, h => h
  | n + 1, d, e, X, h => by
    rcases h with h | h | h | h | ⟨ds, es, c, h1, h2, h3, h4, h5, h6, h7, h8⟩
    · exact .inl h
    · exact .inr (.inl h)
    · exact .inr (.inr (.inl h))
    · exact .inr (.inr (.inr (.inl h)))
    · exact .inr (.inr (.inr (.inr ⟨ds, es, c, kindD_app h1, kindD_app h2, h3, seqD_app h4, seqD_app h5, h6, h7, fun i a b ha hb => (h8 i a b ha hb).app⟩)))
theorem ix_seq' {d : D} {ds : List D} {i : Nat} {x : D} {c : String} (hk : kindD S d = some c) (h : seqD S d = some ds) (hx : ds[i]? = some x) : gIx d (.int (i : Nat)) S = some (x, S) := by
  have hi := (List.getElem?_eq_some_iff.mp hx).1
  have h1 : ((i : Nat) : Int) < (ds.length : Int) := by omega
  have h0 : (0 : Int) ≤ (i : Nat) := by omega
  cases d with
  | str z => cases h
  | _ => simp only [gIx, h, Option.bind_some, atI, ixN, if_pos h0, if_pos h1, Int.toNat_natCast, hx]
theorem eAnd_t {fa fb : EF} {τ : Sl} {S S1 : Sto} {d : D} {o : Option (Rs D)} (h : fa τ S = some (.ok d S1)) (ht : truD S1 d = some true) (h2 : fb τ S1 = o) : eAnd fa fb τ S = o := by
  simp only [eAnd, M.bnd, h, ht, Option.bind_some, if_true, h2]
theorem eIs_ok {n : String} {f : EF} {τ : Sl} {d : D} {S S1 : Sto} {c : String} {b : Bool} (h : f τ S = some (.ok d S1)) (hk : kindD S1 d = some c) (hb : kitB c n = some b) : eIs n f τ S = some (.ok (.bl b) S1) := by
  simp only [eIs, M.bnd, h, hk, hb, Option.bind_some]
/-- what has no place in the store is alike itself -/
def shD : Nat → D → Bool
  | 0, _ => false
  | n + 1, d => match d with
    | .non => true
    | .bl _ => true
    | .int _ => true
    | .str x => SeqAt.shaped (.str x)
    | .tup ds => decide (ds.length ≤ 10000) && ds.all (shD n)
    | .fl ds => decide (ds.length ≤ 10000) && ds.all (shD n)
    | _ => false
theorem Rl.self : ∀ {n : Nat} {d : D}, shD n d = true → Rl n S d d
  | 0, _, h => by cases h
  | n + 1, d, h => by
    cases d with
    | non => exact .inl ⟨rfl, rfl⟩
    | bl b => exact .inr (.inl ⟨b, rfl, rfl⟩)
    | int i => exact .inr (.inr (.inl ⟨i, rfl, rfl⟩))
    | str x => exact .inr (.inr (.inr (.inl ⟨x, h, rfl, rfl⟩)))
    | tup ds =>
      simp only [shD, Bool.and_eq_true, decide_eq_true_eq, List.all_eq_true] at h
      exact .inr (.inr (.inr (.inr ⟨ds, ds, "tuple", rfl, rfl, .inr rfl, rfl, rfl, rfl, h.1, fun i a b ha hb => by rw [ha] at hb; cases hb; exact Rl.self (h.2 a (List.mem_of_getElem? ha))⟩)))
    | exn c => cases h
    | rgo lo hi => cases h
    | ntu ds => cases h
    | fd ks ds => cases h
    | fl ds =>
      simp only [shD, Bool.and_eq_true, decide_eq_true_eq, List.all_eq_true] at h
      exact .inr (.inr (.inr (.inr ⟨ds, ds, "list", rfl, rfl, .inl rfl, rfl, rfl, rfl, h.1, fun i a b ha hb => by rw [ha] at hb; cases hb; exact Rl.self (h.2 a (List.mem_of_getElem? ha))⟩)))
    | loc n => cases h
    | scr n => cases h
theorem Rl.lst {n k : Nat} {ds : List D} (h : S[k]? = some (.lst ds)) (hl : ds.length ≤ 10000) (hs : ∀ d ∈ ds, shD n d = true) : Rl (n + 1) S (.loc k) (.fl ds) :=
  .inr (.inr (.inr (.inr ⟨ds, ds, "list", by simp [kindD, h], rfl, .inl rfl, by simp [seqD, h], rfl, rfl, hl, fun i a b ha hb => by rw [ha] at hb; cases hb; exact Rl.self (hs a (List.mem_of_getElem? ha))⟩)))
theorem shD_names {n : Nat} {l : List Str} (hl : l.length ≤ 10000) (h : ∀ x ∈ l, Nm x) : shD (n + 2) (.fl (l.map D.str)) = true := by
  simp only [shD, Bool.and_eq_true, decide_eq_true_eq, List.all_eq_true]
  refine ⟨by simpa using hl, fun d hd => ?_⟩
  obtain ⟨x, hx, rfl⟩ := List.mem_map.mp hd
  exact shp_str (h x hx)
end Sb
end
section
set_option Elab.async false
set_option linter.all false
set_option maxRecDepth 100000
set_option maxHeartbeats 4000000
namespace Sb
open PySem PySem.Spec PyProof.Rows L2
variable {K : PySem.W.Frag} {S : Sto}
/-! ## lists of lists that are changed in place -/
structure HeldQ (p : Nat) (l : List Card) (qs : List Nat) (S : Sto) : Prop where
  at_ : S[p]? = some (.lst (qs.map D.loc))
  len : qs.length = l.length
  nd : qs.Nodup
  gt : ∀ q ∈ qs, p < q
  obj : ∀ (i : Nat) (q : Nat) (c : Card), qs[i]? = some q → l[i]? = some c → S[q]? = some (oC c)
def Held (p : Nat) (l : List Card) (S : Sto) : Prop := ∃ qs, HeldQ p l qs S
theorem Held.deck {p : Nat} {l : List Card} (h : Held p l S) : isDeck S (.loc p) l := by
  obtain ⟨qs, h⟩ := h
  refine ⟨qs.map D.loc, .inr (.inr ⟨p, rfl, h.at_⟩), by simp [h.len], fun i e c he hc => ?_⟩
  rw [List.getElem?_map, Option.map_eq_some_iff] at he
  obtain ⟨q, hq, rfl⟩ := he
  exact .inr (.inr ⟨q, rfl, h.obj i q c hq hc⟩)
theorem HeldQ.sm {n p : Nat} {l : List Card} {qs : List Nat} {S S' : Sto} (h : HeldQ p l qs S) (sm : Sm n S S') (hn : n < p) : HeldQ p l qs S' :=
  ⟨sm.get h.at_ (by omega), h.len, h.nd, h.gt, fun i q c hq hc => sm.get (h.obj i q c hq hc) (by have := h.gt q (List.mem_of_getElem? hq); omega)⟩
end Sb
end
section
set_option Elab.async false
set_option linter.all false
set_option maxRecDepth 100000
set_option maxHeartbeats 4000000
namespace Sb
open PySem PySem.Spec PyProof.Rows L2
variable {K : PySem.W.Frag} {S : Sto}
/-- what lies below p stands, but the spring -/
structure Bel (n p : Nat) (S S' : Sto) : Prop where
  len : S'.length = S.length
  at_ : ∀ j, j < p → j ≠ n → S'[j]? = S[j]?
theorem Bel.trans {n p : Nat} {S S1 S2 : Sto} (a : Bel n p S S1) (b : Bel n p S1 S2) : Bel n p S S2 := ⟨b.len.trans a.len, fun j h1 h2 => (b.at_ j h1 h2).trans (a.at_ j h1 h2)⟩
theorem Bel.set {n p q : Nat} {o : Ob} (h : p ≤ q) : Bel n p S (S.set q o) := ⟨by simp, fun j h1 _ => List.getElem?_set_ne (by omega)⟩
theorem Bel.refl {n p : Nat} : Bel n p S S := ⟨rfl, fun _ _ _ => rfl⟩
theorem sPut_ok {fe fo fi : EF} {τ : Sl} {d x y : D} {S S1 S2 S3 S4 : Sto} (h1 : fe τ S = some (.ok d S1)) (h2 : fo τ S1 = some (.ok x S2)) (h3 : fi τ S2 = some (.ok y S3)) (h4 : putD x y d S3 = some S4) : sPut fe fo fi τ S = some (.nx τ, S4) := by
  simp only [sPut, sx, h1, h2, h3, h4, Option.bind_some]
theorem putD_ok {p i : Nat} {es : List D} {d : D} (h : S[p]? = some (.lst es)) (hi : i < es.length) : putD (.loc p) (.int (i : Nat)) d S = some (S.set p (.lst (es.set i d))) := by
  have h1 : ((i : Nat) : Int) < (es.length : Int) := by omega
  have h0 : (0 : Int) ≤ (i : Nat) := by omega
  simp only [putD, listD, h, Option.bind_some, ixN, if_pos h0, if_pos h1, Int.toNat_natCast]
theorem ix_loc {p i : Nat} {es : List D} {x : D} (h : S[p]? = some (.lst es)) (hx : es[i]? = some x) : gIx (.loc p) (.int (i : Nat)) S = some (x, S) :=
  ix_seq' (c := "list") (by simp [kindD, h]) (by simp [seqD, h]) hx
end Sb
end
section
set_option Elab.async false
set_option linter.all false
set_option maxRecDepth 100000
set_option maxHeartbeats 4000000
namespace Sb
open PySem PySem.Spec PyProof.Rows L2
variable {K : PySem.W.Frag} {S : Sto}
theorem iRg2_ok {r : AF} {τ : Sl} {a b : Nat} {S S1 : Sto} (h1 : r τ S = some (.ok [.int (a : Nat), .int (b : Nat)] S1)) (hb : b ≤ 1000000) (ha : a ≤ 1000000) : iRg2 r τ S = some (.ok (wkR a (b - a)) S1) := by
  have e : ((b : Int) - (a : Int)).toNat = b - a := by omega
  have c : -(2 ^ 62) ≤ (a : Int) ∧ (a : Int) < 2 ^ 62 ∧ -(2 ^ 62) ≤ (b : Int) ∧ (b : Int) < 2 ^ 62 := by refine ⟨?_, ?_, ?_, ?_⟩ <;> omega
  simp only [iRg2, M.bnd, h1]
  first | (rw [if_pos c, e]) | (simp [c, e])
theorem rg2_nxt {a n i : Nat} (h : i < n) : (wkR a n).nxt i S = some (some (.int (a + i : Nat))) := by
  simp only [wkR, if_pos h]; congr 3
theorem rg2_end {a n : Nat} : (wkR a n).nxt n S = some none := by simp [wkR]
end Sb
end
section
set_option Elab.async false
set_option linter.all false
set_option maxRecDepth 100000
set_option maxHeartbeats 4000000
namespace Sb
open PySem PySem.Spec PyProof.Rows L2
variable {K : PySem.W.Frag} {S : Sto}
/-- raw lists of names -/
theorem lc_raw {fi : IF} {g : TF} {fe : EF} {vs : List Nat} {τ : Sl} {S : Sto} {wk : Wk} {ds : List D} (q : D → D) (w : Wf S) (hi : fi τ S = some (.ok wk S)) (hw : Wks wk ds fun S' => ∃ X, S' = S ++ X)
    (hl : ds.length ≤ 100000) (hb : ∀ d ∈ ds, bd S.length (q d) = true)
    (h : ∀ d ∈ ds, ∀ S', Wf S' → (∃ X, S' = S ++ X) → ∃ τ1, g d S' (wipeD τ vs) = some τ1 ∧ fe τ1 S' = some (.ok (q d) S')) :
    eLc fi g tAll fe vs τ S = some (.ok (.loc S.length) (S ++ [.lst (ds.map q)])) := by
  have bdq : ∀ i, bds S.length ((ds.take i).map q) = true := fun i => bds_map fun x hx => hb x (List.mem_of_mem_take hx)
  obtain ⟨S', L, rfl⟩ := goC_inv (nxt := wk.nxt) (g := g) (t := tAll) (fe := fe) (l := S.length) (τ0 := wipeD τ vs) (n := ds.length)
    (fun i S' => S' = S ++ [.lst ((ds.take i).map q)]) (fun i => ds.getD i default)
    (fun i S' hi e => by
      subst e
      have e3 := List.getElem?_eq_getElem hi
      have e4 : ds.getD i default = ds[i] := by rw [List.getD_eq_getElem?_getD, e3]; rfl
      have hw' : Wf (S ++ [.lst ((ds.take i).map q)]) := wf_app w (bds_mono (Nat.le_add_right _ _) _ (bdq i))
      obtain ⟨τ1, h1, h3⟩ := h ds[i] (List.getElem_mem hi) _ hw' ⟨_, rfl⟩
      refine ⟨by rw [hw.nxt i _ ⟨_, rfl⟩, e4, e3], τ1, by rw [e4]; exact h1, ?_⟩
      have et : ds.take (i + 1) = ds.take i ++ [ds[i]] := by rw [List.take_append_getElem hi]
      refine .inr ⟨_, q ds[i], _, _, rfl, h3, get_last _ _, ?_, ?_⟩
      · have : ((ds.take i).map q).length ≤ i := by rw [List.length_map, List.length_take]; omega
        have := sizeLine_eq
        omega
      · rw [set_last, et, List.map_append]; rfl)
    (fun S' e => by subst e; rw [hw.nxt _ _ ⟨_, rfl⟩, List.getElem?_eq_none (Nat.le_refl _)]) (wk.bound + 1) 0 (S ++ [.lst []]) (Nat.zero_le _) (by have := hw.bound; omega) (by simp)
  rw [List.take_length] at L
  simp only [eLc, hi, L, Option.bind_some]
/-- two lists of two, alike each by each -/
theorem Rl.two {n : Nat} {a b c d : D} (h1 : Rl n S a c) (h2 : Rl n S b d) : Rl (n + 1) S (.fl [a, b]) (.fl [c, d]) :=
  .inr (.inr (.inr (.inr ⟨[a, b], [c, d], "list", rfl, rfl, .inl rfl, rfl, rfl, rfl, by simp, fun i x y hx hy => by
    match i with
    | 0 => cases hx; cases hy; exact h1
    | 1 => cases hx; cases hy; exact h2
    | i + 2 => simp at hx⟩)))
theorem Rl.bl {n : Nat} {b : Bool} : Rl (n + 1) S (.bl b) (.bl b) := .inr (.inl ⟨_, rfl, rfl⟩)
theorem Rl.names {n : Nat} {l : List Str} (hl : l.length ≤ 1000) (h : ∀ x ∈ l, Nm x) : Rl (n + 2) S (.fl (l.map D.str)) (.fl (l.map D.str)) := Rl.self (shD_names (by omega) h)
theorem shD_deck {n : Nat} {l : List Card} (hl : l.length ≤ 10000) (h : ∀ c ∈ l, Nm c.1) : shD (n + 3) (dK l) = true := by
  simp only [dK, shD, Bool.and_eq_true, decide_eq_true_eq, List.all_eq_true]
  refine ⟨by simpa using hl, fun d hd => ?_⟩
  obtain ⟨c, hc, rfl⟩ := List.mem_map.mp hd
  simp only [dC, shD, Bool.and_eq_true, decide_eq_true_eq, List.all_eq_true]
  refine ⟨by simp, fun d hd => ?_⟩
  simp at hd
  rcases hd with rfl | rfl
  · exact shp_str (h c hc)
  · rfl
theorem Rl.deck {n : Nat} {l : List Card} (ok : DeckOk l) : Rl (n + 3) S (dK l) (dK l) := Rl.self (shD_deck (by have := ok.hi; omega) ok.nm)
end Sb
end
section
set_option Elab.async false
set_option linter.all false
set_option maxRecDepth 100000
set_option maxHeartbeats 4000000
namespace Sb
open PySem PySem.Spec PyProof.Rows L2
variable {K : PySem.W.Frag} {S : Sto}
/-! ## draws from any source: P n k S, the source lies at n and has been asked k times at most -/
structure Src (P : Nat → Nat → Sto → Prop) : Prop where
  fr : ∀ {n k : Nat} {S S' : Sto}, P n k S → S'[n]? = S[n]? → P n k S'
  ex : ∀ {n k : Nat} {S : Sto}, P n k S → ∃ o, S[n]? = some o ∧ bdO 0 o = true
  mono : ∀ {n k k' : Nat} {S : Sto}, P n k S → k ≤ k' → P n k' S
/-- its def of a draw; m below 2 ^ B -/
def Drw (P : Nat → Nat → Sto → Prop) (m : List D → M D) : Prop := ∀ {n k : Nat} {S : Sto} {b : Nat}, Wf S → P n k S → k < 2 ^ 40 → 0 < b → b < 2 ^ 200 →
  ∃ (v : Nat) (S' : Sto), m [.loc n, .int (b : Nat)] S = some (.ok (.int (v : Nat)) S') ∧ v < b ∧ P n (k + 1) S' ∧ Sm n S S'
section
variable {P : Nat → Nat → Sto → Prop} (sr : Src P) {m : List D → M D}
include sr
theorem Src.lt {n k : Nat} {S : Sto} (h : P n k S) : n < S.length := by
  obtain ⟨o, e, _⟩ := sr.ex h
  exact (List.getElem?_eq_some_iff.mp e).1
theorem Src.app {n k : Nat} {S X : Sto} (h : P n k S) : P n k (S ++ X) := sr.fr h (List.getElem?_append_left (sr.lt h))
theorem Src.wf {n k : Nat} {S S' : Sto} (a : Sm n S S') (w : Wf S) (h : P n k S') : Wf S' := by
  unfold Wf wfk
  rw [List.all_eq_true]
  intro x hx
  obtain ⟨i, hi, rfl⟩ := List.getElem_of_mem hx
  rw [a.len]
  by_cases q : i = n
  · subst q
    obtain ⟨o, e, hb⟩ := sr.ex h
    have := List.getElem?_eq_getElem hi
    rw [e] at this
    rw [← Option.some.inj this]
    exact bdO_mono (Nat.zero_le _) o hb
  · have e := a.at_ i q
    rw [List.getElem?_eq_getElem hi, List.getElem?_eq_getElem (by rw [← a.len]; exact hi)] at e
    rw [Option.some.inj e]
    exact List.all_eq_true.mp w _ (List.getElem_mem _)
theorem Src.draw (dm : Drw P m) {n k j : Nat} {τ : Sl} {fm : EF} {b : Nat} (w : Wf S) (h0 : τ[j]? = some (some (.loc n))) (hm : fm τ S = some (.ok (.int (b : Nat)) S)) (h : P n k S) (hk : k < 2 ^ 40) (hm0 : 0 < b) (hm1 : b < 2 ^ 200) :
    ∃ (v : Nat) (S' : Sto), eCl m 2 (aCons (eVar j) (aCons fm aNil)) τ S = some (.ok (.int (v : Nat)) S') ∧ v < b ∧ P n (k + 1) S' ∧ Sm n S S' ∧ Wf S' := by
  obtain ⟨v, S', e, v1, sp, sm⟩ := dm w h hk hm0 hm1
  exact ⟨v, S', eCl_ok (a2_ok (by simp only [eVar, h0]) hm) rfl e, v1, sp, sm, sr.wf sm w sp⟩
/-- new objects dropped -/
theorem Src.cut {n k : Nat} {S S' : Sto} (w : Wf S) (fr : Fr n S S') (sp : P n k S') (hn : n < S.length) : Sm n S (S'.take S.length) ∧ P n k (S'.take S.length) ∧ Wf (S'.take S.length) := by
  have sm : Sm n S (S'.take S.length) := ⟨by rw [List.length_take]; have := fr.le; omega, fun i hi => by
    by_cases q : i < S.length
    · rw [List.getElem?_take_of_lt q]; exact fr.at_ i hi q
    · rw [List.getElem?_eq_none (by rw [List.length_take]; omega), List.getElem?_eq_none (by omega)]⟩
  have sp' : P n k (S'.take S.length) := sr.fr sp (by rw [List.getElem?_take_of_lt hn])
  exact ⟨sm, sp', sr.wf sm w sp'⟩
theorem Src.fz {f : EF} {τ : Sl} {S S' : Sto} {n k : Nat} {d : D} (w : Wf S) (e : f τ S = some (.ok d S')) (fr : Fr n S S') (sp : P n k S') (hn : n < S.length) (h : bd S.length d = true) :
    ∃ S1, Sb.fz f τ S = some (.ok d S1) ∧ Sm n S S1 ∧ P n k S1 ∧ Wf S1 := by
  obtain ⟨sm, sp', w'⟩ := sr.cut w fr sp hn
  refine ⟨_, ?_, sm, sp', w'⟩
  have w2 : wfk S.length (S'.take S.length) = true := by
    have := w'
    unfold Wf at this
    rwa [sm.len] at this
  rw [fz_eq, e]
  simp only [fzR, if_pos w2, rb_bd h, Option.map_some]
theorem Src.fz_lst {f : EF} {τ : Sl} {S S' : Sto} {n k j : Nat} {ds : List D} (w : Wf S) (e : f τ S = some (.ok (.loc j) S')) (e2 : S'[j]? = some (.lst ds)) (hj : S.length ≤ j) (fr : Fr n S S') (sp : P n k S') (hn : n < S.length) (h : bds S.length ds = true) :
    ∃ S1, Sb.fz f τ S = some (.ok (.fl ds) S1) ∧ Sm n S S1 ∧ P n k S1 ∧ Wf S1 := by
  obtain ⟨sm, sp', w'⟩ := sr.cut w fr sp hn
  have w2 : wfk S.length (S'.take S.length) = true := by
    have := w'
    unfold Wf at this
    rwa [sm.len] at this
  have nb : ¬ (bd S.length (.loc j) = true) := by simp only [bd, decide_eq_true_eq]; omega
  have hm : ds.mapM (rb S' S.length 7) = some ds := by
    have := mapM_some (f := rb S' S.length 7) (g := fun d => d) (l := ds) fun d hd => rb_bd (bds_all.mp h d hd)
    rwa [List.map_id'] at this
  refine ⟨_, ?_, sm, sp', w'⟩
  rw [fz_eq, e]
  simp only [fzR, if_pos w2, rb_loc nb e2, hm, Option.map_some]
end
/-! ## a comprehension whose turns may change the store -/
theorem lc_gen {fi : IF} {g : TF} {t : BF} {fe : EF} {vs : List Nat} {τ : Sl} {S S1 : Sto} {wk : Wk} {ds : List D} (J : Nat → List D → Sto → Prop) (hi : fi τ S = some (.ok wk S1)) (hl : S1.length = S.length) (w : Wf S1) (hw : Wks wk ds fun _ => True)
    (hds : ds.length ≤ 100000) (hJ : ∀ i acc S' S'', (∀ j, j < S1.length → S''[j]? = S'[j]?) → J i acc S' → J i acc S'') (h0 : J 0 [] S1)
    (hwt : ∀ acc S', J ds.length acc S' → S'.length = S1.length + 1 → wfk S1.length (S'.take S1.length) = true)
    (h : ∀ i acc S', (hi : i < ds.length) → J i acc S' → S'.length = S1.length + 1 → S'[S1.length]? = some (.lst acc) → Wf S' → ∃ τ1, g ds[i] S' (wipeD τ vs) = some τ1 ∧
      ((∃ S'', t τ1 S' = some (.ok false S'') ∧ S''.length = S1.length + 1 ∧ S''[S1.length]? = some (.lst acc) ∧ Wf S'' ∧ J (i + 1) acc S'') ∨
       ∃ S2 y S'', t τ1 S' = some (.ok true S2) ∧ fe τ1 S2 = some (.ok y S'') ∧ S''.length = S1.length + 1 ∧ S''[S1.length]? = some (.lst acc) ∧ Wf S'' ∧ bd 0 y = true ∧ J (i + 1) (acc ++ [y]) S'')) :
    ∃ S2 acc, fz (eLc fi g t fe vs) τ S = some (.ok (.fl acc) S2) ∧ J ds.length acc S2 ∧ S2.length = S1.length ∧ Wf S2 ∧ acc.length ≤ ds.length := by
  obtain ⟨S', L, acc, hJ2, hlen, hat, hwf, hb, hle⟩ := goC_inv (nxt := wk.nxt) (g := g) (t := t) (fe := fe) (l := S1.length) (τ0 := wipeD τ vs) (n := ds.length)
    (fun i S' => ∃ acc, J i acc S' ∧ S'.length = S1.length + 1 ∧ S'[S1.length]? = some (.lst acc) ∧ Wf S' ∧ bds 0 acc = true ∧ acc.length ≤ i) (fun i => ds.getD i default)
    (fun i S' hi' ⟨acc, hj, hlen, hat, hwf, hb, hle⟩ => by
      have e3 := List.getElem?_eq_getElem hi'
      have e4 : ds.getD i default = ds[i] := by rw [List.getD_eq_getElem?_getD, e3]; rfl
      obtain ⟨τ1, h1, h2⟩ := h i acc S' hi' hj hlen hat hwf
      refine ⟨by rw [hw.nxt i _ trivial, e4, e3], τ1, by rw [e4]; exact h1, ?_⟩
      rcases h2 with ⟨S'', h3, l2, a2, w2, hJ'⟩ | ⟨S2, y, S'', h3, h4, l2, a2, w2, hy, hJ'⟩
      · exact .inl ⟨S'', h3, acc, hJ', l2, a2, w2, hb, by omega⟩
      · have hz := sizeLine_eq
        have hb' : bds 0 (acc ++ [y]) = true := bds_all.mpr fun d hd => by
          rcases List.mem_append.mp hd with q | q
          · exact bds_all.mp hb d q
          · simp at q; subst q; exact hy
        refine .inr ⟨S2, y, S'', acc, h3, h4, a2, by omega, acc ++ [y], hJ _ _ _ _ (fun j hj => List.getElem?_set_ne (by omega)) hJ', by rw [List.length_set]; exact l2, by rw [List.getElem?_set_self (by omega)], wf_set w2 (bds_mono (Nat.zero_le _) _ hb'), hb', by simp; omega⟩)
    (fun S' _ => by rw [hw.nxt _ _ trivial, List.getElem?_eq_none (Nat.le_refl _)]) (wk.bound + 1) 0 (S1 ++ [.lst []]) (Nat.zero_le _) (by have := hw.bound; omega)
    ⟨[], hJ _ _ _ _ (fun j hj => List.getElem?_append_left hj) h0, by simp, get_last _ _, wf_app w rfl, rfl, Nat.le_refl _⟩
  have e : eLc fi g t fe vs τ S = some (.ok (.loc S1.length) S') := by simp only [eLc, hi, L, Option.bind_some]
  have w1 := hwt acc S' hJ2 hlen
  have hlt : (S'.take S1.length).length = S1.length := by rw [List.length_take]; omega
  refine ⟨S'.take S1.length, acc, ?_, hJ _ _ _ _ (fun j hj => List.getElem?_take_of_lt hj) hJ2, hlt, by unfold Wf; rw [hlt]; exact w1, hle⟩
  have nb : ¬ (bd S.length (.loc S1.length) = true) := by simp only [bd, decide_eq_true_eq]; omega
  have hm : acc.mapM (rb S' S.length 7) = some acc := by
    have := mapM_some (f := rb S' S.length 7) (g := fun d => d) (l := acc) fun d hd => rb_bd (bds_all.mp (bds_mono (Nat.zero_le _) _ hb) d hd)
    rwa [List.map_id'] at this
  rw [hl] at w1
  rw [fz_eq, e, hl]
  rw [hl] at hat nb
  simp only [fzR, if_pos w1, rb_loc nb hat, hm, Option.map_some]
/-- a store like another one but at some places, which refer to none -/
theorem wfk_but {S1 S' : Sto} {k : Nat} (A : Nat → Prop) (hk : k ≤ S1.length) (w : wfk k (S1.take k) = true) (hl : k ≤ S'.length) (h1 : ∀ i, i < k → ¬ A i → S'[i]? = S1[i]?) (h2 : ∀ i, i < k → A i → ∃ o, S'[i]? = some o ∧ bdO 0 o = true) : wfk k (S'.take k) = true := by
  unfold wfk at w ⊢
  rw [List.all_eq_true] at w ⊢
  intro o ho
  obtain ⟨i, hi, rfl⟩ := List.getElem_of_mem ho
  have hi1 : i < k := by rw [List.length_take] at hi; omega
  rw [List.getElem_take]
  have e1 : S'[i]? = some S'[i] := List.getElem?_eq_getElem (by omega)
  by_cases q : A i
  · obtain ⟨o, e, hb⟩ := h2 i hi1 q
    rw [e1] at e
    rw [Option.some.inj e]
    exact bdO_mono (Nat.zero_le _) o hb
  · have e := h1 i hi1 q
    rw [e1, List.getElem?_eq_getElem (by omega)] at e
    rw [Option.some.inj e]
    refine w _ ?_
    have : (S1.take k)[i]? = some S1[i] := by rw [List.getElem?_take_of_lt hi1]; exact List.getElem?_eq_getElem (by omega)
    exact List.mem_of_getElem? this
theorem Sm.wfk {n k : Nat} {P : Nat → Nat → Sto → Prop} (sr : Src P) {S S' : Sto} (w : Wf S) (hl : S.length ≤ S'.length) (h : ∀ i, i ≠ n → i < S.length → S'[i]? = S[i]?) (sp : P n k S') : Sb.wfk S.length (S'.take S.length) = true := by
  refine wfk_but (S1 := S) (fun i => i = n) (Nat.le_refl _) (by rw [List.take_length]; exact w) hl (fun i hi hn => h i hn hi) fun i hi hn => ?_
  subst hn
  exact sr.ex sp
end Sb
end
section
set_option Elab.async false
set_option linter.all false
set_option maxRecDepth 100000
set_option maxHeartbeats 4000000
namespace Sb
open PySem PySem.Spec PyProof.Rows L2
variable {K : PySem.W.Frag} {S : Sto}
/-! ## the word of a kept exception -/
theorem fl_add {ds es : List D} (h : ds.length + es.length ≤ 1000) : gAdd (.fl ds) (.fl es) S = some (.fl (ds ++ es), S) := by
  have : ds.length + es.length ≤ sizeLine := by rw [sizeLine_eq]; omega
  simp [gAdd, flD, seqD, this]
end Sb
end
section
set_option Elab.async false
set_option linter.all false
set_option maxRecDepth 100000
set_option maxHeartbeats 4000000
namespace Sb
open PySem PySem.Spec PyProof.Rows L2
variable {K : PySem.W.Frag} {S : Sto}
/-! ## what is no deck -/
theorem or_t {t u : BF} {τ : Sl} {S S1 : Sto} (h1 : t τ S = some (.ok true S1)) : tOr' t u τ S = some (.ok true S1) := by simp [tOr', M.bnd, h1]
theorem nolist_non (S : Sto) : M_is_listed [.non] S = some (.ok (.bl false) S) := by simp [fnM, ini, sSeq, sNop, sEx, sRt, sIf, sSet, sPut, putD, sAs, sRaise, sx, st', tB, tAn, tOr', tNt, tAll, eB, eVar, eC, eTup, eLst, eCB, eCl, eBM, eIf, eAnd, eOr, eNot, eCh, eSl, oNo, oSo, aNil, aCons, M.bnd, lft, eIs, eIs2, kindD, kb_NoneType_int, kb_NoneType_bool, kb_NoneType_str, kb_NoneType_list, kb_NoneType_tuple, kb_bool_int, kb_bool_bool, kb_bool_str, kb_bool_list, kb_bool_tuple, kb_int_int, kb_int_bool, kb_int_str, kb_int_list, kb_int_tuple, kb_str_int, kb_str_bool, kb_str_str, kb_str_list, kb_str_tuple, kb_tuple_int, kb_tuple_bool, kb_tuple_str, kb_tuple_list, kb_tuple_tuple, kb_list_int, kb_list_bool, kb_list_str, kb_list_list, kb_list_tuple, kb_dict_int, kb_dict_bool, kb_dict_str, kb_dict_list, kb_dict_tuple, truD, gI, gAdd, gSub, gMul, gMod, gDiv, gPow, gLtI, gLe, gGtI, gGeI, gIx, gLen, gLenX, gAbs, gInt, gMax, gMax2, gMin2, gTuple, gList, seqD, listD, atI, ixN, tyD, gAppend, gPopAt, gInsert, m_is_listed, kindD]
theorem nolist_int {i : Int} (S : Sto) : M_is_listed [.int i] S = some (.ok (.bl false) S) := by simp [fnM, ini, sSeq, sNop, sEx, sRt, sIf, sSet, sPut, putD, sAs, sRaise, sx, st', tB, tAn, tOr', tNt, tAll, eB, eVar, eC, eTup, eLst, eCB, eCl, eBM, eIf, eAnd, eOr, eNot, eCh, eSl, oNo, oSo, aNil, aCons, M.bnd, lft, eIs, eIs2, kindD, kb_NoneType_int, kb_NoneType_bool, kb_NoneType_str, kb_NoneType_list, kb_NoneType_tuple, kb_bool_int, kb_bool_bool, kb_bool_str, kb_bool_list, kb_bool_tuple, kb_int_int, kb_int_bool, kb_int_str, kb_int_list, kb_int_tuple, kb_str_int, kb_str_bool, kb_str_str, kb_str_list, kb_str_tuple, kb_tuple_int, kb_tuple_bool, kb_tuple_str, kb_tuple_list, kb_tuple_tuple, kb_list_int, kb_list_bool, kb_list_str, kb_list_list, kb_list_tuple, kb_dict_int, kb_dict_bool, kb_dict_str, kb_dict_list, kb_dict_tuple, truD, gI, gAdd, gSub, gMul, gMod, gDiv, gPow, gLtI, gLe, gGtI, gGeI, gIx, gLen, gLenX, gAbs, gInt, gMax, gMax2, gMin2, gTuple, gList, seqD, listD, atI, ixN, tyD, gAppend, gPopAt, gInsert, m_is_listed, kindD]
theorem nolist_bl {b : Bool} (S : Sto) : M_is_listed [.bl b] S = some (.ok (.bl false) S) := by simp [fnM, ini, sSeq, sNop, sEx, sRt, sIf, sSet, sPut, putD, sAs, sRaise, sx, st', tB, tAn, tOr', tNt, tAll, eB, eVar, eC, eTup, eLst, eCB, eCl, eBM, eIf, eAnd, eOr, eNot, eCh, eSl, oNo, oSo, aNil, aCons, M.bnd, lft, eIs, eIs2, kindD, kb_NoneType_int, kb_NoneType_bool, kb_NoneType_str, kb_NoneType_list, kb_NoneType_tuple, kb_bool_int, kb_bool_bool, kb_bool_str, kb_bool_list, kb_bool_tuple, kb_int_int, kb_int_bool, kb_int_str, kb_int_list, kb_int_tuple, kb_str_int, kb_str_bool, kb_str_str, kb_str_list, kb_str_tuple, kb_tuple_int, kb_tuple_bool, kb_tuple_str, kb_tuple_list, kb_tuple_tuple, kb_list_int, kb_list_bool, kb_list_str, kb_list_list, kb_list_tuple, kb_dict_int, kb_dict_bool, kb_dict_str, kb_dict_list, kb_dict_tuple, truD, gI, gAdd, gSub, gMul, gMod, gDiv, gPow, gLtI, gLe, gGtI, gGeI, gIx, gLen, gLenX, gAbs, gInt, gMax, gMax2, gMin2, gTuple, gList, seqD, listD, atI, ixN, tyD, gAppend, gPopAt, gInsert, m_is_listed, kindD]
theorem nolist_str {x : Str} (S : Sto) : M_is_listed [.str x] S = some (.ok (.bl false) S) := by simp [fnM, ini, sSeq, sNop, sEx, sRt, sIf, sSet, sPut, putD, sAs, sRaise, sx, st', tB, tAn, tOr', tNt, tAll, eB, eVar, eC, eTup, eLst, eCB, eCl, eBM, eIf, eAnd, eOr, eNot, eCh, eSl, oNo, oSo, aNil, aCons, M.bnd, lft, eIs, eIs2, kindD, kb_NoneType_int, kb_NoneType_bool, kb_NoneType_str, kb_NoneType_list, kb_NoneType_tuple, kb_bool_int, kb_bool_bool, kb_bool_str, kb_bool_list, kb_bool_tuple, kb_int_int, kb_int_bool, kb_int_str, kb_int_list, kb_int_tuple, kb_str_int, kb_str_bool, kb_str_str, kb_str_list, kb_str_tuple, kb_tuple_int, kb_tuple_bool, kb_tuple_str, kb_tuple_list, kb_tuple_tuple, kb_list_int, kb_list_bool, kb_list_str, kb_list_list, kb_list_tuple, kb_dict_int, kb_dict_bool, kb_dict_str, kb_dict_list, kb_dict_tuple, truD, gI, gAdd, gSub, gMul, gMod, gDiv, gPow, gLtI, gLe, gGtI, gGeI, gIx, gLen, gLenX, gAbs, gInt, gMax, gMax2, gMin2, gTuple, gList, seqD, listD, atI, ixN, tyD, gAppend, gPopAt, gInsert, m_is_listed, kindD]
theorem nolist_fd {ks : List Key} {ds : List D} (S : Sto) : M_is_listed [.fd ks ds] S = some (.ok (.bl false) S) := by simp [fnM, ini, sSeq, sNop, sEx, sRt, sIf, sSet, sPut, putD, sAs, sRaise, sx, st', tB, tAn, tOr', tNt, tAll, eB, eVar, eC, eTup, eLst, eCB, eCl, eBM, eIf, eAnd, eOr, eNot, eCh, eSl, oNo, oSo, aNil, aCons, M.bnd, lft, eIs, eIs2, kindD, kb_NoneType_int, kb_NoneType_bool, kb_NoneType_str, kb_NoneType_list, kb_NoneType_tuple, kb_bool_int, kb_bool_bool, kb_bool_str, kb_bool_list, kb_bool_tuple, kb_int_int, kb_int_bool, kb_int_str, kb_int_list, kb_int_tuple, kb_str_int, kb_str_bool, kb_str_str, kb_str_list, kb_str_tuple, kb_tuple_int, kb_tuple_bool, kb_tuple_str, kb_tuple_list, kb_tuple_tuple, kb_list_int, kb_list_bool, kb_list_str, kb_list_list, kb_list_tuple, kb_dict_int, kb_dict_bool, kb_dict_str, kb_dict_list, kb_dict_tuple, truD, gI, gAdd, gSub, gMul, gMod, gDiv, gPow, gLtI, gLe, gGtI, gGeI, gIx, gLen, gLenX, gAbs, gInt, gMax, gMax2, gMin2, gTuple, gList, seqD, listD, atI, ixN, tyD, gAppend, gPopAt, gInsert, m_is_listed, kindD]
theorem nowhole {d : D} {k : String} (hk : ∀ S : Sto, kindD S d = some k) (h : k = "NoneType" ∨ k = "bool" ∨ k = "str" ∨ k = "list" ∨ k = "tuple" ∨ k = "dict") (S : Sto) : M_is_whole [d] S = some (.ok (.bl false) S) := by
  rcases h with rfl | rfl | rfl | rfl | rfl | rfl <;> simp [fnM, m_is_whole, sRt, sx, eAnd, eNot, eIs, M.bnd, eVar, ini, hk, truD, kb_NoneType_int, kb_bool_int, kb_bool_bool, kb_str_int, kb_list_int, kb_tuple_int, kb_dict_int]
/-! ### decks that are none -/
def Sq (d : D) (ds : List D) : Prop := d = .tup ds ∨ d = .fl ds
theorem Sq.listed {d : D} {ds : List D} (h : Sq d ds) (S : Sto) : M_is_listed [d] S = some (.ok (.bl true) S) := by
  rcases h with rfl | rfl <;> simp [fnM, ini, sSeq, sNop, sEx, sRt, sIf, sSet, sPut, putD, sAs, sRaise, sx, st', tB, tAn, tOr', tNt, tAll, eB, eVar, eC, eTup, eLst, eCB, eCl, eBM, eIf, eAnd, eOr, eNot, eCh, eSl, oNo, oSo, aNil, aCons, M.bnd, lft, eIs, eIs2, kindD, kb_NoneType_int, kb_NoneType_bool, kb_NoneType_str, kb_NoneType_list, kb_NoneType_tuple, kb_bool_int, kb_bool_bool, kb_bool_str, kb_bool_list, kb_bool_tuple, kb_int_int, kb_int_bool, kb_int_str, kb_int_list, kb_int_tuple, kb_str_int, kb_str_bool, kb_str_str, kb_str_list, kb_str_tuple, kb_tuple_int, kb_tuple_bool, kb_tuple_str, kb_tuple_list, kb_tuple_tuple, kb_list_int, kb_list_bool, kb_list_str, kb_list_list, kb_list_tuple, kb_dict_int, kb_dict_bool, kb_dict_str, kb_dict_list, kb_dict_tuple, truD, gI, gAdd, gSub, gMul, gMod, gDiv, gPow, gLtI, gLe, gGtI, gGeI, gIx, gLen, gLenX, gAbs, gInt, gMax, gMax2, gMin2, gTuple, gList, seqD, listD, atI, ixN, tyD, gAppend, gPopAt, gInsert, m_is_listed, kindD]
theorem Sq.len {d : D} {ds : List D} (h : Sq d ds) (S : Sto) : gLenX [d] S = some (.int ds.length, S) := by rcases h with rfl | rfl <;> rfl
theorem Sq.wk {d : D} {ds : List D} (h : Sq d ds) (S : Sto) : wkD S d = some ⟨ds.length, fun i _ => some ds[i]?⟩ := by rcases h with rfl | rfl <;> rfl
end Sb
end
section
set_option Elab.async false
set_option linter.all false
set_option maxRecDepth 100000
set_option maxHeartbeats 4000000
namespace Sb
open PySem PySem.Spec PyProof.Rows L2
variable {S : Sto}
/-! ## what repr shows, put together from its parts: w bounds its weight, k its depth -/
structure Pk (p : PyData) (w k : Nat) : Prop where
  sh : p.showable = true
  lf : PyData.leavesShort 50 p = true
  wt : p.weight ≤ w
  dp : p.depth ≤ k
def Rp (d : D) (w k : Nat) : Prop := ∃ p, (∀ (m : Nat) (S : Sto), k ≤ m → toPyR (m + 1) S d = some p) ∧ Pk p w k
theorem Rp.mono {d : D} {w w' k k' : Nat} (h : Rp d w k) (hw : w ≤ w') (hk : k ≤ k') : Rp d w' k' := by
  obtain ⟨p, h1, h2⟩ := h
  exact ⟨p, fun m S hm => h1 m S (by omega), h2.sh, h2.lf, Nat.le_trans h2.wt hw, Nat.le_trans h2.dp hk⟩
theorem Rp.non {w k : Nat} : Rp .non w k := ⟨.none, fun _ _ _ => rfl, rfl, rfl, Nat.zero_le _, Nat.zero_le _⟩
theorem Rp.bl {b : Bool} {w k : Nat} : Rp (.bl b) w k := ⟨.bool b, fun _ _ _ => rfl, rfl, rfl, Nat.zero_le _, Nat.zero_le _⟩
theorem Rp.int {i : Int} {k : Nat} (h : i.natAbs < 10 ^ 40) : Rp (.int i) 200 k := by
  have hlog : i.natAbs.log2 < 140 := log2_lt (by decide) (by
    have : (2 : Nat) ^ 140 = 1393796574908163946345982392040522594123776 := by decide
    have e40 : (10 : Nat) ^ 40 = 10000000000000000000000000000000000000000 := by decide
    rw [this]; omega)
  refine ⟨.int i, fun _ _ _ => rfl, decide_eq_true (by omega), ?_, ?_, Nat.zero_le _⟩
  · refine decide_eq_true ?_
    have e := int_text_length_le10 (a := i) (k := 40) (by decide) h
    show (Str.ofString (toString i)).length ≤ 50
    rw [PySem.ofString_length]; omega
  · simp only [PyData.weight]; split <;> omega
theorem Rp.str {x : Str} {k : Nat} (h : ∀ c ∈ x.cps.toList, c < 16 ^ 8) (hs : x.cps.size ≤ 200) : Rp (.str x) 200 k := by
  refine ⟨.str x, fun _ _ _ => rfl, rfl, ?_, hs, Nat.zero_le _⟩
  simp only [PyData.leavesShort, List.all_eq_true, decide_eq_true_eq]
  exact h
theorem Rp.name {x : Str} {k : Nat} (h : Nm x) : Rp (.str x) 200 k := Rp.str (fun c hc => by
  have := (h.let_ c hc).2
  have e : (16 : Nat) ^ 8 = 4294967296 := by decide
  omega) (by have := h.hi; omega)
theorem pk_all {w k : Nat} : ∀ {ps : List PyData}, (∀ p ∈ ps, Pk p w k) → PyData.showableAll ps = true ∧ PyData.leavesShortAll 50 ps = true ∧ PyData.weightAll ps ≤ (w + 1) * ps.length ∧ PyData.depthAll ps ≤ k
  | [], _ => ⟨rfl, rfl, Nat.zero_le _, Nat.zero_le _⟩
  | p :: ps, h => by
    obtain ⟨h1, h2, h3, h4⟩ := h p List.mem_cons_self
    obtain ⟨g1, g2, g3, g4⟩ := pk_all (ps := ps) fun q hq => h q (List.mem_cons_of_mem _ hq)
    refine ⟨by simp only [PyData.showableAll, h1, g1, Bool.and_self], by simp only [PyData.leavesShortAll, h2, g2, Bool.and_self], ?_, ?_⟩
    · simp only [PyData.weightAll, List.length_cons]
      rw [Nat.mul_succ]; omega
    · simp only [PyData.depthAll]; exact Nat.max_le.mpr ⟨h4, g4⟩
theorem sh_all {w k : Nat} : ∀ {ds : List D}, (∀ d ∈ ds, Rp d w k) → ∃ ps : List PyData, (∀ (m : Nat) (S : Sto), k ≤ m → ds.mapM (toPyR (m + 1) S) = some ps) ∧ (∀ p ∈ ps, Pk p w k) ∧ ps.length = ds.length
  | [], _ => ⟨[], fun _ _ _ => rfl, by simp, rfl⟩
  | d :: ds, h => by
    obtain ⟨p, h1, h2⟩ := h d List.mem_cons_self
    obtain ⟨ps, g1, g2, g3⟩ := sh_all (ds := ds) fun q hq => h q (List.mem_cons_of_mem _ hq)
    refine ⟨p :: ps, fun m S hm => ?_, fun q hq => (List.mem_cons.mp hq).elim (fun z => z ▸ h2) (g2 q), by simp [g3]⟩
    rw [List.mapM_cons, h1 m S hm, g1 m S hm]; rfl
theorem Rp.seq {w k n : Nat} {ds : List D} (h : ∀ d ∈ ds, Rp d w k) (hn : ds.length ≤ n) : Rp (.tup ds) ((w + 1) * n) (k + 1) ∧ Rp (.fl ds) ((w + 1) * n) (k + 1) := by
  obtain ⟨ps, g1, g2, g3⟩ := sh_all h
  obtain ⟨a1, a2, a3, a4⟩ := pk_all g2
  have a5 : (w + 1) * ps.length ≤ (w + 1) * n := Nat.mul_le_mul_left _ (by omega)
  constructor
  · refine ⟨.tuple ps, fun m S hm => ?_, by simp only [PyData.showable, a1], by simp only [PyData.leavesShort, a2], by simp only [PyData.weight]; omega, by simp only [PyData.depth]; omega⟩
    obtain ⟨m, rfl⟩ : ∃ j, m = j + 1 := ⟨m - 1, by omega⟩
    show (ds.mapM (toPyR (m + 1) S)).map PyData.tuple = _
    rw [g1 m S (by omega)]; rfl
  · refine ⟨.list ps, fun m S hm => ?_, by simp only [PyData.showable, a1], by simp only [PyData.leavesShort, a2], by simp only [PyData.weight]; omega, by simp only [PyData.depth]; omega⟩
    obtain ⟨m, rfl⟩ : ∃ j, m = j + 1 := ⟨m - 1, by omega⟩
    show (ds.mapM (toPyR (m + 1) S)).map PyData.list = _
    rw [g1 m S (by omega)]; rfl
theorem Rp.sq {w k n : Nat} {d : D} {ds : List D} (q : Sq d ds) (h : ∀ d ∈ ds, Rp d w k) (hn : ds.length ≤ n) : Rp d ((w + 1) * n) (k + 1) := by
  rcases q with rfl | rfl
  · exact (Rp.seq h hn).1
  · exact (Rp.seq h hn).2
theorem Rp.card {c : Card} (hn : Nm c.1) (h0 : 0 ≤ c.2) (hb : c.2 < 10 ^ 40) : Rp (dC c) 402 1 := (Rp.seq (n := 2) (w := 200) (k := 0) (fun d hd => by
  simp at hd
  rcases hd with rfl | rfl
  · exact .name hn
  · refine .int ?_
    have : (10 : Int) ^ 40 = 10000000000000000000000000000000000000000 := by decide
    have e40 : (10 : Nat) ^ 40 = 10000000000000000000000000000000000000000 := by decide
    omega) (by simp)).1
theorem Rp.deck {l : List Card} (ok : DeckOk l) (hb : Big l) : Rp (dK l) 16120 2 := (Rp.seq (w := 402) (k := 1) (n := 40) (fun d hd => by
  obtain ⟨c, hc, rfl⟩ := List.mem_map.mp hd
  exact .card (ok.nm c hc) (ok.dep c hc) (hb c hc)) (by have := ok.hi; simpa using this)).1
theorem Rp.fd {ks : List Key} {ds : List D} {n : Nat} (hk : ∀ k ∈ ks, ∃ x, k = .inr x ∧ Nm x) (h : ∀ d ∈ ds, Rp d 200 0) (hl : ks.length = ds.length) (hn : ds.length ≤ n) : Rp (.fd ks ds) (402 * n) 1 := by
  obtain ⟨ps, g1, g2, g3⟩ := sh_all h
  have key : ∀ (ks : List Key) (ps : List PyData), (∀ k ∈ ks, ∃ x, k = .inr x ∧ Nm x) → (∀ p ∈ ps, Pk p 200 0) → ks.length = ps.length → PyData.showableKv ((ks.map kP).zip ps) = true ∧ PyData.leavesShortKv 50 ((ks.map kP).zip ps) = true ∧ PyData.weightKv ((ks.map kP).zip ps) ≤ 402 * ps.length ∧ PyData.depthKv ((ks.map kP).zip ps) ≤ 0 := by
    intro ks
    induction ks with
    | nil => intro ps _ _ hl; cases ps with
      | nil => exact ⟨rfl, rfl, Nat.zero_le _, Nat.zero_le _⟩
      | cons _ _ => simp at hl
    | cons k ks ih =>
      intro ps h1 h2 hl
      cases ps with
      | nil => simp at hl
      | cons p ps =>
        obtain ⟨x, rfl, hx⟩ := h1 k List.mem_cons_self
        obtain ⟨px, e1, e2⟩ := Rp.name (k := 0) hx
        have e3 := e1 0 [] (Nat.le_refl _)
        cases e3
        have e4 := h2 p List.mem_cons_self
        obtain ⟨i1, i2, i3, i4⟩ := ih ps (fun z hz => h1 z (List.mem_cons_of_mem _ hz)) (fun z hz => h2 z (List.mem_cons_of_mem _ hz)) (by simpa using hl)
        refine ⟨?_, ?_, ?_, ?_⟩
        · show PyData.showableKv ((PyData.str x, p) :: (ks.map kP).zip ps) = true
          simp only [PyData.showableKv, e2.sh, e4.sh, i1, Bool.and_self]
        · show PyData.leavesShortKv 50 ((PyData.str x, p) :: (ks.map kP).zip ps) = true
          simp only [PyData.leavesShortKv, e2.lf, e4.lf, i2, Bool.and_self]
        · show PyData.weightKv ((PyData.str x, p) :: (ks.map kP).zip ps) ≤ _
          have := e2.wt
          have := e4.wt
          simp only [PyData.weightKv, List.length_cons]
          omega
        · show PyData.depthKv ((PyData.str x, p) :: (ks.map kP).zip ps) ≤ _
          have := e2.dp
          have := e4.dp
          simp only [PyData.depthKv]
          omega
  obtain ⟨a1, a2, a3, a4⟩ := key ks ps hk g2 (by omega)
  refine ⟨.dict ((ks.map kP).zip ps), fun m S hm => ?_, by simp only [PyData.showable, a1], by simp only [PyData.leavesShort, a2], by simp only [PyData.weight]; omega, by simp only [PyData.depth]; omega⟩
  obtain ⟨m, rfl⟩ : ∃ j, m = j + 1 := ⟨m - 1, by omega⟩
  show (if ks.length = ds.length then _ else none) = _
  rw [if_pos hl, g1 m S (by omega)]; rfl
/-- repr of what lies at an address, of none, of a truth, of a text -/
theorem Rp.repr {d : D} {w k : Nat} (h : Rp d w k) (hk : k ≤ 7) (hw : w ≤ 300000) (hd : (∃ ds, d = .tup ds) ∨ (∃ ds, d = .fl ds) ∨ (∃ ks ds, d = .fd ks ds) ∨ d = .non ∨ (∃ b, d = .bl b) ∨ (∃ x, d = .str x) ∨ ∃ i : Int, d = .int i ∧ i.natAbs.log2 < 1920) : ∃ t : Str, ∀ S : Sto, gReprX [d] S = some (.str t, S) := by
  obtain ⟨p, h1, h2⟩ := h
  have hz := sizeLine_eq
  have hl := PyData.shown_le 50 (by decide) p h2.lf
  have hw2 := h2.wt
  have hdp := h2.dp
  have c : p.showable = true ∧ p.depth ≤ 8 ∧ p.shown.length ≤ sizeLine := ⟨h2.sh, by omega, by omega⟩
  refine ⟨p.shown, fun S => ?_⟩
  have e := h1 7 S hk
  rcases hd with ⟨ds, rfl⟩ | ⟨ds, rfl⟩ | ⟨ks, ds, rfl⟩ | rfl | ⟨b, rfl⟩ | ⟨x, rfl⟩ | ⟨i, rfl, hi⟩
  all_goals simp only [gReprX, e, Option.bind_some, if_pos c]
  rw [if_pos hi]
end Sb
end
section
set_option Elab.async false
set_option linter.all false
set_option maxRecDepth 100000
set_option maxHeartbeats 4000000
namespace Sb
open PySem PySem.Spec PyProof.Rows L2
variable {K : PySem.W.Frag} {S : Sto}
/-! ## a deck handed in otherwise, lists kept -/
/-- an item: the card, or a list of it at b or beyond, not at p -/
def YI (b p : Nat) (S : Sto) (e : D) (c : Card) : Prop := e = dC c ∨ ∃ q, e = .loc q ∧ b ≤ q ∧ q ≠ p ∧ S[q]? = some (oC c)
structure YD (b p : Nat) (l : List Card) (d : D) (es : List D) (S : Sto) : Prop where
  is : d = .tup es ∨ d = .loc p ∧ b ≤ p ∧ S[p]? = some (.lst es)
  len : es.length = l.length
  it : ∀ (i : Nat) (e : D) (c : Card), es[i]? = some e → l[i]? = some c → YI b p S e c
theorem YD.deck {b p : Nat} {l : List Card} {d : D} {es : List D} (h : YD b p l d es S) : isDeck S d l := by
  refine ⟨es, ?_, h.len, fun i e c he hc => ?_⟩
  · rcases h.is with q | ⟨q, _, z⟩
    · exact .inl q
    · exact .inr (.inr ⟨p, q, z⟩)
  · rcases h.it i e c he hc with q | ⟨r, q, _, _, z⟩
    · exact .inl q
    · exact .inr (.inr ⟨r, q, z⟩)
theorem mapM_zip {α β γ : Type} {f : α → Option β} {g : α → γ → α} : ∀ {l : List α} {m : List γ}, l.length = m.length → (∀ (i : Nat) (x : α) (y : γ), l[i]? = some x → m[i]? = some y → f x = f (g x y)) → l.mapM f = (List.zipWith g l m).mapM f
  | [], [], _, _ => rfl
  | x :: l, y :: m, h, k => by
    rw [List.zipWith_cons_cons, List.mapM_cons, List.mapM_cons, k 0 x y rfl rfl, mapM_zip (by simpa using h) fun i a b ha hb => k (i + 1) a b (by simpa using ha) (by simpa using hb)]
def frz (e : D) (c : Card) : D := match e with | .loc _ => fC c | e => e
theorem YD.repr {b p : Nat} {l : List Card} {d : D} {es : List D} (h : YD b p l d es S) (ok : DeckOk l) (hb : Big l) : ∃ t : Str, ∀ S : Sto, YD b p l d es S → gRepr [d] S = some (.str t, S) := by
  -- the same as of told lists
  let d2 : D := match d with | .tup _ => .tup (List.zipWith frz es l) | _ => .fl (List.zipWith frz es l)
  have hd : HD l d2 := by
    refine ⟨List.zipWith frz es l, ?_, by simp [h.len], fun i hi => ?_⟩
    · rcases h.is with rfl | ⟨rfl, _, _⟩
      · exact .inl rfl
      · exact .inr rfl
    · have hi' : i < es.length := by rw [h.len]; exact hi
      have he := List.getElem?_eq_getElem hi'
      have hc := List.getElem?_eq_getElem hi
      have e2 : (List.zipWith frz es l)[i]? = some (frz es[i] l[i]) := by rw [List.getElem?_zipWith, he, hc]
      rw [e2]
      rcases h.it i _ _ he hc with q | ⟨r, q, _, _, _⟩
      · exact .inl (by rw [q]; rfl)
      · exact .inr (by rw [q]; rfl)
  obtain ⟨t, et⟩ := hd.repr ok hb
  refine ⟨t, fun S h => ?_⟩
  have hm : es.mapM (toPy 7 S) = (List.zipWith frz es l).mapM (toPy 7 S) := mapM_zip h.len fun i e c he hc => by
    rcases h.it i e c he hc with rfl | ⟨q, rfl, _, _, z⟩
    · rfl
    · simp only [frz, toPy, z]
  have e2 := et S
  rcases h.is with rfl | ⟨rfl, _, z⟩
  · have q : toPy 8 S (.tup es) = toPy 8 S (.tup (List.zipWith frz es l)) := by
      show (es.mapM (toPy 7 S)).map PyData.tuple = ((List.zipWith frz es l).mapM (toPy 7 S)).map PyData.tuple
      rw [hm]
    have e3 : gRepr [.tup (List.zipWith frz es l)] S = some (.str t, S) := e2
    simp only [gRepr] at e3 ⊢
    rw [q]; exact e3
  · have q : toPy 8 S (.loc p) = toPy 8 S (.fl (List.zipWith frz es l)) := by
      show (match S[p]? with | some (.lst ds) => (ds.mapM (toPy 7 S)).map .list | _ => none) = ((List.zipWith frz es l).mapM (toPy 7 S)).map PyData.list
      rw [z]
      simp only
      rw [hm]
    have e3 : gRepr [.fl (List.zipWith frz es l)] S = some (.str t, S) := e2
    simp only [gRepr] at e3 ⊢
    rw [q]; exact e3
theorem YD.sm {b p n : Nat} {l : List Card} {d : D} {es : List D} {S' : Sto} (h : YD b p l d es S) (sm : Sm n S S') (hn : n < b) : YD b p l d es S' :=
  ⟨h.is.imp id fun ⟨a, b, c⟩ => ⟨a, b, sm.get c (by omega)⟩, h.len, fun i e c he hc => (h.it i e c he hc).imp id fun ⟨q, a, b, c, d⟩ => ⟨q, a, b, c, sm.get d (by omega)⟩⟩
theorem YI.app {b p : Nat} {e : D} {c : Card} {X : Sto} (h : YI b p S e c) : YI b p (S ++ X) e c := h.imp id fun ⟨q, a, b, c, d⟩ => ⟨q, a, b, c, pre_get d⟩
end Sb
end
section
set_option Elab.async false
set_option linter.all false
set_option maxRecDepth 100000
set_option maxHeartbeats 4000000
namespace Sb
open PySem PySem.Spec PyProof.Rows L2
variable {K : PySem.W.Frag} {S : Sto}
theorem Held.app {p : Nat} {l : List Card} (h : Held p l S) (X : Sto) : Held p l (S ++ X) := by
  obtain ⟨qs, q⟩ := h
  exact ⟨qs, pre_get q.at_, q.len, q.nd, q.gt, fun i a c h1 h2 => pre_get (q.obj i a c h1 h2)⟩
end Sb
end
section
set_option Elab.async false
set_option linter.all false
set_option maxRecDepth 100000
set_option maxHeartbeats 4000000
namespace Sb
open PySem PySem.Spec PyProof.Rows L2
variable {K : PySem.W.Frag} {S : Sto}
/-! ## the bag -/
abbrev bagO (cs : List Int) (p r c t : Int) : Ob := .lst [.fl (cs.map D.int), .int p, .int r, .int c, .int t]
def Bag (n k : Nat) (S : Sto) : Prop := ∃ (cs : List Int) (p r c t : Int), S[n]? = some (bagO cs p r c t) ∧ 0 ≤ p ∧ p ≤ cs.length ∧ 0 ≤ r ∧ 0 ≤ c ∧ c ≤ k ∧ 0 ≤ t ∧ t < 2 ^ 61
theorem bds_ints0 {k : Nat} (ns : List Int) : bds k (ns.map D.int) = true := bds_map fun _ _ => rfl
theorem bag_src : Src Bag where
  fr := fun ⟨cs, p, r, c, t, e, h⟩ q => ⟨cs, p, r, c, t, q.trans e, h⟩
  ex := fun ⟨cs, p, r, c, t, e, h⟩ => ⟨_, e, by simp only [bdO, bds, bd, bds_ints0, Bool.and_self]⟩
  mono := fun ⟨cs, p, r, c, t, e, h1, h2, h3, h4, h5, h6⟩ hk => ⟨cs, p, r, c, t, e, h1, h2, h3, h4, by omega, h6⟩
theorem mulX {i j : Int} (hi : i.natAbs < 2 ^ 300) (hj : j.natAbs < 2 ^ 300) : gMulX (.int i) (.int j) S = some (.int (i * j), S) := by
  have a : i.natAbs.log2 < 300 := log2_lt (by decide) hi
  have b : j.natAbs.log2 < 300 := log2_lt (by decide) hj
  have : i.natAbs.log2 + j.natAbs.log2 < 1000000 := by omega
  simp only [gMulX, if_pos this]
theorem gMod_i {i j : Int} (h : 0 < j) : gMod (.int i) (.int j) S = some (.int (i % j), S) := by simp only [gMod, gI, decide_eq_true h, if_true]
theorem gDiv_i {i j : Int} (h : 0 < j) (h2 : j < 2 ^ 300) : gDiv (.int i) (.int j) S = some (.int (i / j), S) := by
  have : 0 < j ∧ j.natAbs.log2 < 9000 := ⟨h, by
    have : j.natAbs.log2 < 300 := log2_lt (by decide) (by omega)
    omega⟩
  simp only [gDiv, gI, decide_eq_true this, if_true]
theorem p300 {i : Int} (h0 : 0 ≤ i) (h : i < 2 ^ 200) : i.natAbs < 2 ^ 300 := by
  have : (2 : Nat) ^ 200 < 2 ^ 300 := by decide
  omega
theorem stir_ok {a b : Int} (ha : 0 ≤ a) (ha2 : a < 2 ^ 61) (hb : 0 ≤ b) (hb2 : b < 2 ^ 41) : ∃ v : Int, 0 ≤ v ∧ M_bag_stir [.int a, .int b] S = some (.ok (.int v) S) := by
  have c : ∀ i : Int, 0 ≤ i → i < 2 ^ 62 → i.natAbs < 2 ^ 300 := fun i h0 h1 => p300 h0 (by omega)
  let one := (a * 998244353 + b * 1000000007 + 5) % 2305843009213693951
  have o0 : 0 ≤ one := Int.emod_nonneg _ (by decide)
  have o1 : one < 2305843009213693951 := Int.emod_lt_of_pos _ (by decide)
  let two := one * one % 2305843009213693951
  have t0 : 0 ≤ two := Int.emod_nonneg _ (by decide)
  have t1 : two < 2305843009213693951 := Int.emod_lt_of_pos _ (by decide)
  have hbb : 0 ≤ b * b ∧ b * b < 2 ^ 200 := by
    refine ⟨Int.mul_nonneg hb hb, ?_⟩
    have : b * b ≤ 2 ^ 41 * 2 ^ 41 := Int.mul_le_mul (by omega) (by omega) hb (by decide)
    have : (2 : Int) ^ 41 * 2 ^ 41 < 2 ^ 200 := by decide
    omega
  refine ⟨(two * 2860486313 + b * b * 48271 + one / 3) % 2305843009213693921 / 1024, Int.ediv_nonneg (Int.emod_nonneg _ (by decide)) (by decide), ?_⟩
  refine fnM_rt ?_
  refine (sSeq_nx (sSet_ok (d := .int one) (S1 := S) (eB_ok (eB_ok (eB_ok (eB_ok rfl rfl (mulX (c _ ha (by omega)) (by decide))) (eB_ok rfl rfl (mulX (c _ hb (by omega)) (by decide))) gAdd_i) rfl gAdd_i) rfl (gMod_i (by decide))))).trans ?_
  refine (sSeq_nx (sSet_ok (d := .int two) (S1 := S) (eB_ok (eB_ok rfl rfl (mulX (c _ o0 (by omega)) (c _ o0 (by omega)))) rfl (gMod_i (by decide))))).trans ?_
  exact sRt_ok (eB_ok (eB_ok (eB_ok (eB_ok (eB_ok rfl rfl (mulX (c _ t0 (by omega)) (by decide))) (eB_ok (eB_ok rfl rfl (mulX (c _ hb (by omega)) (c _ hb (by omega)))) rfl (mulX (p300 hbb.1 hbb.2) (by decide))) gAdd_i) (eB_ok rfl rfl (gDiv_i (by decide) (by decide))) gAdd_i) rfl (gMod_i (by decide))) rfl (gDiv_i (by decide) (by decide)))
theorem bif_t {t : BF} {f g : SF} {τ : Sl} {S S1 : Sto} {Q : Fl → Sto → Prop} (h : t τ S = some (.ok true S1)) (k : Ws (f τ S1) Q) : Ws (sIf t f g τ S) Q := by
  rw [show sIf t f g τ S = f τ S1 from sIf_t h]; exact k
theorem bif_f {t : BF} {f g : SF} {τ : Sl} {S S1 : Sto} {Q : Fl → Sto → Prop} (h : t τ S = some (.ok false S1)) (k : Ws (g τ S1) Q) : Ws (sIf t f g τ S) Q := by
  rw [show sIf t f g τ S = g τ S1 from sIf_f h]; exact k
theorem bput {f : SF} {τ τ1 : Sl} {S S1 : Sto} {Q : Fl → Sto → Prop} (h : f τ S = some (.nx τ1, S1)) (k : Q (.nx τ1) S1) : Ws (f τ S) Q := ⟨_, _, h, k⟩
theorem bag_draw_ok : Drw Bag M_bag_draw := by
  intro n k S m w h hk hm0 hm1
  obtain ⟨cs, p, r, c, t, e, hp0, hp1, hr0, hc0, hc1, ht0, ht1⟩ := h
  have hn : n < S.length := (List.getElem?_eq_some_iff.mp e).1
  have i200 : ((m : Nat) : Int) < 2 ^ 300 := by
    have : (2 : Nat) ^ 200 < 2 ^ 300 := by decide
    omega
  have smS : ∀ o, Sm n S (S.set n o) := fun o => ⟨by simp, fun i hi => List.getElem?_set_ne (Ne.symm hi)⟩
  have mk : ∀ (p r c t : Int), 0 ≤ p → p ≤ cs.length → 0 ≤ r → 0 ≤ c → c ≤ (k + 1 : Nat) → 0 ≤ t → t < 2 ^ 61 → Bag n (k + 1) (S.set n (bagO cs p r c t)) := fun p r c t h1 h2 h3 h4 h5 h6 h7 => ⟨cs, p, r, c, t, List.getElem?_set_self hn, h1, h2, h3, h4, h5, h6, h7⟩
  -- what a number comes to
  have last : ∀ v : Int, 0 ≤ v → ∃ u : Nat, v % (m : Int) = (u : Int) ∧ u < m := fun v hv => by
    have h1 : 0 ≤ v % (m : Int) := Int.emod_nonneg _ (by omega)
    have h2 : v % (m : Int) < m := Int.emod_lt_of_pos _ (by omega)
    exact ⟨(v % (m : Int)).toNat, by omega, by omega⟩
  have main : Ws (m_bag_draw (ini 4 [.loc n, .int (m : Nat)]) S) fun fl S' => ∃ d, fl = .rt d ∧ ∃ v : Nat, d = .int (v : Nat) ∧ v < m ∧ Bag n (k + 1) S' ∧ Sm n S S' := by
    by_cases h1 : m = 1
    · subst h1
      exact ws_iret (tB_ok (eB_ok rfl rfl (by rw [gEq_int]; rfl))) rfl ⟨_, rfl, 0, rfl, by omega, ⟨cs, p, r, c, t, e, hp0, hp1, hr0, hc0, by omega, ht0, ht1⟩, Sm.refl⟩
    refine ws_no (tB_ok (eB_ok rfl rfl (d := .bl false) (S3 := S) (by rw [gEq_int]; simp; omega))) ?_
    let S1 : Sto := S.set n (bagO cs p r (c + 1) t)
    have g1 : S1[n]? = some (bagO cs p r (c + 1) t) := List.getElem?_set_self hn
    have e3 : gIx (.loc n) (.int 3) S = some (.int c, S) := ix_loc e (i := 3) rfl
    refine ws_nx (sPut_ok (eB_ok (eB_ok rfl rfl e3) rfl gAdd_i) rfl rfl (S4 := S1) (putD_ok (i := 3) e (by simp))) ?_
    have t1 : (tB (eB gLtI (eB gIx (eVar 0) (eC (.int 2))) (eC (.int 2)))) [some (.loc n), some (.int (m : Nat)), none, none] S1 = some (.ok (decide (r < 2)) S1) := tB_ok (eB_ok (eB_ok rfl rfl (ix_loc g1 (i := 2) rfl)) rfl gLt_i)
    have t2 : (tB (eB (gEq false) (eB gIx (eVar 0) (eC (.int 1))) (eCB gLenX (aCons (eB gIx (eVar 0) (eC (.int 0))) (aNil))))) [some (.loc n), some (.int (m : Nat)), none, none] S1 = some (.ok (decide (p = cs.length)) S1) := tB_ok (eB_ok (eB_ok rfl rfl (ix_loc g1 (i := 1) rfl)) (eCB_ok (a1_ok (eB_ok rfl rfl (ix_loc g1 (i := 0) rfl))) len_fl) (by rw [gEq_int]; simp))
    have t12 : (tAn (tB (eB gLtI (eB gIx (eVar 0) (eC (.int 2))) (eC (.int 2)))) (tB (eB (gEq false) (eB gIx (eVar 0) (eC (.int 1))) (eCB gLenX (aCons (eB gIx (eVar 0) (eC (.int 0))) (aNil)))))) [some (.loc n), some (.int (m : Nat)), none, none] S1 = some (.ok (decide (r < 2) && decide (p = cs.length)) S1) := by
      by_cases q : r < 2
      · rw [an_t (t1.trans (by rw [decide_eq_true q])) t2]; simp [q]
      · rw [an_f (t1.trans (by rw [decide_eq_false q]))]; simp [q]
    have b1 := mk p r (c + 1) t hp0 hp1 hr0 (by omega) (by omega) ht0 ht1
    by_cases q1 : r < 2 ∧ p = cs.length
    · obtain ⟨v, hv, ev⟩ := stir_ok (S := S1) (a := t) (b := c + 1) ht0 ht1 (by omega) (by omega)
      obtain ⟨u, eu, hu⟩ := last v hv
      exact ws_iret (t12.trans (by simp [q1])) (eB_ok (eCl_ok (a2_ok (eB_ok rfl rfl (ix_loc g1 (i := 4) rfl)) (eB_ok rfl rfl (ix_loc g1 (i := 3) rfl))) rfl ev) rfl (gMod_i (by omega))) ⟨_, rfl, u, by rw [eu], hu, b1, smS _⟩
    refine ws_no (t12.trans (by
      have : (decide (r < 2) && decide (p = cs.length)) = false := by
        rw [Bool.and_eq_false_iff, decide_eq_false_iff_not, decide_eq_false_iff_not]
        by_cases z : r < 2
        · exact .inr fun y => q1 ⟨z, y⟩
        · exact .inl z
      rw [this])) ?_
    -- a great one is under way
    have fin : ∀ (p' r' : Int) (x2 : Option D), 0 ≤ p' → p' ≤ cs.length → 0 ≤ r' → ∀ S2 : Sto, S2 = S.set n (bagO cs p' r' (c + 1) t) →
        Ws ((sSeq (sSet 3 (eB gMod (eB gIx (eVar 0) (eC (.int 2))) (eVar 1))) (sSeq (sPut (eB gDiv (eB gIx (eVar 0) (eC (.int 2))) (eVar 1)) (eVar 0) (eC (.int 2))) (sRt (eVar 3)))) [some (.loc n), some (.int (m : Nat)), x2, none] S2) fun fl S' => ∃ d, fl = .rt d ∧ ∃ v : Nat, d = .int (v : Nat) ∧ v < m ∧ Bag n (k + 1) S' ∧ Sm n S S' := by
      rintro p' r' x2 h1 h2 h3 S2 rfl
      have g2 : (S.set n (bagO cs p' r' (c + 1) t))[n]? = some (bagO cs p' r' (c + 1) t) := List.getElem?_set_self hn
      obtain ⟨u, eu, hu⟩ := last r' h3
      refine ws_set (eB_ok (eB_ok rfl rfl (ix_loc g2 (i := 2) rfl)) rfl (gMod_i (by omega))) ?_
      refine ws_nx (sPut_ok (eB_ok (eB_ok rfl rfl (ix_loc g2 (i := 2) rfl)) rfl (gDiv_i (by omega) i200)) rfl rfl (putD_ok (i := 2) g2 (by simp))) ?_
      refine ws_rt rfl ⟨_, rfl, u, by rw [eu], hu, ?_, ?_⟩
      · rw [List.set_set]
        exact mk p' (r' / m) (c + 1) t h1 h2 (Int.ediv_nonneg h3 (by omega)) (by omega) (by omega) ht0 ht1
      · rw [List.set_set]; exact smS _
    by_cases q2 : r < 2
    · have hpl : p ≠ cs.length := fun z => q1 ⟨q2, z⟩
      obtain ⟨pn, rfl⟩ := Int.eq_ofNat_of_zero_le hp0
      have hpn : pn < cs.length := by omega
      have hcell : gIx (.fl (cs.map D.int)) (.int (pn : Nat)) S1 = some (.int cs[pn], S1) := by
        rw [ix_fints hpn, List.getD_eq_getElem?_getD, List.getElem?_eq_getElem hpn]; rfl
      have g11 : gIx (.loc n) (.int 1) S1 = some (.int (pn : Nat), S1) := ix_loc g1 (i := 1) rfl
      have g10 : gIx (.loc n) (.int 0) S1 = some (.fl (cs.map D.int), S1) := ix_loc g1 (i := 0) rfl
      refine ws_seq (bif_t (t1.trans (by rw [decide_eq_true q2])) ?_)
      refine ws_set (eB_ok (eB_ok rfl rfl g10) (eB_ok rfl rfl g11) hcell) ?_
      let S2 : Sto := S.set n (bagO cs ((pn : Nat) + 1 : Int) r (c + 1) t)
      have e2 : S1.set n (bagO cs ((pn : Nat) + 1 : Int) r (c + 1) t) = S2 := List.set_set ..
      have g2 : S2[n]? = some (bagO cs ((pn : Nat) + 1 : Int) r (c + 1) t) := List.getElem?_set_self hn
      refine ws_nx (sPut_ok (eB_ok (eB_ok rfl rfl g11) rfl gAdd_i) rfl rfl (S4 := S2) ((putD_ok (i := 1) g1 (by simp)).trans (by rw [← e2]; rfl))) ?_
      by_cases q3 : cs[pn] < 1000000000000000000
      · refine ws_seq (bif_t (tB_ok (eB_ok rfl (show (eB gPow (eC (.int 10)) (eC (.int 18))) _ S2 = some (.ok (.int 1000000000000000000) S2) from eB_ok rfl rfl rfl) (gLt_i.trans (by rw [decide_eq_true q3])))) ?_)
        have h0 : 0 ≤ cs[pn] % 2305843009213693951 := Int.emod_nonneg _ (by decide)
        have h1 : cs[pn] % 2305843009213693951 < 2305843009213693951 := Int.emod_lt_of_pos _ (by decide)
        obtain ⟨v, hv, ev⟩ := stir_ok (S := S2) (a := cs[pn] % 2305843009213693951) (b := c + 1) h0 (by omega) (by omega) (by omega)
        obtain ⟨u, eu, hu⟩ := last v hv
        exact ws_rt (eB_ok (eCl_ok (a2_ok (eB_ok rfl rfl (gMod_i (by decide))) (eB_ok rfl rfl (ix_loc g2 (i := 3) rfl))) rfl ev) rfl (gMod_i (by omega))) ⟨_, rfl, u, by rw [eu], hu, mk _ _ _ _ (by omega) (by omega) hr0 (by omega) (by omega) ht0 ht1, smS _⟩
      · refine ws_no (tB_ok (eB_ok rfl (show (eB gPow (eC (.int 10)) (eC (.int 18))) _ S2 = some (.ok (.int 1000000000000000000) S2) from eB_ok rfl rfl rfl) (gLt_i.trans (by rw [decide_eq_false q3])))) ?_
        let S3 : Sto := S.set n (bagO cs ((pn : Nat) + 1 : Int) (cs[pn] - 1000000000000000000) (c + 1) t)
        have e3 : S2.set n (bagO cs ((pn : Nat) + 1 : Int) (cs[pn] - 1000000000000000000) (c + 1) t) = S3 := List.set_set ..
        refine bput (sPut_ok (eB_ok rfl (show (eB gPow (eC (.int 10)) (eC (.int 18))) _ S2 = some (.ok (.int 1000000000000000000) S2) from eB_ok rfl rfl rfl) gSub_i) rfl rfl (S4 := S3) ((putD_ok (i := 2) g2 (by simp)).trans (by rw [← e3]; rfl))) ?_
        exact fin _ _ _ (by omega) (by omega) (by omega) S3 rfl
    · refine ws_nx (sIf_f (t1.trans (by rw [decide_eq_false q2]))) ?_
      exact fin p r none hp0 hp1 hr0 S1 rfl
  obtain ⟨d, S', e2, v, rfl, h2, h3, h4⟩ := fn_ws main
  exact ⟨v, S', e2, h2, h3, h4⟩
end Sb
end
section
set_option Elab.async false
set_option linter.all false
set_option maxRecDepth 100000
set_option maxHeartbeats 4000000
namespace Sb
open PySem PySem.Spec PyProof.Rows L2
variable {K : PySem.W.Frag} {S : Sto}
theorem bag_bag_ok {d : D} {ns : List Int} (hd : seqD S d = some (ns.map D.int)) (ht : ∀ ds, d ≠ .tup ds ∧ d ≠ .fl ds) (w : Wf S) :
    ∃ o, M_x_bag_bag [d] S = some (.ok (.loc S.length) (S ++ [o])) ∧ Bag S.length 0 (S ++ [o]) ∧ Wf (S ++ [o]) := by
  have main : Ws (m_x_bag_bag (ini 3 [d]) S) fun fl S' => ∃ d', fl = .rt d' ∧ d' = .loc S.length ∧ ∃ o, S' = S ++ [o] ∧ Bag S.length 0 S' ∧ Wf S' := by
    refine ws_set rfl ?_
    have hi : ∃ wk, iScr (eVar 0) [some d, some (.int 1), none] S = some (.ok wk S) ∧ wk.bound = ns.length ∧ ∀ i, wk.nxt i S = some ((ns.map D.int)[i]?) := by
      cases d with
      | scr ms =>
        have e := Option.some.inj hd
        refine ⟨_, iScr_scr rfl, ?_, fun i => by rw [← e]⟩
        have := congrArg List.length e
        simpa using this
      | loc j =>
        have q := hd
        simp only [seqD] at q
        split at q
        · rename_i z
          cases q
          refine ⟨_, iScr_loc rfl z, by simp, fun i => by simp only [hd, Option.map_some]⟩
        · cases q
      | tup ds => exact absurd rfl (ht ds).1
      | fl ds => exact absurd rfl (ht ds).2
      | _ => cases hd
    obtain ⟨wk, hwk, hb, hnx⟩ := hi
    refine ws_for ns.length (fun i τ S' => S' = S ∧ ∃ (t : Int) (x : Option D), τ = [some d, some (.int t), x] ∧ 0 ≤ t ∧ t < 2 ^ 61) (fun i => .int (ns.getD i 0)) hwk (by omega) ⟨rfl, 1, none, rfl, by decide, by decide⟩ ?_ ?_ ?_
    · rintro i τ S' hi ⟨rfl, t, x, rfl, h0, h1⟩
      refine ⟨by rw [hnx, List.getElem?_map, List.getElem?_eq_getElem hi, List.getD_eq_getElem?_getD, List.getElem?_eq_getElem hi]; rfl, _, rfl, ?_⟩
      refine ws_set1 (eB_ok (eB_ok (eB_ok (eB_ok rfl rfl (mulX (p300 h0 (by omega)) (by decide))) (eB_ok rfl rfl (gMod_i (by decide))) gAdd_i) rfl gAdd_i) rfl (gMod_i (by decide))) ⟨rfl, _, _, rfl, Int.emod_nonneg _ (by decide), ?_⟩
      exact Int.lt_of_lt_of_le (Int.emod_lt_of_pos _ (by decide)) (by decide)
    · rintro τ S' ⟨rfl, t, x, rfl, h0, h1⟩
      rw [hnx, List.getElem?_eq_none (by simp)]
    · rintro τ S' ⟨rfl, t, x, rfl, h0, h1⟩
      have e1 : fz (eCB gList (aCons (eVar 0) aNil)) [some d, some (.int t), x] S' = some (.ok (.fl (ns.map D.int)) S') := fz_lst (X := [.lst (ns.map D.int)]) w (eCB_ok (a1_ok rfl) (by simp only [gList, hd, Option.bind_some])) (get_last _ _) (Nat.le_refl _) (bds_ints0 _)
      refine ws_rt (eLst_ok (aCons_ok e1 (aCons_ok rfl (aCons_ok rfl (aCons_ok rfl (aCons_ok rfl aNil_ok))))) (by simp [sizeLine_eq])) ⟨_, rfl, rfl, _, rfl, ⟨ns, 0, 0, 0, t, get_last _ _, by omega, by omega, by omega, by omega, by omega, h0, h1⟩, wf_app w (by simp [bdO, bds, bd, bds_ints0])⟩
  obtain ⟨d', S', e, rfl, o, rfl, h1, h2⟩ := fn_ws main
  exact ⟨o, e, h1, h2⟩
end Sb
end
section
set_option Elab.async false
set_option linter.all false
set_option maxRecDepth 100000
set_option maxHeartbeats 4000000
namespace Sb
open PySem PySem.Spec PyProof.Rows L2
variable {K : PySem.W.Frag} {S : Sto}
theorem seqIx_nat {v l : Nat} (h : v < l) : seqIndex? ((v : Nat) : Int) l = some v := by
  unfold seqIndex?
  simp only
  have c1 : ¬ ((v : Int) < 0) := by omega
  rw [if_neg c1]
  have c2 : 0 ≤ (v : Int) ∧ (v : Int) < l := by omega
  first | rw [if_pos c2]; simp | simp [c2, h]
theorem perm_erase {α : Type} {l : List α} {v : Nat} (h : v < l.length) : l.Perm (l[v] :: l.eraseIdx v) := by
  rw [List.eraseIdx_eq_take_drop_succ]
  conv => lhs; rw [← List.take_append_drop v l, List.drop_eq_getElem_cons h]
  exact List.perm_middle
theorem bag_mixed_ok {n k : Nat} {ds : List D} (w : Wf S) (h : Bag n k S) (hk : k + ds.length < 2 ^ 40) (hd : bds 0 ds = true) (hl : ds.length ≤ 1000) :
    ∃ (acc : List D) (S' : Sto), M_bag_mixed [.loc n, .fl ds] S = some (.ok (.fl acc) S') ∧ acc.Perm ds ∧ Bag n (k + ds.length) S' ∧ Fr n S S' := by
  have hn := bag_src.lt h
  have main : Ws (m_bag_mixed (ini 4 [.loc n, .fl ds]) S) fun fl S' => ∃ d, fl = .rt d ∧ ∃ acc, d = .fl acc ∧ acc.Perm ds ∧ Bag n (k + ds.length) S' ∧ Fr n S S' := by
    refine ws_set (S1 := S ++ [Ob.lst ds]) (d := .loc S.length) (eCB_ok (a1_ok rfl) rfl) ?_
    have w1 : Wf (S ++ [Ob.lst ds]) := wf_app w (bds_mono (Nat.zero_le _) _ hd)
    have sl : (S ++ [Ob.lst ds]).length = S.length + 1 := by simp
    obtain ⟨S2, acc, e2, ⟨hb, ⟨rest, hr, pr, lr⟩, fr⟩, l2, w2, _⟩ := lc_gen (fi := iRg1 (aCons (eCB gLenX (aCons (eVar 1) (aNil))) (aNil))) (g := tN 3) (t := tAll) (fe := eBM "list" gPopAt (eVar 2) (aCons (eCl (M_bag_draw) 2 (aCons (eVar 0) (aCons (eCB gLenX (aCons (eVar 2) (aNil))) (aNil)))) (aNil))) (vs := [3])
      (τ := [some (.loc n), some (.fl ds), some (.loc S.length), none]) (S := S ++ [Ob.lst ds]) (S1 := S ++ [Ob.lst ds]) (ds := (List.range ds.length).map fun i : Nat => D.int i)
      (fun i acc S' => Bag n (k + i) S' ∧ (∃ rest, S'[S.length]? = some (.lst rest) ∧ (acc ++ rest).Perm ds ∧ rest.length = ds.length - i) ∧ ∀ j, j < S.length → j ≠ n → S'[j]? = S[j]?)
      (iRg1_ok (a1_ok (eCB_ok (a1_ok rfl) len_fl)) (by omega)) rfl w1 wks_rg (by simp; omega)
      (fun i acc S' S'' q ⟨hb, ⟨rest, hr, pr, lr⟩, fr⟩ => ⟨bag_src.fr hb (q n (by omega)), ⟨rest, (q _ (by omega)).trans hr, pr, lr⟩, fun j hj hjn => (q j (by omega)).trans (fr j hj hjn)⟩)
      ⟨bag_src.app h, ⟨ds, get_last _ _, .refl _, rfl⟩, fun j hj _ => List.getElem?_append_left hj⟩
      (fun acc S' ⟨hb, ⟨rest, hr, pr, lr⟩, fr⟩ hlen => by
        refine wfk_but (S1 := S ++ [Ob.lst ds]) (fun i => i = n ∨ i = S.length) (Nat.le_refl _) (by rw [List.take_length]; exact w1) (by omega) (fun i hi hn' => ?_) fun i hi hA => ?_
        · have hi' : i < S.length := by
            rw [sl] at hi
            have := hn'; omega
          rw [fr i hi' (by omega), List.getElem?_append_left hi']
        · rcases hA with rfl | rfl
          · exact bag_src.ex hb
          · exact ⟨_, hr, bds_all.mpr fun d hd' => bds_all.mp hd d (pr.mem_iff.mp (List.mem_append_right _ hd'))⟩)
      (fun i acc S' hi ⟨hb, ⟨rest, hr, pr, lr⟩, fr⟩ hlen hat hwf => by
        have hi2 : i < ds.length := by simpa using hi
        refine ⟨_, rfl, .inr ?_⟩
        have hL : gLenX [.loc S.length] S' = some (.int (rest.length : Nat), S') := by simp [gLenX, gLen, seqD, hr]
        obtain ⟨v, S'', e, v1, sp, sm⟩ := bag_draw_ok (n := n) (k := k + i) (S := S') (b := rest.length) hwf hb (by omega) (by omega) (by
          have : (1000 : Nat) < 2 ^ 200 := by decide
          omega)
        have hr2 : S''[S.length]? = some (.lst rest) := (sm.at_ _ (by omega)).trans hr
        have l2 : S''.length = S'.length := sm.len
        have w2 := bag_src.wf sm hwf sp
        have e3 : gPopAt (.loc S.length) [.int (v : Nat)] S'' = some (rest[v], S''.set S.length (.lst (rest.eraseIdx v))) := by
          have c : -(2 ^ 63) ≤ ((v : Nat) : Int) ∧ ((v : Nat) : Int) < 2 ^ 63 := by omega
          have q1 : seqIndex? ((v : Nat) : Int) rest.length = some v := seqIx_nat v1
          simp only [gPopAt, listD, hr2, Option.bind_some, if_pos c, q1, List.getElem?_eq_getElem v1]
        have hrest : ∀ d ∈ rest, bd 0 d = true := fun d hd' => bds_all.mp hd d (pr.mem_iff.mp (List.mem_append_right _ hd'))
        refine ⟨S', rest[v], S''.set S.length (.lst (rest.eraseIdx v)), rfl, eBM_ok rfl (by simp [tyD, hr]) (a1_ok (eCl_ok (a2_ok rfl (eCB_ok (a1_ok rfl) hL)) rfl e)) e3, by rw [List.length_set]; omega, ?_, ?_, hrest _ (List.getElem_mem _), ?_, ⟨rest.eraseIdx v, by rw [List.getElem?_set_self (by omega)], ?_, by rw [List.length_eraseIdx_of_lt v1]; omega⟩, fun j hj hjn => ?_⟩
        · rw [List.getElem?_set_ne (by omega), sm.at_ _ (by omega)]; exact hat
        · refine wf_set w2 (bds_all.mpr fun d hd' => ?_)
          exact bd_mono (Nat.zero_le _) _ (hrest d (List.mem_of_mem_eraseIdx hd'))
        · exact bag_src.fr (S := S'') sp (List.getElem?_set_ne (by omega))
        · rw [List.append_assoc]
          exact ((List.Perm.append_left acc (perm_erase v1).symm)).trans pr
        · rw [List.getElem?_set_ne (by omega), sm.at_ _ hjn]; exact fr j hj hjn)
    refine ws_rt e2 ⟨_, rfl, acc, rfl, ?_, ?_, ⟨by rw [l2, sl]; omega, fun j hjn hj => fr j hj hjn⟩⟩
    · have : rest = [] := List.eq_nil_of_length_eq_zero (by rw [lr, List.length_map, List.length_range]; omega)
      subst this
      simpa using pr
    · simpa using hb
  obtain ⟨d, S', e, acc, rfl, h1, h2, h3⟩ := fn_ws main
  exact ⟨acc, S', e, h1, h2, h3⟩
end Sb
end
section
set_option Elab.async false
set_option linter.all false
set_option maxRecDepth 100000
set_option maxHeartbeats 4000000
namespace Sb
open PySem PySem.Spec PyProof.Rows L2
variable {K : PySem.W.Frag} {S : Sto}
def nms1 : List Str := (["a", "b", "c", "d", "e", "f", "g", "h", "i", "j", "k", "l", "m", "n", "o", "p", "q", "r", "s", "t", "u", "v", "w", "x", "y", "z", "aa", "bb", "cc", "dd", "ee", "ff", "gg", "hh", "ii", "jj", "kk", "ll"] : List String).map Str.ofString
def nmsT : List Str := (["zyxwvuts", "abcdefgh"] : List String).map Str.ofString
def nms3 : List Str := (["abcdefgh", "bcdefgha", "cdefghab", "defghabc", "efghabcd", "fghabcde", "ghabcdef", "habcdefg"] : List String).map Str.ofString
def nms4 : List Str := (["a", "ab", "abc", "abcd", "abcde", "abcdef", "abcdefg"] : List String).map Str.ofString
def kin (a : Nat) (y : Str) : Str := match a with
  | 0 => "" ++ y ++ "mnopqrm"

  | 1 => "m" ++ y ++ "nopqrm"
  | 2 => "mn" ++ y ++ "opqrm"
  | 3 => "mno" ++ y ++ "pqrm"
  | 4 => "mnop" ++ y ++ "qrm"
  | 5 => "mnopq" ++ y ++ "rm"
  | 6 => "mnopqr" ++ y ++ "m"
  | _ => "mnopqrm" ++ y ++ ""
def nms2 (a : Nat) : List Str := (("abcdefghijklmnopqrstuvwxyz" : Str).cps.toList).map fun c => kin a ⟨#[c]⟩
theorem it1 {n : Nat} {m : Int} {x3 x5 x6 : Option D} : ∀ i : Nat, i < 38 → (eB gMulX (eB gIx (eVar 2) (eB gMod (eVar 4) (eC (.int 26)))) (eB gAdd (eC (.int 1)) (eB gDiv (eVar 4) (eC (.int 26))))) [some (.loc n), some (.int m), some (.str "abcdefghijklmnopqrstuvwxyz"), x3, some (.int (i : Nat)), x5, x6] S = some (.ok (.str (nms1.getD i "")) S)
  | 0, _ => by kernel_rfl
  | 1, _ => by kernel_rfl
  | 2, _ => by kernel_rfl
  | 3, _ => by kernel_rfl
  | 4, _ => by kernel_rfl
  | 5, _ => by kernel_rfl
  | 6, _ => by kernel_rfl
  | 7, _ => by kernel_rfl
  | 8, _ => by kernel_rfl
  | 9, _ => by kernel_rfl
  | 10, _ => by kernel_rfl
  | 11, _ => by kernel_rfl
  | 12, _ => by kernel_rfl
  | 13, _ => by kernel_rfl
  | 14, _ => by kernel_rfl
  | 15, _ => by kernel_rfl
  | 16, _ => by kernel_rfl
  | 17, _ => by kernel_rfl
  | 18, _ => by kernel_rfl
  | 19, _ => by kernel_rfl
  | 20, _ => by kernel_rfl
  | 21, _ => by kernel_rfl
  | 22, _ => by kernel_rfl
  | 23, _ => by kernel_rfl
  | 24, _ => by kernel_rfl
  | 25, _ => by kernel_rfl
  | 26, _ => by kernel_rfl
  | 27, _ => by kernel_rfl
  | 28, _ => by kernel_rfl
  | 29, _ => by kernel_rfl
  | 30, _ => by kernel_rfl
  | 31, _ => by kernel_rfl
  | 32, _ => by kernel_rfl
  | 33, _ => by kernel_rfl
  | 34, _ => by kernel_rfl
  | 35, _ => by kernel_rfl
  | 36, _ => by kernel_rfl
  | 37, _ => by kernel_rfl
  | i + 38, h => absurd h (by omega)
theorem it3 {n : Nat} {m : Int} {x2 x3 x5 x6 : Option D} : ∀ i : Nat, i < 8 → (eB gAdd (eSlX (eC (.str "abcdefgh")) (oSo (eVar 4)) (oNo)) (eSlX (eC (.str "abcdefgh")) (oNo) (oSo (eVar 4)))) [some (.loc n), some (.int m), x2, x3, some (.int (i : Nat)), x5, x6] S = some (.ok (.str (nms3.getD i "")) S)
  | 0, _ => by kernel_rfl
  | 1, _ => by kernel_rfl
  | 2, _ => by kernel_rfl
  | 3, _ => by kernel_rfl
  | 4, _ => by kernel_rfl
  | 5, _ => by kernel_rfl
  | 6, _ => by kernel_rfl
  | 7, _ => by kernel_rfl
  | i + 8, h => absurd h (by omega)
theorem it4 {n : Nat} {m : Int} {x2 x3 x5 x6 : Option D} : ∀ i : Nat, i < 7 → (eSlX (eC (.str "abcdefgh")) (oNo) (oSo (eVar 4))) [some (.loc n), some (.int m), x2, x3, some (.int ((1 : Nat) + (i : Nat) : Int)), x5, x6] S = some (.ok (.str (nms4.getD i "")) S)
  | 0, _ => by kernel_rfl
  | 1, _ => by kernel_rfl
  | 2, _ => by kernel_rfl
  | 3, _ => by kernel_rfl
  | 4, _ => by kernel_rfl
  | 5, _ => by kernel_rfl
  | 6, _ => by kernel_rfl
  | i + 7, h => absurd h (by omega)
theorem it2 {n : Nat} {m : Int} {x2 x3 x4 : Option D} {c : Nat} : ∀ a : Nat, a < 8 → (eB gAdd (eB gAdd (eSlX (eC (.str "mnopqrm")) (oNo) (oSo (eVar 5))) (eVar 6)) (eSlX (eC (.str "mnopqrm")) (oSo (eVar 5)) (oNo))) [some (.loc n), some (.int m), x2, x3, x4, some (.int (a : Nat)), some (.str ⟨#[c]⟩)] S = some (.ok (.str (kin a ⟨#[c]⟩)) S)
  | 0, _ => by kernel_rfl
  | 1, _ => by kernel_rfl
  | 2, _ => by kernel_rfl
  | 3, _ => by kernel_rfl
  | 4, _ => by kernel_rfl
  | 5, _ => by kernel_rfl
  | 6, _ => by kernel_rfl
  | 7, _ => by kernel_rfl
  | a + 8, h => absurd h (by omega)
theorem all1 : (nms1 ++ nmsT).Nodup ∧ (nms1 ++ nmsT).length = 40 ∧ ∀ x ∈ nms1 ++ nmsT, nmB x = true := by decide +kernel
theorem all3 : (nms3 ++ nms4).Nodup ∧ (nms3 ++ nms4).length = 15 ∧ ∀ x ∈ nms3 ++ nms4, nmB x = true := by decide +kernel
theorem all2 : ∀ a : Nat, a < 8 → (nms2 a).Nodup ∧ (nms2 a).length = 26 ∧ ∀ x ∈ nms2 a, nmB x = true := by decide +kernel
end Sb
end
section
set_option Elab.async false
set_option linter.all false
set_option maxRecDepth 100000
set_option maxHeartbeats 4000000
namespace Sb
open PySem PySem.Spec PyProof.Rows L2
variable {K : PySem.W.Frag} {S : Sto}
theorem bag_drw {n k j : Nat} {τ : Sl} {fm : EF} {b : Nat} (w : Wf S) (h0 : τ[j]? = some (some (.loc n))) (hm : fm τ S = some (.ok (.int (b : Nat)) S)) (h : Bag n k S) (hk : k < 2 ^ 40) (hm0 : 0 < b) (hm1 : b < 2 ^ 200) :
    ∃ (v : Nat) (S' : Sto), eCl M_bag_draw 2 (aCons (eVar j) (aCons fm aNil)) τ S = some (.ok (.int (v : Nat)) S') ∧ v < b ∧ Bag n (k + 1) S' ∧ Sm n S S' ∧ Wf S' := bag_src.draw bag_draw_ok w h0 hm h hk hm0 hm1
theorem lc_rg {fi : IF} {fe : EF} {j : Nat} {vs : List Nat} {τ : Sl} {xs : List Str} {lo N : Nat} (w : Wf S) (hi : fi τ S = some (.ok (wkR (lo : Nat) N) S)) (hN : N = xs.length) (hN2 : N ≤ 1000)
    (h : ∀ i, i < N → ∀ S', ∃ τ1, tN j (.int ((lo : Nat) + (i : Nat) : Int)) S' (wipeD τ vs) = some τ1 ∧ fe τ1 S' = some (.ok (.str (xs.getD i "")) S')) : fz (eLc fi (tN j) tAll fe vs) τ S = some (.ok (.fl (xs.map D.str)) S) := by
  have := lc_pu (fi := fi) (g := tN j) (t := tAll) (fe := fe) (vs := vs) (τ := τ) (ds := (List.range N).map fun i : Nat => D.int ((lo : Nat) + (i : Nat) : Int)) (fun _ => true) (fun d => match d with | .int z => .str (xs.getD (z - (lo : Nat)).toNat "") | _ => .non) w hi
    ⟨fun i S _ => by
      show (if i < N then _ else _) = _
      by_cases q : i < N
      · rw [if_pos q, List.getElem?_map, List.getElem?_range q]; rfl
      · rw [if_neg q, List.getElem?_eq_none (by simp; omega)], by simp [wkR]⟩ (by simp; omega)
    (fun d hd _ => by obtain ⟨c, _, rfl⟩ := List.mem_map.mp hd; rfl)
    (fun d hd S' _ _ => by
      obtain ⟨i, hi, rfl⟩ := List.mem_map.mp hd
      obtain ⟨τ1, h1, h2⟩ := h i (List.mem_range.mp hi) S'
      refine ⟨τ1, h1, rfl, fun _ => ?_⟩
      rw [h2]
      have : ((lo : Nat) + (i : Nat) - (lo : Nat) : Int).toNat = i := by omega
      simp only [this])
  rw [filter_tt, List.map_map] at this
  rw [this]
  congr 3
  refine List.ext_getElem (by simp; omega) fun i h1 h2 => ?_
  simp only [List.getElem_map, List.getElem_range, Function.comp]
  have e : ((lo : Nat) + (i : Nat) - (lo : Nat) : Int).toNat = i := by omega
  have h3 : i < xs.length := by simpa using h2
  rw [e, List.getD_eq_getElem?_getD, List.getElem?_eq_getElem h3]; rfl
structure NmL (m : Nat) (xs : List Str) : Prop where
  nd : xs.Nodup
  lo : m ≤ xs.length
  hi : xs.length ≤ 40
  nm : ∀ x ∈ xs, Nm x
theorem NmL.of {m : Nat} {xs : List Str} {z : Nat} (h : xs.Nodup ∧ xs.length = z ∧ ∀ x ∈ xs, nmB x = true) (h1 : m ≤ z) (h2 : z ≤ 40) : NmL m xs := ⟨h.1, by omega, by omega, fun x hx => nm_of (h.2.2 x hx)⟩
theorem bag_names_ok {n k m : Nat} (w : Wf S) (h : Bag n k S) (hk : k < 2 ^ 39) (hm0 : 1 ≤ m) (hm : m ≤ 40) :
    ∃ (S' : Sto) (xs : List Str), M_bag_names [.loc n, .int (m : Nat)] S = some (.ok (.fl (xs.map D.str)) S') ∧ xs.length = m ∧ xs.Nodup ∧ (∀ x ∈ xs, Nm x) ∧ Bag n (k + 43) S' ∧ Sm n S S' ∧ Wf S' := by
  have main : Ws (m_bag_names (ini 7 [.loc n, .int (m : Nat)]) S) fun fl S' => ∃ d, fl = .rt d ∧ ∃ xs : List Str, d = .fl (xs.map D.str) ∧ xs.length = m ∧ xs.Nodup ∧ (∀ x ∈ xs, Nm x) ∧ Bag n (k + 43) S' ∧ Sm n S S' ∧ Wf S' := by
    refine ws_set rfl ?_
    have e1 : (fz (eLc (iRg1 (aCons (eC (.int 38)) (aNil))) (tN 4) (tAll) (eB gMulX (eB gIx (eVar 2) (eB gMod (eVar 4) (eC (.int 26)))) (eB gAdd (eC (.int 1)) (eB gDiv (eVar 4) (eC (.int 26))))) [4])) [some (.loc n), some (.int (m : Nat)), some (.str "abcdefghijklmnopqrstuvwxyz"), none, none, none, none] S = some (.ok (.fl (nms1.map D.str)) S) := by
      refine lc_rg (lo := 0) (N := 38) w (iRg1_ok (n := 38) (a1_ok rfl) (by omega)) rfl (by omega) fun i hi S' => ⟨_, rfl, ?_⟩
      rw [show (((0 : Nat) : Int) + (i : Nat)) = (i : Nat) by omega]
      exact it1 i hi
    have e2 : (fz (eLst (aCons (eC (.str "zyxwvuts")) (aCons (eC (.str "abcdefgh")) (aNil))))) [some (.loc n), some (.int (m : Nat)), some (.str "abcdefghijklmnopqrstuvwxyz"), none, none, none, none] S = some (.ok (.fl (nmsT.map D.str)) S) := fz_list (aCons_ok rfl (aCons_ok rfl aNil_ok)) rfl w (by show nmsT.length ≤ 1000; decide) rfl
    have a1 : gAdd (.fl (nms1.map D.str)) (.fl (nmsT.map D.str)) S = some (.fl ((nms1 ++ nmsT).map D.str), S) := by
      rw [List.map_append]
      simp only [gAdd, flD, Option.bind_some]
      rw [if_pos (by rw [List.length_map, List.length_map, sizeLine_eq]; decide)]
    refine ws_set (eB_ok e1 e2 a1) ?_
    -- the end
    have last : ∀ (xs : List Str) (x4 x5 x6 : Option D) (S' : Sto), NmL m xs → Bag n (k + 3) S' → Sm n S S' → Wf S' →
        Ws (sRt (eSlX (fz (eCl (M_bag_mixed) 2 (aCons (eVar 0) (aCons (eVar 3) (aNil))))) (oNo) (oSo (eVar 1))) [some (.loc n), some (.int (m : Nat)), some (.str "abcdefghijklmnopqrstuvwxyz"), some (.fl (xs.map D.str)), x4, x5, x6] S')
          fun fl S' => ∃ d, fl = .rt d ∧ ∃ xs : List Str, d = .fl (xs.map D.str) ∧ xs.length = m ∧ xs.Nodup ∧ (∀ x ∈ xs, Nm x) ∧ Bag n (k + 43) S' ∧ Sm n S S' ∧ Wf S' := by
      intro xs x4 x5 x6 S' hx hb sm w'
      have h40 := hx.hi
      obtain ⟨acc, S2, e, pr, hb2, fr⟩ := bag_mixed_ok (n := n) (k := k + 3) (ds := xs.map D.str) w' hb (by rw [List.length_map]; omega) bds_str (by rw [List.length_map]; omega)
      obtain ⟨ys, rfl, py⟩ : ∃ ys : List Str, acc = ys.map D.str ∧ ys.Perm xs := by
        refine ⟨acc.map fun d => match d with | .str x => x | _ => "", ?_, ?_⟩
        · rw [List.map_map]
          conv => lhs; rw [← List.map_id acc]
          refine List.map_congr_left fun d hd => ?_
          obtain ⟨x, _, rfl⟩ := List.mem_map.mp (pr.mem_iff.mp hd)
          rfl
        · have := pr.map fun d => match d with | .str x => x | _ => ("" : Str)
          rw [List.map_map] at this
          refine this.trans (List.Perm.of_eq ?_)
          conv => rhs; rw [← List.map_id xs]
          rfl
      have hn' : n < S'.length := bag_src.lt hb
      obtain ⟨S3, e3, sm3, hb3, w3⟩ := bag_src.fz w' (eCl_ok (a2_ok rfl rfl) rfl e) fr hb2 hn' (d := .fl (ys.map D.str)) bds_str (τ := [some (.loc n), some (.int (m : Nat)), some (.str "abcdefghijklmnopqrstuvwxyz"), some (.fl (xs.map D.str)), x4, x5, x6]) (f := eCl M_bag_mixed 2 (aCons (eVar 0) (aCons (eVar 3) (aNil))))
      have ylen : ys.length = xs.length := py.length_eq
      have hlo := hx.lo
      refine ws_rt (eSlX_ok e3 rfl rfl cut_fl) ⟨_, rfl, ys.take m, by rw [List.map_take], by rw [List.length_take]; omega, (py.nodup_iff.mpr hx.nd).sublist (List.take_sublist _ _), fun x hx' => hx.nm x (py.mem_iff.mp (List.mem_of_mem_take hx')), bag_src.mono hb3 (by rw [List.length_map]; omega), sm.trans sm3, w3⟩
    have any1 : NmL m (nms1 ++ nmsT) := .of all1 hm (by omega)
    have b3 : Bag n (k + 3) S := bag_src.mono h (by omega)
    by_cases q27 : m < 27
    · obtain ⟨v1, S1, d1, v1l, sp1, sm1, w1⟩ := bag_drw (S := S) (j := 0) (τ := [some (.loc n), some (.int (m : Nat)), some (.str "abcdefghijklmnopqrstuvwxyz"), some (.fl ((nms1 ++ nmsT).map D.str)), none, none, none]) (fm := eC (.int 2)) (b := 2) w rfl rfl h (by omega) (by omega) (by omega)
      have t1 : (tAn (tB (eB gLtI (eVar 1) (eC (.int 27)))) (tB (eB (gEq false) (eCl (M_bag_draw) 2 (aCons (eVar 0) (aCons (eC (.int 2)) (aNil)))) (eC (.int 0))))) [some (.loc n), some (.int (m : Nat)), some (.str "abcdefghijklmnopqrstuvwxyz"), some (.fl ((nms1 ++ nmsT).map D.str)), none, none, none] S = some (.ok (decide (v1 = 0)) S1) :=
        an_t (tB_ok (eB_ok rfl rfl (gLt_i.trans (by rw [decide_eq_true (by omega)])))) (tB_ok (eB_ok d1 rfl (gEq_nat (i := v1) (j := 0))))
      by_cases q1 : v1 = 0
      · refine ws_seq (bif_t (t1.trans (by rw [decide_eq_true q1])) ?_)
        obtain ⟨a, S2, d2, al, sp2, sm2, w2⟩ := bag_drw (S := S1) (j := 0) (τ := [some (.loc n), some (.int (m : Nat)), some (.str "abcdefghijklmnopqrstuvwxyz"), some (.fl ((nms1 ++ nmsT).map D.str)), none, none, none]) (fm := eC (.int 8)) (b := 8) w1 rfl rfl sp1 (by omega) (by omega) (by omega)
        refine ws_set d2 ?_
        have e3 : (fz (eLc (iSeq (eVar 2)) (tN 6) (tAll) (eB gAdd (eB gAdd (eSlX (eC (.str "mnopqrm")) (oNo) (oSo (eVar 5))) (eVar 6)) (eSlX (eC (.str "mnopqrm")) (oSo (eVar 5)) (oNo))) [6])) [some (.loc n), some (.int (m : Nat)), some (.str "abcdefghijklmnopqrstuvwxyz"), some (.fl ((nms1 ++ nmsT).map D.str)), none, some (.int (a : Nat)), none] S2 = some (.ok (.fl ((nms2 a).map D.str)) S2) := by
          have := lc_pu (fi := iSeq (eVar 2)) (g := tN 6) (t := tAll) (fe := (eB gAdd (eB gAdd (eSlX (eC (.str "mnopqrm")) (oNo) (oSo (eVar 5))) (eVar 6)) (eSlX (eC (.str "mnopqrm")) (oSo (eVar 5)) (oNo)))) (vs := [6]) (τ := [some (.loc n), some (.int (m : Nat)), some (.str "abcdefghijklmnopqrstuvwxyz"), some (.fl ((nms1 ++ nmsT).map D.str)), none, some (.int (a : Nat)), none]) (ds := ("abcdefghijklmnopqrstuvwxyz" : Str).cps.toList.map fun c => D.str ⟨#[c]⟩) (fun _ => true) (fun d => match d with | .str y => .str (kin a y) | _ => .non) w2 (iSeq_ok rfl rfl)
            ⟨fun i S _ => by rw [List.getElem?_map, Array.getElem?_toList], by simp⟩ (by simp; decide +kernel)
            (fun d hd _ => by obtain ⟨c, _, rfl⟩ := List.mem_map.mp hd; rfl)
            (fun d hd S' _ _ => by
              obtain ⟨c, _, rfl⟩ := List.mem_map.mp hd
              exact ⟨_, rfl, rfl, fun _ => it2 a al⟩)
          rw [filter_tt, List.map_map] at this
          rw [this]
          unfold nms2
          rw [List.map_map]; rfl
        refine ws_set e3 ?_
        have any2 : m ≤ 26 → NmL m (nms2 a) := fun z => .of (all2 a al) z (by omega)
        have sm02 : Sm n S S2 := sm1.trans sm2
        by_cases q16 : m < 16
        · obtain ⟨v3, S3, d3, v3l, sp3, sm3, w3⟩ := bag_drw (S := S2) (j := 0) (τ := [some (.loc n), some (.int (m : Nat)), some (.str "abcdefghijklmnopqrstuvwxyz"), some (.fl ((nms2 a).map D.str)), none, some (.int (a : Nat)), none]) (fm := eC (.int 2)) (b := 2) w2 rfl rfl sp2 (by omega) (by omega) (by omega)
          have t3 : (tAn (tB (eB gLtI (eVar 1) (eC (.int 16)))) (tB (eB (gEq false) (eCl (M_bag_draw) 2 (aCons (eVar 0) (aCons (eC (.int 2)) (aNil)))) (eC (.int 0))))) [some (.loc n), some (.int (m : Nat)), some (.str "abcdefghijklmnopqrstuvwxyz"), some (.fl ((nms2 a).map D.str)), none, some (.int (a : Nat)), none] S2 = some (.ok (decide (v3 = 0)) S3) :=
            an_t (tB_ok (eB_ok rfl rfl (gLt_i.trans (by rw [decide_eq_true (by omega)])))) (tB_ok (eB_ok d3 rfl (gEq_nat (i := v3) (j := 0))))
          by_cases q3 : v3 = 0
          · refine bif_t (t3.trans (by rw [decide_eq_true q3])) ?_
            have f3 : (fz (eLc (iRg1 (aCons (eC (.int 8)) (aNil))) (tN 4) (tAll) (eB gAdd (eSlX (eC (.str "abcdefgh")) (oSo (eVar 4)) (oNo)) (eSlX (eC (.str "abcdefgh")) (oNo) (oSo (eVar 4)))) [4])) [some (.loc n), some (.int (m : Nat)), some (.str "abcdefghijklmnopqrstuvwxyz"), some (.fl ((nms2 a).map D.str)), none, some (.int (a : Nat)), none] S3 = some (.ok (.fl (nms3.map D.str)) S3) := by
              refine lc_rg (lo := 0) (N := 8) w3 (iRg1_ok (n := 8) (a1_ok rfl) (by omega)) rfl (by omega) fun i hi S' => ⟨_, rfl, ?_⟩
              rw [show (((0 : Nat) : Int) + (i : Nat)) = (i : Nat) by omega]
              exact it3 i hi
            have f4 : (fz (eLc (iRg2 (aCons (eC (.int 1)) (aCons (eC (.int 8)) (aNil)))) (tN 4) (tAll) (eSlX (eC (.str "abcdefgh")) (oNo) (oSo (eVar 4))) [4])) [some (.loc n), some (.int (m : Nat)), some (.str "abcdefghijklmnopqrstuvwxyz"), some (.fl ((nms2 a).map D.str)), none, some (.int (a : Nat)), none] S3 = some (.ok (.fl (nms4.map D.str)) S3) :=
              lc_rg (lo := 1) (N := 7) w3 rfl rfl (by omega) fun i hi S' => ⟨_, rfl, it4 i hi⟩
            have a3 : gAdd (.fl (nms3.map D.str)) (.fl (nms4.map D.str)) S3 = some (.fl ((nms3 ++ nms4).map D.str), S3) := by
              rw [List.map_append]
              simp only [gAdd, flD, Option.bind_some]
              rw [if_pos (by rw [List.length_map, List.length_map, sizeLine_eq]; decide)]
            exact ws_set1 (eB_ok f3 f4 a3) (last _ _ _ _ _ (.of all3 (by omega) (by omega)) (bag_src.mono sp3 (by omega)) (sm02.trans sm3) w3)
          · exact bif_f (t3.trans (by rw [decide_eq_false q3])) (ws_nop (last _ _ _ _ _ (any2 (by omega)) (bag_src.mono sp3 (by omega)) (sm02.trans sm3) w3))
        · exact bif_f (an_f (tB_ok (eB_ok rfl rfl (gLt_i.trans (by rw [decide_eq_false (by omega)]))))) (ws_nop (last _ _ _ _ _ (any2 (by omega)) (bag_src.mono sp2 (by omega)) sm02 w2))
      · exact ws_no (t1.trans (by rw [decide_eq_false q1])) (last _ _ _ _ _ any1 (bag_src.mono sp1 (by omega)) sm1 w1)
    · exact ws_no (an_f (tB_ok (eB_ok rfl rfl (gLt_i.trans (by rw [decide_eq_false (by omega)]))))) (last _ _ _ _ _ any1 b3 .refl w)
  obtain ⟨d, S', e, xs, rfl, h1⟩ := fn_ws main
  exact ⟨S', xs, e, h1⟩
end Sb
end
section
set_option Elab.async false
set_option linter.all false
set_option maxRecDepth 100000
set_option maxHeartbeats 4000000
namespace Sb
open PySem PySem.Spec PyProof.Rows L2
variable {K : PySem.W.Frag} {S : Sto}
/-- no card above some closed place is away -/
def StlAt (c : Nat) (l : List Card) : Prop := 1 ≤ c ∧ c ≤ l.length ∧ ∀ i, i < c → i ≤ ra l i ∧ ra l i < c
def Stl (l : List Card) : Prop := ∃ c, StlAt c l
theorem pow28 : gPow (.int 10) (.int 28) S = some (.int (10 ^ 28), S) := by
  have : (0 : Int) ≤ 28 ∧ (28 : Int) ≤ 1000000 ∧ (10 : Int).natAbs < 2 ^ 64 := by decide
  simp only [gPow, gI, decide_eq_true this, if_true]
  rfl
theorem gSub_nat {i j : Nat} (h : j ≤ i) : gSub (.int (i : Nat)) (.int (j : Nat)) S = some (.int ((i - j : Nat) : Nat), S) := by
  rw [gSub_i]; congr 3; omega
theorem gAdd_nat {i j : Nat} : gAdd (.int (i : Nat)) (.int (j : Nat)) S = some (.int ((i + j : Nat) : Nat), S) := by
  rw [gAdd_i]; congr 3
theorem gInt_bl {b : Bool} : gInt [.bl b] S = some (.int ((if b then 1 else 0 : Nat) : Nat), S) := by cases b <;> rfl
theorem wkE_nxt {es : List D} {i : Nat} (h : i < es.length) : (wkE es).nxt i S = some (some (.tup [.int (i : Nat), es[i]])) := by
  simp only [wkE, List.getElem?_eq_getElem h, Option.map_some]
theorem wkE_end {es : List D} : (wkE es).nxt es.length S = some none := by
  simp only [wkE, List.getElem?_eq_none (Nat.le_refl _), Option.map_none]
/-- depths of a settled deck, as they are drawn -/
structure DepS (m c : Nat) (l : List Card) : Prop where
  lo : ∀ d ∈ l, 0 ≤ d.2
  hi : ∀ d ∈ l, d.2 < 10 ^ 29
  st : ∀ i, i < l.length → i < c → (i : Int) ≤ (at0 l i).2 ∧ (c < m → (at0 l i).2 < c)
theorem DepS.snoc {m c : Nat} {l : List Card} {d : Card} (h : DepS m c l) (h0 : 0 ≤ d.2) (h1 : d.2 < 10 ^ 29) (h2 : l.length < c → (l.length : Int) ≤ d.2 ∧ (c < m → d.2 < c)) : DepS m c (l ++ [d]) where
  lo := fun x hx => by
    rcases List.mem_append.mp hx with q | q
    · exact h.lo x q
    · simp at q; subst q; exact h0
  hi := fun x hx => by
    rcases List.mem_append.mp hx with q | q
    · exact h.hi x q
    · simp at q; subst q; exact h1
  st := fun i hi hc => by
    rw [List.length_append, List.length_singleton] at hi
    by_cases q : i < l.length
    · rw [at0_eq (by simp; omega), List.getElem_append_left q, ← at0_eq q]; exact h.st i q hc
    · have : i = l.length := by omega
      subst this
      rw [at0_eq (by simp), List.getElem_append_right (by omega)]
      simpa using h2 hc
theorem DepS.stl {m c : Nat} {l : List Card} (h : DepS m c l) (hl : l.length = m) (hc : 1 ≤ c) (hm : c ≤ m) : StlAt c l := by
  refine ⟨hc, by omega, fun i hi => ?_⟩
  obtain ⟨h1, h2⟩ := h.st i (by omega) hi
  unfold ra rch
  by_cases q : c < m
  · have := h2 q
    omega
  · omega
theorem bag_settled_ok {n k most : Nat} (w : Wf S) (h : Bag n k S) (hk : k < 2 ^ 38) (hm0 : 1 ≤ most) (hm1 : most ≤ 40) :
    ∃ (S' : Sto) (l : List Card), M_bag_settled [.loc n, .int (most : Nat)] S = some (.ok (dK l) S') ∧ DeckOk l ∧ l.length ≤ most ∧ Stl l ∧ (∀ c ∈ l, c.2 < 10 ^ 29) ∧ Bag n (k + 400) S' ∧ Fr n S S' := by
  have main : Ws (m_bag_settled (ini 10 [.loc n, .int (most : Nat)]) S) fun fl S' => ∃ d, fl = .rt d ∧ ∃ l, d = dK l ∧ DeckOk l ∧ l.length ≤ most ∧ Stl l ∧ (∀ c ∈ l, c.2 < 10 ^ 29) ∧ Bag n (k + 400) S' ∧ Fr n S S' := by
    have B : ∀ b : Nat, b ≤ 10 ^ 28 → b < 2 ^ 200 := fun b hb => Nat.lt_of_le_of_lt hb (by decide)
    obtain ⟨v1, S1, e1, b1, sp1, sm1, w1⟩ := bag_drw (S := S) (j := 0) (τ := ini 10 [.loc n, .int (most : Nat)]) (fm := eVar 1) (b := most) w rfl rfl h (by omega) (by omega) (B _ (by omega))
    let m : Nat := 1 + v1
    have hm : 1 ≤ m ∧ m ≤ most := by show 1 ≤ 1 + v1 ∧ 1 + v1 ≤ _; omega
    refine ws_set (d := .int (m : Nat)) (eB_ok rfl e1 gAdd_nat) ?_
    let τ2 : Sl := [some (.loc n), some (.int (most : Nat)), some (.int (m : Nat)), none, none, none, none, none, none, none]
    obtain ⟨v2, S2, e2, b2, sp2, sm2, w2⟩ := bag_drw (S := S1) (j := 0) (τ := τ2) (fm := eVar 2) (b := m) w1 rfl rfl sp1 (by omega) (by omega) (B _ (by omega))
    have E2 : fz (eLst (aCons (eVar 2) (aCons (eB gAdd (eC (.int 1)) (eCl (M_bag_draw) 2 (aCons (eVar 0) (aCons (eVar 2) (aNil))))) (aNil)))) τ2 S1 = some (.ok (.fl ([(m : Int), ((1 + v2 : Nat) : Int)].map D.int)) S2) := fz_list (a2_ok rfl (eB_ok rfl e2 gAdd_nat)) sm2.len w2 (by simp) (by simp [bds, bd])
    obtain ⟨v3, S3, e3, b3, sp3, sm3, w3⟩ := bag_drw (S := S2) (j := 0) (τ := τ2) (fm := eC (.int 2)) (b := 2) w2 rfl rfl sp2 (by omega) (by omega) (B _ (by omega))
    obtain ⟨c, ec, hc1, hcm⟩ : ∃ c : Nat, [(m : Int), ((1 + v2 : Nat) : Int)].getD v3 0 = (c : Int) ∧ 1 ≤ c ∧ c ≤ m := by
      have hv : v3 = 0 ∨ v3 = 1 := by omega
      rcases hv with rfl | rfl
      · exact ⟨m, rfl, by omega, by omega⟩
      · exact ⟨1 + v2, rfl, by omega, by omega⟩
    have E3 := ix_fints (S := S3) (is := [(m : Int), ((1 + v2 : Nat) : Int)]) (v := v3) b3
    rw [ec] at E3
    refine ws_set (eB_ok E2 e3 E3) ?_
    let τ3 : Sl := [some (.loc n), some (.int (most : Nat)), some (.int (m : Nat)), some (.int (c : Nat)), none, none, none, none, none, none]
    obtain ⟨kind, S4, e4, b4, sp4, sm4, w4⟩ := bag_drw (S := S3) (j := 0) (τ := τ3) (fm := eC (.int 3)) (b := 3) w3 rfl rfl sp3 (by omega) (by omega) (B _ (by omega))
    refine ws_set e4 ?_
    refine ws_set (eLst_ok aNil_ok (by simp)) ?_
    let F : Nat := S4.length
    let Sc : Sto := S4 ++ [.lst []]
    have wc : Wf Sc := wf_app w4 rfl
    have hSc : Sc[F]? = some (.lst []) := get_last _ _
    have lSc : Sc.length = F + 1 := by show (S4 ++ _).length = _; simp [F]
    have hn4 : n < F := bag_src.lt sp4
    obtain ⟨Sd, xs, e5, lx, ndx, nmx, sp5, sm5, w5⟩ := bag_names_ok (S := Sc) (n := n) (k := k + 4) (m := m) wc (bag_src.app sp4) (by omega) hm.1 (by omega)
    have hz := sizeLine_eq
    refine ws_for m (fun i τ S' => ∃ (l : List Card) (x6 x7 x8 x9 : Option D), τ = [some (.loc n), some (.int (most : Nat)), some (.int (m : Nat)), some (.int (c : Nat)), some (.int (kind : Nat)), some (.loc F), x6, x7, x8, x9] ∧ l.length = i ∧ l.map (·.1) = xs.take i ∧ DepS m c l ∧ S'.length = Sc.length ∧ S'[F]? = some (.lst (l.map dC)) ∧ (∀ q, q ≠ n → q ≠ F → S'[q]? = Sc[q]?) ∧ Bag n (k + 48 + 8 * i) S' ∧ Wf S')
      (fun i => .tup [.int (i : Nat), .str (xs.getD i default)]) (iEnX_fl (a1_ok (eCl_ok (a2_ok rfl rfl) rfl e5))) (by simp [wkE, lx])
      ⟨[], none, none, none, none, rfl, rfl, rfl, ⟨(fun _ z => (by cases z)), (fun _ z => (by cases z)), (fun i hi => absurd hi (Nat.not_lt_zero _))⟩, sm5.len, (sm5.at_ F (by omega)).trans hSc, fun q h1 _ => sm5.at_ q h1, bag_src.mono sp5 (by omega), w5⟩ ?_ ?_ ?_
    · rintro i τ S' hi ⟨l, x6, x7, x8, x9, rfl, ll, lm, hd, len, hf, keep, sp, w'⟩
      have hi' : i < xs.length := by omega
      have g3 := List.getElem?_eq_getElem hi'
      have g4 : xs.getD i default = xs[i] := by rw [List.getD_eq_getElem?_getD, g3]; rfl
      rw [g4]
      refine ⟨by rw [wkE_nxt (by rw [List.length_map]; exact hi')]; simp, _, rfl, ?_⟩
      let τ1 : Sl := [some (.loc n), some (.int (most : Nat)), some (.int (m : Nat)), some (.int (c : Nat)), some (.int (kind : Nat)), some (.loc F), some (.int (i : Nat)), some (.str xs[i]), x8, x9]
      obtain ⟨u1, T1, q1, c1, t1, s1, y1⟩ := bag_drw (S := S') (j := 0) (τ := τ1) (fm := eB gAdd (eVar 2) (eC (.int 2))) (b := m + 2) w' rfl (eB_ok rfl rfl gAdd_nat) sp (by omega) (by omega) (B _ (by omega))
      refine ws_set q1 ?_
      -- the end of a turn
      have fin : ∀ (dp : Nat) (x9 : Option D) (T : Sto), dp < 10 ^ 29 → (i < c → i ≤ dp ∧ (c < m → dp < c)) → Bag n (k + 48 + 8 * i + 8) T → Sm n S' T → Wf T →
          Ws (sEx (eBM "list" gAppend (eVar 5) (aCons (eTup (aCons (eVar 7) (aCons (eVar 8) (aNil)))) (aNil))) [some (.loc n), some (.int (most : Nat)), some (.int (m : Nat)), some (.int (c : Nat)), some (.int (kind : Nat)), some (.loc F), some (.int (i : Nat)), some (.str xs[i]), some (.int (dp : Nat)), x9] T)
            (flK (fun τ S' => ∃ (l : List Card) (x6 x7 x8 x9 : Option D), τ = [some (.loc n), some (.int (most : Nat)), some (.int (m : Nat)), some (.int (c : Nat)), some (.int (kind : Nat)), some (.loc F), x6, x7, x8, x9] ∧ l.length = i + 1 ∧ l.map (·.1) = xs.take (i + 1) ∧ DepS m c l ∧ S'.length = Sc.length ∧ S'[F]? = some (.lst (l.map dC)) ∧ (∀ q, q ≠ n → q ≠ F → S'[q]? = Sc[q]?) ∧ Bag n (k + 48 + 8 * (i + 1)) S' ∧ Wf S') (fun fl S' => ∃ d, fl = .rt d ∧ ∃ l, d = dK l ∧ DeckOk l ∧ l.length ≤ most ∧ Stl l ∧ (∀ c ∈ l, c.2 < 10 ^ 29) ∧ Bag n (k + 400) S' ∧ Fr n S S')) := by
        intro dp x9 T h29 hst spT smT wT
        have hfT : T[F]? = some (.lst (l.map dC)) := (smT.at_ F (by omega)).trans hf
        have hlT : T.length = Sc.length := smT.len.trans len
        have hll : (l.map dC).length < sizeLine := by rw [List.length_map]; omega
        have ap : gAppend (.loc F) [dC (xs[i], (dp : Int))] T = some (.non, T.set F (.lst (l.map dC ++ [dC (xs[i], (dp : Int))]))) := by
          simp only [gAppend, listD, hfT, Option.bind_some, if_pos hll]
        refine ⟨_, _, sEx_ok (eBM_ok rfl (ty_list hfT) (a1_ok (eTup_ok (a2_ok rfl rfl) (by simp))) ap), l ++ [(xs[i], (dp : Int))], _, _, _, _, rfl, by simp [ll], ?_, hd.snoc (by simp) (by simp; omega) (fun hlc => ?_), by rw [List.length_set]; exact hlT, ?_, ?_, ?_, ?_⟩
        · rw [List.map_append, lm, List.map_cons, List.map_nil, ← List.take_append_getElem hi']
        · obtain ⟨z1, z2⟩ := hst (by omega)
          refine ⟨by show ((l.length : Nat) : Int) ≤ (dp : Int); omega, fun z => ?_⟩
          have := z2 z
          show (dp : Int) < (c : Int); omega
        · rw [List.getElem?_set_self (by omega)]; simp
        · intro q h1 h2
          rw [List.getElem?_set_ne (Ne.symm h2), smT.at_ q h1]; exact keep q h1 h2
        · exact bag_src.mono (bag_src.fr (S := T) spT (List.getElem?_set_ne (by omega))) (by omega)
        · refine wf_set wT ?_
          show bds _ _ = true
          rw [show l.map dC ++ [dC (xs[i], (dp : Int))] = (l ++ [(xs[i], (dp : Int))]).map dC by simp]; exact bds_dC
      by_cases hic : i < c
      · refine ws_seq (bif_t (tB_ok (eB_ok rfl rfl (gLt_i.trans (by rw [decide_eq_true (by omega)])))) ?_)
        let τa : Sl := [some (.loc n), some (.int (most : Nat)), some (.int (m : Nat)), some (.int (c : Nat)), some (.int (kind : Nat)), some (.loc F), some (.int (i : Nat)), some (.str xs[i]), some (.int (u1 : Nat)), x9]
        obtain ⟨u2, T2, q2, c2, t2, s2, y2⟩ := bag_drw (S := T1) (j := 0) (τ := τa) (fm := eB gSub (eVar 3) (eVar 6)) (b := c - i) y1 rfl (eB_ok rfl rfl (gSub_nat (by omega))) t1 (by omega) (by omega) (B _ (by omega))
        let is : List Int := [((i + u2 : Nat) : Int), ((c - 1 : Nat) : Int), (i : Int)]
        have Ea : fz (eLst (aCons (eB gAdd (eVar 6) (eCl (M_bag_draw) 2 (aCons (eVar 0) (aCons (eB gSub (eVar 3) (eVar 6)) (aNil))))) (aCons (eB gSub (eVar 3) (eC (.int 1))) (aCons (eVar 6) (aNil))))) τa T1 = some (.ok (.fl (is.map D.int)) T2) :=
          fz_list (a3_ok (eB_ok rfl q2 gAdd_nat) (eB_ok rfl rfl (gSub_nat (i := c) (j := 1) hc1)) rfl) s2.len y2 (by simp [is]) (bds_int (l := is))
        refine ws_set Ea ?_
        let τb : Sl := [some (.loc n), some (.int (most : Nat)), some (.int (m : Nat)), some (.int (c : Nat)), some (.int (kind : Nat)), some (.loc F), some (.int (i : Nat)), some (.str xs[i]), some (.int (u1 : Nat)), some (.fl (is.map D.int))]
        obtain ⟨u3, T3, q3, c3, t3, s3, y3⟩ := bag_drw (S := T2) (j := 0) (τ := τb) (fm := eC (.int 3)) (b := 3) y2 rfl rfl t2 (by omega) (by omega) (B _ (by omega))
        obtain ⟨u4, T4, q4, c4, t4, s4, y4⟩ := bag_drw (S := T3) (j := 0) (τ := τb) (fm := eC (.int 4)) (b := 4) y3 rfl rfl t3 (by omega) (by omega) (B _ (by omega))
        have isv : ∀ v, v < 3 → ∃ z : Nat, is.getD v 0 = (z : Int) ∧ i ≤ z ∧ z < c := fun v hv => by
          have hv : v = 0 ∨ v = 1 ∨ v = 2 := by omega
          rcases hv with rfl | rfl | rfl
          · exact ⟨i + u2, rfl, by omega, by omega⟩
          · exact ⟨c - 1, rfl, by omega, by omega⟩
          · exact ⟨i, rfl, by omega, by omega⟩
        obtain ⟨z0, ez0, hz0⟩ := isv 0 (by omega)
        obtain ⟨z1, ez1, hz1⟩ := isv u3 c3
        generalize hu : (if decide ((0 : Int) < (u4 : Nat)) = true then 1 else 0 : Nat) = u
        have hu2 : u < 2 := by rw [← hu]; split <;> omega
        obtain ⟨z2, ez2, hz2⟩ := isv (2 * u) (by omega)
        have E0 : eB gIx (eVar 9) (eC (.int 0)) τb T2 = some (.ok (.int (z0 : Nat)) T2) := eB_ok rfl rfl ((ix_fints (is := is) (v := 0) (by simp [is])).trans (by rw [ez0]))
        have E1 : eB gIx (eVar 9) (eCl (M_bag_draw) 2 (aCons (eVar 0) (aCons (eC (.int 3)) (aNil)))) τb T2 = some (.ok (.int (z1 : Nat)) T3) := eB_ok rfl q3 ((ix_fints (is := is) (v := u3) (by simp [is]; omega)).trans (by rw [ez1]))
        have Eu : eB gMulX (eC (.int 2)) (eCB gInt (aCons (eB gGtI (eCl (M_bag_draw) 2 (aCons (eVar 0) (aCons (eC (.int 4)) (aNil)))) (eC (.int 0))) (aNil))) τb T3 = some (.ok (.int ((2 * u : Nat) : Nat)) T4) := by
          refine eB_ok rfl (eCB_ok (a1_ok (eB_ok q4 rfl gGt_i)) (gInt_bl.trans (by rw [hu]))) ((mulX (by decide) (by simp; exact Nat.lt_trans (show u < 2 by omega) (by decide))).trans ?_)
          congr 3
        have E2' : eB gIx (eVar 9) (eB gMulX (eC (.int 2)) (eCB gInt (aCons (eB gGtI (eCl (M_bag_draw) 2 (aCons (eVar 0) (aCons (eC (.int 4)) (aNil)))) (eC (.int 0))) (aNil)))) τb T3 = some (.ok (.int (z2 : Nat)) T4) := eB_ok rfl Eu ((ix_fints (is := is) (v := 2 * u) (by simp [is]; omega)).trans (by rw [ez2]))
        let js : List Int := [(z0 : Int), (z1 : Int), (z2 : Int)]
        have Ej : fz (eLst (aCons (eB gIx (eVar 9) (eC (.int 0))) (aCons (eB gIx (eVar 9) (eCl (M_bag_draw) 2 (aCons (eVar 0) (aCons (eC (.int 3)) (aNil))))) (aCons (eB gIx (eVar 9) (eB gMulX (eC (.int 2)) (eCB gInt (aCons (eB gGtI (eCl (M_bag_draw) 2 (aCons (eVar 0) (aCons (eC (.int 4)) (aNil)))) (eC (.int 0))) (aNil))))) (aNil))))) τb T2 = some (.ok (.fl (js.map D.int)) T4) :=
          fz_list (a3_ok E0 E1 E2') (s3.trans s4).len y4 (by simp [js]) (bds_int (l := js))
        obtain ⟨z, ez, hz⟩ : ∃ z : Nat, js.getD kind 0 = (z : Int) ∧ i ≤ z ∧ z < c := by
          have hv : kind = 0 ∨ kind = 1 ∨ kind = 2 := by omega
          rcases hv with h | h | h <;> rw [h]
          · exact ⟨z0, rfl, hz0⟩
          · exact ⟨z1, rfl, hz1⟩
          · exact ⟨z2, rfl, hz2⟩
        refine ws_set (eB_ok Ej rfl ((ix_fints (S := T4) (is := js) (v := kind) (by simp [js]; omega)).trans (by rw [ez]))) ?_
        have F4 : Sm n S' T4 := ((s1.trans s2).trans s3).trans s4
        by_cases ht : c = m ∧ z = m - 1
        · have t : (tAn (tB (eB (gEq false) (eVar 3) (eVar 2))) (tB (eB (gEq false) (eVar 8) (eB gSub (eVar 2) (eC (.int 1)))))) [some (.loc n), some (.int (most : Nat)), some (.int (m : Nat)), some (.int (c : Nat)), some (.int (kind : Nat)), some (.loc F), some (.int (i : Nat)), some (.str xs[i]), some (.int (z : Nat)), some (.fl (is.map D.int))] T4 = some (.ok true T4) :=
            an_t (tB_ok (eB_ok rfl rfl (d := .bl true) (S3 := T4) (gEq_nat.trans (by simp [ht.1])))) (tB_ok (eB_ok rfl (eB_ok rfl rfl (gSub_nat (i := m) (j := 1) hm.1)) (d := .bl true) (S3 := T4) (gEq_nat.trans (by simp [ht.2]))))
          refine bif_t t ?_
          let τc : Sl := [some (.loc n), some (.int (most : Nat)), some (.int (m : Nat)), some (.int (c : Nat)), some (.int (kind : Nat)), some (.loc F), some (.int (i : Nat)), some (.str xs[i]), some (.int (z : Nat)), some (.fl (is.map D.int))]
          let ks : List Int := [1, 9, ((10 ^ 28 : Nat) : Int)]
          have Ek : fz (eLst (aCons (eC (.int 1)) (aCons (eC (.int 9)) (aCons (eB gPow (eC (.int 10)) (eC (.int 28))) (aNil))))) τc T4 = some (.ok (.fl (ks.map D.int)) T4) := fz_list (a3_ok rfl rfl (eB_ok rfl rfl pow28)) rfl y4 (by simp [ks]) (bds_int (l := ks))
          obtain ⟨u5, T5, q5, c5, t5, s5, y5⟩ := bag_drw (S := T4) (j := 0) (τ := τc) (fm := eC (.int 3)) (b := 3) y4 rfl rfl t4 (by omega) (by omega) (B _ (by omega))
          obtain ⟨p, ep, hp1, hp2⟩ : ∃ p : Nat, ks.getD u5 0 = (p : Int) ∧ 1 ≤ p ∧ p ≤ 10 ^ 28 := by
            have hv : u5 = 0 ∨ u5 = 1 ∨ u5 = 2 := by omega
            rcases hv with rfl | rfl | rfl
            · exact ⟨1, rfl, by decide, by decide⟩
            · exact ⟨9, rfl, by decide, by decide⟩
            · exact ⟨10 ^ 28, rfl, by decide, by decide⟩
          have Ep : eB gIx (fz (eLst (aCons (eC (.int 1)) (aCons (eC (.int 9)) (aCons (eB gPow (eC (.int 10)) (eC (.int 28))) (aNil)))))) (eCl (M_bag_draw) 2 (aCons (eVar 0) (aCons (eC (.int 3)) (aNil)))) τc T4 = some (.ok (.int (p : Nat)) T5) := eB_ok Ek q5 ((ix_fints (S := T5) (is := ks) (v := u5) (by simp [ks]; omega)).trans (by rw [ep]))
          have e9 : ∃ (v : Nat) (S' : Sto), eCl (M_bag_draw) 2 (aCons (eVar 0) (aCons (eB gIx (fz (eLst (aCons (eC (.int 1)) (aCons (eC (.int 9)) (aCons (eB gPow (eC (.int 10)) (eC (.int 28))) (aNil)))))) (eCl (M_bag_draw) 2 (aCons (eVar 0) (aCons (eC (.int 3)) (aNil))))) (aNil))) τc T4 = some (.ok (.int (v : Nat)) S') ∧ v < p ∧ Bag n (k + 48 + 8 * i + 1 + 1 + 1 + 1 + 1 + 1) S' ∧ Sm n T5 S' ∧ Wf S' := by
            obtain ⟨v, S', e, v1, sp, sm⟩ := bag_draw_ok (S := T5) (b := p) y5 t5 (by omega) (by omega) (B _ hp2)
            exact ⟨v, S', eCl_ok (a2_ok rfl Ep) rfl e, v1, sp, sm, bag_src.wf sm y5 sp⟩
          obtain ⟨u6, T6, q6, c6, t6, s6, y6⟩ := e9
          refine ws_set1 (eB_ok rfl q6 gAdd_nat) (fin (z + u6) _ T6 (by omega) (fun _ => ⟨by omega, fun z => by omega⟩) (bag_src.mono t6 (by omega)) ((F4.trans s5).trans s6) y6)
        · have t : (tAn (tB (eB (gEq false) (eVar 3) (eVar 2))) (tB (eB (gEq false) (eVar 8) (eB gSub (eVar 2) (eC (.int 1)))))) [some (.loc n), some (.int (most : Nat)), some (.int (m : Nat)), some (.int (c : Nat)), some (.int (kind : Nat)), some (.loc F), some (.int (i : Nat)), some (.str xs[i]), some (.int (z : Nat)), some (.fl (is.map D.int))] T4 = some (.ok false T4) := by
            refine (an_b (a := decide (c = m)) (b := decide (z = m - 1)) (tB_ok (eB_ok rfl rfl (gEq_nat.trans (by simp)))) (fun _ => tB_ok (eB_ok rfl (eB_ok rfl rfl (gSub_nat (i := m) (j := 1) hm.1)) (gEq_nat.trans (by simp))))).trans ?_
            congr 2
            simp only [Bool.and_eq_false_iff, decide_eq_false_iff_not]
            by_cases y : c = m
            · exact .inr fun x => ht ⟨y, x⟩
            · exact .inl y
          exact bif_f t (ws_nop (fin z _ T4 (by omega) (fun _ => ⟨hz.1, fun _ => hz.2⟩) (bag_src.mono t4 (by omega)) F4 y4))
      · exact ws_no (tB_ok (eB_ok rfl rfl (gLt_i.trans (by rw [decide_eq_false (by omega)])))) (fin u1 _ T1 (by omega) (fun z => absurd z hic) (bag_src.mono t1 (by omega)) s1 y1)
    · rintro τ S' ⟨l, x6, x7, x8, x9, rfl, ll, lm, hd, len, hf, keep, sp, w'⟩
      have := wkE_end (S := S') (es := xs.map D.str)
      rwa [List.length_map, lx] at this
    · rintro τ S' ⟨l, x6, x7, x8, x9, rfl, ll, lm, hd, len, hf, keep, sp, w'⟩
      have lm' : l.map (·.1) = xs := by rw [lm, List.take_of_length_le (by omega)]
      have hseq : seqD S' (.loc F) = some (l.map dC) := by simp [seqD, hf]
      refine ws_rt (eCB_ok (ds := [.loc F]) (S1 := S') (a1_ok rfl) (by simp only [gTuple, hseq, Option.bind_some])) ⟨_, rfl, l, rfl, ⟨by omega, by omega, fun x hx => nmx _ (by rw [← lm']; exact List.mem_map_of_mem hx), hd.lo, by rw [lm']; exact ndx⟩, by omega, ⟨c, hd.stl ll hc1 hcm⟩, hd.hi, bag_src.mono sp (by omega), ?_⟩
      have G : Sm n S S4 := ((sm1.trans sm2).trans sm3).trans sm4
      have lF : F = S.length := G.len
      refine ⟨by rw [len, lSc]; omega, fun i h1 h2 => ?_⟩
      rw [keep i h1 (by omega), ← G.at_ i h1]
      exact List.getElem?_append_left (by omega)
  obtain ⟨d, S', e, l, rfl, h1⟩ := fn_ws main
  exact ⟨S', l, e, h1⟩
end Sb
end
section
set_option Elab.async false
set_option linter.all false
set_option maxRecDepth 100000
set_option maxHeartbeats 4000000
namespace Sb
open PySem PySem.Spec PyProof.Rows L2
variable {K : PySem.W.Frag} {S : Sto}
/-! ## the law's own reading of a deck -/
theorem min_rch {c : Card} {n : Nat} (h : 0 ≤ c.2) (hn : 1 ≤ n) : gMin2 [.int c.2, .int ((n - 1 : Nat) : Nat)] S = some (.int (rch n c : Nat), S) := by
  simp only [gMin2]
  congr 3
  unfold rch
  split <;> omega
theorem slX_tup {ds : List D} {lo hi : Option Int} : gSlX (.tup ds) lo hi S = gSl (.tup ds) lo hi S := rfl
theorem bag_slid_ok {l : List Card} (h : DeckOk l) : M_bag_slid [dK l] S = some (.ok (dK (stp l)) S) := by
  obtain ⟨c, r, rfl, h1, h2, _⟩ := h.cons
  have e0 : gIx (dK (c :: r)) (.int 0) S = some (dC c, S) := by simp [gIx, seqD, atI, ixN]
  have e1 : gIx (dC c) (.int 1) S = some (.int c.2, S) := by simp [gIx, seqD, atI, ixN]
  have eL := len_deck (S := S) (l := c :: r)
  rw [List.length_cons] at eL
  have em := min_rch (S := S) (c := c) (n := r.length + 1) h2 (by omega)
  have hk : rch (r.length + 1) c = min c.2.toNat r.length := rfl
  generalize rch (r.length + 1) c = k at em hk
  have hkl : k ≤ r.length := by omega
  have s1 : gSl (dK (c :: r)) (some 1) (some ((k + 1 : Nat) : Int)) S = some (dK (r.take k), S) := sl_deck (by
    have := cut_nat (l := c :: r) (a := 1) (b := k + 1)
    rw [show ((1 : Nat) : Int) = 1 from rfl] at this
    rw [this, List.length_cons, Nat.min_eq_left (by omega : 1 ≤ r.length + 1), Nat.min_eq_left (by omega : k + 1 ≤ r.length + 1)]
    simp)
  have s2 : gSl (dK (c :: r)) none (some 1) S = some (dK [c], S) := sl_deck (by
    have := cut_to (l := c :: r) (b := 1)
    rw [show ((1 : Nat) : Int) = 1 from rfl] at this
    rw [this]; simp)
  have s3 : gSl (dK (c :: r)) (some ((k + 1 : Nat) : Int)) none S = some (dK (r.drop k), S) := sl_deck (by rw [cut_from]; simp)
  have t1 : gAdd (dK (r.take k)) (dK [c]) S = some (dK (r.take k ++ [c]), S) := tup_add (by simp; omega)
  have t2 : gAdd (dK (r.take k ++ [c])) (dK (r.drop k)) S = some (dK (r.take k ++ [c] ++ r.drop k), S) := tup_add (by simp; omega)
  have e9 : stp (c :: r) = r.take k ++ [c] ++ r.drop k := by simp only [stp, hk, List.append_assoc, List.singleton_append]
  rw [e9]
  refine fnM_rt ?_
  refine (sSeq_nx (sSet_ok (eCB_ok (a2_ok (eB_ok (eB_ok rfl rfl e0) rfl e1) (eB_ok (eCB_ok (a1_ok rfl) eL) rfl (gSub_nat (i := r.length + 1) (j := 1) (by omega)))) em))).trans ?_
  have ek : (eB gAdd (eVar 1) (eC (.int 1))) [some (dK (c :: r)), some (.int (k : Nat))] S = some (.ok (.int ((k + 1 : Nat) : Nat)) S) := eB_ok rfl rfl gAdd_nat
  exact sRt_ok (eB_ok (eB_ok (eSlX_ok rfl rfl (oSo_ok ek) s1) (eSlX_ok rfl rfl rfl s2) t1) (eSlX_ok rfl (oSo_ok ek) rfl s3) t2)
theorem maxI_lt {ns : List Int} (h : ns ≠ []) {m : Int} : maxI ns < m ↔ ∀ x ∈ ns, x < m := by
  induction ns with
  | nil => exact absurd rfl h
  | cons i r ih =>
    cases r with
    | nil => simp [maxI]
    | cons j r2 =>
      have e : maxI (i :: j :: r2) = max i (maxI (j :: r2)) := rfl
      rw [e]
      constructor
      · intro q x hx
        rcases List.mem_cons.mp hx with rfl | hx
        · omega
        · exact (ih (by simp)).mp (by omega) x hx
      · intro q
        have a := q i (by simp)
        have b := (ih (by simp)).mpr fun x hx => q x (List.mem_cons_of_mem _ hx)
        omega
theorem intsD_map {α : Type} {f : α → Int} : ∀ l : List α, intsD (l.map fun x => D.int (f x)) = some (l.map f)
  | [] => rfl
  | x :: r => by
    show (intsD (r.map fun x => D.int (f x))).map (f x :: ·) = _
    rw [intsD_map r]; rfl
theorem bag_closed_ok {l : List Card} (w : Wf S) (ok : DeckOk l) : M_bag_closed [dK l] S = some (.ok (.int (clo l : Nat)) S) := by
  have h1 := ok.lo
  have h2 := ok.hi
  have A := clo_is h1
  refine fn_wt ?_
  refine ws_for (l.length - 1) (fun i τ S' => S' = S ∧ (∃ x1 x2 x3, τ = [some (dK l), x1, x2, x3]) ∧ ∀ m, 1 ≤ m → m ≤ i → ∃ j, j < m ∧ m ≤ ra l j) (fun i => .int (1 + i : Nat)) (iRg2_ok (a := 1) (b := l.length) (a2_ok rfl (eCB_ok (a1_ok rfl) len_deck)) (by omega) (by omega)) (Nat.le_refl _) ⟨rfl, ⟨none, none, none, rfl⟩, fun m a b => by omega⟩ ?_ (fun _ _ _ => rg2_end) ?_
  · rintro i τ S' hi ⟨rfl, ⟨x1, x2, x3, rfl⟩, hno⟩
    refine ⟨rg2_nxt hi, _, rfl, ?_⟩
    have e := lc_pu (fi := iSeq (eSlX (eVar 0) (oNo) (oSo (eVar 1)))) (g := tN2 2 3) (t := tAll) (fe := eCB gMin2 (aCons (eVar 3) (aCons (eB gSub (eCB gLenX (aCons (eVar 0) (aNil))) (eC (.int 1))) (aNil)))) (vs := [2, 3]) (τ := [some (dK l), some (.int (1 + i : Nat)), x2, x3]) (S := S') (ds := (l.take (1 + i)).map dC)
      (fun _ => true) (fun d => match d with | .tup [.str x, .int i] => .int (rch l.length (x, i) : Nat) | _ => .non) w (iSeq_ok (eSlX_ok rfl rfl (oSo_ok rfl) (slX_tup.trans cut_deck)) wk_tup) wks_ds (by simp; omega)
      (fun d hd _ => by obtain ⟨c, _, rfl⟩ := List.mem_map.mp hd; rfl)
      (fun d hd S'' _ _ => by
        obtain ⟨c, hc, rfl⟩ := List.mem_map.mp hd
        have hc' := List.mem_of_mem_take hc
        exact ⟨_, rfl, rfl, fun _ => eCB_ok (a2_ok rfl (eB_ok (eCB_ok (a1_ok rfl) len_deck) rfl (gSub_nat (i := l.length) (j := 1) h1))) (min_rch (ok.dep c hc') h1)⟩)
    rw [filter_tt, List.map_map] at e
    have ei := intsD_map (f := fun c : Card => ((rch l.length c : Nat) : Int)) (l.take (1 + i))
    have ne : (l.take (1 + i)).map (fun c : Card => ((rch l.length c : Nat) : Int)) ≠ [] := by
      intro z
      have := congrArg List.length z
      rw [List.length_map, List.length_take] at this
      simp only [List.length_nil] at this
      omega
    have em : gMax [.fl ((l.take (1 + i)).map fun c => D.int ((rch l.length c : Nat) : Int))] S' = some (.int (maxI ((l.take (1 + i)).map fun c : Card => ((rch l.length c : Nat) : Int))), S') := by
      simp only [gMax, gMax1, ei, Option.bind_some, if_neg ne]
    have iff := maxI_lt ne (m := ((1 + i : Nat) : Int))
    have key : maxI ((l.take (1 + i)).map fun c : Card => ((rch l.length c : Nat) : Int)) < ((1 + i : Nat) : Int) ↔ ∀ j, j < 1 + i → ra l j < 1 + i := by
      rw [iff]
      constructor
      · intro q j hj
        have hjl : j < l.length := by omega
        have := q _ (List.mem_map_of_mem (f := fun c : Card => ((rch l.length c : Nat) : Int)) (show at0 l j ∈ l.take (1 + i) by
          rw [at0_eq hjl]
          exact List.mem_take_iff_getElem.mpr ⟨j, by omega, rfl⟩))
        show rch l.length (at0 l j) < 1 + i
        have this' : ((rch l.length (at0 l j) : Nat) : Int) < ((1 + i : Nat) : Int) := this
        omega
      · intro q x hx
        obtain ⟨c, hc, rfl⟩ := List.mem_map.mp hx
        obtain ⟨j, hj, rfl⟩ := List.mem_take_iff_getElem.mp hc
        have := q j (by omega)
        rw [← at0_eq (by omega)]
        show ((ra l j : Nat) : Int) < _
        omega
    by_cases q : ∀ j, j < 1 + i → ra l j < 1 + i
    · refine ⟨_, _, (sIf_t (tB_ok (b := true) (eB_ok (eCB_ok (a1_ok e) em) rfl (gLt_i.trans (by rw [decide_eq_true (key.mpr q)]))))).trans (sRt_ok rfl), ?_, rfl⟩
      have : IsClo (ra l) l.length (1 + i) := ⟨by omega, by omega, q, fun m a b => hno m a (by omega)⟩
      rw [A.uniq this]
    · refine ⟨_, _, (sIf_f (tB_ok (b := false) (eB_ok (eCB_ok (a1_ok e) em) rfl (gLt_i.trans (by rw [decide_eq_false fun z => q (key.mp z)]))))).trans rfl, rfl, ⟨_, _, _, rfl⟩, fun m a b => ?_⟩
      by_cases z : m ≤ i
      · exact hno m a z
      · have : m = 1 + i := by omega
        subst this
        apply Classical.byContradiction
        intro hn
        exact q fun j hj => by
          apply Classical.byContradiction
          intro hj2
          exact hn ⟨j, hj, by omega⟩
  · rintro τ' S' ⟨rfl, ⟨x1, x2, x3, rfl⟩, hno⟩
    have : IsClo (ra l) l.length l.length := ⟨h1, Nat.le_refl _, fun i _ => ra_lt h1 i, fun m a b => hno m a (by omega)⟩
    refine ws_rt (eCB_ok (a1_ok rfl) len_deck) ⟨?_, rfl⟩
    rw [A.uniq this]
end Sb
end
section
set_option Elab.async false
set_option linter.all false
set_option maxRecDepth 100000
set_option maxHeartbeats 4000000
namespace Sb
open PySem PySem.Spec PyProof.Rows L2
variable {K : PySem.W.Frag} {S : Sto}
/-! ## a loop with a break -/
def flB (Q1 B : Sl → Sto → Prop) (Q : Fl → Sto → Prop) : Fl → Sto → Prop := fun fl S => match fl with
  | .nx τ => Q1 τ S
  | .ct τ => Q1 τ S
  | .bk τ => B τ S
  | .rt d => Q (.rt d) S
  | _ => False
theorem ws_forB {fi : IF} {g : TF} {fb rest : SF} {τ : Sl} {S S1 : Sto} {wk : Wk} {Q : Fl → Sto → Prop} (n : Nat) (I B : Nat → Sl → Sto → Prop) (item : Nat → D) (hfi : fi τ S = some (.ok wk S1)) (hb : n ≤ wk.bound) (h0 : I 0 τ S1)
    (h : ∀ i τ S, i < n → I i τ S → wk.nxt i S = some (some (item i)) ∧ ∃ τ1, g (item i) S τ = some τ1 ∧ Ws (fb τ1 S) (flB (I (i + 1)) (B i) Q))
    (he : ∀ τ S, I n τ S → wk.nxt n S = some none) (k : ∀ τ' S', I n τ' S' → Ws (rest τ' S') Q) (kb : ∀ i τ' S', i < n → B i τ' S' → Ws (rest τ' S') Q) : Ws (sSeq (sFor fi g fb) rest τ S) Q := by
  have key : ∀ (m i : Nat) (τ : Sl) (S : Sto), i ≤ n → n - i < m → I i τ S → Ws (goF wk.nxt g fb m i τ S) (flN (fun τ S => I n τ S ∨ ∃ i, i < n ∧ B i τ S) Q) := by
    intro m
    induction m with
    | zero => exact fun i τ S _ hm _ => absurd hm (Nat.not_lt_zero _)
    | succ m ih =>
      intro i τ S hi hm hI
      unfold goF
      by_cases e : i = n
      · subst e
        rw [he τ S hI]
        exact ⟨_, _, rfl, .inl hI⟩
      · obtain ⟨h1, τ1, h2, fl, S2, h3, h4⟩ := h i τ S (by omega) hI
        rw [h1]
        simp only [h2, h3]
        cases fl with
        | nx τ2 => exact ih (i + 1) τ2 S2 (by omega) (by omega) h4
        | ct τ2 => exact ih (i + 1) τ2 S2 (by omega) (by omega) h4
        | rt d => exact ⟨_, _, rfl, h4⟩
        | bk τ2 => exact ⟨_, _, rfl, .inr ⟨i, by omega, h4⟩⟩
        | xx x τ2 => exact absurd h4 id
  obtain ⟨fl, S2, e, q⟩ := key (wk.bound + 1) 0 τ S1 (Nat.zero_le _) (by omega) h0
  have e2 : sFor fi g fb τ S = some (fl, S2) := sFor_ok hfi e
  cases fl with
  | nx τ2 =>
    rw [show sSeq (sFor fi g fb) rest τ S = rest τ2 S2 from sSeq_nx e2]
    rcases q with q | ⟨i, hi, q⟩
    · exact k τ2 S2 q
    · exact kb i τ2 S2 hi q
  | rt d => exact ⟨_, _, sSeq_rt e2, q⟩
  | ct τ2 => exact absurd q id
  | bk τ2 => exact absurd q id
  | xx x τ2 => exact absurd q id
theorem sAs_ok {g : TF} {fe : EF} {τ τ1 : Sl} {d : D} {S S1 : Sto} (h : fe τ S = some (.ok d S1)) (h2 : g d S1 τ = some τ1) : sAs g fe τ S = some (.nx τ1, S1) := by
  simp only [sAs, sx, h, h2, Option.bind_some]
theorem sSeq_bk {f g : SF} {τ τ1 : Sl} {S S1 : Sto} (h : f τ S = some (.bk τ1, S1)) : sSeq f g τ S = some (.bk τ1, S1) := by simp only [sSeq, h]
theorem eVar_at {τ : Sl} {i : Nat} {d : D} {S : Sto} (h : τ[i]? = some (some d)) : eVar i τ S = some (.ok d S) := by simp only [eVar, h]
/-! ## papers -/
def rowD (i : Nat) (p : Pat) : D := .tup [.int (i : Nat), .int (i / p.length : Nat), .int (i % p.length : Nat)]
end Sb
end
section
set_option Elab.async false
set_option linter.all false
set_option maxRecDepth 100000
set_option maxHeartbeats 4000000
namespace Sb
open PySem PySem.Spec PyProof.Rows L2
variable {K : PySem.W.Frag} {S : Sto}
/-! ## settled decks -/
theorem Stl.clo {l : List Card} (hl : 1 ≤ l.length) (h : Stl l) : ∀ i, i < Sb.clo l → i ≤ ra l i := by
  obtain ⟨c, h1, h2, h3⟩ := h
  have A := clo_is hl
  have hc : Sb.clo l ≤ c := by
    apply Classical.byContradiction
    intro q
    obtain ⟨i, hi, hr⟩ := A.no c h1 (by omega)
    have := (h3 i hi).2
    omega
  exact fun i hi => (h3 i (by omega)).1
theorem pat_range {l : List Card} {m : Nat} (h : m ≤ l.length) : pat l m = (((List.range m).filter fun i => decide (m ≤ ra l i)) ++ [m]).map fun i => if m < ra l i then none else some (at0 l i).1 := by
  unfold pat ring
  rw [hand_range h, List.map_append, List.map_append, List.map_map]
  rfl
theorem Top.pat {c m : Nat} {l k : List Card} (t : Top c l k) (h : m < c) : Sb.pat k m = Sb.pat l m := by
  have h1 := t.h1
  have h2 := t.h2
  rw [pat_range (by omega), pat_range (by omega)]
  have e : ((List.range m).filter fun i => decide (m ≤ Sb.ra k i)) = (List.range m).filter fun i => decide (m ≤ Sb.ra l i) := List.filter_congr fun i hi => by rw [t.ra i (by have := List.mem_range.mp hi; omega)]
  rw [e]
  refine List.map_congr_left fun i hi => ?_
  have hi' : i < c := by
    rcases List.mem_append.mp hi with q | q
    · have := List.mem_range.mp (List.mem_filter.mp q).1
      omega
    · simp at q; omega
  rw [t.ra i hi', t.nm i hi']
/-! ## papers of the program -/
/-! ## rows alike, rows shown -/
end Sb
end
section
set_option Elab.async false
set_option linter.all false
set_option maxRecDepth 100000
set_option maxHeartbeats 4000000
namespace Sb
open PySem PySem.Spec PyProof.Rows L2
variable {K : PySem.W.Frag} {S : Sto}
/-! ## rows as data -/
def RowOk (p : Pat) : Prop := 1 ≤ p.length ∧ p.length ≤ 100 ∧ PatNm p
theorem divmod_n {i n : Nat} (h : 1 ≤ n) (h2 : n ≤ 100) : gDivmod [.int (i : Nat), .int (n : Nat)] S = some (.tup [.int (i / n : Nat), .int (i % n : Nat)], S) := by
  have c : (0 : Int) < (n : Nat) ∧ ((n : Nat) : Int) < 1073741824 := by omega
  simp only [gDivmod, if_pos c]
  rfl
theorem big {n i : Nat} (h : n ≤ i) (hi : i < 2 ^ 1000) : n < 2 ^ 400000 := Nat.lt_of_le_of_lt h (Nat.lt_of_lt_of_le hi (pow_le2 (by decide)))
theorem big100 {n : Nat} (h : n ≤ 100) : n < 2 ^ 400000 := big (i := 100) h (Nat.lt_of_lt_of_le (show 100 < 2 ^ 7 by decide) (pow_le2 (by decide)))
theorem often_none {p : Pat} {i : Nat} (h : RowOk p) (hi : i < 2 ^ 1000) : M_often_round [pD p, .non, .int (i : Nat)] S = some (.ok (.int (nxt p i : Nat)) S) := by
  obtain ⟨h1, h2, h3⟩ := h
  have hpt : PatNm (p.take (i % p.length)) := fun x hx => h3 x (List.mem_of_mem_take hx)
  have dm := divmod_n (S := S) (i := i) h1 h2
  have hl : (((p.map optD).length : Nat) : Int) = (p.length : Nat) := by rw [List.length_map]
  refine fnM_rt ((sSeq_nx (sAs_ok (eCB_ok (a2_ok rfl (eCB_ok (a1_ok rfl) len_fl)) (by rw [hl]; exact dm)) rfl)).trans (sRt_ok ?_))
  exact eB_ok (eB_ok rfl (eBM_ok rfl rfl (a1_ok rfl) (cnt_none h3 rfl)) (gMul_n (big (Nat.div_le_self _ _) hi) (big100 (Nat.le_trans List.count_le_length h2)))) (eBM_ok (eSl_ok rfl rfl (oSo_ok rfl) cut_fl) rfl (a1_ok rfl) (cnt_none hpt (by rw [List.map_take]))) gAdd_nat
theorem gEq_opt {neg : Bool} {a b : Option Str} (ha : ∀ x, a = some x → Nm x) (hb : ∀ x, b = some x → Nm x) : gEq neg (optD a) (optD b) S = some (.bl (if neg then !decide (a = b) else decide (a = b)), S) := by
  have n1 : SeqAt.shaped .none = true := by decide +kernel
  cases a with
  | none =>
    cases b with
    | none =>
      show gEq neg .non .non S = _
      unfold gEq
      simp only [toPy, n1, and_self, if_true]
      cases neg <;> simp [PyData.eqv]
    | some y =>
      show gEq neg .non (.str y) S = _
      unfold gEq
      simp only [toPy, n1, shp_str (hb y rfl), and_self, if_true]
      cases neg <;> simp [PyData.eqv]
  | some x =>
    cases b with
    | none =>
      show gEq neg (.str x) .non S = _
      unfold gEq
      simp only [toPy, n1, shp_str (ha x rfl), and_self, if_true]
      cases neg <;> simp [PyData.eqv]
    | some y =>
      show gEq neg (.str x) (.str y) S = _
      rw [gEq_str (ha x rfl) (hb y rfl)]
      cases neg <;> simp
/-! ### when -/
theorem ix_nats {ns : List Nat} {j : Nat} (h : j < ns.length) : gIx (.fl (ns.map fun i : Nat => D.int (i : Nat))) (.int (j : Nat)) S = some (.int (ns.getD j 0 : Nat), S) := by
  have h1 : ((j : Nat) : Int) < ((ns.map fun i : Nat => D.int (i : Nat)).length : Int) := by simpa using h
  have h0 : (0 : Int) ≤ (j : Nat) := by omega
  simp only [gIx, seqD, Option.bind_some, atI, ixN, if_pos h0, if_pos h1, Int.toNat_natCast, List.getElem?_map, List.getElem?_eq_getElem h, Option.map_some, List.getD_eq_getElem?_getD, Option.getD_some]
def enum (p : Pat) : List D := (List.range p.length).map fun i => .tup [.int (i : Nat), optD (p.getD i none)]
theorem wks_enum {p : Pat} {P : Sto → Prop} : Wks (wkE (p.map optD)) (enum p) P := ⟨fun i S _ => by
  unfold wkE enum
  simp only [List.getElem?_map]
  by_cases h : i < p.length
  · rw [List.getElem?_eq_getElem h, List.getElem?_range h]
    simp [List.getD_eq_getElem?_getD, List.getElem?_eq_getElem h]
  · rw [List.getElem?_eq_none (by omega), List.getElem?_eq_none (by simp; omega)]; rfl, by unfold enum wkE; simp⟩
theorem phases_ok {p : Pat} {x : Option Str} {τ : Sl} (w : Wf S) (h : RowOk p) (hx : ∀ y, x = some y → Nm y) (h0 : τ[0]? = some (some (pD p))) (h1 : τ[1]? = some (some (optD x))) (hl : τ.length = 8) :
    fz (eLc (iEnX (aCons (eVar 0) (aNil))) (tN2 4 5) (tB (eB (gEq false) (eVar 5) (eVar 1))) (eVar 4) [4, 5]) τ S = some (.ok (.fl ((idx p x).map fun i : Nat => D.int (i : Nat))) S) := by
  have e := lc_pu (fi := iEnX (aCons (eVar 0) (aNil))) (g := tN2 4 5) (t := tB (eB (gEq false) (eVar 5) (eVar 1))) (fe := eVar 4) (vs := [4, 5]) (τ := τ) (S := S) (ds := enum p)
    (fun d => match d with | .tup [.int i, _] => decide (p.getD i.toNat none = x) | _ => false) (fun d => match d with | .tup [.int i, _] => .int i | _ => .non) w
    (iEnX_fl (a1_ok (eVar_at h0))) wks_enum (by have := h.2.1; unfold enum; simp; omega)
    (fun d hd _ => by
      unfold enum at hd
      obtain ⟨i, _, rfl⟩ := List.mem_map.mp hd
      rfl)
    (fun d hd S' _ _ => by
      unfold enum at hd
      obtain ⟨i, hi, rfl⟩ := List.mem_map.mp hd
      have hi' := List.mem_range.mp hi
      have hh : ∀ j, j ≠ 4 → j ≠ 5 → ((((wipeD τ [4, 5]).set 4 (some (.int (i : Nat)))).set 5 (some (optD (p.getD i none)))))[j]? = τ[j]? := fun j a b => by
        rw [List.getElem?_set_ne (Ne.symm b), List.getElem?_set_ne (Ne.symm a)]
        show ((τ.set 5 none).set 4 none)[j]? = _
        rw [List.getElem?_set_ne (Ne.symm a), List.getElem?_set_ne (Ne.symm b)]
      have hlen : (wipeD τ [4, 5]).length = 8 := by show ((τ.set 5 none).set 4 none).length = 8; simp [hl]
      refine ⟨((wipeD τ [4, 5]).set 4 (some (.int (i : Nat)))).set 5 (some (optD (p.getD i none))), rfl, ?_, fun _ => ?_⟩
      · have e5 : (((wipeD τ [4, 5]).set 4 (some (.int (i : Nat)))).set 5 (some (optD (p.getD i none))))[5]? = some (some (optD (p.getD i none))) := List.getElem?_set_self (by rw [List.length_set, hlen]; omega)
        have nm : ∀ y, p.getD i none = some y → Nm y := fun y hy => h.2.2 y (by
          rw [List.getD_eq_getElem?_getD, List.getElem?_eq_getElem hi'] at hy
          have hy' : p[i] = some y := hy
          rw [← hy']; exact List.getElem_mem hi')
        refine tB_ok (eB_ok (eVar_at e5) (eVar_at (by rw [hh 1 (by decide) (by decide)]; exact h1)) ((gEq_opt nm hx).trans ?_))
        simp only [Int.toNat_natCast]
        rfl
      · refine eVar_at ?_
        rw [List.getElem?_set_ne (by decide), List.getElem?_set_self (by rw [hlen]; omega)])
  rw [e]
  congr 2
  unfold enum idx
  rw [List.filter_map, List.map_map]
  congr 2
theorem when_none {p : Pat} {k : Nat} (w : Wf S) (h : RowOk p) (hc : 1 ≤ p.count none) (hk : k < 2 ^ 1000) : M_when_round [pD p, .non, .int (k : Nat)] S = some (.ok (.int (whn p none k : Nat)) S) := by
  obtain ⟨h1, h2, h3⟩ := id h
  have hi := idx_len p none
  have hc2 : p.count none ≤ 100 := Nat.le_trans List.count_le_length h2
  refine fnM_rt ((sSeq_nx (sSet_ok (phases_ok (x := none) w h (fun y z => by cases z) rfl rfl rfl))).trans ?_)
  have dm := divmod_n (S := S) (i := k) (n := (idx p none).length) (by omega) (by omega)
  have hl : ((((idx p none).map fun i : Nat => D.int (i : Nat)).length : Nat) : Int) = ((idx p none).length : Nat) := by rw [List.length_map]
  refine (sSeq_nx (sAs_ok (eCB_ok (a2_ok rfl (eCB_ok (a1_ok rfl) len_fl)) (by rw [hl]; exact dm)) rfl)).trans (sRt_ok ?_)
  have hl2 : (((p.map optD).length : Nat) : Int) = (p.length : Nat) := by rw [List.length_map]
  exact eB_ok (eB_ok rfl (eCB_ok (a1_ok rfl) len_fl) (by rw [hl2]; exact gMul_n (big (Nat.div_le_self _ _) hk) (big100 h2))) (eB_ok rfl rfl (ix_nats (Nat.mod_lt _ (by omega)))) gAdd_nat
theorem whn_lt {p : Pat} (h : p.length ≤ 100) (hc : 1 ≤ p.count none) (k : Nat) : whn p none k + 1 ≤ 100 * (k + 1) := by
  obtain ⟨h1, _⟩ := idx_at (p := p) (x := none) (j := k % p.count none) (Nat.mod_lt _ hc)
  unfold whn
  rw [idx_len]
  have h2 : k / p.count none ≤ k := Nat.div_le_self _ _
  have h3 : k / p.count none * p.length ≤ k * 100 := Nat.mul_le_mul h2 h
  omega
theorem shw_lt : ∀ {ps : List Pat} (k : Nat), (∀ p ∈ ps, p.length ≤ 100 ∧ 1 ≤ p.count none) → shw ps k + 1 ≤ 100 ^ ps.length * (k + 1)
  | [], k, _ => by simp [shw]
  | p :: ps, k, h => by
    obtain ⟨h1, h2⟩ := h p List.mem_cons_self
    have ih := shw_lt (ps := ps) k fun q hq => h q (List.mem_cons_of_mem _ hq)
    have := whn_lt h1 h2 (shw ps k)
    unfold shw
    rw [List.length_cons, Nat.pow_succ, Nat.mul_comm (100 ^ ps.length) 100, Nat.mul_assoc]
    exact Nat.le_trans this (Nat.mul_le_mul_left _ ih)
theorem wkB_nxt {ds : List D} {j : Nat} (h : j < ds.length) : (wkB ds).nxt j S = some (some ds[ds.length - 1 - j]) := by
  unfold wkB
  simp only [if_pos h]
  rw [List.getElem?_eq_getElem (by omega)]
theorem wkB_end {ds : List D} : (wkB ds).nxt ds.length S = some none := by
  unfold wkB
  simp
theorem iRev_fl {fe : EF} {τ : Sl} {ds : List D} {S1 : Sto} (h : fe τ S = some (.ok (.fl ds) S1)) : iRev fe τ S = some (.ok (wkB ds) S1) := by
  simp only [iRev, M.bnd, h, wkRv, Option.bind_some]
/-- rows with holes, above q -/
theorem step_shown_ok {ps : List Pat} {q k : Nat} (w : Wf S) (hq : q ≤ ps.length) (hq2 : q ≤ 40) (hk : k < 2 ^ 400) (h : ∀ p ∈ ps.take q, RowOk p ∧ 1 ≤ p.count none) :
    M_step_shown [.fl (ps.map pD), .int (q : Nat), .int (k : Nat)] S = some (.ok (.int (shw (ps.take q) k : Nat)) S) := by
  have bnd : ∀ qs : List Pat, qs.length ≤ 40 → (∀ p ∈ qs, RowOk p ∧ 1 ≤ p.count none) → shw qs k < 2 ^ 1000 := fun qs hl hh => by
    have h1 := shw_lt (ps := qs) k fun p hp => ⟨(hh p hp).1.2.1, (hh p hp).2⟩
    have h2 : 100 ^ qs.length ≤ 2 ^ 300 := by
      have a : 100 ^ qs.length ≤ 128 ^ qs.length := Nat.pow_le_pow_left (by decide) _
      have b : (128 : Nat) ^ qs.length = 2 ^ (7 * qs.length) := by rw [Nat.pow_mul]
      have c : (2 : Nat) ^ (7 * qs.length) ≤ 2 ^ 300 := Nat.pow_le_pow_right (by decide) (by omega)
      omega
    have h3 : 100 ^ qs.length * (k + 1) ≤ 2 ^ 300 * 2 ^ 400 := Nat.mul_le_mul h2 hk
    have h4 : (2 : Nat) ^ 300 * 2 ^ 400 < 2 ^ 1000 := by rw [← Nat.pow_add]; exact Nat.pow_lt_pow_right (by decide) (by decide)
    omega
  refine fn_wt ?_
  refine ws_for q (fun j τ S' => S' = S ∧ ∃ (x3 : Option D), τ = [some (.fl (ps.map pD)), some (.int (q : Nat)), some (.int (shw ((ps.take q).drop (q - j)) k : Nat)), x3]) (fun j => pD (ps.getD (q - 1 - j) []))
    (iRev_fl (eSl_ok rfl rfl (oSo_ok rfl) cut_fl)) (by show q ≤ ((ps.map pD).take q).length; simp; omega) ⟨rfl, none, by rw [Nat.sub_zero, List.drop_of_length_le (by rw [List.length_take]; omega)]; rfl⟩ ?_ ?_ ?_
  · rintro j τ S' hj ⟨rfl, x3, rfl⟩
    have hl : ((ps.map pD).take q).length = q := by rw [List.length_take, List.length_map]; omega
    have hjp : q - 1 - j < ps.length := by omega
    have g3 := List.getElem?_eq_getElem hjp
    have g4 : ps.getD (q - 1 - j) [] = ps[q - 1 - j] := by rw [List.getD_eq_getElem?_getD, g3]; rfl
    have e1 : (wkB ((ps.map pD).take q)).nxt j S' = some (some (pD (ps.getD (q - 1 - j) []))) := by
      rw [wkB_nxt (by omega)]
      simp only [hl, List.getElem_take, List.getElem_map, g4]
    have hm : ps[q - 1 - j] ∈ ps.take q := List.mem_take_iff_getElem.mpr ⟨q - 1 - j, by omega, rfl⟩
    have ed : (ps.take q).drop (q - (j + 1)) = ps[q - 1 - j] :: (ps.take q).drop (q - j) := by
      rw [show q - (j + 1) = q - 1 - j by omega, List.drop_eq_getElem_cons (by rw [List.length_take]; omega), List.getElem_take, show q - 1 - j + 1 = q - j by omega]
    have hb := bnd ((ps.take q).drop (q - j)) (by rw [List.length_drop, List.length_take]; omega) fun p hp => h p (List.mem_of_mem_drop hp)
    refine ⟨e1, _, rfl, ws_set1 (eCl_ok (a3_ok rfl rfl rfl) rfl (by rw [g4]; exact when_none w (h _ hm).1 (h _ hm).2 hb)) ⟨rfl, some (pD (ps.getD (q - 1 - j) [])), ?_⟩⟩
    rw [ed, g4]; rfl
  · rintro τ S' ⟨rfl, x3, rfl⟩
    have hl : ((ps.map pD).take q).length = q := by rw [List.length_take, List.length_map]; omega
    have := wkB_end (S := S') (ds := (ps.map pD).take q)
    rwa [hl] at this
  · rintro τ S' ⟨rfl, x3, rfl⟩
    refine ws_rt rfl ⟨?_, rfl⟩
    rw [Nat.sub_self, List.drop_zero]
/-! ### rows put together -/
theorem isN_opt0 {o : Option Str} : gIsN false (optD o) .non S = some (.bl o.isNone, S) := by cases o <;> rfl
theorem ix_strs {ns : List Str} {j : Nat} (h : j < ns.length) : gIx (.fl (ns.map D.str)) (.int (j : Nat)) S = some (.str (ns.getD j ""), S) := by
  have h1 : ((j : Nat) : Int) < ((ns.map D.str).length : Int) := by simpa using h
  have h0 : (0 : Int) ≤ (j : Nat) := by omega
  simp only [gIx, seqD, Option.bind_some, atI, ixN, if_pos h0, if_pos h1, Int.toNat_natCast, List.getElem?_map, List.getElem?_eq_getElem h, Option.map_some, List.getD_eq_getElem?_getD, Option.getD_some]
theorem fil_drop {h : List Str} : ∀ (p : Pat) (u : Nat), p.count none + u ≤ h.length → fil p (h.drop u) = match p with
    | [] => []
    | some x :: r => x :: fil r (h.drop u)
    | none :: r => h.getD u "" :: fil r (h.drop (u + 1))
  | [], u, _ => rfl
  | some x :: r, u, _ => rfl
  | none :: r, u, hu => by
    have hc : u < h.length := by rw [List.count_cons] at hu; simp at hu; omega
    show (h.drop u).headD "" :: fil r (h.drop u).tail = _
    rw [List.drop_eq_getElem_cons hc, List.getD_eq_getElem?_getD, List.getElem?_eq_getElem hc]
    rfl
theorem filled_ok {p : Pat} {h : List Str} (hp : p.length ≤ 1000) (hc : p.count none ≤ h.length) : M_filled [pD p, .fl (h.map D.str)] S = some (.ok (.loc S.length) (S ++ [.lst ((fil p h).map D.str)])) := by
  have hz := sizeLine_eq
  have main : Ws (m_filled (ini 5 [pD p, .fl (h.map D.str)]) S) fun fl S' => ∃ d, fl = .rt d ∧ d = .loc S.length ∧ S' = S ++ [.lst ((fil p h).map D.str)] := by
    refine ws_set (eLst_ok aNil_ok (by simp)) ?_
    refine ws_set rfl ?_
    refine ws_for p.length (fun j τ S' => ∃ (acc : List Str) (u : Nat) (x4 : Option D), S' = S ++ [.lst (acc.map D.str)] ∧ τ = [some (pD p), some (.fl (h.map D.str)), some (.loc S.length), some (.int (u : Nat)), x4] ∧ acc.length = j ∧ (p.drop j).count none + u ≤ h.length ∧ acc ++ fil (p.drop j) (h.drop u) = fil p h)
      (fun j => optD (p.getD j none)) (iSeq_ok rfl wk_fl) (by simp) ⟨[], 0, none, rfl, rfl, rfl, by simpa using hc, rfl⟩ ?_ (fun _ _ _ => by simp) ?_
    · rintro j τ S' hj ⟨acc, u, x4, rfl, rfl, la, hu, ha⟩
      have g3 := List.getElem?_eq_getElem hj
      have g4 : p.getD j none = p[j] := by rw [List.getD_eq_getElem?_getD, g3]; rfl
      have ed : p.drop j = p[j] :: p.drop (j + 1) := List.drop_eq_getElem_cons hj
      rw [g4]
      rw [ed] at hu ha
      refine ⟨by simp only [List.getElem?_map, g3, Option.map_some], _, rfl, ?_⟩
      cases ep : p[j] with
      | none =>
        rw [ep] at hu ha
        have huc : u < h.length := by rw [List.count_cons] at hu; simp at hu; omega
        rw [fil_drop _ u hu] at ha
        refine ws_if (tB_ok (eB_ok rfl rfl isN_opt0)) (fun _ => ?_) (fun z => by cases z)
        refine ws_ex (eBM_ok rfl (ty_list (get_last _ _)) (a1_ok (eB_ok rfl rfl (ix_strs huc))) (app_last (by simp; omega))) ?_
        refine ws_set1 (eB_ok rfl rfl gAddI_i) ⟨acc ++ [h.getD u ""], u + 1, _, by simp, rfl, by simp [la], ?_, ?_⟩
        · rw [List.count_cons] at hu; simp at hu ⊢; omega
        · rw [← ha]; simp
      | some x =>
        rw [ep] at hu ha
        refine ws_if (tB_ok (eB_ok rfl rfl isN_opt0)) (fun z => by cases z) (fun _ => ?_)
        refine ⟨_, _, sEx_ok (eBM_ok rfl (ty_list (get_last _ _)) (a1_ok rfl) (app_last (by simp; omega))), acc ++ [x], u, _, by simp [optD], rfl, by simp [la], ?_, ?_⟩
        · rw [List.count_cons] at hu; simpa using hu
        · rw [← ha]
          show (acc ++ [x]) ++ fil _ _ = acc ++ (x :: fil _ _)
          simp
    · rintro τ S' ⟨acc, u, x4, rfl, rfl, la, hu, ha⟩
      refine ws_rt rfl ⟨_, rfl, rfl, ?_⟩
      rw [List.drop_length] at ha
      rw [← ha]
      simp [fil]
  obtain ⟨d, S', e, rfl, rfl⟩ := fn_ws main
  exact e
end Sb
end
section
set_option Elab.async false
set_option linter.all false
set_option maxRecDepth 100000
set_option maxHeartbeats 4000000
/-! sorted(set(xs)) of a list of whole numbers. -/
namespace Sb
open PySem PySem.Spec PyProof.Rows L2
section
variable {P : Program} {w : World} {A : Around} {E : Value → Shared → Prop} {s : Shared}
end
section
variable {X : Cx} {T : Tb} {W : WX} {e : Expr} {ra : AF}
/-! ## strictly rising lists -/
/-! ## sorted(set(xs)) -/
end
end Sb
end
section
set_option Elab.async false
set_option linter.all false
set_option maxRecDepth 100000
set_option maxHeartbeats 4000000
namespace Sb
open PySem PySem.Spec PyProof.Rows L2 PpSet
section
variable {X : Cx} {T : Tb} {W : WX} {pos : Pos} {elt tg iter : Expr} {scope : Scope} {own : List (Str × Nat)} {fi : IF} {g : TF} {fe : EF}
/-! ## sorted({e for x in xs}), e a whole number: the set is locked while e is worked out -/
section
variable {P : Program} {w : World} {A : Around} {E : Value → Shared → Prop} {s : Shared} {a : Addr}
end
/-! ## over data -/
theorem Ext.free {φ φ' : List Addr} {H H' : Hp} {B : Addr} {u : HO} (e : Ext φ H φ' H') (hB : H B = none) : Ext φ H φ' (upd H' B u) := by
  have ne : ∀ {a : Addr} {v : HO}, H a = some v → a ≠ B := fun h z => by subst z; rw [hB] at h; cases h
  refine ⟨e.pre, fun a vs h => ?_, fun a o v h => ?_, fun a vs ha h => ?_, fun a ws ha h => ?_, e.nw, fun a h => e.ded a (upd_dead h)⟩
  · rw [upd_ne (ne h)]; exact e.tup a vs h
  · rw [upd_ne (ne h)]; exact e.frz a o v h
  · rw [upd_ne (ne h)]; exact e.lst a vs ha h
  · exact (e.dic a ws ha h).imp (fun z => by rw [upd_ne (ne h)]; exact z) fun ⟨o, z⟩ => ⟨o, by rw [upd_ne (ne h)]; exact z⟩
section
variable {H : Hp} {φ : List Addr} {B : Addr} {od : Obj} {ψ : Heap → Prop} {u' : HO}
end
end
end Sb
end
section
set_option Elab.async false
set_option linter.all false
set_option maxRecDepth 100000
set_option maxHeartbeats 4000000
namespace Sb
open PySem PySem.Spec PyProof.Rows L2 PySem.W
section
variable {X : Cx} {T : Tb} {W : WX} {pos : Pos} {e : Expr} {ra : AF}
/-! ## enumerate of a list that lies in the store -/
end
end Sb
end
section
set_option Elab.async false
set_option linter.all false
set_option maxRecDepth 100000
set_option maxHeartbeats 4000000
/-! list() of a range -/
namespace Sb
open PySem PySem.Spec PyProof.Rows L2
section
variable {X : Cx} {T : Tb}
end
end Sb
end
section
set_option Elab.async false
set_option linter.all false
set_option maxRecDepth 100000
set_option maxHeartbeats 4000000
/-! len(set(xs)) of a list or a tuple of texts and whole numbers. -/
namespace Sb
open PySem PySem.Spec PyProof.Rows L2
instance memKey (k : Key) (l : List Key) : Decidable (k ∈ l) := decidable_of_iff (l.any (fun x => decide (x = k)) = true) (by simp)
section
variable {P : Program} {w : World} {A : Around} {E : Value → Shared → Prop} {s : Shared}
end
section
variable {X : Cx} {T : Tb} {W : WX} {e : Expr} {ra : AF}
/-! ## len(set(xs)) -/
end
end Sb
end
section
set_option Elab.async false
set_option linter.all false
set_option maxRecDepth 100000
set_option maxHeartbeats 4000000
namespace Sb
open PySem PySem.Spec PyProof.Rows L2
/-! ## any(e for x in xs): the element may read names of the def -/
def onlyF (fv : List Nat) (σ : L2.St) : L2.St := σ.mapIdx fun i v => if i ∈ fv then v else none
section
variable {X : Cx} {elt iter tg : Expr} {scope : Scope} {gpos : Pos}
/-! ### the consumer -/
end
end Sb
end
section
set_option Elab.async false
set_option linter.all false
set_option maxRecDepth 100000
set_option maxHeartbeats 4000000
namespace Sb
open PySem PySem.Spec PyProof.Rows L2
/-! ## all(e for x in xs): the element may read names of the def -/
section
variable {X : Cx} {elt iter tg : Expr} {scope : Scope} {gpos : Pos}
/-! ### the consumer -/
end
end Sb
end
section
set_option Elab.async false
set_option linter.all false
set_option maxRecDepth 100000
set_option maxHeartbeats 4000000
namespace Sb
open PySem PySem.Spec PyProof.Rows L2
section
variable {X : Cx} {elt iter tg : Expr} {scope : Scope} {gpos pos p : Pos} {k : Nat} {c P : Addr} {wi : TI} {g : TG} {te : TE} {fv : List Nat}
end
end Sb
end
section
set_option Elab.async false
set_option linter.all false
set_option maxRecDepth 100000
set_option maxHeartbeats 4000000
namespace Sb
open PySem PySem.Spec PyProof.Rows L2
section
variable {X : Cx} {elt iter tg : Expr} {scope : Scope} {gpos pos p : Pos} {k : Nat} {c P : Addr} {wi : TI} {g : TG} {te : TE} {fv : List Nat}
end
end Sb
end
section
set_option Elab.async false
set_option linter.all false
set_option maxRecDepth 100000
set_option maxHeartbeats 4000000
namespace Sb
open PySem PySem.Spec PyProof.Rows L2
section
variable {X : Cx} {T : Tb} {W : WX} {elt iter tg : Expr} {scope : Scope} {pos : Pos} {fi : IF} {g : TF} {fe : EF}
def onlyD (fv : List Nat) (τ : Sl) : Sl := τ.mapIdx fun i v => if i ∈ fv then v else none
theorem RSl.only {H : Hp} {φ : List Addr} {τ : Sl} {σ : L2.St} (r : RSl T H φ τ σ) (fv : List Nat) : RSl T H φ (onlyD fv τ) (onlyF fv σ) := by
  refine ⟨by simp [onlyD, onlyF, r.len], fun j d hj => ?_⟩
  unfold onlyD at hj
  rw [List.getElem?_mapIdx] at hj
  cases e : τ[j]? with
  | none => rw [e] at hj; cases hj
  | some o =>
    rw [e] at hj
    simp only [Option.map_some, Option.some.injEq] at hj
    split at hj
    · rename_i hi
      subst hj
      obtain ⟨v, h1, h2⟩ := r.at_ j d e
      refine ⟨v, ?_, h2⟩
      unfold onlyF
      rw [List.getElem?_mapIdx, h1]
      simp [hi]
    · cases hj
end
end Sb
end
section
set_option Elab.async false
set_option linter.all false
set_option maxRecDepth 100000
set_option maxHeartbeats 4000000
namespace Sb
open PySem PySem.Spec PyProof.Rows L2
section
variable {X : Cx} {T : Tb} {W : WX} {elt iter tg : Expr} {scope : Scope} {pos : Pos} {fi : IF} {g : TF} {fe : EF}
end
end Sb
end
section
set_option Elab.async false
set_option linter.all false
set_option maxRecDepth 100000
set_option maxHeartbeats 4000000
/-! zip over two tuples: its own turns. -/
namespace Sb
open PySem PySem.Spec PyProof.Rows L2 RZ
section
variable {prog : Program} {w : World} {A : Around} {E : Value → Shared → Prop} {s : Shared}
end
end Sb
end
section
set_option Elab.async false
set_option linter.all false
set_option maxRecDepth 100000
set_option maxHeartbeats 4000000
/-! tuple(zip(xs, ys)) of two tuples. -/
namespace Sb
open PySem PySem.Spec PyProof.Rows L2
/-- where a zip stands behind k pairs, all of them kept -/
structure ZStT (h0 h : Heap) (z TI TO i1 i2 l1 l2 S : Addr) (xs ys : Array Value) (k : Nat) (acc : Array Value) : Prop where
  le : h0.objs.size ≤ h.objs.size
  fr : ∀ c o, c ≠ S → c ≠ z → c ≠ TO → c ≠ i1 → c ≠ i2 → h0.get? c = some o → h.get? c = some o
  zip : ∃ u f, ZU u ∧ ZI h z TI TO u f
  to_ : ∃ a b, IsPair h TO a b
  ti : IsPair h TI (.ref i1) (.ref i2)
  p1 : h.IsTupleIter i1 l1 k
  p2 : h.IsTupleIter i2 l2 k
  q1 : h.IsTuple l1 xs
  q2 : h.IsTuple l2 ys
  lst : ∃ ep, h.get? S = some { cls := .type "list", data := .seq acc ep }
  len : acc.size = k
  els : ∀ j, j < k → ∃ T x y, acc[j]? = some (.ref T) ∧ h0.objs.size ≤ T ∧ xs[j]? = some x ∧ ys[j]? = some y ∧ IsPair h T x y
  dis : ∀ i j T, i < j → j < k → acc[i]? = some (.ref T) → acc[j]? = some (.ref T) → False
/-- the start of a zip, an empty list beside it -/
structure Z0T (h : Heap) (z TI TO i1 i2 l1 l2 S : Addr) (xs ys : Array Value) : Prop where
  zip : IsZip h z TI TO .none
  to_ : ∃ a b, IsPair h TO a b
  ti : IsPair h TI (.ref i1) (.ref i2)
  p1 : h.IsTupleIter i1 l1 0
  p2 : h.IsTupleIter i2 l2 0
  q1 : h.IsTuple l1 xs
  q2 : h.IsTuple l2 ys
  lst : ∃ ep, h.get? S = some { cls := .type "list", data := .seq #[] ep }
theorem Z0T.st {h0 h : Heap} {z TI TO i1 i2 l1 l2 S : Addr} {xs ys : Array Value} (st : Z0T h0 z TI TO i1 i2 l1 l2 S xs ys) (hS : S ≠ z ∧ S ≠ TI ∧ S ≠ TO ∧ S ≠ i1 ∧ S ≠ i2 ∧ S ≠ l1 ∧ S ≠ l2) (sz : h.objs.size = h0.objs.size) (oth : ∀ c, c ≠ S → h.get? c = h0.get? c) (at_ : ∃ ep, h.get? S = some { cls := .type "list", data := .seq #[] ep }) : ZStT h0 h z TI TO i1 i2 l1 l2 S xs ys 0 #[] := by
  obtain ⟨a, b, hto⟩ := st.to_
  refine ⟨by omega, fun c o c0 _ _ _ _ e => by rw [oth c c0]; exact e, ⟨.none, false, .inl rfl, ?_⟩, ⟨a, b, ?_⟩, ?_, ?_, ?_, ?_, ?_, at_, rfl, fun j hj => absurd hj (Nat.not_lt_zero _), fun _ j _ _ hj => absurd hj (Nat.not_lt_zero _)⟩
  · show Heap.get? _ z = _; rw [oth z (Ne.symm hS.1)]; exact st.zip
  · unfold IsPair; rw [oth TO (Ne.symm hS.2.2.1)]; exact hto
  · unfold IsPair; rw [oth TI (Ne.symm hS.2.1)]; exact st.ti
  · obtain ⟨o, a, b, c⟩ := st.p1
    exact ⟨o, by rw [oth i1 (Ne.symm hS.2.2.2.1)]; exact a, b, c⟩
  · obtain ⟨o, a, b, c⟩ := st.p2
    exact ⟨o, by rw [oth i2 (Ne.symm hS.2.2.2.2.1)]; exact a, b, c⟩
  · obtain ⟨o, a, b, c⟩ := st.q1
    exact ⟨o, by rw [oth l1 (Ne.symm hS.2.2.2.2.2.1)]; exact a, b, c⟩
  · obtain ⟨o, a, b, c⟩ := st.q2
    exact ⟨o, by rw [oth l2 (Ne.symm hS.2.2.2.2.2.2)]; exact a, b, c⟩
section
variable {prog : Program} {w : World} {A : Around} {E : Value → Shared → Prop} {s : Shared} {z TI TO i1 i2 l1 l2 : Addr} {xs ys : Array Value}
end
end Sb
end
section
set_option Elab.async false
set_option linter.all false
set_option maxRecDepth 100000
set_option maxHeartbeats 4000000
/-! tuple(zip(xs, ys)) of two lists or two tuples. -/
namespace Sb
open PySem PySem.Spec PyProof.Rows L2
section
variable {X : Cx} {T : Tb} {W : WX} {pos : Pos} {ra : AF}
end
end Sb
end
section
set_option Elab.async false
set_option linter.all false
set_option maxRecDepth 100000
namespace Sb
open PySem PySem.Spec PyProof.Rows L2
/-! meanings of the decks that are known to be new, and of what is none (prefix n_) -/
end Sb
end
section
set_option Elab.async false
set_option linter.all false
set_option maxRecDepth 100000
namespace Sb
open PySem PySem.Spec PyProof.Rows L2
noncomputable section
end
end Sb
end
section
set_option Elab.async false
set_option linter.all false
set_option maxRecDepth 100000
namespace Sb
open PySem PySem.Spec PyProof.Rows L2
noncomputable section
end
end Sb
end
section
set_option Elab.async false
set_option linter.all false
set_option maxRecDepth 100000
set_option maxHeartbeats 4000000
namespace Sb
open PySem PySem.Spec PyProof.Rows L2
/-! ## gcd, told by the module's own name -/
end Sb
end
section
set_option Elab.async false
set_option linter.all false
set_option maxRecDepth 100000
set_option maxHeartbeats 4000000
namespace Sb
open PySem PySem.Spec PyProof.Rows L2
/-! ## for k in d, d a told dict: it stays locked from then on -/
section
variable {X : Cx} {T : Tb} {W : WX} {tg e : Expr} {td : TE} {fa : EF}
end
end Sb
end
section
set_option Elab.async false
set_option linter.all false
set_option maxRecDepth 100000
set_option maxHeartbeats 4000000
namespace Sb
open PySem PySem.Spec PyProof.Rows L2
section
variable {X : Cx} {T : Tb} {W : WX} {o e f : Expr} {apos cpos : Pos} {fo fk fd : EF}
end
end Sb
end
section
set_option Elab.async false
set_option linter.all false
set_option maxRecDepth 100000
set_option maxHeartbeats 4000000
namespace Sb
open PySem PySem.Spec PyProof.Rows L2
section
variable {X : Cx} {T : Tb}
/-! ## a dict unlike the empty one -/
end
end Sb
end
section
set_option Elab.async false
set_option linter.all false
set_option maxRecDepth 100000
set_option maxHeartbeats 4000000
namespace Sb
open PySem PySem.Spec PyProof.Rows L2
/-! ## range(i, j, -1) -/
section
variable {X : Cx} {T : Tb} {W : WX} {ra : AF}
end
end Sb
end
section
set_option Elab.async false
set_option linter.all false
set_option maxRecDepth 100000
set_option maxHeartbeats 4000000
namespace Sb
open PySem PySem.Spec PyProof.Rows L2
section
variable {X : Cx} {T : Tb} {W : WX} {pos : Pos}
/-! ## five names as a target -/
end
end Sb
end
section
set_option Elab.async false
set_option linter.all false
set_option maxRecDepth 100000
set_option maxHeartbeats 4000000
namespace Sb
open PySem PySem.Spec PyProof.Rows L2
section
variable {X : Cx} {T : Tb}
/-! ## tuple * n -/
end
end Sb
end
section
set_option Elab.async false
set_option linter.all false
set_option maxRecDepth 100000
set_option maxHeartbeats 4000000
namespace Sb
open PySem PySem.Spec PyProof.Rows L2
section
variable {X : Cx} {T : Tb} {W : WX}
/-! ## sorted of a list of texts -/
end
end Sb
end
section
set_option Elab.async false
set_option linter.all false
set_option maxRecDepth 100000
set_option maxHeartbeats 4000000
namespace Sb
open PySem PySem.Spec PyProof.Rows L2
/-! ## while -/
section
variable {X : Cx} {T : Tb} {W : WX} {pos : Pos} {c : Expr} {body : List Stmt} {t : BF} {f : SF}
end
end Sb
end
section
set_option Elab.async false
set_option linter.all false
set_option maxRecDepth 100000
namespace Sb
open PySem PySem.Spec PyProof.Rows L2
noncomputable section
def m_spans_of : SF := sSeq (sSet 1 (eLst (aNil))) (sSeq (sSet 2 (eC (.int 0))) (sSeq (sForG Y_stretches 1 (aCons (eVar 0) (aNil)) (tN3 3 4 5) (sSeq (sEx (eBM "list" gAppend (eVar 1) (aCons (eTup (aCons (eVar 2) (aCons (eVar 3) (aCons (eVar 4) (aCons (eVar 5) (aNil)))))) (aNil)))) (sIf (tB (eB (gIsN true) (eVar 5) (eC .non))) (sSet 2 (eB gAddI (eVar 2) (eVar 5))) (sNop)))) (sRt (eVar 1))))
abbrev M_spans_of : List D → M D := fnM 6 (m_spans_of)
end
end Sb
end
section
set_option Elab.async false
set_option linter.all false
set_option maxRecDepth 100000
namespace Sb
open PySem PySem.Spec PyProof.Rows L2
noncomputable section
end
end Sb
end
section
set_option Elab.async false
set_option linter.all false
set_option maxRecDepth 100000
namespace Sb
open PySem PySem.Spec PyProof.Rows L2
noncomputable section
end
end Sb
end
section
set_option Elab.async false
set_option linter.all false
set_option maxRecDepth 100000
set_option maxHeartbeats 0
namespace K53
open PySem PySem.Spec PyProof.Rows L2 Sb
noncomputable section
def top (i : Nat) : Stmt := PySem.Challenge.pw_slideback_k53_papers_of_never.main.body.getD i (.Pass ⟨0, 0, 0, 0⟩)
abbrev s_is_whole : Stmt := top 6
abbrev s_is_depth : Stmt := top 7
abbrev s_is_listed : Stmt := top 8
abbrev s_is_name : Stmt := top 9
abbrev s_is_card : Stmt := top 10
abbrev s_deck_of : Stmt := top 13
abbrev s_reach_of : Stmt := top 14
abbrev s_step_of : Stmt := top 15
abbrev s_find_place : Stmt := top 16
abbrev s_names_of : Stmt := top 18
abbrev s_closed_of : Stmt := top 19
abbrev s_is_home_at : Stmt := top 20
abbrev s_away_places : Stmt := top 21
abbrev s_hand_of : Stmt := top 22
abbrev s_ring_of : Stmt := top 23
abbrev s_pattern_of : Stmt := top 25
abbrev s_often_round : Stmt := top 27
abbrev s_when_round : Stmt := top 28
abbrev s_rows_of : Stmt := top 29
abbrev s_step_shown : Stmt := top 30
abbrev s_filled : Stmt := top 31
abbrev s_turned : Stmt := top 32
abbrev s_stretches : Stmt := top 33
abbrev s_stretches_gone : Stmt := top 34
abbrev s_deck_after : Stmt := top 35
abbrev s_spans_of : Stmt := top 37
abbrev s_numbers_in : Stmt := top 39
abbrev s_never_paper : Stmt := top 40
abbrev s_never_shows : Stmt := top 41
abbrev s_bag_bag : Stmt := top 43
abbrev s_bag_stir : Stmt := top 44
abbrev s_bag_draw : Stmt := top 45
abbrev s_bag_mixed : Stmt := top 46
abbrev s_bag_names : Stmt := top 47
abbrev s_bag_deck : Stmt := top 48
abbrev s_bag_settled : Stmt := top 49
abbrev s_bag_slid : Stmt := top 50
abbrev s_bag_closed : Stmt := top 51
abbrev s_bag_rings : Stmt := top 52
abbrev s_bag_beneath : Stmt := top 53
abbrev s_bag_so : Stmt := top 54
abbrev s_bag_dressed : Stmt := top 55
abbrev s_law : Stmt := top 56
def d_is_whole : He.DefD := ⟨("is_whole", none), "is_whole", "is_whole", defArgs s_is_whole, defBody s_is_whole, defScope s_is_whole, [], []⟩
def d_is_depth : He.DefD := ⟨("is_depth", none), "is_depth", "is_depth", defArgs s_is_depth, defBody s_is_depth, defScope s_is_depth, [], []⟩
def d_is_listed : He.DefD := ⟨("is_listed", none), "is_listed", "is_listed", defArgs s_is_listed, defBody s_is_listed, defScope s_is_listed, [], []⟩
def d_is_name : He.DefD := ⟨("is_name", none), "is_name", "is_name", defArgs s_is_name, defBody s_is_name, defScope s_is_name, [], []⟩
def d_is_card : He.DefD := ⟨("is_card", none), "is_card", "is_card", defArgs s_is_card, defBody s_is_card, defScope s_is_card, [], []⟩
def d_deck_of : He.DefD := ⟨("deck_of", none), "deck_of", "deck_of", defArgs s_deck_of, defBody s_deck_of, defScope s_deck_of, [], []⟩
def d_reach_of : He.DefD := ⟨("reach_of", none), "reach_of", "reach_of", defArgs s_reach_of, defBody s_reach_of, defScope s_reach_of, [], []⟩
def d_step_of : He.DefD := ⟨("step_of", none), "step_of", "step_of", defArgs s_step_of, defBody s_step_of, defScope s_step_of, [], []⟩
def d_find_place : He.DefD := ⟨("find_place", none), "find_place", "find_place", defArgs s_find_place, defBody s_find_place, defScope s_find_place, [], []⟩
def d_names_of : He.DefD := ⟨("names_of", none), "names_of", "names_of", defArgs s_names_of, defBody s_names_of, defScope s_names_of, [], []⟩
def d_closed_of : He.DefD := ⟨("closed_of", none), "closed_of", "closed_of", defArgs s_closed_of, defBody s_closed_of, defScope s_closed_of, [], []⟩
def d_is_home_at : He.DefD := ⟨("is_home_at", none), "is_home_at", "is_home_at", defArgs s_is_home_at, defBody s_is_home_at, defScope s_is_home_at, [], []⟩
def d_away_places : He.DefD := ⟨("away_places", none), "away_places", "away_places", defArgs s_away_places, defBody s_away_places, defScope s_away_places, [], []⟩
def d_hand_of : He.DefD := ⟨("hand_of", none), "hand_of", "hand_of", defArgs s_hand_of, defBody s_hand_of, defScope s_hand_of, [], []⟩
def d_ring_of : He.DefD := ⟨("ring_of", none), "ring_of", "ring_of", defArgs s_ring_of, defBody s_ring_of, defScope s_ring_of, [], []⟩
def d_pattern_of : He.DefD := ⟨("pattern_of", none), "pattern_of", "pattern_of", defArgs s_pattern_of, defBody s_pattern_of, defScope s_pattern_of, [], []⟩
def d_often_round : He.DefD := ⟨("often_round", none), "often_round", "often_round", defArgs s_often_round, defBody s_often_round, defScope s_often_round, [], []⟩
def d_when_round : He.DefD := ⟨("when_round", none), "when_round", "when_round", defArgs s_when_round, defBody s_when_round, defScope s_when_round, [], []⟩
def d_rows_of : He.DefD := ⟨("rows_of", none), "rows_of", "rows_of", defArgs s_rows_of, defBody s_rows_of, defScope s_rows_of, [], []⟩
def d_step_shown : He.DefD := ⟨("step_shown", none), "step_shown", "step_shown", defArgs s_step_shown, defBody s_step_shown, defScope s_step_shown, [], []⟩
def d_filled : He.DefD := ⟨("filled", none), "filled", "filled", defArgs s_filled, defBody s_filled, defScope s_filled, [], []⟩
def d_turned : He.DefD := ⟨("turned", none), "turned", "turned", defArgs s_turned, defBody s_turned, defScope s_turned, [], []⟩
def d_stretches : He.DefD := ⟨("stretches", none), "stretches", "stretches", defArgs s_stretches, defBody s_stretches, defScope s_stretches, [], []⟩
def d_stretches_gone : He.DefD := ⟨("stretches_gone", none), "stretches_gone", "stretches_gone", defArgs s_stretches_gone, defBody s_stretches_gone, defScope s_stretches_gone, [], []⟩
def d_deck_after : He.DefD := ⟨("deck_after", none), "deck_after", "deck_after", defArgs s_deck_after, defBody s_deck_after, defScope s_deck_after, [], []⟩
def d_spans_of : He.DefD := ⟨("spans_of", none), "spans_of", "spans_of", defArgs s_spans_of, defBody s_spans_of, defScope s_spans_of, [], []⟩
def d_numbers_in : He.DefD := ⟨("numbers_in", none), "numbers_in", "numbers_in", defArgs s_numbers_in, defBody s_numbers_in, defScope s_numbers_in, [], []⟩
def d_never_paper : He.DefD := ⟨("never_paper", none), "never_paper", "never_paper", defArgs s_never_paper, defBody s_never_paper, defScope s_never_paper, [], []⟩
def d_never_shows : He.DefD := ⟨("never_shows", none), "never_shows", "never_shows", defArgs s_never_shows, defBody s_never_shows, defScope s_never_shows, [], []⟩
def d_bag_bag : He.DefD := ⟨("_law_bag", none), "_law_bag", "_law_bag", defArgs s_bag_bag, defBody s_bag_bag, defScope s_bag_bag, [], []⟩
def d_bag_stir : He.DefD := ⟨("_law_stir", none), "_law_stir", "_law_stir", defArgs s_bag_stir, defBody s_bag_stir, defScope s_bag_stir, [], []⟩
def d_bag_draw : He.DefD := ⟨("_law_draw", none), "_law_draw", "_law_draw", defArgs s_bag_draw, defBody s_bag_draw, defScope s_bag_draw, [], []⟩
def d_bag_mixed : He.DefD := ⟨("_law_mixed", none), "_law_mixed", "_law_mixed", defArgs s_bag_mixed, defBody s_bag_mixed, defScope s_bag_mixed, [], []⟩
def d_bag_names : He.DefD := ⟨("_law_names", none), "_law_names", "_law_names", defArgs s_bag_names, defBody s_bag_names, defScope s_bag_names, [], []⟩
def d_bag_deck : He.DefD := ⟨("_law_deck", none), "_law_deck", "_law_deck", defArgs s_bag_deck, defBody s_bag_deck, defScope s_bag_deck, [], []⟩
def d_bag_settled : He.DefD := ⟨("_law_settled", none), "_law_settled", "_law_settled", defArgs s_bag_settled, defBody s_bag_settled, defScope s_bag_settled, [], []⟩
def d_bag_slid : He.DefD := ⟨("_law_slid", none), "_law_slid", "_law_slid", defArgs s_bag_slid, defBody s_bag_slid, defScope s_bag_slid, [], []⟩
def d_bag_closed : He.DefD := ⟨("_law_closed", none), "_law_closed", "_law_closed", defArgs s_bag_closed, defBody s_bag_closed, defScope s_bag_closed, [], []⟩
def d_bag_rings : He.DefD := ⟨("_law_rings", none), "_law_rings", "_law_rings", defArgs s_bag_rings, defBody s_bag_rings, defScope s_bag_rings, [], []⟩
def d_bag_beneath : He.DefD := ⟨("_law_beneath", none), "_law_beneath", "_law_beneath", defArgs s_bag_beneath, defBody s_bag_beneath, defScope s_bag_beneath, [], []⟩
def d_bag_so : He.DefD := ⟨("_law_so", none), "_law_so", "_law_so", defArgs s_bag_so, defBody s_bag_so, defScope s_bag_so, [], []⟩
def d_bag_dressed : He.DefD := ⟨("_law_dressed", none), "_law_dressed", "_law_dressed", defArgs s_bag_dressed, defBody s_bag_dressed, defScope s_bag_dressed, [], []⟩
def d_law : He.DefD := ⟨("law", none), "law", "law", defArgs s_law, defBody s_law, defScope s_law, [], []⟩
def fn : List He.DefD := [d_is_whole, d_is_depth, d_is_listed, d_is_name, d_is_card, d_deck_of, d_reach_of, d_step_of, d_find_place, d_names_of, d_closed_of, d_is_home_at, d_away_places, d_hand_of, d_ring_of, d_pattern_of, d_often_round, d_when_round, d_rows_of, d_step_shown, d_filled, d_turned, d_stretches, d_stretches_gone, d_deck_after, d_spans_of, d_numbers_in, d_never_paper, d_never_shows, d_bag_bag, d_bag_stir, d_bag_draw, d_bag_mixed, d_bag_names, d_bag_deck, d_bag_settled, d_bag_slid, d_bag_closed, d_bag_rings, d_bag_beneath, d_bag_so, d_bag_dressed, d_law]
def fa0 : List He.Fa := [.glo "is_whole", .glo "is_depth", .glo "is_listed", .glo "is_name", .glo "is_card", .glo "deck_of", .glo "reach_of", .glo "step_of", .glo "find_place", .glo "names_of", .glo "closed_of", .glo "is_home_at", .glo "away_places", .glo "hand_of", .glo "ring_of", .glo "pattern_of", .glo "often_round", .glo "when_round", .glo "rows_of", .glo "step_shown", .glo "filled", .glo "turned", .glo "stretches", .glo "stretches_gone", .glo "deck_after", .glo "spans_of", .glo "numbers_in", .glo "never_paper", .glo "never_shows", .glo "_law_bag"]
def fa1 : List He.Fa := [.glo "_law_stir", .glo "_law_draw", .glo "_law_mixed", .glo "_law_names", .glo "_law_deck", .glo "_law_settled", .glo "_law_slid", .glo "_law_closed", .glo "_law_rings", .glo "_law_beneath", .glo "_law_so", .glo "_law_dressed", .glo "law", .free "all", .free "bool", .free "divmod", .free "enumerate", .free "int", .free "isinstance", .free "len", .free "list", .free "max", .free "min", .free "range", .free "repr", .free "reversed", .free "str", .free "tuple", .int "MOST_LETTERS" 8, .int "MOST_CARDS" 40]
def fa2 : List He.Fa := [.glo "DeckError", .exc "DeckError", .glo "NoDeck", .exc "NoDeck", .glo "NoName", .exc "NoName"]
def fa : List He.Fa := fa0 ++ fa1 ++ fa2
def tf : List He.Defn := [("is_name", none), ("deck_of", none), ("numbers_in", none)]
abbrev R : PySem.W.OpenRow := PySem.W.OpenLaw.row PySem.Challenge.rw_slideback_k53_papers_of_never
abbrev hk : PySem.W.Hook := Sb.hookS 4 fa fn tf (Sb.clsB [])
def ob (s : PySem.W.SharedT) : He.AlX × Bool := Sb.obsS 4 fa fn tf (Sb.clsB []) (HandSHeadRun.getT s)
theorem ob_eq (s : PySem.W.SharedT) : ob s = hk.obs s.abs := Sb.obsS_eq (HandSHeadRun.getT_eq s)
def lo0 : List PySem.Str := ["DeckError", "NoDeck", "NoName", "MOST_LETTERS", "MOST_CARDS", "is_whole", "is_depth", "is_listed", "is_name", "is_card", "deck_of", "reach_of", "step_of", "find_place", "names_of", "closed_of", "is_home_at", "away_places", "hand_of", "ring_of", "pattern_of", "often_round", "when_round", "rows_of", "step_shown", "filled", "turned", "stretches", "stretches_gone", "deck_after"]
def lo1 : List PySem.Str := ["spans_of", "numbers_in", "never_paper", "never_shows", "_law_bag", "_law_stir", "_law_draw", "_law_mixed", "_law_names", "_law_deck", "_law_settled", "_law_slid", "_law_closed", "_law_rings", "_law_beneath", "_law_so", "_law_dressed"]
def loose : List PySem.Str := lo0 ++ lo1
abbrev lawAt : Nat := 56
abbrev steps : Nat := 4220
theorem run (w : World) : HandSHeadRun.RunEq R (PySem.W.view R.prog [56]) hk ob 4220 loose w := by
  intro os
  kernel_rfl
structure Ev (P : Program) (w : World) (mg : Str → Option Value) (base : Heap) (K : PySem.W.Frag) : Prop where
  says : He.SaysD fa fn K
  kin : K.In base
  ns : base.Ns mainGlobals mg
  tbs : ∀ p ∈ tf.map (He.cT K), GxR.TabB base mg p.1 p.2
  sys : ∃ o, base.get? sysModules = some o
abbrev TT (P : Program) (w : World) (K : PySem.W.Frag) : Sb.Tb := ⟨P, w, K, (tf.map (He.cT K)).map (·.2), []⟩
section
variable {P : Program} {w : World} {mg : Str → Option Value} {base : Heap} {K : PySem.W.Frag}
theorem Ev.tb (e : Ev P w mg base K) (p : He.Defn) (h : p ∈ tf) : GxR.TabB base mg (He.codeOf K p) (He.tabOf K (He.codeOf K p)) := e.tbs (He.cT K p) (List.mem_map_of_mem h)
theorem Ev.tbm (e : Ev P w mg base K) (p : He.Defn) (h : p ∈ tf) : He.tabOf K (He.codeOf K p) ∈ (TT P w K).tabs := List.mem_map_of_mem (f := (·.2)) (List.mem_map_of_mem (f := He.cT K) h)
theorem Ev.gl_is_whole (e : Ev P w mg base K) : mg "is_whole" = some (.ref (He.ga K "is_whole")) := He.glo_ok e.kin e.ns (e.says.fact 0 (f := .glo "is_whole") rfl)
theorem Ev.gl_is_depth (e : Ev P w mg base K) : mg "is_depth" = some (.ref (He.ga K "is_depth")) := He.glo_ok e.kin e.ns (e.says.fact 1 (f := .glo "is_depth") rfl)
theorem Ev.gl_is_listed (e : Ev P w mg base K) : mg "is_listed" = some (.ref (He.ga K "is_listed")) := He.glo_ok e.kin e.ns (e.says.fact 2 (f := .glo "is_listed") rfl)
theorem Ev.gl_is_name (e : Ev P w mg base K) : mg "is_name" = some (.ref (He.ga K "is_name")) := He.glo_ok e.kin e.ns (e.says.fact 3 (f := .glo "is_name") rfl)
theorem Ev.gl_is_card (e : Ev P w mg base K) : mg "is_card" = some (.ref (He.ga K "is_card")) := He.glo_ok e.kin e.ns (e.says.fact 4 (f := .glo "is_card") rfl)
theorem Ev.gl_deck_of (e : Ev P w mg base K) : mg "deck_of" = some (.ref (He.ga K "deck_of")) := He.glo_ok e.kin e.ns (e.says.fact 5 (f := .glo "deck_of") rfl)
theorem Ev.gl_reach_of (e : Ev P w mg base K) : mg "reach_of" = some (.ref (He.ga K "reach_of")) := He.glo_ok e.kin e.ns (e.says.fact 6 (f := .glo "reach_of") rfl)
theorem Ev.gl_step_of (e : Ev P w mg base K) : mg "step_of" = some (.ref (He.ga K "step_of")) := He.glo_ok e.kin e.ns (e.says.fact 7 (f := .glo "step_of") rfl)
theorem Ev.gl_find_place (e : Ev P w mg base K) : mg "find_place" = some (.ref (He.ga K "find_place")) := He.glo_ok e.kin e.ns (e.says.fact 8 (f := .glo "find_place") rfl)
theorem Ev.gl_names_of (e : Ev P w mg base K) : mg "names_of" = some (.ref (He.ga K "names_of")) := He.glo_ok e.kin e.ns (e.says.fact 9 (f := .glo "names_of") rfl)
theorem Ev.gl_closed_of (e : Ev P w mg base K) : mg "closed_of" = some (.ref (He.ga K "closed_of")) := He.glo_ok e.kin e.ns (e.says.fact 10 (f := .glo "closed_of") rfl)
theorem Ev.gl_is_home_at (e : Ev P w mg base K) : mg "is_home_at" = some (.ref (He.ga K "is_home_at")) := He.glo_ok e.kin e.ns (e.says.fact 11 (f := .glo "is_home_at") rfl)
theorem Ev.gl_away_places (e : Ev P w mg base K) : mg "away_places" = some (.ref (He.ga K "away_places")) := He.glo_ok e.kin e.ns (e.says.fact 12 (f := .glo "away_places") rfl)
theorem Ev.gl_hand_of (e : Ev P w mg base K) : mg "hand_of" = some (.ref (He.ga K "hand_of")) := He.glo_ok e.kin e.ns (e.says.fact 13 (f := .glo "hand_of") rfl)
theorem Ev.gl_ring_of (e : Ev P w mg base K) : mg "ring_of" = some (.ref (He.ga K "ring_of")) := He.glo_ok e.kin e.ns (e.says.fact 14 (f := .glo "ring_of") rfl)
theorem Ev.gl_pattern_of (e : Ev P w mg base K) : mg "pattern_of" = some (.ref (He.ga K "pattern_of")) := He.glo_ok e.kin e.ns (e.says.fact 15 (f := .glo "pattern_of") rfl)
theorem Ev.gl_often_round (e : Ev P w mg base K) : mg "often_round" = some (.ref (He.ga K "often_round")) := He.glo_ok e.kin e.ns (e.says.fact 16 (f := .glo "often_round") rfl)
theorem Ev.gl_when_round (e : Ev P w mg base K) : mg "when_round" = some (.ref (He.ga K "when_round")) := He.glo_ok e.kin e.ns (e.says.fact 17 (f := .glo "when_round") rfl)
theorem Ev.gl_rows_of (e : Ev P w mg base K) : mg "rows_of" = some (.ref (He.ga K "rows_of")) := He.glo_ok e.kin e.ns (e.says.fact 18 (f := .glo "rows_of") rfl)
theorem Ev.gl_step_shown (e : Ev P w mg base K) : mg "step_shown" = some (.ref (He.ga K "step_shown")) := He.glo_ok e.kin e.ns (e.says.fact 19 (f := .glo "step_shown") rfl)
theorem Ev.gl_filled (e : Ev P w mg base K) : mg "filled" = some (.ref (He.ga K "filled")) := He.glo_ok e.kin e.ns (e.says.fact 20 (f := .glo "filled") rfl)
theorem Ev.gl_turned (e : Ev P w mg base K) : mg "turned" = some (.ref (He.ga K "turned")) := He.glo_ok e.kin e.ns (e.says.fact 21 (f := .glo "turned") rfl)
theorem Ev.gl_stretches (e : Ev P w mg base K) : mg "stretches" = some (.ref (He.ga K "stretches")) := He.glo_ok e.kin e.ns (e.says.fact 22 (f := .glo "stretches") rfl)
theorem Ev.gl_stretches_gone (e : Ev P w mg base K) : mg "stretches_gone" = some (.ref (He.ga K "stretches_gone")) := He.glo_ok e.kin e.ns (e.says.fact 23 (f := .glo "stretches_gone") rfl)
theorem Ev.gl_deck_after (e : Ev P w mg base K) : mg "deck_after" = some (.ref (He.ga K "deck_after")) := He.glo_ok e.kin e.ns (e.says.fact 24 (f := .glo "deck_after") rfl)
theorem Ev.gl_spans_of (e : Ev P w mg base K) : mg "spans_of" = some (.ref (He.ga K "spans_of")) := He.glo_ok e.kin e.ns (e.says.fact 25 (f := .glo "spans_of") rfl)
theorem Ev.gl_numbers_in (e : Ev P w mg base K) : mg "numbers_in" = some (.ref (He.ga K "numbers_in")) := He.glo_ok e.kin e.ns (e.says.fact 26 (f := .glo "numbers_in") rfl)
theorem Ev.gl_never_paper (e : Ev P w mg base K) : mg "never_paper" = some (.ref (He.ga K "never_paper")) := He.glo_ok e.kin e.ns (e.says.fact 27 (f := .glo "never_paper") rfl)
theorem Ev.gl_never_shows (e : Ev P w mg base K) : mg "never_shows" = some (.ref (He.ga K "never_shows")) := He.glo_ok e.kin e.ns (e.says.fact 28 (f := .glo "never_shows") rfl)
theorem Ev.gl__law_bag (e : Ev P w mg base K) : mg "_law_bag" = some (.ref (He.ga K "_law_bag")) := He.glo_ok e.kin e.ns (e.says.fact 29 (f := .glo "_law_bag") rfl)
theorem Ev.gl__law_stir (e : Ev P w mg base K) : mg "_law_stir" = some (.ref (He.ga K "_law_stir")) := He.glo_ok e.kin e.ns (e.says.fact 30 (f := .glo "_law_stir") rfl)
theorem Ev.gl__law_draw (e : Ev P w mg base K) : mg "_law_draw" = some (.ref (He.ga K "_law_draw")) := He.glo_ok e.kin e.ns (e.says.fact 31 (f := .glo "_law_draw") rfl)
theorem Ev.gl__law_mixed (e : Ev P w mg base K) : mg "_law_mixed" = some (.ref (He.ga K "_law_mixed")) := He.glo_ok e.kin e.ns (e.says.fact 32 (f := .glo "_law_mixed") rfl)
theorem Ev.gl__law_names (e : Ev P w mg base K) : mg "_law_names" = some (.ref (He.ga K "_law_names")) := He.glo_ok e.kin e.ns (e.says.fact 33 (f := .glo "_law_names") rfl)
theorem Ev.gl__law_deck (e : Ev P w mg base K) : mg "_law_deck" = some (.ref (He.ga K "_law_deck")) := He.glo_ok e.kin e.ns (e.says.fact 34 (f := .glo "_law_deck") rfl)
theorem Ev.gl__law_settled (e : Ev P w mg base K) : mg "_law_settled" = some (.ref (He.ga K "_law_settled")) := He.glo_ok e.kin e.ns (e.says.fact 35 (f := .glo "_law_settled") rfl)
theorem Ev.gl__law_slid (e : Ev P w mg base K) : mg "_law_slid" = some (.ref (He.ga K "_law_slid")) := He.glo_ok e.kin e.ns (e.says.fact 36 (f := .glo "_law_slid") rfl)
theorem Ev.gl__law_closed (e : Ev P w mg base K) : mg "_law_closed" = some (.ref (He.ga K "_law_closed")) := He.glo_ok e.kin e.ns (e.says.fact 37 (f := .glo "_law_closed") rfl)
theorem Ev.gl__law_beneath (e : Ev P w mg base K) : mg "_law_beneath" = some (.ref (He.ga K "_law_beneath")) := He.glo_ok e.kin e.ns (e.says.fact 39 (f := .glo "_law_beneath") rfl)
theorem Ev.gl__law_so (e : Ev P w mg base K) : mg "_law_so" = some (.ref (He.ga K "_law_so")) := He.glo_ok e.kin e.ns (e.says.fact 40 (f := .glo "_law_so") rfl)
theorem Ev.gl__law_dressed (e : Ev P w mg base K) : mg "_law_dressed" = some (.ref (He.ga K "_law_dressed")) := He.glo_ok e.kin e.ns (e.says.fact 41 (f := .glo "_law_dressed") rfl)
theorem Ev.fr_all (e : Ev P w mg base K) : mg "all" = none := He.free_ok e.kin e.ns (e.says.fact 43 (f := .free "all") rfl)
theorem Ev.fr_bool (e : Ev P w mg base K) : mg "bool" = none := He.free_ok e.kin e.ns (e.says.fact 44 (f := .free "bool") rfl)
theorem Ev.fr_divmod (e : Ev P w mg base K) : mg "divmod" = none := He.free_ok e.kin e.ns (e.says.fact 45 (f := .free "divmod") rfl)
theorem Ev.fr_enumerate (e : Ev P w mg base K) : mg "enumerate" = none := He.free_ok e.kin e.ns (e.says.fact 46 (f := .free "enumerate") rfl)
theorem Ev.fr_int (e : Ev P w mg base K) : mg "int" = none := He.free_ok e.kin e.ns (e.says.fact 47 (f := .free "int") rfl)
theorem Ev.fr_isinstance (e : Ev P w mg base K) : mg "isinstance" = none := He.free_ok e.kin e.ns (e.says.fact 48 (f := .free "isinstance") rfl)
theorem Ev.fr_len (e : Ev P w mg base K) : mg "len" = none := He.free_ok e.kin e.ns (e.says.fact 49 (f := .free "len") rfl)
theorem Ev.fr_list (e : Ev P w mg base K) : mg "list" = none := He.free_ok e.kin e.ns (e.says.fact 50 (f := .free "list") rfl)
theorem Ev.fr_max (e : Ev P w mg base K) : mg "max" = none := He.free_ok e.kin e.ns (e.says.fact 51 (f := .free "max") rfl)
theorem Ev.fr_min (e : Ev P w mg base K) : mg "min" = none := He.free_ok e.kin e.ns (e.says.fact 52 (f := .free "min") rfl)
theorem Ev.fr_range (e : Ev P w mg base K) : mg "range" = none := He.free_ok e.kin e.ns (e.says.fact 53 (f := .free "range") rfl)
theorem Ev.fr_repr (e : Ev P w mg base K) : mg "repr" = none := He.free_ok e.kin e.ns (e.says.fact 54 (f := .free "repr") rfl)
theorem Ev.fr_reversed (e : Ev P w mg base K) : mg "reversed" = none := He.free_ok e.kin e.ns (e.says.fact 55 (f := .free "reversed") rfl)
theorem Ev.fr_str (e : Ev P w mg base K) : mg "str" = none := He.free_ok e.kin e.ns (e.says.fact 56 (f := .free "str") rfl)
theorem Ev.fr_tuple (e : Ev P w mg base K) : mg "tuple" = none := He.free_ok e.kin e.ns (e.says.fact 57 (f := .free "tuple") rfl)
theorem Ev.ct_MOST_LETTERS (e : Ev P w mg base K) : ∃ t, mg "MOST_LETTERS" = some (.int 8 t) := He.int_ok e.kin e.ns (e.says.fact 58 (f := .int "MOST_LETTERS" 8) rfl)
theorem Ev.ct_MOST_CARDS (e : Ev P w mg base K) : ∃ t, mg "MOST_CARDS" = some (.int 40 t) := He.int_ok e.kin e.ns (e.says.fact 59 (f := .int "MOST_CARDS" 40) rfl)
theorem Ev.gl_NoDeck (e : Ev P w mg base K) : mg "NoDeck" = some (.ref (He.ga K "NoDeck")) := He.glo_ok e.kin e.ns (e.says.fact 62 (f := .glo "NoDeck") rfl)
theorem Ev.ex_NoDeck (e : Ev P w mg base K) : PySem.W.excIn K (He.ga K "NoDeck") He.veBase "ValueError.__new__" = true ∧ PySem.W.keepIn K (.ref (He.ga K "NoDeck")) = true ∧ PySem.W.subIn K (.ref (He.ga K "NoDeck")) (.type "BaseException") = some true ∧ PySem.W.typeIn K (.ref (He.ga K "NoDeck")) = some (.type "type") := He.exc_ok (e.says.fact 63 (f := .exc "NoDeck") rfl)
theorem Ev.gl_NoName (e : Ev P w mg base K) : mg "NoName" = some (.ref (He.ga K "NoName")) := He.glo_ok e.kin e.ns (e.says.fact 64 (f := .glo "NoName") rfl)
theorem Ev.ex_NoName (e : Ev P w mg base K) : PySem.W.excIn K (He.ga K "NoName") He.veBase "ValueError.__new__" = true ∧ PySem.W.keepIn K (.ref (He.ga K "NoName")) = true ∧ PySem.W.subIn K (.ref (He.ga K "NoName")) (.type "BaseException") = some true ∧ PySem.W.typeIn K (.ref (He.ga K "NoName")) = some (.type "type") := He.exc_ok (e.says.fact 65 (f := .exc "NoName") rfl)
end
/-! is_whole: 0 thing -/
theorem sc_is_whole : FnScope ["thing"] ["thing"] (defScope s_is_whole) := ⟨rfl, rfl, rfl, by decide +kernel, rfl, by decide +kernel, by decide +kernel⟩
abbrev lv_is_whole : Nat := 1
theorem ok_is_whole {P : Program} {w : World} {mg : Str → Option Value} {base : Heap} {K : PySem.W.Frag} (e : Ev P w mg base K) : CalG P w mg base (TT P w K) lv_is_whole 1 "is_whole" (M_is_whole) := by
  obtain ⟨fd, F⟩ := e.says.def_ 0 (d := d_is_whole) rfl
  refine cal_ofG (T := TT P w K) (p := ("is_whole", none)) (N := ["thing"]) (ps := ["thing"]) (k := 0) F sc_is_whole e.gl_is_whole (fun _ _ _ _ _ _ us hl => match us, hl with | [_], _ => rfl) (fun A outer s H E hr hq => ?_)
  exact b_one (s_ret (d_and (d_is (by rfl) e.fr_isinstance (by rfl) e.fr_int (by decide +kernel) (d_var 0)) (d_one (d_not (d_is (by rfl) e.fr_isinstance (by rfl) e.fr_bool (by decide +kernel) (d_var 0))))))
/-! is_depth: 0 thing -/
theorem sc_is_depth : FnScope ["thing"] ["thing"] (defScope s_is_depth) := ⟨rfl, rfl, rfl, by decide +kernel, rfl, by decide +kernel, by decide +kernel⟩
abbrev lv_is_depth : Nat := 2
theorem ok_is_depth {P : Program} {w : World} {mg : Str → Option Value} {base : Heap} {K : PySem.W.Frag} (e : Ev P w mg base K) : CalG P w mg base (TT P w K) lv_is_depth 1 "is_depth" (M_is_depth) := by
  obtain ⟨fd, F⟩ := e.says.def_ 1 (d := d_is_depth) rfl
  refine cal_ofG (T := TT P w K) (p := ("is_depth", none)) (N := ["thing"]) (ps := ["thing"]) (k := 1) F sc_is_depth e.gl_is_depth (fun _ _ _ _ _ _ us hl => match us, hl with | [_], _ => rfl) (fun A outer s H E hr hq => ?_)
  exact b_one (s_ret (d_and (d_callCG (k := lv_is_whole) (ok_is_whole e) (by rfl) (hr.mono (by decide)) hq bX_takes (d_cons (d_var 0) (d_nil))) (d_one (d_cmp o_ge (d_var 0) (d_int) (by first | exact nobehind _ (by decide) (by decide) | rfl)))))
/-! is_listed: 0 thing -/
theorem sc_is_listed : FnScope ["thing"] ["thing"] (defScope s_is_listed) := ⟨rfl, rfl, rfl, by decide +kernel, rfl, by decide +kernel, by decide +kernel⟩
abbrev lv_is_listed : Nat := 1
theorem ok_is_listed {P : Program} {w : World} {mg : Str → Option Value} {base : Heap} {K : PySem.W.Frag} (e : Ev P w mg base K) : CalG P w mg base (TT P w K) lv_is_listed 1 "is_listed" (M_is_listed) := by
  obtain ⟨fd, F⟩ := e.says.def_ 2 (d := d_is_listed) rfl
  refine cal_ofG (T := TT P w K) (p := ("is_listed", none)) (N := ["thing"]) (ps := ["thing"]) (k := 0) F sc_is_listed e.gl_is_listed (fun _ _ _ _ _ _ us hl => match us, hl with | [_], _ => rfl) (fun A outer s H E hr hq => ?_)
  exact b_one (s_ret (d_is2 (by rfl) e.fr_isinstance (by rfl) e.fr_list (by decide +kernel) (by rfl) e.fr_tuple (by decide +kernel) (d_var 0)))
/-! is_name: 0 thing, 1 sign -/
theorem sc_is_name : FnScope ["thing", "sign"] ["thing"] (defScope s_is_name) := ⟨rfl, rfl, rfl, by decide +kernel, rfl, by decide +kernel, by decide +kernel⟩
abbrev lv_is_name : Nat := 2
theorem ok_is_name {P : Program} {w : World} {mg : Str → Option Value} {base : Heap} {K : PySem.W.Frag} (e : Ev P w mg base K) : CalG P w mg base (TT P w K) lv_is_name 1 "is_name" (M_is_name) := by
  obtain ⟨fd, F⟩ := e.says.def_ 3 (d := d_is_name) rfl
  obtain ⟨t_MOST_LETTERS, hc_MOST_LETTERS⟩ := e.ct_MOST_LETTERS
  refine cal_ofG (T := TT P w K) (p := ("is_name", none)) (N := ["thing", "sign"]) (ps := ["thing"]) (k := 1) F sc_is_name e.gl_is_name (fun _ _ _ _ _ _ us hl => match us, hl with | [_], _ => rfl) (fun A outer s H E hr hq => ?_)
  exact b_cons (s_if (ptw (w_or (t_not (t_val (d_is (by rfl) e.fr_isinstance (by rfl) e.fr_str (by decide +kernel) (d_var 0)))) (w_or1 (t_not (t_chain o_le o_le (d_int) (d_callB (c_lenX (by rfl) (by rfl) (by rfl)) (by rfl) e.fr_len (by decide +kernel) (d_cons (d_var 0) (d_nil))) (d_num (by rfl) hc_MOST_LETTERS)))))) (b_one (s_ret (d_bl))) (b_nil))
      (b_one (s_ret (d_all (k := 0) rfl (hr.mono (by decide)) (by rfl) e.fr_all (e.tb _ (by decide)) (e.tbm _ (by decide)) rfl ⟨rfl, rfl, by decide +kernel, by decide +kernel, by decide +kernel⟩ (i_seq (d_var 0)) (fun _ _ _ _ _ _ _ _ _ => g_name (i := 1) sc_is_name.nd (by rfl) (by first | exact Or.inl rfl | exact Or.inr rfl)) (fun _ _ _ _ _ _ _ hr2 hq2 => d_chain o_le o_le (d_str) (d_var 1) (d_str)))))
/-! is_card: 0 thing -/
theorem sc_is_card : FnScope ["thing"] ["thing"] (defScope s_is_card) := ⟨rfl, rfl, rfl, by decide +kernel, rfl, by decide +kernel, by decide +kernel⟩
abbrev lv_is_card : Nat := 3
theorem ok_is_card {P : Program} {w : World} {mg : Str → Option Value} {base : Heap} {K : PySem.W.Frag} (e : Ev P w mg base K) : CalG P w mg base (TT P w K) lv_is_card 1 "is_card" (M_is_card) := by
  obtain ⟨fd, F⟩ := e.says.def_ 4 (d := d_is_card) rfl
  refine cal_ofG (T := TT P w K) (p := ("is_card", none)) (N := ["thing"]) (ps := ["thing"]) (k := 2) F sc_is_card e.gl_is_card (fun _ _ _ _ _ _ us hl => match us, hl with | [_], _ => rfl) (fun A outer s H E hr hq => ?_)
  exact b_cons (s_if (ptw (w_or (t_not (t_val (d_callCG (k := lv_is_listed) (ok_is_listed e) (by rfl) (hr.mono (by decide)) hq bX_takes (d_cons (d_var 0) (d_nil))))) (w_or1 (t_cmp (o_ne hr.u64) (d_callB (c_lenX (by rfl) (by rfl) (by rfl)) (by rfl) e.fr_len (by decide +kernel) (d_cons (d_var 0) (d_nil))) (d_int) (by first | exact nobehind _ (by decide) (by decide) | rfl))))) (b_one (s_ret (d_bl))) (b_nil))
      (b_one (s_ret (d_and (d_callCG (k := lv_is_name) (ok_is_name e) (by rfl) (hr.mono (by decide)) hq bX_takes (d_cons (d_ix (x_ix (by rfl)) (d_var 0) (d_int)) (d_nil))) (d_one (d_callCG (k := lv_is_depth) (ok_is_depth e) (by rfl) (hr.mono (by decide)) hq bX_takes (d_cons (d_ix (x_ix (by rfl)) (d_var 0) (d_int)) (d_nil)))))))
/-! deck_of: 0 cards, 1 card, 2 deck, 3 name, 4 depth -/
theorem sc_deck_of : FnScope ["cards", "card", "deck", "name", "depth"] ["cards"] (defScope s_deck_of) := ⟨rfl, rfl, rfl, by decide +kernel, rfl, by decide +kernel, by decide +kernel⟩
abbrev lv_deck_of : Nat := 5
theorem ok_deck_of {P : Program} {w : World} {mg : Str → Option Value} {base : Heap} {K : PySem.W.Frag} (e : Ev P w mg base K) : CalG P w mg base (TT P w K) lv_deck_of 1 "deck_of" (M_deck_of K) := by
  obtain ⟨fd, F⟩ := e.says.def_ 5 (d := d_deck_of) rfl
  obtain ⟨t_MOST_CARDS, hc_MOST_CARDS⟩ := e.ct_MOST_CARDS
  refine cal_ofG (T := TT P w K) (p := ("deck_of", none)) (N := ["cards", "card", "deck", "name", "depth"]) (ps := ["cards"]) (k := 4) F sc_deck_of e.gl_deck_of (fun _ _ _ _ _ _ us hl => match us, hl with | [_], _ => rfl) (fun A outer s H E hr hq => ?_)
  exact b_cons (s_if (ptw (w_or (t_not (t_val (d_callCG (k := lv_is_listed) (ok_is_listed e) (by rfl) (hr.mono (by decide)) hq bX_takes (d_cons (d_var 0) (d_nil))))) (w_or1 (t_not (t_chain o_le o_le (d_int) (d_callB (c_lenX (by rfl) (by rfl) (by rfl)) (by rfl) e.fr_len (by decide +kernel) (d_cons (d_var 0) (d_nil))) (d_num (by rfl) hc_MOST_CARDS)))))) (b_one (s_raise (by rfl) bX_takes e.gl_NoDeck e.ex_NoDeck)) (b_nil))
      (b_cons (s_if (t_not (t_val (d_all (k := 3) rfl (hr.mono (by decide)) (by rfl) e.fr_all (e.tb _ (by decide)) (e.tbm _ (by decide)) rfl ⟨rfl, rfl, by decide +kernel, by decide +kernel, by decide +kernel⟩ (i_seq (d_var 0)) (fun _ _ _ _ _ _ _ _ _ => g_name (i := 1) sc_deck_of.nd (by rfl) (by first | exact Or.inl rfl | exact Or.inr rfl)) (fun _ _ _ _ _ _ _ hr2 hq2 => d_callCG (k := lv_is_card) (ok_is_card e) (by rfl) (hr2.mono (by decide)) (hq2 hq) takes0 (d_cons (d_var 1) (d_nil)))))) (b_one (s_raise (by rfl) bX_takes e.gl_NoDeck e.ex_NoDeck)) (b_nil))
      (b_cons (s_set (i := 2) sc_deck_of.nd (by rfl) (by first | exact Or.inl rfl | exact Or.inr rfl) (d_callTy (c_tuple (by rfl)) (by rfl) e.fr_tuple (by decide +kernel) (d_cons (d_lc (own := [("name", 3), ("depth", 4)]) (by rfl) sc_deck_of.nd (i_seq (d_var 0)) (blkOk_by (by kernel_rfl)) (fun _ _ _ _ _ => g_two (i := 3) (j := 4) (by rfl) (by rfl) sc_deck_of.nd (by rfl) (by first | exact Or.inl rfl | exact Or.inr rfl) (by rfl) (by first | exact Or.inl rfl | exact Or.inr rfl)) (fun _ _ _ _ _ => ts_nil) (fun _ _ _ _ _ => d_tup (d_cons (d_var 3) (d_cons (d_var 4) (d_nil))))) (d_nil))))
      (b_cons (s_if (t_cmp o_lt (d_callB (c_lenX (by rfl) (by rfl) (by rfl)) (by rfl) e.fr_len (by decide +kernel) (d_cons (d_sc (own := [("card", 1)]) (by rfl) (by rfl) (by rfl) sc_deck_of.nd (i_seq (d_var 2)) (blkOk_by (by kernel_rfl)) (fun _ _ _ _ _ => g_name (i := 1) sc_deck_of.nd (by rfl) (by first | exact Or.inl rfl | exact Or.inr rfl)) (fun _ _ _ _ _ => d_ix (x_ix (by rfl)) (d_var 1) (d_int))) (d_nil))) (d_callB (c_lenX (by rfl) (by rfl) (by rfl)) (by rfl) e.fr_len (by decide +kernel) (d_cons (d_var 2) (d_nil))) (by first | exact nobehind _ (by decide) (by decide) | rfl)) (b_one (s_raise (by rfl) bX_takes e.gl_NoDeck e.ex_NoDeck)) (b_nil))
      (b_one (s_ret (d_var 2))))))
/-! reach_of: 0 card, 1 many -/
theorem sc_reach_of : FnScope ["card", "many"] ["card", "many"] (defScope s_reach_of) := ⟨rfl, rfl, rfl, by decide +kernel, rfl, by decide +kernel, by decide +kernel⟩
abbrev lv_reach_of : Nat := 1
theorem ok_reach_of {P : Program} {w : World} {mg : Str → Option Value} {base : Heap} {K : PySem.W.Frag} (e : Ev P w mg base K) : CalG P w mg base (TT P w K) lv_reach_of 2 "reach_of" (M_reach_of) := by
  obtain ⟨fd, F⟩ := e.says.def_ 6 (d := d_reach_of) rfl
  refine cal_ofG (T := TT P w K) (p := ("reach_of", none)) (N := ["card", "many"]) (ps := ["card", "many"]) (k := 0) F sc_reach_of e.gl_reach_of (fun _ _ _ _ _ _ us hl => match us, hl with | [_, _], _ => rfl) (fun A outer s H E hr hq => ?_)
  exact b_one (s_ret (d_callB (c_min2 (by rfl)) (by rfl) e.fr_min (by decide +kernel) (d_cons (d_ix (x_ix (by rfl)) (d_var 0) (d_int)) (d_cons (d_bin o_sub (d_var 1) (d_int)) (d_nil)))))
/-! step_of: 0 deck, 1 place -/
theorem sc_step_of : FnScope ["deck", "place"] ["deck"] (defScope s_step_of) := ⟨rfl, rfl, rfl, by decide +kernel, rfl, by decide +kernel, by decide +kernel⟩
abbrev lv_step_of : Nat := 2
theorem ok_step_of {P : Program} {w : World} {mg : Str → Option Value} {base : Heap} {K : PySem.W.Frag} (e : Ev P w mg base K) : CalG P w mg base (TT P w K) lv_step_of 1 "step_of" (M_step_of) := by
  obtain ⟨fd, F⟩ := e.says.def_ 7 (d := d_step_of) rfl
  refine cal_ofG (T := TT P w K) (p := ("step_of", none)) (N := ["deck", "place"]) (ps := ["deck"]) (k := 1) F sc_step_of e.gl_step_of (fun _ _ _ _ _ _ us hl => match us, hl with | [_], _ => rfl) (fun A outer s H E hr hq => ?_)
  exact b_cons (s_set (i := 1) sc_step_of.nd (by rfl) (by first | exact Or.inl rfl | exact Or.inr rfl) (d_callCG (k := lv_reach_of) (ok_reach_of e) (by rfl) (hr.mono (by decide)) hq bX_takes (d_cons (d_ix (x_ix (by rfl)) (d_var 0) (d_int)) (d_cons (d_callB (c_lenX (by rfl) (by rfl) (by rfl)) (by rfl) e.fr_len (by decide +kernel) (d_cons (d_var 0) (d_nil))) (d_nil)))))
      (b_one (s_ret (d_bin o_add (d_bin o_add (d_sl (by rfl) (d_var 0) (d_part (d_int)) (d_part (d_bin o_add (d_var 1) (d_int)))) (d_sl (by rfl) (d_var 0) (d_noPart) (d_part (d_int)))) (d_sl (by rfl) (d_var 0) (d_part (d_bin o_add (d_var 1) (d_int))) (d_noPart)))))
/-! find_place: 0 deck, 1 name, 2 place, 3 card -/
theorem sc_find_place : FnScope ["deck", "name", "place", "card"] ["deck", "name"] (defScope s_find_place) := ⟨rfl, rfl, rfl, by decide +kernel, rfl, by decide +kernel, by decide +kernel⟩
abbrev lv_find_place : Nat := 1
theorem ok_find_place {P : Program} {w : World} {mg : Str → Option Value} {base : Heap} {K : PySem.W.Frag} (e : Ev P w mg base K) : CalG P w mg base (TT P w K) lv_find_place 2 "find_place" (M_find_place K) := by
  obtain ⟨fd, F⟩ := e.says.def_ 8 (d := d_find_place) rfl
  refine cal_ofG (T := TT P w K) (p := ("find_place", none)) (N := ["deck", "name", "place", "card"]) (ps := ["deck", "name"]) (k := 0) F sc_find_place e.gl_find_place (fun _ _ _ _ _ _ us hl => match us, hl with | [_, _], _ => rfl) (fun A outer s H E hr hq => ?_)
  exact b_cons (s_for bX_passes (by rfl) (i_enum (by rfl) (by rfl) e.fr_enumerate (d_cons (d_var 0) (d_nil))) (g_two (i := 2) (j := 3) (by rfl) (by rfl) sc_find_place.nd (by rfl) (by first | exact Or.inl rfl | exact Or.inr rfl) (by rfl) (by first | exact Or.inl rfl | exact Or.inr rfl))
      (b_one (s_if (t_cmp (o_eq hr.u64) (d_ix (x_ix (by rfl)) (d_var 3) (d_int)) (d_var 1) (by first | exact nobehind _ (by decide) (by decide) | rfl)) (b_one (s_ret (d_var 2))) (b_nil))))
      (b_one (s_raise (by rfl) bX_takes e.gl_NoName e.ex_NoName))
/-! names_of: 0 cards, 1 card -/
theorem sc_names_of : FnScope ["cards", "card"] ["cards"] (defScope s_names_of) := ⟨rfl, rfl, rfl, by decide +kernel, rfl, by decide +kernel, by decide +kernel⟩
abbrev lv_names_of : Nat := 1
theorem ok_names_of {P : Program} {w : World} {mg : Str → Option Value} {base : Heap} {K : PySem.W.Frag} (e : Ev P w mg base K) : CalG P w mg base (TT P w K) lv_names_of 1 "names_of" (M_names_of) := by
  obtain ⟨fd, F⟩ := e.says.def_ 9 (d := d_names_of) rfl
  refine cal_ofG (T := TT P w K) (p := ("names_of", none)) (N := ["cards", "card"]) (ps := ["cards"]) (k := 0) F sc_names_of e.gl_names_of (fun _ _ _ _ _ _ us hl => match us, hl with | [_], _ => rfl) (fun A outer s H E hr hq => ?_)
  exact b_one (s_ret (d_fz (d_lc (own := [("card", 1)]) (by rfl) sc_names_of.nd (i_seq (d_var 0)) (blkOk_by (by kernel_rfl)) (fun _ _ _ _ _ => g_name (i := 1) sc_names_of.nd (by rfl) (by first | exact Or.inl rfl | exact Or.inr rfl)) (fun _ _ _ _ _ => ts_nil) (fun _ _ _ _ _ => d_ix (x_ix (by rfl)) (d_var 1) (d_int)))))
/-! closed_of: 0 deck, 1 farthest, 2 place, 3 card -/
theorem sc_closed_of : FnScope ["deck", "farthest", "place", "card"] ["deck"] (defScope s_closed_of) := ⟨rfl, rfl, rfl, by decide +kernel, rfl, by decide +kernel, by decide +kernel⟩
abbrev lv_closed_of : Nat := 2
theorem ok_closed_of {P : Program} {w : World} {mg : Str → Option Value} {base : Heap} {K : PySem.W.Frag} (e : Ev P w mg base K) : CalG P w mg base (TT P w K) lv_closed_of 1 "closed_of" (M_closed_of) := by
  obtain ⟨fd, F⟩ := e.says.def_ 10 (d := d_closed_of) rfl
  refine cal_ofG (T := TT P w K) (p := ("closed_of", none)) (N := ["deck", "farthest", "place", "card"]) (ps := ["deck"]) (k := 1) F sc_closed_of e.gl_closed_of (fun _ _ _ _ _ _ us hl => match us, hl with | [_], _ => rfl) (fun A outer s H E hr hq => ?_)
  exact b_cons (s_set (i := 1) sc_closed_of.nd (by rfl) (by first | exact Or.inl rfl | exact Or.inr rfl) (d_int))
      (b_cons (s_for bX_passes (by rfl) (i_enum (by rfl) (by rfl) e.fr_enumerate (d_cons (d_var 0) (d_nil))) (g_two (i := 2) (j := 3) (by rfl) (by rfl) sc_closed_of.nd (by rfl) (by first | exact Or.inl rfl | exact Or.inr rfl) (by rfl) (by first | exact Or.inl rfl | exact Or.inr rfl))
      (b_cons (s_if (t_cmp o_lt (d_var 1) (d_var 2) (by first | exact nobehind _ (by decide) (by decide) | rfl)) (b_one (s_ret (d_var 2))) (b_nil))
      (b_one (s_set (i := 1) sc_closed_of.nd (by rfl) (by first | exact Or.inl rfl | exact Or.inr rfl) (d_callB (c_max (by rfl) (by rfl)) (by rfl) e.fr_max (by decide +kernel) (d_cons (d_var 1) (d_cons (d_callCG (k := lv_reach_of) (ok_reach_of e) (by rfl) (hr.mono (by decide)) hq bX_takes (d_cons (d_var 3) (d_cons (d_callB (c_lenX (by rfl) (by rfl) (by rfl)) (by rfl) e.fr_len (by decide +kernel) (d_cons (d_var 0) (d_nil))) (d_nil)))) (d_nil))))))))
      (b_one (s_ret (d_callB (c_lenX (by rfl) (by rfl) (by rfl)) (by rfl) e.fr_len (by decide +kernel) (d_cons (d_var 0) (d_nil))))))
/-! is_home_at: 0 deck, 1 place -/
theorem sc_is_home_at : FnScope ["deck", "place"] ["deck", "place"] (defScope s_is_home_at) := ⟨rfl, rfl, rfl, by decide +kernel, rfl, by decide +kernel, by decide +kernel⟩
abbrev lv_is_home_at : Nat := 2
theorem ok_is_home_at {P : Program} {w : World} {mg : Str → Option Value} {base : Heap} {K : PySem.W.Frag} (e : Ev P w mg base K) : CalG P w mg base (TT P w K) lv_is_home_at 2 "is_home_at" (M_is_home_at) := by
  obtain ⟨fd, F⟩ := e.says.def_ 11 (d := d_is_home_at) rfl
  refine cal_ofG (T := TT P w K) (p := ("is_home_at", none)) (N := ["deck", "place"]) (ps := ["deck", "place"]) (k := 1) F sc_is_home_at e.gl_is_home_at (fun _ _ _ _ _ _ us hl => match us, hl with | [_, _], _ => rfl) (fun A outer s H E hr hq => ?_)
  exact b_one (s_ret (d_cmp o_le (d_var 1) (d_callCG (k := lv_reach_of) (ok_reach_of e) (by rfl) (hr.mono (by decide)) hq bX_takes (d_cons (d_ix (x_ix (by rfl)) (d_var 0) (d_var 1)) (d_cons (d_callB (c_lenX (by rfl) (by rfl) (by rfl)) (by rfl) e.fr_len (by decide +kernel) (d_cons (d_var 0) (d_nil))) (d_nil)))) (by first | exact nobehind _ (by decide) (by decide) | rfl)))
/-! away_places: 0 deck, 1 place -/
theorem sc_away_places : FnScope ["deck", "place"] ["deck"] (defScope s_away_places) := ⟨rfl, rfl, rfl, by decide +kernel, rfl, by decide +kernel, by decide +kernel⟩
abbrev lv_away_places : Nat := 3
theorem ok_away_places {P : Program} {w : World} {mg : Str → Option Value} {base : Heap} {K : PySem.W.Frag} (e : Ev P w mg base K) : CalG P w mg base (TT P w K) lv_away_places 1 "away_places" (M_away_places) := by
  obtain ⟨fd, F⟩ := e.says.def_ 12 (d := d_away_places) rfl
  refine cal_ofG (T := TT P w K) (p := ("away_places", none)) (N := ["deck", "place"]) (ps := ["deck"]) (k := 2) F sc_away_places e.gl_away_places (fun _ _ _ _ _ _ us hl => match us, hl with | [_], _ => rfl) (fun A outer s H E hr hq => ?_)
  exact b_one (s_ret (d_fz (d_lc (own := [("place", 1)]) (by rfl) sc_away_places.nd (i_rg1 (by rfl) e.fr_range (d_cons (d_callCG (k := lv_closed_of) (ok_closed_of e) (by rfl) (hr.mono (by decide)) hq bX_takes (d_cons (d_var 0) (d_nil))) (d_nil))) (blkOk_by (by kernel_rfl)) (fun _ _ _ _ _ => g_name (i := 1) sc_away_places.nd (by rfl) (by first | exact Or.inl rfl | exact Or.inr rfl)) (fun _ _ _ _ _ => ts_one (t_not (t_val (d_callCG (k := lv_is_home_at) (ok_is_home_at e) (by rfl) (hr.mono (by decide)) hq takes0 (d_cons (d_var 0) (d_cons (d_var 1) (d_nil))))))) (fun _ _ _ _ _ => d_var 1))))
/-! hand_of: 0 deck, 1 level, 2 card -/
theorem sc_hand_of : FnScope ["deck", "level", "card"] ["deck", "level"] (defScope s_hand_of) := ⟨rfl, rfl, rfl, by decide +kernel, rfl, by decide +kernel, by decide +kernel⟩
abbrev lv_hand_of : Nat := 2
theorem ok_hand_of {P : Program} {w : World} {mg : Str → Option Value} {base : Heap} {K : PySem.W.Frag} (e : Ev P w mg base K) : CalG P w mg base (TT P w K) lv_hand_of 2 "hand_of" (M_hand_of) := by
  obtain ⟨fd, F⟩ := e.says.def_ 13 (d := d_hand_of) rfl
  refine cal_ofG (T := TT P w K) (p := ("hand_of", none)) (N := ["deck", "level", "card"]) (ps := ["deck", "level"]) (k := 1) F sc_hand_of e.gl_hand_of (fun _ _ _ _ _ _ us hl => match us, hl with | [_, _], _ => rfl) (fun A outer s H E hr hq => ?_)
  exact b_one (s_ret (d_fz (d_lc (own := [("card", 2)]) (by rfl) sc_hand_of.nd (i_seq (d_sl (by rfl) (d_var 0) (d_noPart) (d_part (d_var 1)))) (blkOk_by (by kernel_rfl)) (fun _ _ _ _ _ => g_name (i := 2) sc_hand_of.nd (by rfl) (by first | exact Or.inl rfl | exact Or.inr rfl)) (fun _ _ _ _ _ => ts_one (t_cmp o_ge (d_callCG (k := lv_reach_of) (ok_reach_of e) (by rfl) (hr.mono (by decide)) hq takes0 (d_cons (d_var 2) (d_cons (d_callB (c_lenX (by rfl) (by rfl) (by rfl)) (by rfl) e.fr_len (by decide +kernel) (d_cons (d_var 0) (d_nil))) (d_nil)))) (d_var 1) (by first | exact nobehind _ (by decide) (by decide) | rfl))) (fun _ _ _ _ _ => d_var 2))))
/-! ring_of: 0 deck, 1 level -/
theorem sc_ring_of : FnScope ["deck", "level"] ["deck", "level"] (defScope s_ring_of) := ⟨rfl, rfl, rfl, by decide +kernel, rfl, by decide +kernel, by decide +kernel⟩
abbrev lv_ring_of : Nat := 3
theorem ok_ring_of {P : Program} {w : World} {mg : Str → Option Value} {base : Heap} {K : PySem.W.Frag} (e : Ev P w mg base K) : CalG P w mg base (TT P w K) lv_ring_of 2 "ring_of" (M_ring_of) := by
  obtain ⟨fd, F⟩ := e.says.def_ 14 (d := d_ring_of) rfl
  refine cal_ofG (T := TT P w K) (p := ("ring_of", none)) (N := ["deck", "level"]) (ps := ["deck", "level"]) (k := 2) F sc_ring_of e.gl_ring_of (fun _ _ _ _ _ _ us hl => match us, hl with | [_, _], _ => rfl) (fun A outer s H E hr hq => ?_)
  exact b_one (s_ret (d_bin o_add (d_callCG (k := lv_hand_of) (ok_hand_of e) (by rfl) (hr.mono (by decide)) hq bX_takes (d_cons (d_var 0) (d_cons (d_var 1) (d_nil)))) (d_fz (d_lst (d_cons (d_ix (x_ix (by rfl)) (d_var 0) (d_var 1)) (d_nil))))))
/-! pattern_of: 0 deck, 1 level, 2 many, 3 card -/
theorem sc_pattern_of : FnScope ["deck", "level", "many", "card"] ["deck", "level"] (defScope s_pattern_of) := ⟨rfl, rfl, rfl, by decide +kernel, rfl, by decide +kernel, by decide +kernel⟩
abbrev lv_pattern_of : Nat := 4
theorem ok_pattern_of {P : Program} {w : World} {mg : Str → Option Value} {base : Heap} {K : PySem.W.Frag} (e : Ev P w mg base K) : CalG P w mg base (TT P w K) lv_pattern_of 2 "pattern_of" (M_pattern_of) := by
  obtain ⟨fd, F⟩ := e.says.def_ 15 (d := d_pattern_of) rfl
  refine cal_ofG (T := TT P w K) (p := ("pattern_of", none)) (N := ["deck", "level", "many", "card"]) (ps := ["deck", "level"]) (k := 3) F sc_pattern_of e.gl_pattern_of (fun _ _ _ _ _ _ us hl => match us, hl with | [_, _], _ => rfl) (fun A outer s H E hr hq => ?_)
  exact b_cons (s_set (i := 2) sc_pattern_of.nd (by rfl) (by first | exact Or.inl rfl | exact Or.inr rfl) (d_callB (c_lenX (by rfl) (by rfl) (by rfl)) (by rfl) e.fr_len (by decide +kernel) (d_cons (d_var 0) (d_nil))))
      (b_one (s_ret (d_fz (d_lc (own := [("card", 3)]) (by rfl) sc_pattern_of.nd (i_seq (d_callCG (k := lv_ring_of) (ok_ring_of e) (by rfl) (hr.mono (by decide)) hq bX_takes (d_cons (d_var 0) (d_cons (d_var 1) (d_nil))))) (blkOk_by (by kernel_rfl)) (fun _ _ _ _ _ => g_name (i := 3) sc_pattern_of.nd (by rfl) (by first | exact Or.inl rfl | exact Or.inr rfl)) (fun _ _ _ _ _ => ts_nil) (fun _ _ _ _ _ => d_if (t_cmp o_gt (d_callCG (k := lv_reach_of) (ok_reach_of e) (by rfl) (hr.mono (by decide)) hq takes0 (d_cons (d_var 3) (d_cons (d_var 2) (d_nil)))) (d_var 1) (by first | exact nobehind _ (by decide) (by decide) | rfl)) (d_non) (d_ix (x_ix (by rfl)) (d_var 3) (d_int)))))))
/-! often_round: 0 row, 1 thing, 2 many, 3 turns, 4 phase -/
theorem sc_often_round : FnScope ["row", "thing", "many", "turns", "phase"] ["row", "thing", "many"] (defScope s_often_round) := ⟨rfl, rfl, rfl, by decide +kernel, rfl, by decide +kernel, by decide +kernel⟩
abbrev lv_often_round : Nat := 1
theorem ok_often_round {P : Program} {w : World} {mg : Str → Option Value} {base : Heap} {K : PySem.W.Frag} (e : Ev P w mg base K) : CalG P w mg base (TT P w K) lv_often_round 3 "often_round" (M_often_round) := by
  obtain ⟨fd, F⟩ := e.says.def_ 16 (d := d_often_round) rfl
  refine cal_ofG (T := TT P w K) (p := ("often_round", none)) (N := ["row", "thing", "many", "turns", "phase"]) (ps := ["row", "thing", "many"]) (k := 0) F sc_often_round e.gl_often_round (fun _ _ _ _ _ _ us hl => match us, hl with | [_, _, _], _ => rfl) (fun A outer s H E hr hq => ?_)
  exact b_cons (s_asg (d_callB (c_divmod) (by rfl) e.fr_divmod (by decide +kernel) (d_cons (d_var 2) (d_cons (d_callB (c_lenX (by rfl) (by rfl) (by rfl)) (by rfl) e.fr_len (by decide +kernel) (d_cons (d_var 0) (d_nil))) (d_nil)))) (g_two (i := 3) (j := 4) (by rfl) (by rfl) sc_often_round.nd (by rfl) (by first | exact Or.inl rfl | exact Or.inr rfl) (by rfl) (by first | exact Or.inl rfl | exact Or.inr rfl)))
      (b_one (s_ret (d_bin o_add (d_bin o_mul (d_var 3) (d_bm PySem.F.plainAttrs_list PySem.F.slot_list_count PySem.F.type_list_count (m_count hr.u65) (d_var 0) (d_cons (d_var 1) (d_nil)))) (d_bm PySem.F.plainAttrs_list PySem.F.slot_list_count PySem.F.type_list_count (m_count hr.u65) (d_sl (by rfl) (d_var 0) (d_noPart) (d_part (d_var 4))) (d_cons (d_var 1) (d_nil))))))
/-! when_round: 0 row, 1 thing, 2 number, 3 phases, 4 phase, 5 other, 6 turns, 7 at -/
theorem sc_when_round : FnScope ["row", "thing", "number", "phases", "phase", "other", "turns", "at"] ["row", "thing", "number"] (defScope s_when_round) := ⟨rfl, rfl, rfl, by decide +kernel, rfl, by decide +kernel, by decide +kernel⟩
abbrev lv_when_round : Nat := 1
theorem ok_when_round {P : Program} {w : World} {mg : Str → Option Value} {base : Heap} {K : PySem.W.Frag} (e : Ev P w mg base K) : CalG P w mg base (TT P w K) lv_when_round 3 "when_round" (M_when_round) := by
  obtain ⟨fd, F⟩ := e.says.def_ 17 (d := d_when_round) rfl
  refine cal_ofG (T := TT P w K) (p := ("when_round", none)) (N := ["row", "thing", "number", "phases", "phase", "other", "turns", "at"]) (ps := ["row", "thing", "number"]) (k := 0) F sc_when_round e.gl_when_round (fun _ _ _ _ _ _ us hl => match us, hl with | [_, _, _], _ => rfl) (fun A outer s H E hr hq => ?_)
  exact b_cons (s_setLcF (i := 3) (own := [("phase", 4), ("other", 5)]) (by rfl) sc_when_round.nd (by rfl) (by rfl) (by rfl) (i_enumX (by rfl) (by rfl) e.fr_enumerate (d_cons (d_var 0) (d_nil))) (blkOk_by (by kernel_rfl)) (fun _ _ _ _ _ => g_two (i := 4) (j := 5) (by rfl) (by rfl) sc_when_round.nd (by rfl) (by first | exact Or.inl rfl | exact Or.inr rfl) (by rfl) (by first | exact Or.inl rfl | exact Or.inr rfl)) (fun _ _ _ _ _ => ts_one (t_cmp (o_eq hr.u64) (d_var 5) (d_var 1) (by first | exact nobehind _ (by decide) (by decide) | rfl))) (fun _ _ _ _ _ => d_var 4))
      (b_cons (s_asg (d_callB (c_divmod) (by rfl) e.fr_divmod (by decide +kernel) (d_cons (d_var 2) (d_cons (d_callB (c_lenX (by rfl) (by rfl) (by rfl)) (by rfl) e.fr_len (by decide +kernel) (d_cons (d_var 3) (d_nil))) (d_nil)))) (g_two (i := 6) (j := 7) (by rfl) (by rfl) sc_when_round.nd (by rfl) (by first | exact Or.inl rfl | exact Or.inr rfl) (by rfl) (by first | exact Or.inl rfl | exact Or.inr rfl)))
      (b_one (s_ret (d_bin o_add (d_bin o_mul (d_var 6) (d_callB (c_lenX (by rfl) (by rfl) (by rfl)) (by rfl) e.fr_len (by decide +kernel) (d_cons (d_var 0) (d_nil)))) (d_ix (x_ix (by rfl)) (d_var 3) (d_var 7))))))
/-! rows_of: 0 deck, 1 last, 2 rows, 3 level -/
theorem sc_rows_of : FnScope ["deck", "last", "rows", "level"] ["deck", "last"] (defScope s_rows_of) := ⟨rfl, rfl, rfl, by decide +kernel, rfl, by decide +kernel, by decide +kernel⟩
abbrev lv_rows_of : Nat := 5
theorem ok_rows_of {P : Program} {w : World} {mg : Str → Option Value} {base : Heap} {K : PySem.W.Frag} (e : Ev P w mg base K) : CalG P w mg base (TT P w K) lv_rows_of 2 "rows_of" (M_rows_of) := by
  obtain ⟨fd, F⟩ := e.says.def_ 18 (d := d_rows_of) rfl
  refine cal_ofG (T := TT P w K) (p := ("rows_of", none)) (N := ["deck", "last", "rows", "level"]) (ps := ["deck", "last"]) (k := 4) F sc_rows_of e.gl_rows_of (fun _ _ _ _ _ _ us hl => match us, hl with | [_, _], _ => rfl) (fun A outer s H E hr hq => ?_)
  exact b_cons (s_setLc (i := 2) (own := [("level", 3)]) (by rfl) sc_rows_of.nd (by rfl) (by rfl) (by rfl) (i_rg1 (by rfl) e.fr_range (d_cons (d_var 1) (d_nil))) (blkOk_by (by kernel_rfl)) (fun _ _ _ _ _ => g_name (i := 3) sc_rows_of.nd (by rfl) (by first | exact Or.inl rfl | exact Or.inr rfl)) (fun _ _ _ _ _ => ts_nil) (fun _ _ _ _ _ => d_callCG (k := lv_pattern_of) (ok_pattern_of e) (by rfl) (hr.mono (by decide)) hq takes0 (d_cons (d_var 0) (d_cons (d_var 3) (d_nil)))))
      (b_cons (s_expr (d_bm PySem.F.plainAttrs_list PySem.F.slot_list_append PySem.F.type_list_append (m_append) (d_var 2) (d_cons (d_callCG (k := lv_names_of) (ok_names_of e) (by rfl) (hr.mono (by decide)) hq bX_takes (d_cons (d_callCG (k := lv_ring_of) (ok_ring_of e) (by rfl) (hr.mono (by decide)) hq bX_takes (d_cons (d_var 0) (d_cons (d_var 1) (d_nil)))) (d_nil))) (d_nil))))
      (b_one (s_ret (d_var 2))))
/-! step_shown: 0 rows, 1 level, 2 index, 3 row -/
theorem sc_step_shown : FnScope ["rows", "level", "index", "row"] ["rows", "level", "index"] (defScope s_step_shown) := ⟨rfl, rfl, rfl, by decide +kernel, rfl, by decide +kernel, by decide +kernel⟩
abbrev lv_step_shown : Nat := 2
theorem ok_step_shown {P : Program} {w : World} {mg : Str → Option Value} {base : Heap} {K : PySem.W.Frag} (e : Ev P w mg base K) : CalG P w mg base (TT P w K) lv_step_shown 3 "step_shown" (M_step_shown) := by
  obtain ⟨fd, F⟩ := e.says.def_ 19 (d := d_step_shown) rfl
  refine cal_ofG (T := TT P w K) (p := ("step_shown", none)) (N := ["rows", "level", "index", "row"]) (ps := ["rows", "level", "index"]) (k := 1) F sc_step_shown e.gl_step_shown (fun _ _ _ _ _ _ us hl => match us, hl with | [_, _, _], _ => rfl) (fun A outer s H E hr hq => ?_)
  exact b_cons (s_for bX_passes (by rfl) (i_rev (by rfl) (by rfl) e.fr_reversed (d_sl (by rfl) (d_var 0) (d_noPart) (d_part (d_var 1)))) (g_name (i := 3) sc_step_shown.nd (by rfl) (by first | exact Or.inl rfl | exact Or.inr rfl))
      (b_one (s_set (i := 2) sc_step_shown.nd (by rfl) (by first | exact Or.inl rfl | exact Or.inr rfl) (d_callCG (k := lv_when_round) (ok_when_round e) (by rfl) (hr.mono (by decide)) hq bX_takes (d_cons (d_var 3) (d_cons (d_non) (d_cons (d_var 2) (d_nil))))))))
      (b_one (s_ret (d_var 2)))
/-! filled: 0 row, 1 hand, 2 names, 3 used, 4 name -/
theorem sc_filled : FnScope ["row", "hand", "names", "used", "name"] ["row", "hand"] (defScope s_filled) := ⟨rfl, rfl, rfl, by decide +kernel, rfl, by decide +kernel, by decide +kernel⟩
abbrev lv_filled : Nat := 1
theorem ok_filled {P : Program} {w : World} {mg : Str → Option Value} {base : Heap} {K : PySem.W.Frag} (e : Ev P w mg base K) : CalG P w mg base (TT P w K) lv_filled 2 "filled" (M_filled) := by
  obtain ⟨fd, F⟩ := e.says.def_ 20 (d := d_filled) rfl
  refine cal_ofG (T := TT P w K) (p := ("filled", none)) (N := ["row", "hand", "names", "used", "name"]) (ps := ["row", "hand"]) (k := 0) F sc_filled e.gl_filled (fun _ _ _ _ _ _ us hl => match us, hl with | [_, _], _ => rfl) (fun A outer s H E hr hq => ?_)
  exact b_cons (s_set (i := 2) sc_filled.nd (by rfl) (by first | exact Or.inl rfl | exact Or.inr rfl) (d_lst (d_nil)))
      (b_cons (s_set (i := 3) sc_filled.nd (by rfl) (by first | exact Or.inl rfl | exact Or.inr rfl) (d_int))
      (b_cons (s_for bX_passes (by rfl) (i_seq (d_var 0)) (g_name (i := 4) sc_filled.nd (by rfl) (by first | exact Or.inl rfl | exact Or.inr rfl))
      (b_one (s_if (t_cmp o_isN (d_var 4) (d_non) (by first | exact nobehind _ (by decide) (by decide) | rfl)) (b_cons (s_expr (d_bm PySem.F.plainAttrs_list PySem.F.slot_list_append PySem.F.type_list_append (m_append) (d_var 2) (d_cons (d_ix (x_ix (by rfl)) (d_var 1) (d_var 3)) (d_nil))))
      (b_one (s_augN (i := 3) sc_filled.nd (by rfl) (by first | exact Or.inl rfl | exact Or.inr rfl) io_add (d_int)))) (b_one (s_expr (d_bm PySem.F.plainAttrs_list PySem.F.slot_list_append PySem.F.type_list_append (m_append) (d_var 2) (d_cons (d_var 4) (d_nil))))))))
      (b_one (s_ret (d_var 2)))))
/-! turned: 0 deck, 1 rows, 2 steps, 3 turned_rows, 4 index, 5 row, 6 phase, 7 cards, 8 card, 9 above, 10 hand, 11 ring -/
theorem sc_turned : FnScope ["deck", "rows", "steps", "turned_rows", "index", "row", "phase", "cards", "card", "above", "hand", "ring"] ["deck", "rows", "steps"] (defScope s_turned) := ⟨rfl, rfl, rfl, by decide +kernel, rfl, by decide +kernel, by decide +kernel⟩
abbrev lv_turned : Nat := 2
theorem ok_turned {P : Program} {w : World} {mg : Str → Option Value} {base : Heap} {K : PySem.W.Frag} (e : Ev P w mg base K) : CalG P w mg base (TT P w K) lv_turned 3 "turned" (M_turned) := by
  obtain ⟨fd, F⟩ := e.says.def_ 21 (d := d_turned) rfl
  refine cal_ofG (T := TT P w K) (p := ("turned", none)) (N := ["deck", "rows", "steps", "turned_rows", "index", "row", "phase", "cards", "card", "above", "hand", "ring"]) (ps := ["deck", "rows", "steps"]) (k := 1) F sc_turned e.gl_turned (fun _ _ _ _ _ _ us hl => match us, hl with | [_, _, _], _ => rfl) (fun A outer s H E hr hq => ?_)
  exact b_cons (s_set (i := 3) sc_turned.nd (by rfl) (by first | exact Or.inl rfl | exact Or.inr rfl) (d_lst (d_nil)))
      (b_cons (s_set (i := 4) sc_turned.nd (by rfl) (by first | exact Or.inl rfl | exact Or.inr rfl) (d_var 2))
      (b_cons (s_for bX_passes (by rfl) (i_seq (d_var 1)) (g_name (i := 5) sc_turned.nd (by rfl) (by first | exact Or.inl rfl | exact Or.inr rfl))
      (b_cons (s_set (i := 6) sc_turned.nd (by rfl) (by first | exact Or.inl rfl | exact Or.inr rfl) (d_bin o_mod (d_var 4) (d_callB (c_lenX (by rfl) (by rfl) (by rfl)) (by rfl) e.fr_len (by decide +kernel) (d_cons (d_var 5) (d_nil)))))
      (b_cons (s_expr (d_bm PySem.F.plainAttrs_list PySem.F.slot_list_append PySem.F.type_list_append (m_append) (d_var 3) (d_cons (d_bin o_add (d_sl (by rfl) (d_var 5) (d_part (d_var 6)) (d_noPart)) (d_sl (by rfl) (d_var 5) (d_noPart) (d_part (d_var 6)))) (d_nil))))
      (b_one (s_set (i := 4) sc_turned.nd (by rfl) (by first | exact Or.inl rfl | exact Or.inr rfl) (d_callCG (k := lv_often_round) (ok_often_round e) (by rfl) (hr.mono (by decide)) hq bX_takes (d_cons (d_var 5) (d_cons (d_non) (d_cons (d_var 4) (d_nil))))))))))
      (b_cons (s_setDc (i := 7) (own := [("card", 8)]) (by rfl) sc_turned.nd (by rfl) (by rfl) (by rfl) (i_seq (d_var 0)) (blkOk_by (by kernel_rfl)) (fun _ _ _ _ _ => g_name (i := 8) sc_turned.nd (by rfl) (by first | exact Or.inl rfl | exact Or.inr rfl)) (fun _ _ _ _ _ => ts_nil) (fun _ _ _ _ _ => d_ix (x_ix (by rfl)) (d_var 8) (d_int)) (fun _ _ _ _ _ => d_var 8))
      (b_cons (s_set (i := 9) sc_turned.nd (by rfl) (by first | exact Or.inl rfl | exact Or.inr rfl) (d_lst (d_nil)))
      (b_cons (s_set (i := 10) sc_turned.nd (by rfl) (by first | exact Or.inl rfl | exact Or.inr rfl) (d_fz (d_lst (d_nil))))
      (b_cons (s_for bX_passes (by rfl) (i_rev (by rfl) (by rfl) e.fr_reversed (d_var 3)) (g_name (i := 5) sc_turned.nd (by rfl) (by first | exact Or.inl rfl | exact Or.inr rfl))
      (b_cons (s_set (i := 11) sc_turned.nd (by rfl) (by first | exact Or.inl rfl | exact Or.inr rfl) (d_fz (d_callCG (k := lv_filled) (ok_filled e) (by rfl) (hr.mono (by decide)) hq bX_takes (d_cons (d_var 5) (d_cons (d_var 10) (d_nil))))))
      (b_cons (s_expr (d_bm PySem.F.plainAttrs_list PySem.F.slot_list_append PySem.F.type_list_append (m_append) (d_var 9) (d_cons (d_dget hr.u1 (d_var 7) (d_ix (x_ix (by rfl)) (d_var 11) (d_neg (d_int)))) (d_nil))))
      (b_one (s_set (i := 10) sc_turned.nd (by rfl) (by first | exact Or.inl rfl | exact Or.inr rfl) (d_sl (by rfl) (d_var 11) (d_noPart) (d_part (d_neg (d_int)))))))))
      (b_one (s_ret (d_bin o_add (d_callTy (c_tuple (by rfl)) (by rfl) e.fr_tuple (by decide +kernel) (d_cons (d_fz (d_revL (by rfl) (d_var 9))) (d_nil))) (d_sl (by rfl) (d_var 0) (d_part (d_callB (c_lenX (by rfl) (by rfl) (by rfl)) (by rfl) e.fr_len (by decide +kernel) (d_cons (d_var 1) (d_nil)))) (d_noPart)))))))))))
/-! stretches (hands out): 0 deck, 1 head, 2 places, 3 rows, 4 length -/
theorem sc_stretches : GScope ["deck", "head", "places", "rows", "length"] ["deck"] (defScope s_stretches) := ⟨rfl, rfl, rfl, by decide +kernel, rfl, by decide +kernel, by decide +kernel⟩
abbrev lv_stretches : Nat := 7
theorem gen_stretches {P : Program} {w : World} {mg : Str → Option Value} {base : Heap} {K : PySem.W.Frag} (e : Ev P w mg base K) : GenD P w mg base (TT P w K) lv_stretches 1 "stretches" Y_stretches := by
  obtain ⟨fd, F⟩ := e.says.def_ 22 (d := d_stretches) rfl
  refine gen_of (T := TT P w K) (p := ("stretches", none)) (N := ["deck", "head", "places", "rows", "length"]) (ps := ["deck"]) (k := 5) F sc_stretches e.gl_stretches (fun _ _ _ _ _ _ us hl => match us, hl with | [_], _ => rfl) (fun _ => rfl) (by decide +kernel) (fun X e1 e2 e3 e4 e5 hc n hr hq pins a go pl => ?_)
  have e3 : X.K = K := e3
  subst e1 e2 e3 e4 e5
  exact gss_cons (gs_plain (fun s H => s_set (i := 1) sc_stretches.nd (by rfl) (by first | exact Or.inl rfl | exact Or.inr rfl) (d_var 0)))
      (gss_cons (gs_plain (fun s H => s_set (i := 2) sc_stretches.nd (by rfl) (by first | exact Or.inl rfl | exact Or.inr rfl) (d_callCG (k := lv_away_places) (ok_away_places e) (by rfl) (hr.mono (by decide)) hq takes0 (d_cons (d_var 1) (d_nil)))))
      (gss_cons (gs_while (fun s H => t_tru (d_var 2)) (gss_cons (gs_plain (fun s H => s_set (i := 3) sc_stretches.nd (by rfl) (by first | exact Or.inl rfl | exact Or.inr rfl) (d_fz (d_callCG (k := lv_rows_of) (ok_rows_of e) (by rfl) (hr.mono (by decide)) hq takes0 (d_cons (d_var 1) (d_cons (d_ix (x_ix (by rfl)) (d_var 2) (d_int)) (d_nil)))))))
      (gss_cons (gs_plain (fun s H => s_set (i := 4) sc_stretches.nd (by rfl) (by first | exact Or.inl rfl | exact Or.inr rfl) (d_bin o_add (d_callCG (k := lv_step_shown) (ok_step_shown e) (by rfl) (hr.mono (by decide)) hq takes0 (d_cons (d_var 3) (d_cons (d_ix (x_ix (by rfl)) (d_var 2) (d_int)) (d_cons (d_int) (d_nil))))) (d_int))))
      (gss_cons (gs_yield pl (fun s H => d_tup (d_cons (d_var 1) (d_cons (d_var 3) (d_cons (d_var 4) (d_nil))))))
      (gss_cons (gs_plain (fun s H => s_set (i := 1) sc_stretches.nd (by rfl) (by first | exact Or.inl rfl | exact Or.inr rfl) (d_callCG (k := lv_step_of) (ok_step_of e) (by rfl) (hr.mono (by decide)) hq takes0 (d_cons (d_fz (d_callCG (k := lv_turned) (ok_turned e) (by rfl) (hr.mono (by decide)) hq takes0 (d_cons (d_var 1) (d_cons (d_var 3) (d_cons (d_bin o_sub (d_var 4) (d_int)) (d_nil)))))) (d_nil)))))
      (gss_cons (gs_plain (fun s H => s_set (i := 2) sc_stretches.nd (by rfl) (by first | exact Or.inl rfl | exact Or.inr rfl) (d_callCG (k := lv_away_places) (ok_away_places e) (by rfl) (hr.mono (by decide)) hq takes0 (d_cons (d_var 1) (d_nil)))))
      (gss_nil)))))))
      (gss_cons (gs_yield pl (fun s H => d_tup (d_cons (d_var 1) (d_cons (d_fz (d_callCG (k := lv_rows_of) (ok_rows_of e) (by rfl) (hr.mono (by decide)) hq takes0 (d_cons (d_var 1) (d_cons (d_bin o_sub (d_callCG (k := lv_closed_of) (ok_closed_of e) (by rfl) (hr.mono (by decide)) hq takes0 (d_cons (d_var 1) (d_nil))) (d_int)) (d_nil))))) (d_cons (d_non) (d_nil))))))
      (gss_nil))))
/-! stretches_gone: 0 deck, 1 steps, 2 gone, 3 left, 4 head, 5 rows, 6 length -/
theorem sc_stretches_gone : FnScope ["deck", "steps", "gone", "left", "head", "rows", "length"] ["deck", "steps"] (defScope s_stretches_gone) := ⟨rfl, rfl, rfl, by decide +kernel, rfl, by decide +kernel, by decide +kernel⟩
abbrev lv_stretches_gone : Nat := 8
theorem ok_stretches_gone {P : Program} {w : World} {mg : Str → Option Value} {base : Heap} {K : PySem.W.Frag} (e : Ev P w mg base K) : CalG P w mg base (TT P w K) lv_stretches_gone 2 "stretches_gone" (M_stretches_gone) := by
  obtain ⟨fd, F⟩ := e.says.def_ 23 (d := d_stretches_gone) rfl
  refine cal_ofG (T := TT P w K) (p := ("stretches_gone", none)) (N := ["deck", "steps", "gone", "left", "head", "rows", "length"]) (ps := ["deck", "steps"]) (k := 7) F sc_stretches_gone e.gl_stretches_gone (fun _ _ _ _ _ _ us hl => match us, hl with | [_, _], _ => rfl) (fun A outer s H E hr hq => ?_)
  exact b_cons (s_set (i := 2) sc_stretches_gone.nd (by rfl) (by first | exact Or.inl rfl | exact Or.inr rfl) (d_lst (d_nil)))
      (b_cons (s_set (i := 3) sc_stretches_gone.nd (by rfl) (by first | exact Or.inl rfl | exact Or.inr rfl) (d_var 1))
      (b_cons (s_forG (gen_stretches e) (by rfl) (hr.mono (by decide)) hq bX_calmly bX_passes (by rfl) (d_cons (d_var 0) (d_nil)) (g_three (i := 4) (j := 5) (k := 6) (by rfl) (by rfl) sc_stretches_gone.nd (by rfl) (by first | exact Or.inl rfl | exact Or.inr rfl) (by rfl) (by first | exact Or.inl rfl | exact Or.inr rfl) (by rfl) (by first | exact Or.inl rfl | exact Or.inr rfl))
      (b_cons (s_if (ptw (w_or (t_cmp o_isN (d_var 6) (d_non) (by first | exact nobehind _ (by decide) (by decide) | rfl)) (w_or1 (t_cmp o_lt (d_var 3) (d_var 6) (by first | exact nobehind _ (by decide) (by decide) | rfl))))) (b_cons (s_expr (d_bm PySem.F.plainAttrs_list PySem.F.slot_list_append PySem.F.type_list_append (m_append) (d_var 2) (d_cons (d_tup (d_cons (d_var 4) (d_cons (d_var 5) (d_cons (d_var 3) (d_nil))))) (d_nil))))
      (b_one (s_brk))) (b_nil))
      (b_cons (s_expr (d_bm PySem.F.plainAttrs_list PySem.F.slot_list_append PySem.F.type_list_append (m_append) (d_var 2) (d_cons (d_tup (d_cons (d_var 4) (d_cons (d_var 5) (d_cons (d_var 6) (d_nil))))) (d_nil))))
      (b_one (s_augN (i := 3) sc_stretches_gone.nd (by rfl) (by first | exact Or.inl rfl | exact Or.inr rfl) io_sub (d_var 6))))))
      (b_one (s_ret (d_var 2)))))
/-! deck_after: 0 deck, 1 steps, 2 head, 3 rows, 4 left -/
theorem sc_deck_after : FnScope ["deck", "steps", "head", "rows", "left"] ["deck", "steps"] (defScope s_deck_after) := ⟨rfl, rfl, rfl, by decide +kernel, rfl, by decide +kernel, by decide +kernel⟩
abbrev lv_deck_after : Nat := 9
theorem ok_deck_after {P : Program} {w : World} {mg : Str → Option Value} {base : Heap} {K : PySem.W.Frag} (e : Ev P w mg base K) : CalG P w mg base (TT P w K) lv_deck_after 2 "deck_after" (M_deck_after) := by
  obtain ⟨fd, F⟩ := e.says.def_ 24 (d := d_deck_after) rfl
  refine cal_ofG (T := TT P w K) (p := ("deck_after", none)) (N := ["deck", "steps", "head", "rows", "left"]) (ps := ["deck", "steps"]) (k := 8) F sc_deck_after e.gl_deck_after (fun _ _ _ _ _ _ us hl => match us, hl with | [_, _], _ => rfl) (fun A outer s H E hr hq => ?_)
  exact b_cons (s_asg (d_ix (x_ix (by rfl)) (d_fz (d_callCG (k := lv_stretches_gone) (ok_stretches_gone e) (by rfl) (hr.mono (by decide)) hq bX_takes (d_cons (d_var 0) (d_cons (d_var 1) (d_nil))))) (d_neg (d_int))) (g_three (i := 2) (j := 3) (k := 4) (by rfl) (by rfl) sc_deck_after.nd (by rfl) (by first | exact Or.inl rfl | exact Or.inr rfl) (by rfl) (by first | exact Or.inl rfl | exact Or.inr rfl) (by rfl) (by first | exact Or.inl rfl | exact Or.inr rfl)))
      (b_one (s_ret (d_fz (d_callCG (k := lv_turned) (ok_turned e) (by rfl) (hr.mono (by decide)) hq bX_takes (d_cons (d_var 2) (d_cons (d_var 3) (d_cons (d_var 4) (d_nil))))))))
/-! spans_of: 0 deck, 1 spans, 2 gone, 3 head, 4 rows, 5 length -/
theorem sc_spans_of : FnScope ["deck", "spans", "gone", "head", "rows", "length"] ["deck"] (defScope s_spans_of) := ⟨rfl, rfl, rfl, by decide +kernel, rfl, by decide +kernel, by decide +kernel⟩
abbrev lv_spans_of : Nat := 8
theorem ok_spans_of {P : Program} {w : World} {mg : Str → Option Value} {base : Heap} {K : PySem.W.Frag} (e : Ev P w mg base K) : CalG P w mg base (TT P w K) lv_spans_of 1 "spans_of" (M_spans_of) := by
  obtain ⟨fd, F⟩ := e.says.def_ 25 (d := d_spans_of) rfl
  refine cal_ofG (T := TT P w K) (p := ("spans_of", none)) (N := ["deck", "spans", "gone", "head", "rows", "length"]) (ps := ["deck"]) (k := 7) F sc_spans_of e.gl_spans_of (fun _ _ _ _ _ _ us hl => match us, hl with | [_], _ => rfl) (fun A outer s H E hr hq => ?_)
  exact b_cons (s_set (i := 1) sc_spans_of.nd (by rfl) (by first | exact Or.inl rfl | exact Or.inr rfl) (d_lst (d_nil)))
      (b_cons (s_set (i := 2) sc_spans_of.nd (by rfl) (by first | exact Or.inl rfl | exact Or.inr rfl) (d_int))
      (b_cons (s_forG (gen_stretches e) (by rfl) (hr.mono (by decide)) hq bX_calmly bX_passes (by rfl) (d_cons (d_var 0) (d_nil)) (g_three (i := 3) (j := 4) (k := 5) (by rfl) (by rfl) sc_spans_of.nd (by rfl) (by first | exact Or.inl rfl | exact Or.inr rfl) (by rfl) (by first | exact Or.inl rfl | exact Or.inr rfl) (by rfl) (by first | exact Or.inl rfl | exact Or.inr rfl))
      (b_cons (s_expr (d_bm PySem.F.plainAttrs_list PySem.F.slot_list_append PySem.F.type_list_append (m_append) (d_var 1) (d_cons (d_tup (d_cons (d_var 2) (d_cons (d_var 3) (d_cons (d_var 4) (d_cons (d_var 5) (d_nil)))))) (d_nil))))
      (b_one (s_if (t_cmp o_notN (d_var 5) (d_non) (by first | exact nobehind _ (by decide) (by decide) | rfl)) (b_one (s_augN (i := 2) sc_spans_of.nd (by rfl) (by first | exact Or.inl rfl | exact Or.inr rfl) io_add (d_var 5))) (b_nil)))))
      (b_one (s_ret (d_var 1)))))
/-! numbers_in: 0 thing, 1 many, 2 number -/
theorem sc_numbers_in : FnScope ["thing", "many", "number"] ["thing", "many"] (defScope s_numbers_in) := ⟨rfl, rfl, rfl, by decide +kernel, rfl, by decide +kernel, by decide +kernel⟩
abbrev lv_numbers_in : Nat := 3
theorem ok_numbers_in {P : Program} {w : World} {mg : Str → Option Value} {base : Heap} {K : PySem.W.Frag} (e : Ev P w mg base K) : CalG P w mg base (TT P w K) lv_numbers_in 2 "numbers_in" (M_numbers_in) := by
  obtain ⟨fd, F⟩ := e.says.def_ 26 (d := d_numbers_in) rfl
  refine cal_ofG (T := TT P w K) (p := ("numbers_in", none)) (N := ["thing", "many", "number"]) (ps := ["thing", "many"]) (k := 2) F sc_numbers_in e.gl_numbers_in (fun _ _ _ _ _ _ us hl => match us, hl with | [_, _], _ => rfl) (fun A outer s H E hr hq => ?_)
  exact b_cons (s_if (ptw (w_or (t_not (t_val (d_callCG (k := lv_is_listed) (ok_is_listed e) (by rfl) (hr.mono (by decide)) hq bX_takes (d_cons (d_var 0) (d_nil))))) (w_or1 (t_cmp (o_ne hr.u64) (d_callB (c_lenX (by rfl) (by rfl) (by rfl)) (by rfl) e.fr_len (by decide +kernel) (d_cons (d_var 0) (d_nil))) (d_var 1) (by first | exact nobehind _ (by decide) (by decide) | rfl))))) (b_one (s_ret (d_non))) (b_nil))
      (b_one (s_ret (d_if (t_val (d_all (k := 1) rfl (hr.mono (by decide)) (by rfl) e.fr_all (e.tb _ (by decide)) (e.tbm _ (by decide)) rfl ⟨rfl, rfl, by decide +kernel, by decide +kernel, by decide +kernel⟩ (i_seq (d_var 0)) (fun _ _ _ _ _ _ _ _ _ => g_name (i := 2) sc_numbers_in.nd (by rfl) (by first | exact Or.inl rfl | exact Or.inr rfl)) (fun _ _ _ _ _ _ _ hr2 hq2 => d_callCG (k := lv_is_whole) (ok_is_whole e) (by rfl) (hr2.mono (by decide)) (hq2 hq) takes0 (d_cons (d_var 2) (d_nil))))) (d_callTy (c_tuple (by rfl)) (by rfl) e.fr_tuple (by decide +kernel) (d_cons (d_var 0) (d_nil))) (d_non))))
/-! never_paper: 0 deck, 1 name, 2 cards, 3 gone, 4 head, 5 _, 6 closed -/
def m_never_paper (K : PySem.W.Frag) : SF := sSeq (sSet 2 (fz (eCl (M_deck_of K) 1 (aCons (eVar 0) (aNil))))) (sSeq (sEx (eCl (M_find_place K) 2 (aCons (eVar 2) (aCons (eVar 1) (aNil))))) (sSeq (sFor (iSeq (fz (eCl (M_spans_of) 1 (aCons (eVar 2) (aNil))))) (tN4 3 4 5 5) (sSeq (sSet 6 (eCl (M_closed_of) 1 (aCons (eVar 4) (aNil)))) (sIf (tB (eB gGeI (eCl (M_find_place K) 2 (aCons (eVar 4) (aCons (eVar 1) (aNil)))) (eVar 6))) (sRt (eTup (aCons (eVar 3) (aCons (eVar 6) (aNil))))) (sNop)))) (sRt (eC .non))))
abbrev M_never_paper (K : PySem.W.Frag) : List D → M D := fnM 7 (m_never_paper K)
theorem sc_never_paper : FnScope ["deck", "name", "cards", "gone", "head", "_", "closed"] ["deck", "name"] (defScope s_never_paper) := ⟨rfl, rfl, rfl, by decide +kernel, rfl, by decide +kernel, by decide +kernel⟩
abbrev lv_never_paper : Nat := 9
theorem ok_never_paper {P : Program} {w : World} {mg : Str → Option Value} {base : Heap} {K : PySem.W.Frag} (e : Ev P w mg base K) : CalG P w mg base (TT P w K) lv_never_paper 2 "never_paper" (M_never_paper K) := by
  obtain ⟨fd, F⟩ := e.says.def_ 27 (d := d_never_paper) rfl
  refine cal_ofG (T := TT P w K) (p := ("never_paper", none)) (N := ["deck", "name", "cards", "gone", "head", "_", "closed"]) (ps := ["deck", "name"]) (k := 8) F sc_never_paper e.gl_never_paper (fun _ _ _ _ _ _ us hl => match us, hl with | [_, _], _ => rfl) (fun A outer s H E hr hq => ?_)
  exact b_cons (s_set (i := 2) sc_never_paper.nd (by rfl) (by first | exact Or.inl rfl | exact Or.inr rfl) (d_fz (d_callCG (k := lv_deck_of) (ok_deck_of e) (by rfl) (hr.mono (by decide)) hq bX_takes (d_cons (d_var 0) (d_nil)))))
      (b_cons (s_expr (d_callCG (k := lv_find_place) (ok_find_place e) (by rfl) (hr.mono (by decide)) hq bX_takes (d_cons (d_var 2) (d_cons (d_var 1) (d_nil)))))
      (b_cons (s_for bX_passes (by rfl) (i_seq (d_fz (d_callCG (k := lv_spans_of) (ok_spans_of e) (by rfl) (hr.mono (by decide)) hq bX_takes (d_cons (d_var 2) (d_nil))))) (g_four (i := 3) (j := 4) (k := 5) (l := 5) (by rfl) (by rfl) sc_never_paper.nd (by rfl) (by first | exact Or.inl rfl | exact Or.inr rfl) (by rfl) (by first | exact Or.inl rfl | exact Or.inr rfl) (by rfl) (by first | exact Or.inl rfl | exact Or.inr rfl) (by rfl) (by first | exact Or.inl rfl | exact Or.inr rfl))
      (b_cons (s_set (i := 6) sc_never_paper.nd (by rfl) (by first | exact Or.inl rfl | exact Or.inr rfl) (d_callCG (k := lv_closed_of) (ok_closed_of e) (by rfl) (hr.mono (by decide)) hq bX_takes (d_cons (d_var 4) (d_nil))))
      (b_one (s_if (t_cmp o_ge (d_callCG (k := lv_find_place) (ok_find_place e) (by rfl) (hr.mono (by decide)) hq bX_takes (d_cons (d_var 4) (d_cons (d_var 1) (d_nil)))) (d_var 6) (by first | exact nobehind _ (by decide) (by decide) | rfl)) (b_one (s_ret (d_tup (d_cons (d_var 3) (d_cons (d_var 6) (d_nil)))))) (b_nil)))))
      (b_one (s_ret (d_non)))))
/-! never_shows: 0 deck, 1 name, 2 paper, 3 cards, 4 numbers, 5 steps, 6 place, 7 there -/
def m_never_shows (K : PySem.W.Frag) : SF := sSeq (sSet 3 (fz (eCl (M_deck_of K) 1 (aCons (eVar 0) (aNil))))) (sSeq (sEx (eCl (M_find_place K) 2 (aCons (eVar 3) (aCons (eVar 1) (aNil))))) (sSeq (sSet 4 (eCl (M_numbers_in) 2 (aCons (eVar 2) (aCons (eC (.int 2)) (aNil))))) (sSeq (sIf (tOr' (tB (eB (gIsN false) (eVar 4) (eC .non))) (tB (eB gLtI (eCB gMinT (aCons (eVar 4) (aNil))) (eC (.int 0))))) (sRt (eC (.bl false))) (sNop)) (sSeq (sAs (tN2 5 6) (eVar 4)) (sSeq (sSet 7 (eCl (M_deck_after) 2 (aCons (eVar 3) (aCons (eVar 5) (aNil))))) (sRt (eAnd (eB (gEq false) (eCl (M_closed_of) 1 (aCons (eVar 7) (aNil))) (eVar 6)) (eB gGeI (eCl (M_find_place K) 2 (aCons (eVar 7) (aCons (eVar 1) (aNil)))) (eVar 6)))))))))
abbrev M_never_shows (K : PySem.W.Frag) : List D → M D := fnM 8 (m_never_shows K)
theorem sc_never_shows : FnScope ["deck", "name", "paper", "cards", "numbers", "steps", "place", "there"] ["deck", "name", "paper"] (defScope s_never_shows) := ⟨rfl, rfl, rfl, by decide +kernel, rfl, by decide +kernel, by decide +kernel⟩
abbrev lv_never_shows : Nat := 10
theorem ok_never_shows {P : Program} {w : World} {mg : Str → Option Value} {base : Heap} {K : PySem.W.Frag} (e : Ev P w mg base K) : CalG P w mg base (TT P w K) lv_never_shows 3 "never_shows" (M_never_shows K) := by
  obtain ⟨fd, F⟩ := e.says.def_ 28 (d := d_never_shows) rfl
  refine cal_ofG (T := TT P w K) (p := ("never_shows", none)) (N := ["deck", "name", "paper", "cards", "numbers", "steps", "place", "there"]) (ps := ["deck", "name", "paper"]) (k := 9) F sc_never_shows e.gl_never_shows (fun _ _ _ _ _ _ us hl => match us, hl with | [_, _, _], _ => rfl) (fun A outer s H E hr hq => ?_)
  exact b_cons (s_set (i := 3) sc_never_shows.nd (by rfl) (by first | exact Or.inl rfl | exact Or.inr rfl) (d_fz (d_callCG (k := lv_deck_of) (ok_deck_of e) (by rfl) (hr.mono (by decide)) hq bX_takes (d_cons (d_var 0) (d_nil)))))
      (b_cons (s_expr (d_callCG (k := lv_find_place) (ok_find_place e) (by rfl) (hr.mono (by decide)) hq bX_takes (d_cons (d_var 3) (d_cons (d_var 1) (d_nil)))))
      (b_cons (s_set (i := 4) sc_never_shows.nd (by rfl) (by first | exact Or.inl rfl | exact Or.inr rfl) (d_callCG (k := lv_numbers_in) (ok_numbers_in e) (by rfl) (hr.mono (by decide)) hq bX_takes (d_cons (d_var 2) (d_cons (d_int) (d_nil)))))
      (b_cons (s_if (ptw (w_or (t_cmp o_isN (d_var 4) (d_non) (by first | exact nobehind _ (by decide) (by decide) | rfl)) (w_or1 (t_cmp o_lt (d_callB (c_minT (by rfl) hr.u1) (by rfl) e.fr_min (by decide +kernel) (d_cons (d_var 4) (d_nil))) (d_int) (by first | exact nobehind _ (by decide) (by decide) | rfl))))) (b_one (s_ret (d_bl))) (b_nil))
      (b_cons (s_asg (d_var 4) (g_two (i := 5) (j := 6) (by rfl) (by rfl) sc_never_shows.nd (by rfl) (by first | exact Or.inl rfl | exact Or.inr rfl) (by rfl) (by first | exact Or.inl rfl | exact Or.inr rfl)))
      (b_cons (s_set (i := 7) sc_never_shows.nd (by rfl) (by first | exact Or.inl rfl | exact Or.inr rfl) (d_callCG (k := lv_deck_after) (ok_deck_after e) (by rfl) (hr.mono (by decide)) hq bX_takes (d_cons (d_var 3) (d_cons (d_var 5) (d_nil)))))
      (b_one (s_ret (d_and (d_cmp (o_eq hr.u64) (d_callCG (k := lv_closed_of) (ok_closed_of e) (by rfl) (hr.mono (by decide)) hq bX_takes (d_cons (d_var 7) (d_nil))) (d_var 6) (by first | exact nobehind _ (by decide) (by decide) | rfl)) (d_one (d_cmp o_ge (d_callCG (k := lv_find_place) (ok_find_place e) (by rfl) (hr.mono (by decide)) hq bX_takes (d_cons (d_var 7) (d_cons (d_var 1) (d_nil)))) (d_var 6) (by first | exact nobehind _ (by decide) (by decide) | rfl)))))))))))
/-! _law_bag: 0 script, 1 total, 2 cell -/
theorem sc_bag_bag : FnScope ["script", "total", "cell"] ["script"] (defScope s_bag_bag) := ⟨rfl, rfl, rfl, by decide +kernel, rfl, by decide +kernel, by decide +kernel⟩
abbrev lv_bag_bag : Nat := 1
/-! _law_bag: 0 script, 1 total, 2 cell -/
theorem ok_x_bag_bag {P : Program} {w : World} {mg : Str → Option Value} {base : Heap} {K : PySem.W.Frag} (e : Ev P w mg base K) : CalG P w mg base (TT P w K) lv_bag_bag 1 "_law_bag" (M_x_bag_bag) := by
  obtain ⟨fd, F⟩ := e.says.def_ 29 (d := d_bag_bag) rfl
  refine cal_ofG (T := TT P w K) (p := ("_law_bag", none)) (N := ["script", "total", "cell"]) (ps := ["script"]) (k := 0) F sc_bag_bag e.gl__law_bag (fun _ _ _ _ _ _ us hl => match us, hl with | [_], _ => rfl) (fun A outer s H E hr hq => ?_)
  exact b_cons (s_set (i := 1) sc_bag_bag.nd (by rfl) (by first | exact Or.inl rfl | exact Or.inr rfl) (d_int))
      (b_cons (s_for bX_passes (by rfl) (i_scr rfl (d_var 0)) (g_name (i := 2) sc_bag_bag.nd (by rfl) (by first | exact Or.inl rfl | exact Or.inr rfl))
      (b_one (s_set (i := 1) sc_bag_bag.nd (by rfl) (by first | exact Or.inl rfl | exact Or.inr rfl) (d_bin o_mod (d_bin o_add (d_bin o_add (d_bin o_mulX (d_var 1) (d_int)) (d_bin o_mod (d_var 2) (d_int))) (d_int)) (d_int)))))
      (b_one (s_ret (d_lst (d_cons (d_fz (d_callTy (c_list (by rfl)) (by rfl) e.fr_list (by decide +kernel) (d_cons (d_var 0) (d_nil)))) (d_cons (d_int) (d_cons (d_int) (d_cons (d_int) (d_cons (d_var 1) (d_nil))))))))))
/-! _law_stir: 0 number, 1 place, 2 one, 3 two -/
theorem sc_bag_stir : FnScope ["number", "place", "one", "two"] ["number", "place"] (defScope s_bag_stir) := ⟨rfl, rfl, rfl, by decide +kernel, rfl, by decide +kernel, by decide +kernel⟩
abbrev lv_bag_stir : Nat := 1
theorem ok_bag_stir {P : Program} {w : World} {mg : Str → Option Value} {base : Heap} {K : PySem.W.Frag} (e : Ev P w mg base K) : CalG P w mg base (TT P w K) lv_bag_stir 2 "_law_stir" (M_bag_stir) := by
  obtain ⟨fd, F⟩ := e.says.def_ 30 (d := d_bag_stir) rfl
  refine cal_ofG (T := TT P w K) (p := ("_law_stir", none)) (N := ["number", "place", "one", "two"]) (ps := ["number", "place"]) (k := 0) F sc_bag_stir e.gl__law_stir (fun _ _ _ _ _ _ us hl => match us, hl with | [_, _], _ => rfl) (fun A outer s H E hr hq => ?_)
  exact b_cons (s_set (i := 2) sc_bag_stir.nd (by rfl) (by first | exact Or.inl rfl | exact Or.inr rfl) (d_bin o_mod (d_bin o_add (d_bin o_add (d_bin o_mulX (d_var 0) (d_int)) (d_bin o_mulX (d_var 1) (d_int))) (d_int)) (d_int)))
      (b_cons (s_set (i := 3) sc_bag_stir.nd (by rfl) (by first | exact Or.inl rfl | exact Or.inr rfl) (d_bin o_mod (d_bin o_mulX (d_var 2) (d_var 2)) (d_int)))
      (b_one (s_ret (d_bin o_div (d_bin o_mod (d_bin o_add (d_bin o_add (d_bin o_mulX (d_var 3) (d_int)) (d_bin o_mulX (d_bin o_mulX (d_var 1) (d_var 1)) (d_int))) (d_bin o_div (d_var 2) (d_int))) (d_int)) (d_int)))))
/-! _law_draw: 0 bag, 1 many, 2 cell, 3 found -/
theorem sc_bag_draw : FnScope ["bag", "many", "cell", "found"] ["bag", "many"] (defScope s_bag_draw) := ⟨rfl, rfl, rfl, by decide +kernel, rfl, by decide +kernel, by decide +kernel⟩
abbrev lv_bag_draw : Nat := 2
theorem ok_bag_draw {P : Program} {w : World} {mg : Str → Option Value} {base : Heap} {K : PySem.W.Frag} (e : Ev P w mg base K) : CalG P w mg base (TT P w K) lv_bag_draw 2 "_law_draw" (M_bag_draw) := by
  obtain ⟨fd, F⟩ := e.says.def_ 31 (d := d_bag_draw) rfl
  refine cal_ofG (T := TT P w K) (p := ("_law_draw", none)) (N := ["bag", "many", "cell", "found"]) (ps := ["bag", "many"]) (k := 1) F sc_bag_draw e.gl__law_draw (fun _ _ _ _ _ _ us hl => match us, hl with | [_, _], _ => rfl) (fun A outer s H E hr hq => ?_)
  exact b_cons (s_if (t_cmp (o_eq hr.u64) (d_var 1) (d_int) (by first | exact nobehind _ (by decide) (by decide) | rfl)) (b_one (s_ret (d_int))) (b_nil))
      (b_cons (s_put (d_bin o_add (d_ix (x_ix (by rfl)) (d_var 0) (d_int)) (d_int)) (d_var 0) (d_int))
      (b_cons (s_if (ptw (w_and (t_cmp o_lt (d_ix (x_ix (by rfl)) (d_var 0) (d_int)) (d_int) (by first | exact nobehind _ (by decide) (by decide) | rfl)) (w_and1 (t_cmp (o_eq hr.u64) (d_ix (x_ix (by rfl)) (d_var 0) (d_int)) (d_callB (c_lenX (by rfl) (by rfl) (by rfl)) (by rfl) e.fr_len (by decide +kernel) (d_cons (d_ix (x_ix (by rfl)) (d_var 0) (d_int)) (d_nil))) (by first | exact nobehind _ (by decide) (by decide) | rfl))))) (b_one (s_ret (d_bin o_mod (d_callCG (k := lv_bag_stir) (ok_bag_stir e) (by rfl) (hr.mono (by decide)) hq bX_takes (d_cons (d_ix (x_ix (by rfl)) (d_var 0) (d_int)) (d_cons (d_ix (x_ix (by rfl)) (d_var 0) (d_int)) (d_nil)))) (d_var 1)))) (b_nil))
      (b_cons (s_if (t_cmp o_lt (d_ix (x_ix (by rfl)) (d_var 0) (d_int)) (d_int) (by first | exact nobehind _ (by decide) (by decide) | rfl)) (b_cons (s_set (i := 2) sc_bag_draw.nd (by rfl) (by first | exact Or.inl rfl | exact Or.inr rfl) (d_ix (x_ix (by rfl)) (d_ix (x_ix (by rfl)) (d_var 0) (d_int)) (d_ix (x_ix (by rfl)) (d_var 0) (d_int))))
      (b_cons (s_put (d_bin o_add (d_ix (x_ix (by rfl)) (d_var 0) (d_int)) (d_int)) (d_var 0) (d_int))
      (b_cons (s_if (t_cmp o_lt (d_var 2) (d_bin o_pow (d_int) (d_int)) (by first | exact nobehind _ (by decide) (by decide) | rfl)) (b_one (s_ret (d_bin o_mod (d_callCG (k := lv_bag_stir) (ok_bag_stir e) (by rfl) (hr.mono (by decide)) hq bX_takes (d_cons (d_bin o_mod (d_var 2) (d_int)) (d_cons (d_ix (x_ix (by rfl)) (d_var 0) (d_int)) (d_nil)))) (d_var 1)))) (b_nil))
      (b_one (s_put (d_bin o_sub (d_var 2) (d_bin o_pow (d_int) (d_int))) (d_var 0) (d_int)))))) (b_nil))
      (b_cons (s_set (i := 3) sc_bag_draw.nd (by rfl) (by first | exact Or.inl rfl | exact Or.inr rfl) (d_bin o_mod (d_ix (x_ix (by rfl)) (d_var 0) (d_int)) (d_var 1)))
      (b_cons (s_put (d_bin o_div (d_ix (x_ix (by rfl)) (d_var 0) (d_int)) (d_var 1)) (d_var 0) (d_int))
      (b_one (s_ret (d_var 3))))))))
/-! _law_mixed: 0 bag, 1 row, 2 left, 3 k -/
theorem sc_bag_mixed : FnScope ["bag", "row", "left", "k"] ["bag", "row"] (defScope s_bag_mixed) := ⟨rfl, rfl, rfl, by decide +kernel, rfl, by decide +kernel, by decide +kernel⟩
abbrev lv_bag_mixed : Nat := 3
theorem ok_bag_mixed {P : Program} {w : World} {mg : Str → Option Value} {base : Heap} {K : PySem.W.Frag} (e : Ev P w mg base K) : CalG P w mg base (TT P w K) lv_bag_mixed 2 "_law_mixed" (M_bag_mixed) := by
  obtain ⟨fd, F⟩ := e.says.def_ 32 (d := d_bag_mixed) rfl
  refine cal_ofG (T := TT P w K) (p := ("_law_mixed", none)) (N := ["bag", "row", "left", "k"]) (ps := ["bag", "row"]) (k := 2) F sc_bag_mixed e.gl__law_mixed (fun _ _ _ _ _ _ us hl => match us, hl with | [_, _], _ => rfl) (fun A outer s H E hr hq => ?_)
  exact b_cons (s_set (i := 2) sc_bag_mixed.nd (by rfl) (by first | exact Or.inl rfl | exact Or.inr rfl) (d_callTy (c_list (by rfl)) (by rfl) e.fr_list (by decide +kernel) (d_cons (d_var 1) (d_nil))))
      (b_one (s_ret (d_fz (d_lc (own := [("k", 3)]) (by rfl) sc_bag_mixed.nd (i_rg1 (by rfl) e.fr_range (d_cons (d_callB (c_lenX (by rfl) (by rfl) (by rfl)) (by rfl) e.fr_len (by decide +kernel) (d_cons (d_var 1) (d_nil))) (d_nil))) (blkOk_by (by kernel_rfl)) (fun _ _ _ _ _ => g_name (i := 3) sc_bag_mixed.nd (by rfl) (by first | exact Or.inl rfl | exact Or.inr rfl)) (fun _ _ _ _ _ => ts_nil) (fun _ _ _ _ _ => d_bm PySem.F.plainAttrs_list PySem.F.slot_list_pop PySem.F.type_list_pop (m_popAt) (d_var 2) (d_cons (d_callCG (k := lv_bag_draw) (ok_bag_draw e) (by rfl) (hr.mono (by decide)) hq takes0 (d_cons (d_var 0) (d_cons (d_callB (c_lenX (by rfl) (by rfl) (by rfl)) (by rfl) e.fr_len (by decide +kernel) (d_cons (d_var 2) (d_nil))) (d_nil)))) (d_nil)))))))
/-! _law_names: 0 bag, 1 many, 2 letters, 3 some, 4 k, 5 at, 6 letter -/
theorem sc_bag_names : FnScope ["bag", "many", "letters", "some", "k", "at", "letter"] ["bag", "many"] (defScope s_bag_names) := ⟨rfl, rfl, rfl, by decide +kernel, rfl, by decide +kernel, by decide +kernel⟩
abbrev lv_bag_names : Nat := 4
theorem ok_bag_names {P : Program} {w : World} {mg : Str → Option Value} {base : Heap} {K : PySem.W.Frag} (e : Ev P w mg base K) : CalG P w mg base (TT P w K) lv_bag_names 2 "_law_names" (M_bag_names) := by
  obtain ⟨fd, F⟩ := e.says.def_ 33 (d := d_bag_names) rfl
  refine cal_ofG (T := TT P w K) (p := ("_law_names", none)) (N := ["bag", "many", "letters", "some", "k", "at", "letter"]) (ps := ["bag", "many"]) (k := 3) F sc_bag_names e.gl__law_names (fun _ _ _ _ _ _ us hl => match us, hl with | [_, _], _ => rfl) (fun A outer s H E hr hq => ?_)
  exact b_cons (s_set (i := 2) sc_bag_names.nd (by rfl) (by first | exact Or.inl rfl | exact Or.inr rfl) (d_str))
      (b_cons (s_set (i := 3) sc_bag_names.nd (by rfl) (by first | exact Or.inl rfl | exact Or.inr rfl) (d_bin o_add (d_fz (d_lc (own := [("k", 4)]) (by rfl) sc_bag_names.nd (i_rg1 (by rfl) e.fr_range (d_cons (d_int) (d_nil))) (blkOk_by (by kernel_rfl)) (fun _ _ _ _ _ => g_name (i := 4) sc_bag_names.nd (by rfl) (by first | exact Or.inl rfl | exact Or.inr rfl)) (fun _ _ _ _ _ => ts_nil) (fun _ _ _ _ _ => d_bin o_mulX (d_ix (x_ix (by rfl)) (d_var 2) (d_bin o_mod (d_var 4) (d_int))) (d_bin o_add (d_int) (d_bin o_div (d_var 4) (d_int)))))) (d_fz (d_lst (d_cons (d_str) (d_cons (d_str) (d_nil)))))))
      (b_cons (s_if (ptw (w_and (t_cmp o_lt (d_var 1) (d_int) (by first | exact nobehind _ (by decide) (by decide) | rfl)) (w_and1 (t_cmp (o_eq hr.u64) (d_callCG (k := lv_bag_draw) (ok_bag_draw e) (by rfl) (hr.mono (by decide)) hq bX_takes (d_cons (d_var 0) (d_cons (d_int) (d_nil)))) (d_int) (by first | exact nobehind _ (by decide) (by decide) | rfl))))) (b_cons (s_set (i := 5) sc_bag_names.nd (by rfl) (by first | exact Or.inl rfl | exact Or.inr rfl) (d_callCG (k := lv_bag_draw) (ok_bag_draw e) (by rfl) (hr.mono (by decide)) hq bX_takes (d_cons (d_var 0) (d_cons (d_int) (d_nil)))))
      (b_cons (s_setLcF (i := 3) (own := [("letter", 6)]) (by rfl) sc_bag_names.nd (by rfl) (by rfl) (by rfl) (i_seq (d_var 2)) (blkOk_by (by kernel_rfl)) (fun _ _ _ _ _ => g_name (i := 6) sc_bag_names.nd (by rfl) (by first | exact Or.inl rfl | exact Or.inr rfl)) (fun _ _ _ _ _ => ts_nil) (fun _ _ _ _ _ => d_bin o_add (d_bin o_add (d_slX (by rfl) (d_str) (d_noPart) (d_part (d_var 5))) (d_var 6)) (d_slX (by rfl) (d_str) (d_part (d_var 5)) (d_noPart))))
      (b_one (s_if (ptw (w_and (t_cmp o_lt (d_var 1) (d_int) (by first | exact nobehind _ (by decide) (by decide) | rfl)) (w_and1 (t_cmp (o_eq hr.u64) (d_callCG (k := lv_bag_draw) (ok_bag_draw e) (by rfl) (hr.mono (by decide)) hq bX_takes (d_cons (d_var 0) (d_cons (d_int) (d_nil)))) (d_int) (by first | exact nobehind _ (by decide) (by decide) | rfl))))) (b_one (s_set (i := 3) sc_bag_names.nd (by rfl) (by first | exact Or.inl rfl | exact Or.inr rfl) (d_bin o_add (d_fz (d_lc (own := [("k", 4)]) (by rfl) sc_bag_names.nd (i_rg1 (by rfl) e.fr_range (d_cons (d_int) (d_nil))) (blkOk_by (by kernel_rfl)) (fun _ _ _ _ _ => g_name (i := 4) sc_bag_names.nd (by rfl) (by first | exact Or.inl rfl | exact Or.inr rfl)) (fun _ _ _ _ _ => ts_nil) (fun _ _ _ _ _ => d_bin o_add (d_slX (by rfl) (d_str) (d_part (d_var 4)) (d_noPart)) (d_slX (by rfl) (d_str) (d_noPart) (d_part (d_var 4)))))) (d_fz (d_lc (own := [("k", 4)]) (by rfl) sc_bag_names.nd (i_rg2 (by rfl) e.fr_range (d_cons (d_int) (d_cons (d_int) (d_nil)))) (blkOk_by (by kernel_rfl)) (fun _ _ _ _ _ => g_name (i := 4) sc_bag_names.nd (by rfl) (by first | exact Or.inl rfl | exact Or.inr rfl)) (fun _ _ _ _ _ => ts_nil) (fun _ _ _ _ _ => d_slX (by rfl) (d_str) (d_noPart) (d_part (d_var 4)))))))) (b_nil))))) (b_nil))
      (b_one (s_ret (d_slX (by rfl) (d_fz (d_callCG (k := lv_bag_mixed) (ok_bag_mixed e) (by rfl) (hr.mono (by decide)) hq bX_takes (d_cons (d_var 0) (d_cons (d_var 3) (d_nil))))) (d_noPart) (d_part (d_var 1)))))))
/-! _law_deck: 0 bag, 1 most, 2 many, 3 kind, 4 two, 5 found, 6 place, 7 name, 8 some -/
theorem sc_bag_deck : FnScope ["bag", "most", "many", "kind", "two", "found", "place", "name", "some"] ["bag", "most"] (defScope s_bag_deck) := ⟨rfl, rfl, rfl, by decide +kernel, rfl, by decide +kernel, by decide +kernel⟩
abbrev lv_bag_deck : Nat := 5
theorem ok_bag_deck {P : Program} {w : World} {mg : Str → Option Value} {base : Heap} {K : PySem.W.Frag} (e : Ev P w mg base K) : CalG P w mg base (TT P w K) lv_bag_deck 2 "_law_deck" (M_bag_deck) := by
  obtain ⟨fd, F⟩ := e.says.def_ 34 (d := d_bag_deck) rfl
  refine cal_ofG (T := TT P w K) (p := ("_law_deck", none)) (N := ["bag", "most", "many", "kind", "two", "found", "place", "name", "some"]) (ps := ["bag", "most"]) (k := 4) F sc_bag_deck e.gl__law_deck (fun _ _ _ _ _ _ us hl => match us, hl with | [_, _], _ => rfl) (fun A outer s H E hr hq => ?_)
  exact b_cons (s_set (i := 2) sc_bag_deck.nd (by rfl) (by first | exact Or.inl rfl | exact Or.inr rfl) (d_bin o_add (d_int) (d_callCG (k := lv_bag_draw) (ok_bag_draw e) (by rfl) (hr.mono (by decide)) hq bX_takes (d_cons (d_var 0) (d_cons (d_var 1) (d_nil))))))
      (b_cons (s_set (i := 3) sc_bag_deck.nd (by rfl) (by first | exact Or.inl rfl | exact Or.inr rfl) (d_callCG (k := lv_bag_draw) (ok_bag_draw e) (by rfl) (hr.mono (by decide)) hq bX_takes (d_cons (d_var 0) (d_cons (d_int) (d_nil)))))
      (b_cons (s_set (i := 4) sc_bag_deck.nd (by rfl) (by first | exact Or.inl rfl | exact Or.inr rfl) (d_fz (d_lst (d_cons (d_callCG (k := lv_bag_draw) (ok_bag_draw e) (by rfl) (hr.mono (by decide)) hq bX_takes (d_cons (d_var 0) (d_cons (d_var 2) (d_nil)))) (d_cons (d_callCG (k := lv_bag_draw) (ok_bag_draw e) (by rfl) (hr.mono (by decide)) hq bX_takes (d_cons (d_var 0) (d_cons (d_var 2) (d_nil)))) (d_nil))))))
      (b_cons (s_set (i := 5) sc_bag_deck.nd (by rfl) (by first | exact Or.inl rfl | exact Or.inr rfl) (d_lst (d_nil)))
      (b_cons (s_for bX_passes (by rfl) (i_enumX (by rfl) (by rfl) e.fr_enumerate (d_cons (d_callCG (k := lv_bag_names) (ok_bag_names e) (by rfl) (hr.mono (by decide)) hq bX_takes (d_cons (d_var 0) (d_cons (d_var 2) (d_nil)))) (d_nil))) (g_two (i := 6) (j := 7) (by rfl) (by rfl) sc_bag_deck.nd (by rfl) (by first | exact Or.inl rfl | exact Or.inr rfl) (by rfl) (by first | exact Or.inl rfl | exact Or.inr rfl))
      (b_cons (s_set (i := 8) sc_bag_deck.nd (by rfl) (by first | exact Or.inl rfl | exact Or.inr rfl) (d_fz (d_lst (d_cons (d_callCG (k := lv_bag_draw) (ok_bag_draw e) (by rfl) (hr.mono (by decide)) hq bX_takes (d_cons (d_var 0) (d_cons (d_bin o_add (d_var 2) (d_int)) (d_nil)))) (d_cons (d_callB (c_max (by rfl) (by rfl)) (by rfl) e.fr_max (by decide +kernel) (d_cons (d_int) (d_cons (d_bin o_add (d_bin o_sub (d_var 6) (d_int)) (d_callCG (k := lv_bag_draw) (ok_bag_draw e) (by rfl) (hr.mono (by decide)) hq bX_takes (d_cons (d_var 0) (d_cons (d_int) (d_nil))))) (d_nil)))) (d_cons (d_ix (x_ix (by rfl)) (d_var 4) (d_callCG (k := lv_bag_draw) (ok_bag_draw e) (by rfl) (hr.mono (by decide)) hq bX_takes (d_cons (d_var 0) (d_cons (d_int) (d_nil))))) (d_nil)))))))
      (b_cons (s_set (i := 8) sc_bag_deck.nd (by rfl) (by first | exact Or.inl rfl | exact Or.inr rfl) (d_bin o_add (d_var 8) (d_fz (d_lst (d_cons (d_bin o_add (d_bin o_pow (d_int) (d_int)) (d_callCG (k := lv_bag_draw) (ok_bag_draw e) (by rfl) (hr.mono (by decide)) hq bX_takes (d_cons (d_var 0) (d_cons (d_int) (d_nil))))) (d_cons (d_var 6) (d_cons (d_bin o_sub (d_bin o_sub (d_var 2) (d_int)) (d_var 6)) (d_cons (d_bin o_add (d_int) (d_callCG (k := lv_bag_draw) (ok_bag_draw e) (by rfl) (hr.mono (by decide)) hq bX_takes (d_cons (d_var 0) (d_cons (d_var 2) (d_nil))))) (d_nil)))))))))
      (b_one (s_expr (d_bm PySem.F.plainAttrs_list PySem.F.slot_list_append PySem.F.type_list_append (m_append) (d_var 5) (d_cons (d_tup (d_cons (d_var 7) (d_cons (d_ix (x_ix (by rfl)) (d_var 8) (d_var 3)) (d_nil)))) (d_nil))))))))
      (b_one (s_ret (d_callTy (c_tuple (by rfl)) (by rfl) e.fr_tuple (by decide +kernel) (d_cons (d_var 5) (d_nil)))))))))
/-! _law_settled: 0 bag, 1 most, 2 many, 3 closed, 4 kind, 5 found, 6 place, 7 name, 8 depth, 9 some -/
theorem sc_bag_settled : FnScope ["bag", "most", "many", "closed", "kind", "found", "place", "name", "depth", "some"] ["bag", "most"] (defScope s_bag_settled) := ⟨rfl, rfl, rfl, by decide +kernel, rfl, by decide +kernel, by decide +kernel⟩
abbrev lv_bag_settled : Nat := 5
theorem ok_bag_settled {P : Program} {w : World} {mg : Str → Option Value} {base : Heap} {K : PySem.W.Frag} (e : Ev P w mg base K) : CalG P w mg base (TT P w K) lv_bag_settled 2 "_law_settled" (M_bag_settled) := by
  obtain ⟨fd, F⟩ := e.says.def_ 35 (d := d_bag_settled) rfl
  refine cal_ofG (T := TT P w K) (p := ("_law_settled", none)) (N := ["bag", "most", "many", "closed", "kind", "found", "place", "name", "depth", "some"]) (ps := ["bag", "most"]) (k := 4) F sc_bag_settled e.gl__law_settled (fun _ _ _ _ _ _ us hl => match us, hl with | [_, _], _ => rfl) (fun A outer s H E hr hq => ?_)
  exact b_cons (s_set (i := 2) sc_bag_settled.nd (by rfl) (by first | exact Or.inl rfl | exact Or.inr rfl) (d_bin o_add (d_int) (d_callCG (k := lv_bag_draw) (ok_bag_draw e) (by rfl) (hr.mono (by decide)) hq bX_takes (d_cons (d_var 0) (d_cons (d_var 1) (d_nil))))))
      (b_cons (s_set (i := 3) sc_bag_settled.nd (by rfl) (by first | exact Or.inl rfl | exact Or.inr rfl) (d_ix (x_ix (by rfl)) (d_fz (d_lst (d_cons (d_var 2) (d_cons (d_bin o_add (d_int) (d_callCG (k := lv_bag_draw) (ok_bag_draw e) (by rfl) (hr.mono (by decide)) hq bX_takes (d_cons (d_var 0) (d_cons (d_var 2) (d_nil))))) (d_nil))))) (d_callCG (k := lv_bag_draw) (ok_bag_draw e) (by rfl) (hr.mono (by decide)) hq bX_takes (d_cons (d_var 0) (d_cons (d_int) (d_nil))))))
      (b_cons (s_set (i := 4) sc_bag_settled.nd (by rfl) (by first | exact Or.inl rfl | exact Or.inr rfl) (d_callCG (k := lv_bag_draw) (ok_bag_draw e) (by rfl) (hr.mono (by decide)) hq bX_takes (d_cons (d_var 0) (d_cons (d_int) (d_nil)))))
      (b_cons (s_set (i := 5) sc_bag_settled.nd (by rfl) (by first | exact Or.inl rfl | exact Or.inr rfl) (d_lst (d_nil)))
      (b_cons (s_for bX_passes (by rfl) (i_enumX (by rfl) (by rfl) e.fr_enumerate (d_cons (d_callCG (k := lv_bag_names) (ok_bag_names e) (by rfl) (hr.mono (by decide)) hq bX_takes (d_cons (d_var 0) (d_cons (d_var 2) (d_nil)))) (d_nil))) (g_two (i := 6) (j := 7) (by rfl) (by rfl) sc_bag_settled.nd (by rfl) (by first | exact Or.inl rfl | exact Or.inr rfl) (by rfl) (by first | exact Or.inl rfl | exact Or.inr rfl))
      (b_cons (s_set (i := 8) sc_bag_settled.nd (by rfl) (by first | exact Or.inl rfl | exact Or.inr rfl) (d_callCG (k := lv_bag_draw) (ok_bag_draw e) (by rfl) (hr.mono (by decide)) hq bX_takes (d_cons (d_var 0) (d_cons (d_bin o_add (d_var 2) (d_int)) (d_nil)))))
      (b_cons (s_if (t_cmp o_lt (d_var 6) (d_var 3) (by first | exact nobehind _ (by decide) (by decide) | rfl)) (b_cons (s_set (i := 9) sc_bag_settled.nd (by rfl) (by first | exact Or.inl rfl | exact Or.inr rfl) (d_fz (d_lst (d_cons (d_bin o_add (d_var 6) (d_callCG (k := lv_bag_draw) (ok_bag_draw e) (by rfl) (hr.mono (by decide)) hq bX_takes (d_cons (d_var 0) (d_cons (d_bin o_sub (d_var 3) (d_var 6)) (d_nil))))) (d_cons (d_bin o_sub (d_var 3) (d_int)) (d_cons (d_var 6) (d_nil)))))))
      (b_cons (s_set (i := 8) sc_bag_settled.nd (by rfl) (by first | exact Or.inl rfl | exact Or.inr rfl) (d_ix (x_ix (by rfl)) (d_fz (d_lst (d_cons (d_ix (x_ix (by rfl)) (d_var 9) (d_int)) (d_cons (d_ix (x_ix (by rfl)) (d_var 9) (d_callCG (k := lv_bag_draw) (ok_bag_draw e) (by rfl) (hr.mono (by decide)) hq bX_takes (d_cons (d_var 0) (d_cons (d_int) (d_nil))))) (d_cons (d_ix (x_ix (by rfl)) (d_var 9) (d_bin o_mulX (d_int) (d_callTy (c_int) (by rfl) e.fr_int (by decide +kernel) (d_cons (d_cmp o_gt (d_callCG (k := lv_bag_draw) (ok_bag_draw e) (by rfl) (hr.mono (by decide)) hq bX_takes (d_cons (d_var 0) (d_cons (d_int) (d_nil)))) (d_int) (by first | exact nobehind _ (by decide) (by decide) | rfl)) (d_nil))))) (d_nil)))))) (d_var 4)))
      (b_one (s_if (ptw (w_and (t_cmp (o_eq hr.u64) (d_var 3) (d_var 2) (by first | exact nobehind _ (by decide) (by decide) | rfl)) (w_and1 (t_cmp (o_eq hr.u64) (d_var 8) (d_bin o_sub (d_var 2) (d_int)) (by first | exact nobehind _ (by decide) (by decide) | rfl))))) (b_one (s_set (i := 8) sc_bag_settled.nd (by rfl) (by first | exact Or.inl rfl | exact Or.inr rfl) (d_bin o_add (d_var 8) (d_callCG (k := lv_bag_draw) (ok_bag_draw e) (by rfl) (hr.mono (by decide)) hq bX_takes (d_cons (d_var 0) (d_cons (d_ix (x_ix (by rfl)) (d_fz (d_lst (d_cons (d_int) (d_cons (d_int) (d_cons (d_bin o_pow (d_int) (d_int)) (d_nil)))))) (d_callCG (k := lv_bag_draw) (ok_bag_draw e) (by rfl) (hr.mono (by decide)) hq bX_takes (d_cons (d_var 0) (d_cons (d_int) (d_nil))))) (d_nil))))))) (b_nil))))) (b_nil))
      (b_one (s_expr (d_bm PySem.F.plainAttrs_list PySem.F.slot_list_append PySem.F.type_list_append (m_append) (d_var 5) (d_cons (d_tup (d_cons (d_var 7) (d_cons (d_var 8) (d_nil)))) (d_nil))))))))
      (b_one (s_ret (d_callTy (c_tuple (by rfl)) (by rfl) e.fr_tuple (by decide +kernel) (d_cons (d_var 5) (d_nil)))))))))
/-! _law_slid: 0 deck, 1 reach -/
theorem sc_bag_slid : FnScope ["deck", "reach"] ["deck"] (defScope s_bag_slid) := ⟨rfl, rfl, rfl, by decide +kernel, rfl, by decide +kernel, by decide +kernel⟩
abbrev lv_bag_slid : Nat := 1
theorem ok_bag_slid {P : Program} {w : World} {mg : Str → Option Value} {base : Heap} {K : PySem.W.Frag} (e : Ev P w mg base K) : CalG P w mg base (TT P w K) lv_bag_slid 1 "_law_slid" (M_bag_slid) := by
  obtain ⟨fd, F⟩ := e.says.def_ 36 (d := d_bag_slid) rfl
  refine cal_ofG (T := TT P w K) (p := ("_law_slid", none)) (N := ["deck", "reach"]) (ps := ["deck"]) (k := 0) F sc_bag_slid e.gl__law_slid (fun _ _ _ _ _ _ us hl => match us, hl with | [_], _ => rfl) (fun A outer s H E hr hq => ?_)
  exact b_cons (s_set (i := 1) sc_bag_slid.nd (by rfl) (by first | exact Or.inl rfl | exact Or.inr rfl) (d_callB (c_min2 (by rfl)) (by rfl) e.fr_min (by decide +kernel) (d_cons (d_ix (x_ix (by rfl)) (d_ix (x_ix (by rfl)) (d_var 0) (d_int)) (d_int)) (d_cons (d_bin o_sub (d_callB (c_lenX (by rfl) (by rfl) (by rfl)) (by rfl) e.fr_len (by decide +kernel) (d_cons (d_var 0) (d_nil))) (d_int)) (d_nil)))))
      (b_one (s_ret (d_bin o_add (d_bin o_add (d_slX (by rfl) (d_var 0) (d_part (d_int)) (d_part (d_bin o_add (d_var 1) (d_int)))) (d_slX (by rfl) (d_var 0) (d_noPart) (d_part (d_int)))) (d_slX (by rfl) (d_var 0) (d_part (d_bin o_add (d_var 1) (d_int))) (d_noPart)))))
/-! _law_closed: 0 deck, 1 place, 2 name, 3 depth -/
theorem sc_bag_closed : FnScope ["deck", "place", "name", "depth"] ["deck"] (defScope s_bag_closed) := ⟨rfl, rfl, rfl, by decide +kernel, rfl, by decide +kernel, by decide +kernel⟩
abbrev lv_bag_closed : Nat := 1
theorem ok_bag_closed {P : Program} {w : World} {mg : Str → Option Value} {base : Heap} {K : PySem.W.Frag} (e : Ev P w mg base K) : CalG P w mg base (TT P w K) lv_bag_closed 1 "_law_closed" (M_bag_closed) := by
  obtain ⟨fd, F⟩ := e.says.def_ 37 (d := d_bag_closed) rfl
  refine cal_ofG (T := TT P w K) (p := ("_law_closed", none)) (N := ["deck", "place", "name", "depth"]) (ps := ["deck"]) (k := 0) F sc_bag_closed e.gl__law_closed (fun _ _ _ _ _ _ us hl => match us, hl with | [_], _ => rfl) (fun A outer s H E hr hq => ?_)
  exact b_cons (s_for bX_passes (by rfl) (i_rg2 (by rfl) e.fr_range (d_cons (d_int) (d_cons (d_callB (c_lenX (by rfl) (by rfl) (by rfl)) (by rfl) e.fr_len (by decide +kernel) (d_cons (d_var 0) (d_nil))) (d_nil)))) (g_name (i := 1) sc_bag_closed.nd (by rfl) (by first | exact Or.inl rfl | exact Or.inr rfl))
      (b_one (s_if (t_cmp o_lt (d_callB (c_max (by rfl) (by rfl)) (by rfl) e.fr_max (by decide +kernel) (d_cons (d_fz (d_lc (own := [("name", 2), ("depth", 3)]) (by rfl) sc_bag_closed.nd (i_seq (d_slX (by rfl) (d_var 0) (d_noPart) (d_part (d_var 1)))) (blkOk_by (by kernel_rfl)) (fun _ _ _ _ _ => g_two (i := 2) (j := 3) (by rfl) (by rfl) sc_bag_closed.nd (by rfl) (by first | exact Or.inl rfl | exact Or.inr rfl) (by rfl) (by first | exact Or.inl rfl | exact Or.inr rfl)) (fun _ _ _ _ _ => ts_nil) (fun _ _ _ _ _ => d_callB (c_min2 (by rfl)) (by rfl) e.fr_min (by decide +kernel) (d_cons (d_var 3) (d_cons (d_bin o_sub (d_callB (c_lenX (by rfl) (by rfl) (by rfl)) (by rfl) e.fr_len (by decide +kernel) (d_cons (d_var 0) (d_nil))) (d_int)) (d_nil)))))) (d_nil))) (d_var 1) (by first | exact nobehind _ (by decide) (by decide) | rfl)) (b_one (s_ret (d_var 1))) (b_nil))))
      (b_one (s_ret (d_callB (c_lenX (by rfl) (by rfl) (by rfl)) (by rfl) e.fr_len (by decide +kernel) (d_cons (d_var 0) (d_nil)))))
/-! _law_rings: 0 deck, 1 most, 2 found, 3 level, 4 ring, 5 card, 6 name, 7 depth -/
/-! _law_beneath: 0 deck, 1 name, 2 one, 3 depth -/
def m_bag_beneath : SF := sRt (eB gGeI (eBM "list" gIndex (fz (eLc (iSeq (eVar 0)) (tN2 2 3) (tAll) (eVar 2) [2, 3])) (aCons (eVar 1) (aNil))) (eCl (M_bag_closed) 1 (aCons (eVar 0) (aNil))))
abbrev M_bag_beneath : List D → M D := fnM 4 (m_bag_beneath)
theorem sc_bag_beneath : FnScope ["deck", "name", "one", "depth"] ["deck", "name"] (defScope s_bag_beneath) := ⟨rfl, rfl, rfl, by decide +kernel, rfl, by decide +kernel, by decide +kernel⟩
abbrev lv_bag_beneath : Nat := 2
theorem ok_bag_beneath {P : Program} {w : World} {mg : Str → Option Value} {base : Heap} {K : PySem.W.Frag} (e : Ev P w mg base K) : CalG P w mg base (TT P w K) lv_bag_beneath 2 "_law_beneath" (M_bag_beneath) := by
  obtain ⟨fd, F⟩ := e.says.def_ 39 (d := d_bag_beneath) rfl
  refine cal_ofG (T := TT P w K) (p := ("_law_beneath", none)) (N := ["deck", "name", "one", "depth"]) (ps := ["deck", "name"]) (k := 1) F sc_bag_beneath e.gl__law_beneath (fun _ _ _ _ _ _ us hl => match us, hl with | [_, _], _ => rfl) (fun A outer s H E hr hq => ?_)
  exact b_one (s_ret (d_cmp o_ge (d_bm PySem.F.plainAttrs_list PySem.F.slot_list_index PySem.F.type_list_index (m_index hr.u65) (d_fz (d_lc (own := [("one", 2), ("depth", 3)]) (by rfl) sc_bag_beneath.nd (i_seq (d_var 0)) (blkOk_by (by kernel_rfl)) (fun _ _ _ _ _ => g_two (i := 2) (j := 3) (by rfl) (by rfl) sc_bag_beneath.nd (by rfl) (by first | exact Or.inl rfl | exact Or.inr rfl) (by rfl) (by first | exact Or.inl rfl | exact Or.inr rfl)) (fun _ _ _ _ _ => ts_nil) (fun _ _ _ _ _ => d_var 2))) (d_cons (d_var 1) (d_nil))) (d_callCG (k := lv_bag_closed) (ok_bag_closed e) (by rfl) (hr.mono (by decide)) hq bX_takes (d_cons (d_var 0) (d_nil))) (by first | exact nobehind _ (by decide) (by decide) | rfl)))
/-! _law_so: 0 found, 1 due -/
def m_bag_so : SF := sRt (eAnd (eIs "bool" (eVar 0)) (eB (gEq false) (eVar 0) (eVar 1)))
abbrev M_bag_so : List D → M D := fnM 2 (m_bag_so)
theorem sc_bag_so : FnScope ["found", "due"] ["found", "due"] (defScope s_bag_so) := ⟨rfl, rfl, rfl, by decide +kernel, rfl, by decide +kernel, by decide +kernel⟩
abbrev lv_bag_so : Nat := 1
theorem ok_bag_so {P : Program} {w : World} {mg : Str → Option Value} {base : Heap} {K : PySem.W.Frag} (e : Ev P w mg base K) : CalG P w mg base (TT P w K) lv_bag_so 2 "_law_so" (M_bag_so) := by
  obtain ⟨fd, F⟩ := e.says.def_ 40 (d := d_bag_so) rfl
  refine cal_ofG (T := TT P w K) (p := ("_law_so", none)) (N := ["found", "due"]) (ps := ["found", "due"]) (k := 0) F sc_bag_so e.gl__law_so (fun _ _ _ _ _ _ us hl => match us, hl with | [_, _], _ => rfl) (fun A outer s H E hr hq => ?_)
  exact b_one (s_ret (d_and (d_is (by rfl) e.fr_isinstance (by rfl) e.fr_bool (by decide +kernel) (d_var 0)) (d_one (d_cmp (o_eq hr.u64) (d_var 0) (d_var 1) (by first | exact nobehind _ (by decide) (by decide) | rfl)))))
/-! _law_dressed: 0 bag, 1 deck, 2 some, 3 card -/
theorem sc_bag_dressed : FnScope ["bag", "deck", "some", "card"] ["bag", "deck"] (defScope s_bag_dressed) := ⟨rfl, rfl, rfl, by decide +kernel, rfl, by decide +kernel, by decide +kernel⟩
abbrev lv_bag_dressed : Nat := 3
theorem ok_bag_dressed {P : Program} {w : World} {mg : Str → Option Value} {base : Heap} {K : PySem.W.Frag} (e : Ev P w mg base K) : CalG P w mg base (TT P w K) lv_bag_dressed 2 "_law_dressed" (M_bag_dressed) := by
  obtain ⟨fd, F⟩ := e.says.def_ 41 (d := d_bag_dressed) rfl
  refine cal_ofG (T := TT P w K) (p := ("_law_dressed", none)) (N := ["bag", "deck", "some", "card"]) (ps := ["bag", "deck"]) (k := 2) F sc_bag_dressed e.gl__law_dressed (fun _ _ _ _ _ _ us hl => match us, hl with | [_, _], _ => rfl) (fun A outer s H E hr hq => ?_)
  exact b_cons (s_set (i := 2) sc_bag_dressed.nd (by rfl) (by first | exact Or.inl rfl | exact Or.inr rfl) (d_fz (d_lst (d_cons (d_fz (d_lc (own := [("card", 3)]) (by rfl) sc_bag_dressed.nd (i_seq (d_var 1)) (blkOk_by (by kernel_rfl)) (fun _ _ _ _ _ => g_name (i := 3) sc_bag_dressed.nd (by rfl) (by first | exact Or.inl rfl | exact Or.inr rfl)) (fun _ _ _ _ _ => ts_nil) (fun _ _ _ _ _ => d_fz (d_callTy (c_list (by rfl)) (by rfl) e.fr_list (by decide +kernel) (d_cons (d_var 3) (d_nil)))))) (d_cons (d_callTy (c_tuple (by rfl)) (by rfl) e.fr_tuple (by decide +kernel) (d_cons (d_fz (d_lc (own := [("card", 3)]) (by rfl) sc_bag_dressed.nd (i_seq (d_var 1)) (blkOk_by (by kernel_rfl)) (fun _ _ _ _ _ => g_name (i := 3) sc_bag_dressed.nd (by rfl) (by first | exact Or.inl rfl | exact Or.inr rfl)) (fun _ _ _ _ _ => ts_nil) (fun _ _ _ _ _ => d_fz (d_callTy (c_list (by rfl)) (by rfl) e.fr_list (by decide +kernel) (d_cons (d_var 3) (d_nil)))))) (d_nil))) (d_cons (d_fz (d_callTy (c_list (by rfl)) (by rfl) e.fr_list (by decide +kernel) (d_cons (d_var 1) (d_nil)))) (d_nil)))))))
      (b_one (s_ret (d_ix (x_ix (by rfl)) (d_var 2) (d_callCG (k := lv_bag_draw) (ok_bag_draw e) (by rfl) (hr.mono (by decide)) hq bX_takes (d_cons (d_var 0) (d_cons (d_int) (d_nil)))))))
/-! law: 0 script, 1 bag, 2 turn, 3 deck, 4 line, 5 step, 6 listed, 7 name, 8 card, 9 least, 10 told, 11 again, 12 steps, 13 place, 14 due, 15 far, 16 some, 17 paper -/
def m_law (K : PySem.W.Frag) : SF := sSeq (sSet 1 (eCl (M_x_bag_bag) 1 (aCons (eVar 0) (aNil)))) (sSeq (sFor (iRg1 (aCons (eB gAdd (eC (.int 2)) (eCB gMin2 (aCons (eC (.int 5)) (aCons (eCB gLenX (aCons (eVar 0) (aNil))) (aNil))))) (aNil))) (tN 2) (sSeq (sSet 3 (eB gIx (fz (eLst (aCons (fz (eCl (M_bag_deck) 2 (aCons (eVar 1) (aCons (eC (.int 7)) (aNil))))) (aCons (fz (eCl (M_bag_settled) 2 (aCons (eVar 1) (aCons (eC (.int 10)) (aNil))))) (aNil))))) (eCB gInt (aCons (eB (gEq false) (eCl (M_bag_draw) 2 (aCons (eVar 1) (aCons (eC (.int 3)) (aNil)))) (eC (.int 0))) (aNil))))) (sSeq (sSet 4 (eLst (aCons (eVar 3) (aNil)))) (sSeq (sFor (iRg1 (aCons (eC (.int 200)) (aNil))) (tN 5) (sEx (eBM "list" gAppend (eVar 4) (aCons (eCl (M_bag_slid) 1 (aCons (eB gIx (eVar 4) (eNeg (eC (.int 1)))) (aNil))) (aNil))))) (sSeq (sSet 6 (eCl (M_bag_dressed) 2 (aCons (eVar 1) (aCons (eVar 3) (aNil))))) (sFor (iSeq (fz (eLc (iSeq (eVar 3)) (tN 8) (tAll) (eB gIx (eVar 8) (eC (.int 0))) [8]))) (tN 7) (sSeq (sSet 9 (eSl (fz (eLc (iRg1 (aCons (eC (.int 200)) (aNil))) (tN 5) (tB (eCl (M_bag_beneath) 2 (aCons (eB gIx (eVar 4) (eVar 5)) (aCons (eVar 7) (aNil))))) (eVar 5) [5])) (oNo) (oSo (eC (.int 1))))) (sSeq (sSet 10 (eCl (M_never_paper K) 2 (aCons (eVar 6) (aCons (eVar 7) (aNil))))) (sSeq (sIf (tAn (tB (eB (gEq true) (eVar 9) (fz (eLst (aNil))))) (tB (eB (gEqS true) (eCB gReprX (aCons (eVar 10) (aNil))) (eCB gReprX (aCons (eTup (aCons (eB gIx (eVar 9) (eC (.int 0))) (aCons (eCl (M_bag_closed) 1 (aCons (eB gIx (eVar 4) (eB gIx (eVar 9) (eC (.int 0)))) (aNil))) (aNil)))) (aNil)))))) (sRt (eC (.bl false))) (sNop)) (sSeq (sIf (tAn (tB (eB (gEq false) (eVar 9) (fz (eLst (aNil))))) (tAn (tB (eB (gIsN true) (eVar 10) (eC .non))) (tB (eB gLtI (eB gIx (eVar 10) (eC (.int 0))) (eC (.int 200)))))) (sRt (eC (.bl false))) (sNop)) (sSeq (sFor (iRg1 (aCons (eC (.int 4)) (aNil))) (tN 11) (sSeq (sSet 12 (eCl (M_bag_draw) 2 (aCons (eVar 1) (aCons (eC (.int 200)) (aNil))))) (sSeq (sSet 13 (eB gAdd (eCl (M_bag_closed) 1 (aCons (eB gIx (eVar 4) (eVar 12)) (aNil))) (eB gIx (fz (eLst (aCons (eC (.int 0)) (aCons (eC (.int 0)) (aCons (eC (.int 1)) (aCons (eNeg (eC (.int 1))) (aNil))))))) (eCl (M_bag_draw) 2 (aCons (eVar 1) (aCons (eC (.int 4)) (aNil))))))) (sSeq (sSet 14 (eAnd (eB (gEq false) (eVar 13) (eCl (M_bag_closed) 1 (aCons (eB gIx (eVar 4) (eVar 12)) (aNil)))) (eCl (M_bag_beneath) 2 (aCons (eB gIx (eVar 4) (eVar 12)) (aCons (eVar 7) (aNil)))))) (sSeq (sIf (tNt (tB (eCl (M_bag_so) 2 (aCons (eCl (M_never_shows K) 3 (aCons (eVar 3) (aCons (eVar 7) (aCons (eTup (aCons (eVar 12) (aCons (eVar 13) (aNil)))) (aNil))))) (aCons (eVar 14) (aNil)))))) (sRt (eC (.bl false))) (sNop)) (sIf (tNt (tB (eCl (M_bag_so) 2 (aCons (eCl (M_never_shows K) 3 (aCons (eVar 6) (aCons (eVar 7) (aCons (fz (eLst (aCons (eVar 12) (aCons (eVar 13) (aNil))))) (aNil))))) (aCons (eVar 14) (aNil)))))) (sRt (eC (.bl false))) (sNop))))))) (sSeq (sIf (tB (eB (gEq true) (eVar 9) (fz (eLst (aNil))))) (sSeq (sSet 15 (eB gAdd (eB gIx (eVar 9) (eC (.int 0))) (eCl (M_bag_draw) 2 (aCons (eVar 1) (aCons (eB gPow (eC (.int 10)) (eC (.int 29))) (aNil)))))) (sSeq (sIf (tB (eB (gIsB true) (eCl (M_never_shows K) 3 (aCons (eVar 3) (aCons (eVar 7) (aCons (eTup (aCons (eVar 15) (aCons (eB gAdd (eCB gLenX (aCons (eVar 3) (aNil))) (eC (.int 1))) (aNil)))) (aNil))))) (eC (.bl false)))) (sRt (eC (.bl false))) (sNop)) (sIf (tB (eB (gEq true) (fz (eLc (iRg1 (aCons (eB gAdd (eCB gLenX (aCons (eVar 3) (aNil))) (eC (.int 1))) (aNil))) (tN 13) (tB (eCl (M_never_shows K) 3 (aCons (eVar 3) (aCons (eVar 7) (aCons (eTup (aCons (eVar 15) (aCons (eVar 13) (aNil)))) (aNil)))))) (eC (.int 1)) [13])) (fz (eLst (aCons (eC (.int 1)) (aNil)))))) (sRt (eC (.bl false))) (sNop)))) (sNop)) (sSeq (sSet 16 (fz (eLst (aCons (eC .non) (aCons (eC (.int 0)) (aCons (eC (.str "")) (aCons (eTup (aNil)) (aCons (fz (eLst (aNil))) (aCons (eTup (aCons (eC (.int 0)) (aNil))) (aCons (eTup (aCons (eC (.int 0)) (aCons (eC (.int 1)) (aCons (eC (.int 2)) (aNil))))) (aCons (eTup (aCons (eC (.bl true)) (aCons (eC (.int 1)) (aNil)))) (aCons (eTup (aCons (eC (.int 0)) (aCons (eC (.bl true)) (aNil)))) (aCons (eTup (aCons (eNeg (eC (.int 1))) (aCons (eC (.int 1)) (aNil)))) (aCons (eTup (aCons (eC (.str "0")) (aCons (eC (.int 1)) (aNil)))) (aCons (fz (eDct0)) (aCons (eTup (aCons (eTup (aCons (eC (.int 0)) (aCons (eC (.int 1)) (aNil)))) (aNil))) (aCons (eVar 7) (aNil)))))))))))))))))) (sIf (tB (eB (gEq true) (fz (eLc (iSeq (eVar 16)) (tN 17) (tB (eB (gIsB true) (eCl (M_never_shows K) 3 (aCons (eVar 3) (aCons (eVar 7) (aCons (eVar 17) (aNil))))) (eC (.bl false)))) (eVar 17) [17])) (fz (eLst (aNil))))) (sRt (eC (.bl false))) (sNop))))))))))))))) (sRt (eC (.bl true))))
abbrev M_law (K : PySem.W.Frag) : List D → M D := fnM 18 (m_law K)
theorem sc_law : FnScope ["script", "bag", "turn", "deck", "line", "step", "listed", "name", "card", "least", "told", "again", "steps", "place", "due", "far", "some", "paper"] ["script"] (defScope s_law) := ⟨rfl, rfl, rfl, by decide +kernel, rfl, by decide +kernel, by decide +kernel⟩
abbrev lv_law : Nat := 11
theorem fo_law {P : Program} {w : World} {mg : Str → Option Value} {base : Heap} {K : PySem.W.Frag} (e : Ev P w mg base K) {fd : FuncData} (F : FunD K d_law.name d_law.qual d_law.params d_law.body d_law.scope [] [] (He.fAd K ("law", none)) fd) : FnOkG P w K mg base (L2.CX P w) lv_law (He.fAd K ("law", none)) fd ["script"] (spM (TT P w K) (M_law K) 1) := by
  refine fn_sbG (T := TT P w K) (p := ("law", none)) (N := ["script", "bag", "turn", "deck", "line", "step", "listed", "name", "card", "least", "told", "again", "steps", "place", "due", "far", "some", "paper"]) (ps := ["script"]) (k := 10) (g := m_law K) F sc_law (fun A outer s H E hr hq => ?_)
  exact b_cons (s_set (i := 1) sc_law.nd (by rfl) (by first | exact Or.inl rfl | exact Or.inr rfl) (d_callCG (k := lv_bag_bag) (ok_x_bag_bag e) (by rfl) (hr.mono (by decide)) hq bX_takes (d_cons (d_var 0) (d_nil))))
      (b_cons (s_for bX_passes (by rfl) (i_rg1 (by rfl) e.fr_range (d_cons (d_bin o_add (d_int) (d_callB (c_min2 (by rfl)) (by rfl) e.fr_min (by decide +kernel) (d_cons (d_int) (d_cons (d_callB (c_lenX (by rfl) (by rfl) (by rfl)) (by rfl) e.fr_len (by decide +kernel) (d_cons (d_var 0) (d_nil))) (d_nil))))) (d_nil))) (g_name (i := 2) sc_law.nd (by rfl) (by first | exact Or.inl rfl | exact Or.inr rfl))
      (b_cons (s_set (i := 3) sc_law.nd (by rfl) (by first | exact Or.inl rfl | exact Or.inr rfl) (d_ix (x_ix (by rfl)) (d_fz (d_lst (d_cons (d_fz (d_callCG (k := lv_bag_deck) (ok_bag_deck e) (by rfl) (hr.mono (by decide)) hq bX_takes (d_cons (d_var 1) (d_cons (d_int) (d_nil))))) (d_cons (d_fz (d_callCG (k := lv_bag_settled) (ok_bag_settled e) (by rfl) (hr.mono (by decide)) hq bX_takes (d_cons (d_var 1) (d_cons (d_int) (d_nil))))) (d_nil))))) (d_callTy (c_int) (by rfl) e.fr_int (by decide +kernel) (d_cons (d_cmp (o_eq hr.u64) (d_callCG (k := lv_bag_draw) (ok_bag_draw e) (by rfl) (hr.mono (by decide)) hq bX_takes (d_cons (d_var 1) (d_cons (d_int) (d_nil)))) (d_int) (by first | exact nobehind _ (by decide) (by decide) | rfl)) (d_nil)))))
      (b_cons (s_set (i := 4) sc_law.nd (by rfl) (by first | exact Or.inl rfl | exact Or.inr rfl) (d_lst (d_cons (d_var 3) (d_nil))))
      (b_cons (s_for bX_passes (by rfl) (i_rg1 (by rfl) e.fr_range (d_cons (d_int) (d_nil))) (g_name (i := 5) sc_law.nd (by rfl) (by first | exact Or.inl rfl | exact Or.inr rfl))
      (b_one (s_expr (d_bm PySem.F.plainAttrs_list PySem.F.slot_list_append PySem.F.type_list_append (m_append) (d_var 4) (d_cons (d_callCG (k := lv_bag_slid) (ok_bag_slid e) (by rfl) (hr.mono (by decide)) hq bX_takes (d_cons (d_ix (x_ix (by rfl)) (d_var 4) (d_neg (d_int))) (d_nil))) (d_nil))))))
      (b_cons (s_set (i := 6) sc_law.nd (by rfl) (by first | exact Or.inl rfl | exact Or.inr rfl) (d_callCG (k := lv_bag_dressed) (ok_bag_dressed e) (by rfl) (hr.mono (by decide)) hq bX_takes (d_cons (d_var 1) (d_cons (d_var 3) (d_nil)))))
      (b_one (s_for bX_passes (by rfl) (i_seq (d_fz (d_lc (own := [("card", 8)]) (by rfl) sc_law.nd (i_seq (d_var 3)) (blkOk_by (by kernel_rfl)) (fun _ _ _ _ _ => g_name (i := 8) sc_law.nd (by rfl) (by first | exact Or.inl rfl | exact Or.inr rfl)) (fun _ _ _ _ _ => ts_nil) (fun _ _ _ _ _ => d_ix (x_ix (by rfl)) (d_var 8) (d_int))))) (g_name (i := 7) sc_law.nd (by rfl) (by first | exact Or.inl rfl | exact Or.inr rfl))
      (b_cons (s_set (i := 9) sc_law.nd (by rfl) (by first | exact Or.inl rfl | exact Or.inr rfl) (d_sl (by rfl) (d_fz (d_lc (own := [("step", 5)]) (by rfl) sc_law.nd (i_rg1 (by rfl) e.fr_range (d_cons (d_int) (d_nil))) (blkOk_by (by kernel_rfl)) (fun _ _ _ _ _ => g_name (i := 5) sc_law.nd (by rfl) (by first | exact Or.inl rfl | exact Or.inr rfl)) (fun _ _ _ _ _ => ts_one (t_val (d_callCG (k := lv_bag_beneath) (ok_bag_beneath e) (by rfl) (hr.mono (by decide)) hq takes0 (d_cons (d_ix (x_ix (by rfl)) (d_var 4) (d_var 5)) (d_cons (d_var 7) (d_nil)))))) (fun _ _ _ _ _ => d_var 5))) (d_noPart) (d_part (d_int))))
      (b_cons (s_set (i := 10) sc_law.nd (by rfl) (by first | exact Or.inl rfl | exact Or.inr rfl) (d_callCG (k := lv_never_paper) (ok_never_paper e) (by rfl) (hr.mono (by decide)) hq bX_takes (d_cons (d_var 6) (d_cons (d_var 7) (d_nil)))))
      (b_cons (s_if (ptw (w_and (t_cmp (o_ne hr.u64) (d_var 9) (d_fz (d_lst (d_nil))) (by first | exact nobehind _ (by decide) (by decide) | rfl)) (w_and1 (t_cmp o_neS (d_callB ((call_reprX (by rfl) e.sys hq hr.u64)) (by rfl) e.fr_repr (by decide +kernel) (d_cons (d_var 10) (d_nil))) (d_callB ((call_reprX (by rfl) e.sys hq hr.u64)) (by rfl) e.fr_repr (by decide +kernel) (d_cons (d_tup (d_cons (d_ix (x_ix (by rfl)) (d_var 9) (d_int)) (d_cons (d_callCG (k := lv_bag_closed) (ok_bag_closed e) (by rfl) (hr.mono (by decide)) hq bX_takes (d_cons (d_ix (x_ix (by rfl)) (d_var 4) (d_ix (x_ix (by rfl)) (d_var 9) (d_int))) (d_nil))) (d_nil)))) (d_nil))) (by first | exact nobehind _ (by decide) (by decide) | rfl))))) (b_one (s_ret (d_bl))) (b_nil))
      (b_cons (s_if (ptw (w_and (t_cmp (o_eq hr.u64) (d_var 9) (d_fz (d_lst (d_nil))) (by first | exact nobehind _ (by decide) (by decide) | rfl)) (w_and (t_cmp o_notN (d_var 10) (d_non) (by first | exact nobehind _ (by decide) (by decide) | rfl)) (w_and1 (t_cmp o_lt (d_ix (x_ix (by rfl)) (d_var 10) (d_int)) (d_int) (by first | exact nobehind _ (by decide) (by decide) | rfl)))))) (b_one (s_ret (d_bl))) (b_nil))
      (b_cons (s_for bX_passes (by rfl) (i_rg1 (by rfl) e.fr_range (d_cons (d_int) (d_nil))) (g_name (i := 11) sc_law.nd (by rfl) (by first | exact Or.inl rfl | exact Or.inr rfl))
      (b_cons (s_set (i := 12) sc_law.nd (by rfl) (by first | exact Or.inl rfl | exact Or.inr rfl) (d_callCG (k := lv_bag_draw) (ok_bag_draw e) (by rfl) (hr.mono (by decide)) hq bX_takes (d_cons (d_var 1) (d_cons (d_int) (d_nil)))))
      (b_cons (s_set (i := 13) sc_law.nd (by rfl) (by first | exact Or.inl rfl | exact Or.inr rfl) (d_bin o_add (d_callCG (k := lv_bag_closed) (ok_bag_closed e) (by rfl) (hr.mono (by decide)) hq bX_takes (d_cons (d_ix (x_ix (by rfl)) (d_var 4) (d_var 12)) (d_nil))) (d_ix (x_ix (by rfl)) (d_fz (d_lst (d_cons (d_int) (d_cons (d_int) (d_cons (d_int) (d_cons (d_neg (d_int)) (d_nil))))))) (d_callCG (k := lv_bag_draw) (ok_bag_draw e) (by rfl) (hr.mono (by decide)) hq bX_takes (d_cons (d_var 1) (d_cons (d_int) (d_nil)))))))
      (b_cons (s_set (i := 14) sc_law.nd (by rfl) (by first | exact Or.inl rfl | exact Or.inr rfl) (d_and (d_cmp (o_eq hr.u64) (d_var 13) (d_callCG (k := lv_bag_closed) (ok_bag_closed e) (by rfl) (hr.mono (by decide)) hq bX_takes (d_cons (d_ix (x_ix (by rfl)) (d_var 4) (d_var 12)) (d_nil))) (by first | exact nobehind _ (by decide) (by decide) | rfl)) (d_one (d_callCG (k := lv_bag_beneath) (ok_bag_beneath e) (by rfl) (hr.mono (by decide)) hq bX_takes (d_cons (d_ix (x_ix (by rfl)) (d_var 4) (d_var 12)) (d_cons (d_var 7) (d_nil)))))))
      (b_cons (s_if (t_not (t_val (d_callCG (k := lv_bag_so) (ok_bag_so e) (by rfl) (hr.mono (by decide)) hq bX_takes (d_cons (d_callCG (k := lv_never_shows) (ok_never_shows e) (by rfl) (hr.mono (by decide)) hq bX_takes (d_cons (d_var 3) (d_cons (d_var 7) (d_cons (d_tup (d_cons (d_var 12) (d_cons (d_var 13) (d_nil)))) (d_nil))))) (d_cons (d_var 14) (d_nil)))))) (b_one (s_ret (d_bl))) (b_nil))
      (b_one (s_if (t_not (t_val (d_callCG (k := lv_bag_so) (ok_bag_so e) (by rfl) (hr.mono (by decide)) hq bX_takes (d_cons (d_callCG (k := lv_never_shows) (ok_never_shows e) (by rfl) (hr.mono (by decide)) hq bX_takes (d_cons (d_var 6) (d_cons (d_var 7) (d_cons (d_fz (d_lst (d_cons (d_var 12) (d_cons (d_var 13) (d_nil))))) (d_nil))))) (d_cons (d_var 14) (d_nil)))))) (b_one (s_ret (d_bl))) (b_nil))))))))
      (b_cons (s_if (t_cmp (o_ne hr.u64) (d_var 9) (d_fz (d_lst (d_nil))) (by first | exact nobehind _ (by decide) (by decide) | rfl)) (b_cons (s_set (i := 15) sc_law.nd (by rfl) (by first | exact Or.inl rfl | exact Or.inr rfl) (d_bin o_add (d_ix (x_ix (by rfl)) (d_var 9) (d_int)) (d_callCG (k := lv_bag_draw) (ok_bag_draw e) (by rfl) (hr.mono (by decide)) hq bX_takes (d_cons (d_var 1) (d_cons (d_bin o_pow (d_int) (d_int)) (d_nil))))))
      (b_cons (s_if (t_cmp o_notB (d_callCG (k := lv_never_shows) (ok_never_shows e) (by rfl) (hr.mono (by decide)) hq bX_takes (d_cons (d_var 3) (d_cons (d_var 7) (d_cons (d_tup (d_cons (d_var 15) (d_cons (d_bin o_add (d_callB (c_lenX (by rfl) (by rfl) (by rfl)) (by rfl) e.fr_len (by decide +kernel) (d_cons (d_var 3) (d_nil))) (d_int)) (d_nil)))) (d_nil))))) (d_bl) (by first | exact nobehind _ (by decide) (by decide) | rfl)) (b_one (s_ret (d_bl))) (b_nil))
      (b_one (s_if (t_cmp (o_ne hr.u64) (d_fz (d_lc (own := [("place", 13)]) (by rfl) sc_law.nd (i_rg1 (by rfl) e.fr_range (d_cons (d_bin o_add (d_callB (c_lenX (by rfl) (by rfl) (by rfl)) (by rfl) e.fr_len (by decide +kernel) (d_cons (d_var 3) (d_nil))) (d_int)) (d_nil))) (blkOk_by (by kernel_rfl)) (fun _ _ _ _ _ => g_name (i := 13) sc_law.nd (by rfl) (by first | exact Or.inl rfl | exact Or.inr rfl)) (fun _ _ _ _ _ => ts_one (t_val (d_callCG (k := lv_never_shows) (ok_never_shows e) (by rfl) (hr.mono (by decide)) hq takes0 (d_cons (d_var 3) (d_cons (d_var 7) (d_cons (d_tup (d_cons (d_var 15) (d_cons (d_var 13) (d_nil)))) (d_nil))))))) (fun _ _ _ _ _ => d_int))) (d_fz (d_lst (d_cons (d_int) (d_nil)))) (by first | exact nobehind _ (by decide) (by decide) | rfl)) (b_one (s_ret (d_bl))) (b_nil))))) (b_nil))
      (b_cons (s_set (i := 16) sc_law.nd (by rfl) (by first | exact Or.inl rfl | exact Or.inr rfl) (d_fz (d_lst (d_cons (d_non) (d_cons (d_int) (d_cons (d_str) (d_cons (d_tup (d_nil)) (d_cons (d_fz (d_lst (d_nil))) (d_cons (d_tup (d_cons (d_int) (d_nil))) (d_cons (d_tup (d_cons (d_int) (d_cons (d_int) (d_cons (d_int) (d_nil))))) (d_cons (d_tup (d_cons (d_bl) (d_cons (d_int) (d_nil)))) (d_cons (d_tup (d_cons (d_int) (d_cons (d_bl) (d_nil)))) (d_cons (d_tup (d_cons (d_neg (d_int)) (d_cons (d_int) (d_nil)))) (d_cons (d_tup (d_cons (d_str) (d_cons (d_int) (d_nil)))) (d_cons (d_fz (d_dct0)) (d_cons (d_tup (d_cons (d_tup (d_cons (d_int) (d_cons (d_int) (d_nil)))) (d_nil))) (d_cons (d_var 7) (d_nil))))))))))))))))))
      (b_one (s_if (t_cmp (o_ne hr.u64) (d_fz (d_lc (own := [("paper", 17)]) (by rfl) sc_law.nd (i_seq (d_var 16)) (blkOk_by (by kernel_rfl)) (fun _ _ _ _ _ => g_name (i := 17) sc_law.nd (by rfl) (by first | exact Or.inl rfl | exact Or.inr rfl)) (fun _ _ _ _ _ => ts_one (t_cmp o_notB (d_callCG (k := lv_never_shows) (ok_never_shows e) (by rfl) (hr.mono (by decide)) hq takes0 (d_cons (d_var 3) (d_cons (d_var 7) (d_cons (d_var 17) (d_nil))))) (d_bl) (by first | exact nobehind _ (by decide) (by decide) | rfl))) (fun _ _ _ _ _ => d_var 17))) (d_fz (d_lst (d_nil))) (by first | exact nobehind _ (by decide) (by decide) | rfl)) (b_one (s_ret (d_bl))) (b_nil)))))))))))))))))
      (b_one (s_ret (d_bl))))
end
end K53
end
section
set_option Elab.async false
set_option linter.all false
set_option maxRecDepth 100000
set_option maxHeartbeats 4000000
namespace Sb
open PySem PySem.Spec PyProof.Rows L2
variable {K : PySem.W.Frag} {S : Sto}
theorem b200' {b : Nat} (h : b ≤ 10 ^ 30) : b < 2 ^ 200 := Nat.lt_of_le_of_lt h (by decide)
theorem settled_fz {n k most : Nat} {τ : Sl} {a : AF} {S S0 : Sto} (hl : S.length = S0.length) (w : Wf S) (h : Bag n k S) (hk : k < 2 ^ 38) (hm0 : 1 ≤ most) (hm1 : most ≤ 40) (ha : a τ S0 = some (.ok [.loc n, .int (most : Nat)] S)) :
    ∃ (S' : Sto) (l : List Card), fz (eCl M_bag_settled 2 a) τ S0 = some (.ok (dK l) S') ∧ DeckOk l ∧ l.length ≤ most ∧ Stl l ∧ (∀ c ∈ l, c.2 < 10 ^ 29) ∧ Bag n (k + 400) S' ∧ Sm n S S' ∧ Wf S' := by
  obtain ⟨S1, l, e, ok, hl2, st, hb, sp, fr⟩ := bag_settled_ok (n := n) (most := most) w h hk hm0 hm1
  have hn := bag_src.lt h
  obtain ⟨sm, sp2, w2⟩ := bag_src.cut w fr sp hn
  refine ⟨_, l, ?_, ok, hl2, st, hb, sp2, sm, w2⟩
  have w3 : wfk S0.length (S1.take S0.length) = true := by
    have := w2
    unfold Wf at this
    rw [← hl]
    rwa [sm.len] at this
  rw [fz_eq, show eCl M_bag_settled 2 a τ S0 = some (.ok (dK l) S1) from eCl_ok ha rfl e]
  simp only [fzR, if_pos w3, rb_bd (bd_dK (k := S0.length) (l := l)), Option.map_some]
  rw [hl]
abbrev cF (c : Card) : D := .fl [.str c.1, .int c.2]
/-- a deck, dressed otherwise -/
def Drs (l : List Card) (d : D) : Prop := d = .fl (l.map cF) ∨ d = .tup (l.map cF) ∨ d = .fl (l.map dC)
theorem Drs.deck {l : List Card} {d : D} (h : Drs l d) (S : Sto) : isDeck S d l := by
  rcases h with rfl | rfl | rfl
  · refine ⟨l.map cF, .inr (.inl rfl), by simp, fun i e c h1 h2 => ?_⟩
    rw [List.getElem?_map, h2] at h1
    cases h1; exact .inr (.inl rfl)
  · refine ⟨l.map cF, .inl rfl, by simp, fun i e c h1 h2 => ?_⟩
    rw [List.getElem?_map, h2] at h1
    cases h1; exact .inr (.inl rfl)
  · refine ⟨l.map dC, .inr (.inl rfl), by simp, fun i e c h1 h2 => ?_⟩
    rw [List.getElem?_map, h2] at h1
    cases h1; exact .inl rfl
theorem bds_cF {k : Nat} {l : List Card} : bds k (l.map cF) = true := bds_map fun _ _ => rfl
theorem bag_dressed_ok {n k : Nat} {l : List Card} (w : Wf S) (h : Bag n k S) (hk : k < 2 ^ 39) (hl : l.length ≤ 40) : ∃ (d : D) (S' : Sto), M_bag_dressed [.loc n, dK l] S = some (.ok d S') ∧ Drs l d ∧ Bag n (k + 1) S' ∧ Sm n S S' ∧ Wf S' := by
  have hz := sizeLine_eq
  have c1 : ∀ {τ : Sl}, τ = [some (.loc n), some (dK l), none, none] → fz (eLc (iSeq (eVar 1)) (tN 3) (tAll) (fz (eCB gList (aCons (eVar 3) (aNil)))) [3]) τ S = some (.ok (.fl (l.map cF)) S) := fun {τ} e => by
    subst e
    have := lc_pu (fi := iSeq (eVar 1)) (g := tN 3) (t := tAll) (fe := fz (eCB gList (aCons (eVar 3) (aNil)))) (vs := [3]) (τ := [some (.loc n), some (dK l), none, none]) (S := S) (ds := l.map dC)
      (fun _ => true) (fun d => match d with | .tup es => .fl es | _ => .non) w (iSeq_ok rfl wk_tup) wks_ds (by simp; omega)
      (fun d hd _ => by obtain ⟨c, _, rfl⟩ := List.mem_map.mp hd; rfl)
      (fun d hd S' w' _ => by
        obtain ⟨c, hc, rfl⟩ := List.mem_map.mp hd
        exact ⟨_, rfl, rfl, fun _ => fz_lst (X := [.lst [.str c.1, .int c.2]]) w' (eCB_ok (a1_ok rfl) rfl) (get_last _ _) (Nat.le_refl _) rfl⟩)
    rw [filter_tt, List.map_map] at this
    exact this
  have e1 := c1 rfl
  have e2 : eCB gTuple (aCons (fz (eLc (iSeq (eVar 1)) (tN 3) (tAll) (fz (eCB gList (aCons (eVar 3) (aNil)))) [3])) (aNil)) [some (.loc n), some (dK l), none, none] S = some (.ok (.tup (l.map cF)) S) := eCB_ok (a1_ok e1) rfl
  have e3 : fz (eCB gList (aCons (eVar 1) (aNil))) [some (.loc n), some (dK l), none, none] S = some (.ok (.fl (l.map dC)) S) := fz_lst (X := [.lst (l.map dC)]) w (eCB_ok (a1_ok rfl) rfl) (get_last _ _) (Nat.le_refl _) bds_dC
  have e4 := fz_list (r := _) (τ := [some (.loc n), some (dK l), none, none]) (S := S) (S1 := S) (ds := [.fl (l.map cF), .tup (l.map cF), .fl (l.map dC)]) (a3_ok e1 e2 e3) rfl w (by simp) (by simp [bds, bd, bds_cF, bds_dC])
  obtain ⟨v, S1, e5, b1, sp1, sm1, w1⟩ := bag_drw (S := S) (j := 0) (τ := [some (.loc n), some (dK l), some (.fl [.fl (l.map cF), .tup (l.map cF), .fl (l.map dC)]), none]) (fm := eC (.int 3)) (b := 3) w rfl rfl h (by omega) (by omega) (b200' (by omega))
  obtain ⟨d, hd, hg⟩ : ∃ d, Drs l d ∧ gIx (.fl [.fl (l.map cF), .tup (l.map cF), .fl (l.map dC)]) (.int (v : Nat)) S1 = some (d, S1) := by
    have hv : v = 0 ∨ v = 1 ∨ v = 2 := by omega
    rcases hv with rfl | rfl | rfl
    · exact ⟨_, .inl rfl, rfl⟩
    · exact ⟨_, .inr (.inl rfl), rfl⟩
    · exact ⟨_, .inr (.inr rfl), rfl⟩
  exact ⟨d, S1, fnM_rt ((sSeq_nx (sSet_ok e4)).trans (sRt_ok (eB_ok rfl e5 hg))), hd, sp1, sm1, w1⟩
theorem turnsB {τ : Sl} {S : Sto} (x y : Nat) {i : Nat} {d : D} {m : Nat} (hxy : x + y ≤ 1000) (h : gLenX [d] S = some (.int (m : Nat), S)) (hv : eVar i τ S = some (.ok d S)) : ∃ T : Nat, T ≤ x + y ∧ iRg1 (aCons (eB gAdd (eC (.int (x : Nat))) (eCB gMin2 (aCons (eC (.int (y : Nat))) (aCons (eCB gLenX (aCons (eVar i) (aNil))) (aNil))))) (aNil)) τ S = some (.ok (wkR 0 T) S) := by
  refine ⟨x + min m y, by omega, iRg1_ok (a1_ok (eB_ok rfl (eCB_ok (a2_ok rfl (eCB_ok (a1_ok hv) h)) (d := .int (min m y : Nat)) (S2 := S) ?_) ?_)) ?_⟩
  · simp only [gMin2]
    congr 3; split <;> omega
  · rw [gAdd_i]; congr 3
  · omega
end Sb
end
section
set_option Elab.async false
set_option linter.all false
set_option maxRecDepth 100000
set_option maxHeartbeats 4000000
namespace Sb
open PySem PySem.Spec PyProof.Rows L2
variable {K : PySem.W.Frag} {S : Sto}
/-! ## whether a thing is a paper -/
theorem goA_all {nxt : Nat → Sto → Option (Option D)} {g : TF} {fe : EF} {k : Nat} {ds : List D} (p : D → Bool) (hn : ∀ i S, nxt i S = some ds[i]?)
    (h : ∀ d ∈ ds, ∀ S, ∃ τ1, g d S (List.replicate k none) = some τ1 ∧ fe τ1 S = some (.ok (.bl (p d)) S)) : ∀ (m i : Nat) (S : Sto), i ≤ ds.length → ds.length - i < m → goA nxt g fe k m i S = some ((ds.drop i).all p, S)
  | 0, i, S, _, hm => absurd hm (Nat.not_lt_zero _)
  | m + 1, i, S, hi, hm => by
    unfold goA
    rw [hn]
    by_cases e : i = ds.length
    · subst e
      simp
    · have hi' : i < ds.length := by omega
      obtain ⟨τ1, h2, h3⟩ := h ds[i] (List.getElem_mem hi') S
      rw [List.getElem?_eq_getElem hi']
      simp only [h2, h3]
      rw [List.drop_eq_getElem_cons hi', List.all_cons]
      cases q : p ds[i] with
      | true => simp only [Bool.true_and]; exact goA_all p hn h m (i + 1) S (by omega) (by omega)
      | false => simp
def Pl : D → Bool
  | .non => true
  | .bl _ => true
  | .int _ => true
  | .str _ => true
  | .tup _ => true
  | .fl _ => true
  | .fd _ _ => true
  | _ => false
def isI : D → Bool
  | .int _ => true
  | _ => false
def seqO : D → Option (List D)
  | .tup ds => some ds
  | .fl ds => some ds
  | _ => none
theorem seqO_sq {d : D} {ds : List D} (h : seqO d = some ds) : Sq d ds := by
  cases d <;> first | (cases h; first | exact .inl rfl | exact .inr rfl) | cases h
theorem whole_pl {d : D} (h : Pl d = true) (S : Sto) : M_is_whole [d] S = some (.ok (.bl (isI d)) S) := by
  cases d with
  | int i => exact is_whole_int
  | non => exact nowhole (fun _ => rfl) (by simp) S
  | bl b => exact nowhole (fun _ => rfl) (by simp) S
  | str x => exact nowhole (fun _ => rfl) (by simp) S
  | tup ds => exact nowhole (fun _ => rfl) (by simp) S
  | fl ds => exact nowhole (fun _ => rfl) (by simp) S
  | fd ks ds => exact nowhole (fun _ => rfl) (by simp) S
  | _ => cases h
theorem nolist_pl {d : D} (h : Pl d = true) (h2 : seqO d = none) (S : Sto) : M_is_listed [d] S = some (.ok (.bl false) S) := by
  cases d with
  | int i => exact nolist_int S
  | non => exact nolist_non S
  | bl b => exact nolist_bl S
  | str x => exact nolist_str S
  | fd ks ds => exact nolist_fd S
  | tup ds => cases h2
  | fl ds => cases h2
  | _ => cases h
abbrev T3 := Int × Int × Int
/-- things without what is in the store -/
def Th1 (d : D) : Prop := Pl d = true ∧ ∀ es, seqO d = some es → es.length ≤ 1000 ∧ ∀ x ∈ es, Pl x = true
end Sb
end
section
set_option Elab.async false
set_option linter.all false
set_option maxRecDepth 100000
set_option maxHeartbeats 4000000
namespace Sb
open PySem PySem.Spec PyProof.Rows L2
variable {K : PySem.W.Frag} {S : Sto}
theorem cut_flf {ds : List D} {a : Nat} : gSl (.fl ds) (some (a : Nat)) none S = some (.fl (ds.drop a), S) := by
  have : cutD ds (some (a : Int)) none = ds.drop a := by
    unfold Sb.cutD
    rw [HT.sIx_nat, HT.sIx_none]
    by_cases h : a ≤ ds.length
    · rw [Nat.min_eq_left h, List.take_of_length_le (by simp)]
    · rw [Nat.min_eq_right (by omega), List.drop_of_length_le (by omega), List.drop_of_length_le (by omega)]; simp
  simp only [gSl, this]
theorem gAdd_fl {a b : List D} (h : a.length + b.length ≤ 100000) : gAdd (.fl a) (.fl b) S = some (.fl (a ++ b), S) := by
  have hz := sizeLine_eq
  simp only [gAdd, flD, Option.bind_some]
  rw [if_pos (by omega)]
theorem cut_deckf {l : List Card} {a : Nat} : gSl (dK l) (some (a : Nat)) none S = some (dK (l.drop a), S) := by
  have := cut_from (l := l) (a := a)
  exact sl_deck this
/-- the dict of the cards by their names -/
theorem dct_ok {l : List Card} {τ : Sl} (ok : DeckOk l) (h0 : τ[0]? = some (some (dK l))) (hl : τ.length = 12) :
    eDc (iSeq (eVar 0)) (tN 8) (tAll) (eB gIx (eVar 8) (eC (.int 0))) (eVar 8) [8] τ S = some (.ok (.loc S.length) (S ++ [.dct (l.map fun c => (Sum.inr c.1, dC c))])) := by
  have hz := sizeLine_eq
  have key : ∀ (m i : Nat), i ≤ l.length → l.length - i < m → goD (fun i _ => some ((l.map dC)[i]?)) (tN 8) tAll (eB gIx (eVar 8) (eC (.int 0))) (eVar 8) S.length (wipeD τ [8]) m i (S ++ [.dct ((l.take i).map fun c => (Sum.inr c.1, dC c))]) = some (S ++ [.dct (l.map fun c => (Sum.inr c.1, dC c))]) := by
    intro m
    induction m with
    | zero => intro i _ hm; exact absurd hm (Nat.not_lt_zero _)
    | succ m ih =>
      intro i hi hm
      unfold goD
      by_cases e : i = l.length
      · subst e
        rw [List.getElem?_eq_none (by simp), List.take_length]
      · have hil : i < l.length := by omega
        have e8 : (wipeD τ [8]).length = 12 := by show (τ.set 8 none).length = 12; simp [hl]
        have v8 : ((wipeD τ [8]).set 8 (some (dC l[i])))[8]? = some (some (dC l[i])) := List.getElem?_set_self (by omega)
        have hn : ∀ k ∈ (l.take i), (Sum.inr k.1 : Key) ≠ Sum.inr l[i].1 := fun k hk hh => by
          have hh' : k.1 = l[i].1 := by injection hh
          obtain ⟨j, hj, rfl⟩ := List.mem_take_iff_getElem.mp hk
          have nd := ok.nd
          have h1 : j < (l.map (·.1)).length := by rw [List.length_map]; omega
          have h2 : i < (l.map (·.1)).length := by rw [List.length_map]; exact hil
          have e3 : (l.map (·.1))[j] = (l.map (·.1))[i] := by simpa using hh'
          have := (List.getElem_inj nd).mp e3
          omega
        have f1 : eB gIx (eVar 8) (eC (.int 0)) ((wipeD τ [8]).set 8 (some (dC l[i]))) (S ++ [.dct ((l.take i).map fun c => (Sum.inr c.1, dC c))]) = some (.ok (.str l[i].1) (S ++ [.dct ((l.take i).map fun c => (Sum.inr c.1, dC c))])) := eB_ok (eVar_at v8) rfl ix_name
        have f2 : eVar 8 ((wipeD τ [8]).set 8 (some (dC l[i]))) (S ++ [.dct ((l.take i).map fun c => (Sum.inr c.1, dC c))]) = some (.ok (dC l[i]) (S ++ [.dct ((l.take i).map fun c => (Sum.inr c.1, dC c))])) := eVar_at v8
        have ep : putD' ((l.take i).map fun c => ((Sum.inr c.1 : Key), dC c)) (Sum.inr l[i].1) (dC l[i]) = (l.take (i + 1)).map fun c => (Sum.inr c.1, dC c) := by
          have hput : ∀ (acc : List (Key × D)) (k : Key) (d : D), (∀ p ∈ acc, p.1 ≠ k) → putD' acc k d = acc ++ [(k, d)] := by
            intro acc k d hp
            unfold putD'
            rw [if_neg]
            rw [List.any_eq_true]
            rintro ⟨p, hp', hd⟩
            exact hp p hp' (of_decide_eq_true hd)
          rw [hput _ _ _ (fun p hp => by
            obtain ⟨c, hc, rfl⟩ := List.mem_map.mp hp
            exact hn c hc), List.take_succ_eq_append_getElem hil, List.map_append]
          rfl
        have hg : (l.map dC)[i]? = some (dC l[i]) := by simp [List.getElem?_eq_getElem hil]
        rw [hg]
        simp only [tN, tAll, f1, f2, keyD, get_last]
        rw [if_pos (by simp; have := ok.hi; omega), ep, set_last]
        exact ih (i + 1) (by omega) (by omega)
  have e1 : iSeq (eVar 0) τ S = some (.ok ⟨(l.map dC).length, fun i _ => some ((l.map dC)[i]?)⟩ S) := iSeq_ok (eVar_at h0) rfl
  have e2 := key ((l.map dC).length + 1) 0 (Nat.zero_le _) (by simp)
  simp only [eDc, e1]
  have e3 : (S ++ [Ob.dct []] : Sto) = S ++ [.dct ((l.take 0).map fun c => (Sum.inr c.1, dC c))] := rfl
  rw [e3, e2]
  rfl
theorem val_card {l : List Card} (ok : DeckOk l) {c : Card} (h : c ∈ l) : valD (l.map fun c => (Sum.inr c.1, dC c)) (Sum.inr c.1) = some (dC c) := by
  have nd := ok.nd
  clear ok
  induction l with
  | nil => cases h
  | cons a r ih =>
    unfold valD
    rw [List.map_cons, List.find?_cons]
    by_cases e : a.1 = c.1
    · rw [e]
      simp only [decide_true, Option.map_some]
      rcases List.mem_cons.mp h with q | q
      · rw [q]
      · rw [List.map_cons, List.nodup_cons] at nd
        exact absurd (List.mem_map_of_mem (f := fun c : Card => c.1) q) (by rw [← e]; exact nd.1)
    · have hne : (Sum.inr a.1 : Key) ≠ Sum.inr c.1 := fun q => e (by injection q)
      rw [decide_eq_false hne]
      have hc : c ∈ r := by
        rcases List.mem_cons.mp h with q | q
        · exact absurd (by rw [q]) e
        · exact q
      rw [List.map_cons, List.nodup_cons] at nd
      exact ih hc nd.2
theorem get_dct {X : Sto} {n : Nat} {kvs : List (Key × D)} {x : Str} {d : D} (h : X[n]? = some (.dct kvs)) (h2 : valD kvs (Sum.inr x) = some d) : gGet (.loc n) (.str x) X = some (d, X) := by
  simp only [gGet, h, keyD, Option.bind_some, h2]
theorem eRevL_ok {fe : EF} {τ : Sl} {n : Nat} {ds : List D} {S1 : Sto} (h : fe τ S = some (.ok (.loc n) S1)) (h2 : S1[n]? = some (.lst ds)) : eRevL fe τ S = some (.ok (.loc S1.length) (S1 ++ [.lst ds.reverse])) := by
  simp only [eRevL, M.bnd, h, seqD, h2, Option.bind_some]
theorem rows_ok {l : List Card} {q : Nat} (ok : DeckOk l) (hq : q < l.length) : ∀ p ∈ frw l q, RowOk p := fun p hp => by
  have h2 := ok.hi
  rcases List.mem_append.mp hp with h | h
  · unfold pats at h
    obtain ⟨m, hm, rfl⟩ := List.mem_map.mp h
    rw [List.mem_range'_1] at hm
    refine ⟨pat_ne l m, ?_, fun x hx => ?_⟩
    · have := hand_len l m
      unfold pat ring; simp; omega
    · obtain ⟨c, hc, e⟩ := List.mem_map.mp hx
      split at e
      · cases e
      · cases e
        exact ok.nm c (ring_mem (by omega) hc)
  · rw [List.mem_singleton.mp h]
    refine ⟨by unfold lring ring; simp, ?_, fun x hx => ?_⟩
    · have := hand_len l q
      unfold lring ring; simp; omega
    · obtain ⟨c, hc, e⟩ := List.mem_map.mp hx
      cases e
      exact ok.nm c (ring_mem hq hc)
theorem frw_len {l : List Card} {q : Nat} : (frw l q).length = q + 1 := by show (frk l q 0).length = _; unfold frk pats; simp
theorem frw_at {l : List Card} {q m : Nat} (h : m ≤ q) : (frw l q)[m]? = some (if m < q then pat l m else lring l q) := by
  show (frk l q 0)[m]? = _
  unfold frk pats
  by_cases e : m < q
  · rw [List.getElem?_append_left (by simp; omega), if_pos e]
    simp [List.getElem?_map, List.getElem?_range', e]
  · have e2 : m = q := by omega
    subst e2
    rw [List.getElem?_append_right (by simp), if_neg e]
    simp
theorem stps_perm (l : List Card) : ∀ n, (stps n l).Perm l
  | 0 => .refl _
  | n + 1 => (stp_perm _).trans (stps_perm l n)
theorem rot_pD {p : Pat} {k : Nat} : ((p.map optD).drop k ++ (p.map optD).take k) = (rot p k).map optD := by
  unfold rot; rw [List.map_append, List.map_drop, List.map_take]
theorem cut_ini {ds : List D} {x : D} : gSl (.fl (ds ++ [x])) none (some (-1)) S = some (.fl ds, S) := sl_init
theorem fil_cnt {l : List Card} {m : Nat} (hm : m < l.length) (h : m ≤ ra l m) : (pat l m).count none = (nms (hand l (m + 1))).length := by
  have := ring_holes hm h
  unfold nms
  rw [List.length_map, ← this]
  unfold pat
  rw [List.count, List.countP_map, List.countP_eq_length_filter]
  congr 1
  refine List.filter_congr fun c _ => ?_
  by_cases q : m < rch l.length c <;> simp [q]
theorem lring_cnt {l : List Card} {q : Nat} : (lring l q).count none = 0 := by
  unfold lring
  rw [List.count_eq_zero]
  intro h
  obtain ⟨c, _, e⟩ := List.mem_map.mp h
  cases e
theorem turned_ok {l : List Card} {q s : Nat} (w : Wf S) (ok : DeckOk l) (hh : HomeTo l q) (hw : Within l q s) (hs : s < 2 ^ 1000) :
    ∃ X, M_turned [dK l, .fl ((frw l q).map pD), .int (s : Nat)] S = some (.ok (dK (stps s l)) (S ++ X)) := by
  obtain ⟨hh', htr, hdr⟩ := within_all s hh hw
  have hz := sizeLine_eq
  have hro := rows_ok ok hh.1
  have hn := frw_len (l := l) (q := q)
  have h40 := ok.hi
  have hql := hh.1
  have hll : (stps s l).length = l.length := len_stps s
  generalize hl' : stps s l = l' at *
  have ok' : DeckOk l' := by rw [← hl']; exact stps_ok ok s
  have hper : ∀ c ∈ l', c ∈ l := fun c hc => by rw [← hl'] at hc; exact (stps_perm l s).mem_iff.mp hc
  have main : Ws (m_turned (ini 12 [dK l, .fl ((frw l q).map pD), .int (s : Nat)]) S) fun fl S' => ∃ d, fl = .rt d ∧ d = dK l' ∧ ∃ X, S' = S ++ X := by
    refine ws_set (eLst_ok aNil_ok (by simp)) ?_
    refine ws_set rfl ?_
    refine ws_for (q + 1) (fun j τ S' => ∃ (i : Nat) (acc : List Pat) (x5 x6 : Option D), S' = S ++ [.lst (acc.map pD)] ∧ τ = [some (dK l), some (.fl ((frw l q).map pD)), some (.int (s : Nat)), some (.loc S.length), some (.int (i : Nat)), x5, x6, none, none, none, none, none] ∧ acc.length = j ∧ i ≤ s ∧ acc ++ trn ((frw l q).drop j) i = trn (frw l q) s)
      (fun j => pD ((frw l q).getD j [])) (iSeq_ok rfl wk_fl) (by simp [hn]) ⟨s, [], none, none, rfl, rfl, rfl, Nat.le_refl _, rfl⟩ ?_ (fun _ _ _ => by simp [hn]) ?_
    · rintro j τ S' hj ⟨i, acc, x5, x6, rfl, rfl, la, hi, ha⟩
      have hjn : j < (frw l q).length := by omega
      have g3 := List.getElem?_eq_getElem hjn
      have g4 : (frw l q).getD j [] = (frw l q)[j] := by rw [List.getD_eq_getElem?_getD, g3]; rfl
      rw [List.drop_eq_getElem_cons hjn, trn] at ha
      rw [g4]
      obtain ⟨r1, r2, r3⟩ := hro _ (List.getElem_mem hjn)
      have hro1 : RowOk (frw l q)[j] := ⟨r1, r2, r3⟩
      refine ⟨by simp only [List.getElem?_map, g3, Option.map_some], _, rfl, ?_⟩
      generalize (frw l q)[j] = p at *
      have hm := Nat.mod_lt i (show 0 < p.length by omega)
      have hl2 : (((p.map optD).length : Nat) : Int) = (p.length : Nat) := by rw [List.length_map]
      refine ws_set (eB_ok rfl (eCB_ok (a1_ok rfl) len_fl) (by rw [hl2]; exact gMod_n (by omega))) ?_
      refine ws_ex (eBM_ok rfl (ty_list (get_last _ _)) (a1_ok (eB_ok (eSl_ok rfl (oSo_ok rfl) rfl cut_flf) (eSl_ok rfl rfl (oSo_ok rfl) cut_fl) (gAdd_fl (by simp; omega)))) (app_last (by simp; omega))) ?_
      refine ws_set1 (eCl_ok (a3_ok rfl rfl rfl) rfl (often_none hro1 (by omega))) ?_
      refine ⟨nxt p i, acc ++ [rot p (i % p.length)], _, _, ?_, rfl, by simp [la], Nat.le_trans (nxt_le i) hi, ?_⟩
      · rw [List.map_append, rot_pD]; rfl
      · rw [← ha]; simp
    · rintro τ S' ⟨i, acc, x5, x6, rfl, rfl, la, hi, ha⟩
      rw [List.drop_of_length_le (by omega), trn, List.append_nil] at ha
      rw [htr] at ha
      subst ha
      have w1 : Wf (S ++ [.lst ((frw l' q).map pD)]) := wf_app w (bds_map fun _ _ => bd_pD)
      refine ws_set (dct_ok ok rfl rfl) ?_
      have w2 : Wf (S ++ [.lst ((frw l' q).map pD)] ++ [.dct (l.map fun c => (Sum.inr c.1, dC c))]) := wf_app w1 (by
        show bds _ ((l.map fun c => ((Sum.inr c.1 : Key), dC c)).map (·.2)) = true
        rw [List.map_map]
        exact bds_map fun c _ => rfl)
      refine ws_set (eLst_ok aNil_ok (by simp)) ?_
      have w3 : Wf (S ++ [.lst ((frw l' q).map pD)] ++ [.dct (l.map fun c => (Sum.inr c.1, dC c))] ++ [.lst []]) := wf_app w2 rfl
      refine ws_set (fz_list aNil_ok rfl w3 (by simp) rfl) ?_
      have len2 : (S ++ [Ob.lst ((frw l' q).map pD)] ++ [.dct (l.map fun c => (Sum.inr c.1, dC c))] : Sto).length = S.length + 2 := by simp
      have len1 : (S ++ [Ob.lst ((frw l' q).map pD)] : Sto).length = S.length + 1 := by simp
      rw [len2, len1]
      have getT : ∀ Y : List D, (S ++ [Ob.lst ((frw l' q).map pD)] ++ [.dct (l.map fun c => (Sum.inr c.1, dC c))] ++ [.lst Y] : Sto)[S.length]? = some (.lst ((frw l' q).map pD)) := fun Y => by simp
      have getC : ∀ Y : List D, (S ++ [Ob.lst ((frw l' q).map pD)] ++ [.dct (l.map fun c => (Sum.inr c.1, dC c))] ++ [.lst Y] : Sto)[S.length + 1]? = some (.dct (l.map fun c => (Sum.inr c.1, dC c))) := fun Y => by
        rw [List.getElem?_append_left (by simp)]
        rw [List.getElem?_append_right (by simp)]
        simp
      have getA : ∀ Y : List D, (S ++ [Ob.lst ((frw l' q).map pD)] ++ [.dct (l.map fun c => (Sum.inr c.1, dC c))] ++ [.lst Y] : Sto)[S.length + 2]? = some (.lst Y) := fun Y => by
        rw [List.getElem?_append_right (by simp)]
        simp
      have setA : ∀ Y Z : List D, List.set (S ++ [Ob.lst ((frw l' q).map pD)] ++ [.dct (l.map fun c => (Sum.inr c.1, dC c))] ++ [.lst Y]) (S.length + 2) (.lst Z) = S ++ [Ob.lst ((frw l' q).map pD)] ++ [.dct (l.map fun c => (Sum.inr c.1, dC c))] ++ [.lst Z] := fun Y Z => by
        have := set_last (S ++ [Ob.lst ((frw l' q).map pD)] ++ [.dct (l.map fun c => (Sum.inr c.1, dC c))]) (.lst Y) (.lst Z)
        rwa [len2] at this
      have hfl := frw_len (l := l') (q := q)
      refine ws_for (q + 1) (fun j τ S' => ∃ (x5 x11 : Option D), S' = S ++ [.lst ((frw l' q).map pD)] ++ [.dct (l.map fun c => (Sum.inr c.1, dC c))] ++ [.lst (((l'.take (q + 1)).drop (q + 1 - j)).reverse.map dC)] ∧
          τ = [some (dK l), some (.fl ((frw l q).map pD)), some (.int (s : Nat)), some (.loc S.length), some (.int (i : Nat)), x5, x6, some (.loc (S.length + 1)), none, some (.loc (S.length + 2)), some (.fl ((if j = 0 then [] else nms (hand l' (q + 1 - j))).map D.str)), x11])
        (fun j => pD ((frw l' q).getD (q - j) [])) (wk := wkBL S.length (q + 1)) (S1 := S ++ [.lst ((frw l' q).map pD)] ++ [.dct (l.map fun c => (Sum.inr c.1, dC c))] ++ [.lst []]) ?_ (Nat.le_refl _) ⟨x5, none, ?_, rfl⟩ ?_ ?_ ?_
      · simp only [iRev, M.bnd, eVar]
        show (wkRv _ (.loc S.length)).bind _ = _
        simp only [wkRv, seqD, getT, Option.map_some, Option.bind_some, List.length_map, hfl]
      · rw [Nat.sub_zero, List.drop_of_length_le (by rw [List.length_take]; omega)]; rfl
      · rintro j τ S' hj ⟨x5, x11, rfl, rfl⟩
        have hm : q - j < l'.length := by omega
        have g1 := frw_at (l := l') (q := q) (m := q - j) (by omega)
        have g4 : (frw l' q).getD (q - j) [] = if q - j < q then pat l' (q - j) else lring l' q := by rw [List.getD_eq_getElem?_getD, g1]; rfl
        rw [g4]
        refine ⟨?_, _, rfl, ?_⟩
        · unfold wkBL
          simp only [if_pos hj, seqD, getT, Option.bind_some]
          rw [show q + 1 - 1 - j = q - j by omega, List.getElem?_map, g1]; rfl
        have efil : ∀ (hd : List Str), hd = (if j = 0 then [] else nms (hand l' (q + 1 - j))) → fil (if q - j < q then pat l' (q - j) else lring l' q) hd = nms (ring l' (q - j)) ∧ (if q - j < q then pat l' (q - j) else lring l' q).count none ≤ hd.length := fun hd e => by
          by_cases hj0 : j = 0
          · subst hj0
            rw [if_pos rfl] at e
            subst e
            rw [Nat.sub_zero, if_neg (by omega)]
            exact ⟨fil_some _ _, by rw [lring_cnt]; omega⟩
          · rw [if_neg hj0] at e
            subst e
            rw [if_pos (by omega), show q + 1 - j = (q - j) + 1 by omega]
            have hr := hh'.2 (q - j) (by omega)
            exact ⟨fil_pat hm hr, by rw [fil_cnt hm hr]; exact Nat.le_refl _⟩
        obtain ⟨ef, ec⟩ := efil _ rfl
        have hlen : (if q - j < q then pat l' (q - j) else lring l' q).length ≤ 1000 := by
          have h1 := hand_len l' (q - j)
          have h2 := hand_len l' q
          split
          · unfold pat ring; simp; omega
          · unfold lring ring; simp; omega
        have wj : Wf (S ++ [.lst ((frw l' q).map pD)] ++ [.dct (l.map fun c => (Sum.inr c.1, dC c))] ++ [.lst (((l'.take (q + 1)).drop (q + 1 - j)).reverse.map dC)]) := wf_app w2 (bds_map fun c _ => rfl)
        have fe := filled_ok (S := S ++ [.lst ((frw l' q).map pD)] ++ [.dct (l.map fun c => (Sum.inr c.1, dC c))] ++ [.lst (((l'.take (q + 1)).drop (q + 1 - j)).reverse.map dC)]) hlen ec
        rw [ef] at fe
        refine ws_set (fz_lst (X := [.lst ((nms (ring l' (q - j))).map D.str)]) wj (eCl_ok (a2_ok rfl rfl) rfl fe) (get_last _ _) (Nat.le_refl _) (bds_map fun _ _ => rfl)) ?_
        have er : (nms (ring l' (q - j))).map D.str = (nms (hand l' (q - j))).map D.str ++ [.str (at0 l' (q - j)).1] := by unfold ring nms; simp
        rw [er]
        have hc : at0 l' (q - j) ∈ l := hper _ (at0_mem hm)
        refine ws_ex (eBM_ok rfl (ty_list (getA _)) (a1_ok (eB_ok rfl (eB_ok rfl (eNeg_ok rfl) ix_last) (get_dct (getC _) (val_card ok hc)))) (d := .non) (S3 := S ++ [.lst ((frw l' q).map pD)] ++ [.dct (l.map fun c => (Sum.inr c.1, dC c))] ++ [.lst (((l'.take (q + 1)).drop (q + 1 - j)).reverse.map dC ++ [dC (at0 l' (q - j))])]) ?_) ?_
        · simp only [gAppend, listD, getA, Option.bind_some]
          rw [if_pos (by simp; omega), setA]
        refine ws_set1 (eSl_ok rfl rfl (oSo_ok (eNeg_ok rfl)) cut_ini) ⟨some (pD (if q - j < q then pat l' (q - j) else lring l' q)), some (.fl ((nms (hand l' (q - j))).map D.str ++ [.str (at0 l' (q - j)).1])), ?_, ?_⟩
        · have hml : q - j < (l'.take (q + 1)).length := by rw [List.length_take]; omega
          rw [show q + 1 - (j + 1) = q - j by omega, List.drop_eq_getElem_cons hml, List.getElem_take, List.reverse_cons, List.map_append, show q - j + 1 = q + 1 - j by omega, at0_eq hm]
          rfl
        · rw [if_neg (show ¬ (j + 1 = 0) by omega), show q + 1 - (j + 1) = q - j by omega]
          rfl
      · rintro τ S' ⟨x5, x11, rfl, rfl⟩
        unfold wkBL
        simp
      · rintro τ S' ⟨x5, x11, rfl, rfl⟩
        rw [Nat.sub_self, List.drop_zero]
        have wj : Wf (S ++ [.lst ((frw l' q).map pD)] ++ [.dct (l.map fun c => (Sum.inr c.1, dC c))] ++ [.lst ((l'.take (q + 1)).reverse.map dC)]) := wf_app w2 (bds_map fun c _ => rfl)
        have e1 : fz (eRevL (eVar 9)) [some (dK l), some (.fl ((frw l q).map pD)), some (.int (s : Nat)), some (.loc S.length), some (.int (i : Nat)), x5, x6, some (.loc (S.length + 1)), none, some (.loc (S.length + 2)), some (.fl ((if q + 1 = 0 then [] else nms (hand l' 0)).map D.str)), x11] (S ++ [.lst ((frw l' q).map pD)] ++ [.dct (l.map fun c => (Sum.inr c.1, dC c))] ++ [.lst ((l'.take (q + 1)).reverse.map dC)]) = some (.ok (.fl ((l'.take (q + 1)).map dC)) (S ++ [.lst ((frw l' q).map pD)] ++ [.dct (l.map fun c => (Sum.inr c.1, dC c))] ++ [.lst ((l'.take (q + 1)).reverse.map dC)])) := by
          have := eRevL_ok (S := S ++ [.lst ((frw l' q).map pD)] ++ [.dct (l.map fun c => (Sum.inr c.1, dC c))] ++ [.lst ((l'.take (q + 1)).reverse.map dC)]) (fe := eVar 9) (τ := [some (dK l), some (.fl ((frw l q).map pD)), some (.int (s : Nat)), some (.loc S.length), some (.int (i : Nat)), x5, x6, some (.loc (S.length + 1)), none, some (.loc (S.length + 2)), some (.fl ((if q + 1 = 0 then [] else nms (hand l' 0)).map D.str)), x11]) rfl (getA _)
          rw [← List.map_reverse, List.reverse_reverse] at this
          exact fz_lst wj this (get_last _ _) (Nat.le_refl _) (bds_map fun c _ => rfl)
        have hl3 : ((((frw l q).map pD).length : Nat) : Int) = ((q + 1 : Nat) : Nat) := by rw [List.length_map, hn]
        refine ws_rt (eB_ok (eCB_ok (a1_ok e1) (d := dK (l'.take (q + 1))) (S2 := S ++ [.lst ((frw l' q).map pD)] ++ [.dct (l.map fun c => (Sum.inr c.1, dC c))] ++ [.lst ((l'.take (q + 1)).reverse.map dC)]) ?_) (eSl_ok rfl (oSo_ok (eCB_ok (a1_ok rfl) len_fl)) rfl (by rw [hl3]; exact cut_deckf)) (tup_add (by simp; omega))) ⟨_, rfl, ?_, [.lst ((frw l' q).map pD)] ++ [.dct (l.map fun c => (Sum.inr c.1, dC c))] ++ [.lst ((l'.take (q + 1)).reverse.map dC)], ?_⟩
        · simp only [gTuple, seqD, Option.bind_some]
        · rw [← hdr, List.take_append_drop]
        · simp only [List.append_assoc]
  obtain ⟨d, S', e, rfl, X, rfl⟩ := fn_ws main
  exact ⟨X, e⟩
end Sb
end
section
set_option Elab.async false
set_option linter.all false
set_option maxRecDepth 100000
set_option maxHeartbeats 4000000
namespace Sb
open PySem PySem.Spec PyProof.Rows L2
variable {K : PySem.W.Frag} {S : Sto}
/-! ## the reel -/
theorem gEq_fi {neg : Bool} {l m : List Int} : gEq neg (.fl (l.map D.int)) (.fl (m.map D.int)) S = some (.bl (if neg then !decide (l = m) else decide (l = m)), S) := by
  have tp : ∀ l : List Int, toPy 8 S (.fl (l.map D.int)) = some (.list (l.map PyData.int)) := fun l => by
    show ((l.map D.int).mapM (toPy 7 S)).map PyData.list = _
    rw [List.mapM_map, mapM_some (f := toPy 7 S ∘ D.int) (g := PyData.int) fun x _ => rfl]
    rfl
  have sh : ∀ l : List Int, SeqAt.shaped (.list (l.map PyData.int)) = true := fun l => by
    unfold SeqAt.shaped
    have e1 : PyData.canLay0 (.list (l.map PyData.int)) = true := lay_all fun c hc => rfl
    have e2 : PyData.depth (.list (l.map PyData.int)) ≤ 1 := Nat.succ_le_succ (depth_all (k := 0) fun c _ => Nat.le_refl 0)
    rw [e1, Bool.true_and]
    exact decide_eq_true (Nat.le_trans e2 (by decide))
  have e1 : ∀ a b : Int, PyData.eqv (.int a) (.int b) = decide (a = b) := fun a b => by
    show (a == b) = _
    by_cases h : a = b <;> simp [h]
  have eq : ∀ l m : List Int, PyData.eqv (.list (l.map PyData.int)) (.list (m.map PyData.int)) = decide (l = m) := fun l m => eqv_all e1 l m
  unfold gEq
  rw [tp, tp]
  simp only [sh, and_self, if_true, eq]
end Sb
end
section
set_option Elab.async false
set_option linter.all false
set_option maxRecDepth 100000
set_option maxHeartbeats 4000000
namespace Sb
open PySem PySem.Spec PyProof.Rows L2
variable {K : PySem.W.Frag} {S : Sto}
/-! ## pops drawn -/
end Sb
end
section
set_option Elab.async false
set_option linter.all false
set_option maxRecDepth 100000
set_option maxHeartbeats 4000000
namespace Sb
open PySem PySem.Spec PyProof.Rows L2
variable {K : PySem.W.Frag} {S : Sto}
end Sb
end
section
set_option Elab.async false
set_option linter.all false
set_option maxRecDepth 100000
set_option maxHeartbeats 4000000
namespace Sb
open PySem PySem.Spec PyProof.Rows L2
variable {K : PySem.W.Frag} {S : Sto}
theorem pow29N : gPow (.int 10) (.int 29) S = some (.int (10 ^ 29 : Nat), S) := by
  have : (0 : Int) ≤ 29 ∧ (29 : Int) ≤ 1000000 ∧ (10 : Int).natAbs < 2 ^ 64 := by decide
  simp only [gPow, gI, decide_eq_true this, if_true]
  rfl
abbrev natL (l : List Nat) : List Int := l.map fun i : Nat => (i : Int)
end Sb
end
section
set_option Elab.async false
set_option linter.all false
set_option maxRecDepth 100000
set_option maxHeartbeats 4000000
namespace Sb
open PySem PySem.Spec PyProof.Rows L2
variable {K : PySem.W.Frag} {S : Sto}
/-! ## dressed -/
def Dr1 (c : Card) (e : D) : Prop := e = dC c ∨ e = cF c
def DrsX (l : List Card) (d : D) : Prop := ∃ es : List D, (d = .tup es ∨ d = .fl es) ∧ es.length = l.length ∧ ∀ (i : Nat) (e : D) (c : Card), es[i]? = some e → l[i]? = some c → Dr1 c e
theorem DrsX.deck {l : List Card} {d : D} (h : DrsX l d) (S : Sto) : isDeck S d l := by
  obtain ⟨es, h1, h2, h3⟩ := h
  exact ⟨es, h1.imp id .inl, h2, fun i e c a b => (h3 i e c a b).imp id .inl⟩
theorem DrsX.bd {l : List Card} {d : D} (h : DrsX l d) {k : Nat} : bd k d = true := by
  obtain ⟨es, h1, h2, h3⟩ := h
  have : bds k es = true := bds_all.mpr fun e he => by
    obtain ⟨i, hi, rfl⟩ := List.getElem_of_mem he
    rcases h3 i _ _ (List.getElem?_eq_getElem hi) (List.getElem?_eq_getElem (by omega)) with q | q <;> rw [q] <;> rfl
  rcases h1 with rfl | rfl <;> simpa [Sb.bd] using this
end Sb
end
section
set_option Elab.async false
set_option linter.all false
set_option maxRecDepth 100000
set_option maxHeartbeats 4000000
namespace Sb
open PySem PySem.Spec PyProof.Rows L2
variable {K : PySem.W.Frag} {S : Sto}
end Sb
end
section
set_option Elab.async false
set_option linter.all false
set_option maxRecDepth 100000
set_option maxHeartbeats 4000000
namespace Sb
open PySem PySem.Spec PyProof.Rows L2
variable {K : PySem.W.Frag} {S : Sto}
/-! ## the program's rows, stretches, decks far on -/
theorem rows_of_ok {l : List Card} {q : Nat} (w : Wf S) (ok : DeckOk l) (hq : q < l.length) : M_rows_of [dK l, .int (q : Nat)] S = some (.ok (.loc S.length) (S ++ [.lst ((frw l q).map pD)])) := by
  have h3 := ok.hi
  have hz := sizeLine_eq
  refine fnM_rt ?_
  have r := lc_raw (fi := iRg1 (aCons (eVar 1) (aNil))) (g := tN 3) (fe := eCl (M_pattern_of) 2 (aCons (eVar 0) (aCons (eVar 3) (aNil)))) (vs := [3]) (τ := [some (dK l), some (.int (q : Nat)), none, none]) (S := S) (ds := (List.range q).map fun i : Nat => D.int i)
    (fun d => match d with | .int z => pD (pat l z.toNat) | _ => .non) w (iRg1_ok (n := q) (a1_ok rfl) (by omega)) wks_rg (by simp; omega)
    (fun d hd => by obtain ⟨i, _, rfl⟩ := List.mem_map.mp hd; exact bd_pD)
    (fun d hd S' w' _ => by
      obtain ⟨i, hi, rfl⟩ := List.mem_map.mp hd
      have hi' := List.mem_range.mp hi
      exact ⟨_, rfl, eCl_ok (a2_ok rfl rfl) rfl (pattern_ok w' ok (by omega))⟩)
  rw [List.map_map] at r
  refine (sSeq_nx (sSet_ok r)).trans ?_
  generalize hrow : (List.map ((fun d => match d with | .int z => pD (pat l z.toNat) | _ => .non) ∘ fun i : Nat => D.int i) (List.range q)) = row
  have hrl : row.length = q := by rw [← hrow]; simp
  have hre : row = (List.range q).map fun i => pD (pat l i) := by rw [← hrow]; rfl
  have wX : Wf (S ++ [.lst row]) := wf_app w (by rw [hre]; exact bds_map fun _ _ => bd_pD)
  have en := names_of_ok (S := S ++ [.lst row]) (m := ring l q) wX (by have := hand_len l q; unfold ring; simp; omega)
  refine (sSeq_nx (sEx_ok (eBM_ok rfl (ty_list (get_last _ _)) (a1_ok (eCl_ok (a1_ok (eCl_ok (a2_ok rfl rfl) rfl (ring_ok wX ok hq))) rfl en)) (app_last (by omega))))).trans ?_
  refine (sRt_ok rfl).trans ?_
  have e1 : (frw l q).map pD = row ++ [.fl ((nms (ring l q)).map D.str)] := by
    have a : (lring l q).map optD = (nms (ring l q)).map D.str := by unfold lring nms; rw [List.map_map, List.map_map]; rfl
    show (frk l q 0).map pD = _
    unfold frk pats
    rw [List.map_append, hre, List.range_eq_range', Nat.sub_zero, List.map_map]
    show _ ++ [D.fl ((lring l q).map optD)] = _
    rw [a]
    rfl
  rw [e1]
theorem rows_fz {l : List Card} {q : Nat} {a : AF} {τ : Sl} (w : Wf S) (ok : DeckOk l) (hq : q < l.length) (ha : a τ S = some (.ok [dK l, .int (q : Nat)] S)) : fz (eCl M_rows_of 2 a) τ S = some (.ok (.fl ((frw l q).map pD)) S) :=
  fz_lst (X := [.lst ((frw l q).map pD)]) w (eCl_ok ha rfl (rows_of_ok w ok hq)) (get_last _ _) (Nat.le_refl _) (bds_map fun _ _ => bd_pD)
theorem turned_fz {l : List Card} {q s : Nat} {a : AF} {τ : Sl} (w : Wf S) (ok : DeckOk l) (hh : HomeTo l q) (hw : Within l q s) (hs : s < 2 ^ 1000) (ha : a τ S = some (.ok [dK l, .fl ((frw l q).map pD), .int (s : Nat)] S)) :
    fz (eCl M_turned 3 a) τ S = some (.ok (dK (stps s l)) S) := by
  obtain ⟨X, e⟩ := turned_ok w ok hh hw hs
  exact fz_app w (eCl_ok ha rfl e) bd_dK
/-- stretches of a deck: head, level, length -/
abbrev Strt := List Card × Nat × Option Nat
def strl : Nat → List Card → List Strt
  | 0, _ => []
  | f + 1, l => match aw l with
    | [] => [(l, clo l - 1, none)]
    | q :: _ => (l, q, some (stl l q + 1)) :: strl f (stps (stl l q + 1) l)
def sLen : Option Nat → D
  | some n => .int (n : Nat)
  | none => .non
def sD (x : Strt) : D := .tup [dK x.1, .fl ((frw x.1 x.2.1).map pD), sLen x.2.2]
theorem aw_head {l : List Card} {q : Nat} {r : List Nat} (ok : DeckOk l) (h : aw l = q :: r) : q < clo l ∧ ra l q < q ∧ HomeTo l q := by
  have A := clo_is ok.lo
  have hq : (aw l)[0]? = some q := by rw [h]; rfl
  unfold aw at hq
  obtain ⟨h1, h2, h3⟩ := filt_at _ _ _ hq
  have h2' : ¬ (q ≤ ra l q) := by simpa using h2
  refine ⟨h1, by omega, by have := A.hi; omega, fun i hi => ?_⟩
  have h4 := List.eq_nil_of_length_eq_zero h3
  rw [List.filter_eq_nil_iff] at h4
  have := h4 i (List.mem_range.mpr hi)
  simpa using this
theorem aw_nil {l : List Card} (ok : DeckOk l) (h : aw l = []) : HomeTo l (clo l - 1) ∧ ∀ s, Within l (clo l - 1) s := by
  have A := clo_is ok.lo
  have h1 := A.lo
  have h2 := A.hi
  unfold aw at h
  rw [List.filter_eq_nil_iff] at h
  have hom : ∀ i, i < clo l → i ≤ ra l i := fun i hi => by
    have := h i (List.mem_range.mpr hi)
    simpa using this
  have both : ∀ (n : Nat) (k : List Card), k.length = l.length → (∀ i, i < clo l → i ≤ ra k i ∧ ra k i < clo l) → (∀ i, i < clo l → i ≤ ra (stps n k) i ∧ ra (stps n k) i < clo l) := by
    intro n
    induction n with
    | zero => exact fun k _ hk => hk
    | succ n ih =>
      intro k hkl hk
      rw [stps_front]
      have hl : 1 ≤ k.length := by rw [hkl]; exact ok.lo
      refine ih (stp k) (by rw [stp_len]; exact hkl) fun i hi => ?_
      have h0 := (hk 0 (by omega)).2
      rw [ra_stp hl]
      split
      · rename_i q
        have := hk (i + 1) (by omega); omega
      · split
        · rename_i q; omega
        · exact hk i hi
  have all := both
  refine ⟨⟨by omega, fun i hi => hom i (by omega)⟩, fun s t ht => .inr ?_⟩
  have := both t l rfl fun i hi => ⟨hom i hi, A.all i hi⟩
  have a := this (clo l - 1) (by omega)
  have b := this 0 (by omega)
  omega
theorem stl_lt {l : List Card} {q : Nat} (ok : DeckOk l) (hh : HomeTo l q) (hq : q < clo l) : stl l q + 1 < 2 ^ 400 := by
  have h2 := ok.hi
  have hq40 : q ≤ 40 := by have := hh.1; omega
  have h1 := shw_lt (ps := pats l q 0) 0 fun p hp => ⟨(rows_ok ok hh.1 p (List.mem_append_left _ hp)).2.1, holed ok hh hq p hp⟩
  have e : (pats l q 0).length = q := by unfold pats; simp
  have h3 : 100 ^ q ≤ 2 ^ 300 := by
    have a : 100 ^ q ≤ 128 ^ q := Nat.pow_le_pow_left (by decide) _
    have b : (128 : Nat) ^ q = 2 ^ (7 * q) := by rw [Nat.pow_mul]
    have c : (2 : Nat) ^ (7 * q) ≤ 2 ^ 300 := Nat.pow_le_pow_right (by decide) (by omega)
    omega
  rw [e] at h1
  have h4 : (2 : Nat) ^ 300 < 2 ^ 400 := Nat.pow_lt_pow_right (by decide) (by decide)
  unfold stl
  omega
theorem take_frw {l : List Card} {q : Nat} : (frw l q).take q = pats l q 0 := by
  show (frk l q 0).take q = _
  unfold frk
  have e : (pats l q 0).length = q := by unfold pats; simp
  rw [List.take_append_of_le_length (by omega), List.take_of_length_le (by omega)]
abbrev awD (l : List Card) : D := .fl ((aw l).map fun i : Nat => D.int (i : Nat))
theorem lt1000 {n : Nat} (h : n < 2 ^ 400) : n < 2 ^ 1000 := Nat.lt_of_lt_of_le h (pow_le2 (by decide))
theorem gen_loop {d0 : D} : ∀ (f : Nat) {l : List Card} (x3 x4 : Option D), DeckOk l → pot l < f → ∃ (l' : List Card) (x3' x4' : Option D) (ds : List Strt), DeckOk l' ∧ aw l' = [] ∧ strl f l = ds ++ [(l', clo l' - 1, none)] ∧
    gWh (tTr (eVar 2)) (gSq (gPl (sSet 3 (fz (eCl (M_rows_of) 2 (aCons (eVar 1) (aCons (eB gIx (eVar 2) (eC (.int 0))) (aNil))))))) (gSq (gPl (sSet 4 (eB gAdd (eCl (M_step_shown) 3 (aCons (eVar 3) (aCons (eB gIx (eVar 2) (eC (.int 0))) (aCons (eC (.int 0)) (aNil))))) (eC (.int 1))))) (gSq (gYd (eTup (aCons (eVar 1) (aCons (eVar 3) (aCons (eVar 4) (aNil)))))) (gSq (gPl (sSet 1 (eCl (M_step_of) 1 (aCons (fz (eCl (M_turned) 3 (aCons (eVar 1) (aCons (eVar 3) (aCons (eB gSub (eVar 4) (eC (.int 1))) (aNil)))))) (aNil))))) (gSq (gPl (sSet 2 (eCl (M_away_places) 1 (aCons (eVar 1) (aNil))))) (gNl))))))
      [some d0, some (dK l), some (awD l), x3, x4] (ds.map sD) [some d0, some (dK l'), some (awD l'), x3', x4']
  | 0, l, x3, x4, ok, h => absurd h (Nat.not_lt_zero _)
  | f + 1, l, x3, x4, ok, h => by
    cases ha : aw l with
    | nil =>
      refine ⟨l, x3, x4, [], ok, ha, by simp only [strl, ha]; rfl, ?_⟩
      refine .done fun S w => tTr_ok (b := false) rfl (by show truD S (.fl ((aw l).map fun i : Nat => D.int (i : Nat))) = _; rw [ha]; rfl)
    | cons q r =>
      obtain ⟨h1, h2, h3⟩ := aw_head ok ha
      have ok2 := stps_ok ok (stl l q + 1)
      have hlt := stl_lt ok h3 h1
      have hp := pot_stretch ok h3 h1 h2
      obtain ⟨hb, _⟩ := stretch ok h3 h1
      obtain ⟨l', y3, y4, ds, ok', ha', es, gg⟩ := gen_loop f (some (.fl ((frw l q).map pD))) (some (.int ((stl l q + 1 : Nat) : Nat))) ok2 (by omega)
      refine ⟨l', y3, y4, (l, q, some (stl l q + 1)) :: ds, ok', ha', by simp only [strl, ha, es]; rfl, ?_⟩
      have ix0 : ∀ S : Sto, gIx (awD l) (.int 0) S = some (.int (q : Nat), S) := fun S => by
        show gIx (.fl ((aw l).map _)) _ S = _
        rw [ha]
        exact ix_head
      have step : ∀ S : Sto, wfk S.length S = true → M_step_shown [.fl ((frw l q).map pD), .int (q : Nat), .int 0] S = some (.ok (.int (stl l q : Nat)) S) := fun S w => by
        have := step_shown_ok (S := S) (ps := frw l q) (q := q) (k := 0) w (by rw [frw_len]; omega) (by have := ok.hi; have := h3.1; omega) (Nat.two_pow_pos _) fun p hp => by
          rw [take_frw] at hp
          exact ⟨rows_ok ok h3.1 p (List.mem_append_left _ hp), holed ok h3 h1 p hp⟩
        rw [take_frw] at this
        exact this
      show gWh _ _ _ ([sD (l, q, some (stl l q + 1))] ++ ds.map sD) _
      refine .step (fun S w => tTr_ok (b := true) rfl (by show truD S (.fl ((aw l).map fun i : Nat => D.int (i : Nat))) = _; rw [ha]; rfl)) ?_ gg
      refine ⟨[], _, [some d0, some (dK l), some (awD l), some (.fl ((frw l q).map pD)), x4], rfl, ⟨rfl, fun S w => sSet_ok (rows_fz w ok h3.1 (a2_ok rfl (eB_ok rfl rfl (ix0 S))))⟩, ?_⟩
      refine ⟨[], _, [some d0, some (dK l), some (awD l), some (.fl ((frw l q).map pD)), some (.int ((stl l q + 1 : Nat) : Nat))], rfl, ⟨rfl, fun S w => sSet_ok (eB_ok (eCl_ok (a3_ok rfl (eB_ok rfl rfl (ix0 S)) rfl) rfl (step S w)) rfl (gAdd_nat (j := 1)))⟩, ?_⟩
      refine ⟨[sD (l, q, some (stl l q + 1))], [], _, rfl, ⟨_, rfl, rfl, fun S w => eTup_ok (a3_ok rfl rfl rfl) (by simp)⟩, ?_⟩
      refine ⟨[], [], [some d0, some (dK (stps (stl l q + 1) l)), some (awD l), some (.fl ((frw l q).map pD)), some (.int ((stl l q + 1 : Nat) : Nat))], rfl, ⟨rfl, fun S w => sSet_ok (eCl_ok (a1_ok (turned_fz w ok h3 (fun t ht => .inl (hb t ht)) (lt1000 (by omega)) (a3_ok rfl rfl (eB_ok rfl rfl (gSub_nat (i := stl l q + 1) (j := 1) (by omega)))))) rfl (step_ok (stps_ok ok _)))⟩, ?_⟩
      exact ⟨[], [], _, rfl, ⟨rfl, fun S w => sSet_ok (eCl_ok (a1_ok rfl) rfl (away_places_ok w ok2))⟩, rfl, rfl⟩
theorem gen_ok' {l : List Card} (ok : DeckOk l) : Y_stretches [dK l] = some ((strl (pot l + 1) l).map sD) := by
  obtain ⟨l', x3, x4, ds, ok', ha, es, g⟩ := gen_loop (d0 := dK l) (pot l + 1) none none ok (by omega)
  have A := clo_is ok'.lo
  have a1 := A.lo
  have a2 := A.hi
  refine yOf_eq det_stretches (τ' := [some (dK l), some (dK l'), some (awD l'), x3, x4]) ?_
  refine ⟨[], _, [some (dK l), some (dK l), none, none, none], rfl, ⟨rfl, fun S w => sSet_ok rfl⟩, ?_⟩
  refine ⟨[], _, [some (dK l), some (dK l), some (awD l), none, none], rfl, ⟨rfl, fun S w => sSet_ok (eCl_ok (a1_ok rfl) rfl (away_places_ok w ok))⟩, ?_⟩
  rw [es, List.map_append]
  refine ⟨ds.map sD, [sD (l', clo l' - 1, none)], _, rfl, g, ?_⟩
  refine ⟨[sD (l', clo l' - 1, none)], [], _, rfl, ⟨_, rfl, rfl, fun S w => ?_⟩, rfl, rfl⟩
  refine eTup_ok (a3_ok rfl (rows_fz (l := l') (q := clo l' - 1) w ok' (by omega) (a2_ok rfl (eB_ok (eCl_ok (a1_ok rfl) rfl (closed_ok ok')) rfl (gSub_nat (i := clo l') (j := 1) a1)))) rfl) (by simp)
/-! ### stretches gone -/
def gone : List Strt → Nat → List (List Card × Nat × Nat)
  | [], _ => []
  | (h, q, none) :: _, n => [(h, q, n)]
  | (h, q, some m) :: r, n => if n < m then [(h, q, n)] else (h, q, m) :: gone r (n - m)
def gD (x : List Card × Nat × Nat) : D := .tup [dK x.1, .fl ((frw x.1 x.2.1).map pD), .int (x.2.2 : Nat)]
theorem sForG_eq {y : List D → Option (List D)} {n : Nat} {ra : AF} {g : TF} {fb : SF} {τ : Sl} {S1 : Sto} {ds L : List D} (h : ra τ S = some (.ok ds S1)) (hl : ds.length = n) (hy : y ds = some L) : sForG y n ra g fb τ S = sFor (fun _ _ => some (.ok ⟨L.length, wkG L⟩ S1)) g fb τ S := by
  simp only [sForG, h, if_pos hl, hy, Option.bind_some, sFor]
theorem sSeq_eq {f f' g : SF} {τ : Sl} (h : f τ S = f' τ S) : sSeq f g τ S = sSeq f' g τ S := by simp only [sSeq, h]
theorem ws_forG {y : List D → Option (List D)} {m : Nat} {ra : AF} {g : TF} {fb rest : SF} {τ : Sl} {S1 : Sto} {ds L : List D} {Q : Fl → Sto → Prop} (n : Nat) (I B : Nat → Sl → Sto → Prop) (item : Nat → D) (hr : ra τ S = some (.ok ds S1)) (hl : ds.length = m) (hy : y ds = some L) (hb : n ≤ L.length) (h0 : I 0 τ S1)
    (h : ∀ i τ S, i < n → I i τ S → wkG L i S = some (some (item i)) ∧ ∃ τ1, g (item i) S τ = some τ1 ∧ Ws (fb τ1 S) (flB (I (i + 1)) (B i) Q))
    (he : ∀ τ S, I n τ S → wkG L n S = some none) (k : ∀ τ' S', I n τ' S' → Ws (rest τ' S') Q) (kb : ∀ i τ' S', i < n → B i τ' S' → Ws (rest τ' S') Q) : Ws (sSeq (sForG y m ra g fb) rest τ S) Q := by
  rw [sSeq_eq (sForG_eq hr hl hy)]
  exact ws_forB (wk := ⟨L.length, wkG L⟩) n I B item rfl hb h0 h he k kb
theorem bd_gD {k : Nat} {x : List Card × Nat × Nat} : bd k (gD x) = true := by
  obtain ⟨h, q, o⟩ := x
  have e1 : bd k (dK h) = true := bd_dK
  have e2 : bds k ((frw h q).map pD) = true := bds_map fun _ _ => bd_pD
  simp only [gD, bd, bds, bds_dC, e2, Bool.and_self]
theorem tOr_t' {t u : BF} {τ : Sl} {S S1 : Sto} (h1 : t τ S = some (.ok true S1)) : tOr' t u τ S = some (.ok true S1) := by simp [tOr', M.bnd, h1]
theorem stretches_gone_ok {l : List Card} {n : Nat} (w : Wf S) (ok : DeckOk l) (hp : (strl (pot l + 1) l).length ≤ 100000) : M_stretches_gone [dK l, .int (n : Nat)] S = some (.ok (.loc S.length) (S ++ [.lst ((gone (strl (pot l + 1) l) n).map gD)])) := by
  have hz := sizeLine_eq
  generalize hL : strl (pot l + 1) l = L at *
  have hy : Y_stretches [dK l] = some (L.map sD) := by rw [gen_ok' ok, hL]
  have main : Ws (m_stretches_gone (ini 7 [dK l, .int (n : Nat)]) S) fun fl S' => ∃ d, fl = .rt d ∧ d = .loc S.length ∧ S' = S ++ [.lst ((gone L n).map gD)] := by
    refine ws_set (eLst_ok aNil_ok (by simp)) ?_
    refine ws_set rfl ?_
    refine ws_forG (L := L.map sD) (ds := [dK l]) (S1 := S ++ [.lst []]) L.length (fun j τ S' => ∃ (acc : List D) (m : Nat) (x4 x5 x6 : Option D), S' = S ++ [.lst acc] ∧ τ = [some (dK l), some (.int (n : Nat)), some (.loc S.length), some (.int (m : Nat)), x4, x5, x6] ∧ acc.length = j ∧ bds 0 acc = true ∧ acc ++ (gone (L.drop j) m).map gD = (gone L n).map gD)
      (fun j τ S' => ∃ (x3 x4 x5 x6 : Option D), S' = S ++ [.lst ((gone L n).map gD)] ∧ τ = [some (dK l), some (.int (n : Nat)), some (.loc S.length), x3, x4, x5, x6])
      (fun j => sD (L.getD j ([], 0, none))) (a1_ok rfl) rfl hy (by simp) ⟨[], n, none, none, none, rfl, rfl, rfl, rfl, rfl⟩ ?_ ?_ ?_ ?_
    · rintro j τ S' hj ⟨acc, m, x4, x5, x6, rfl, rfl, la, hb, ha⟩
      have g3 := List.getElem?_eq_getElem hj
      have g4 : L.getD j ([], 0, none) = L[j] := by rw [List.getD_eq_getElem?_getD, g3]; rfl
      have wj : Wf (S ++ [.lst acc]) := wf_app w (bds_mono (Nat.zero_le _) _ hb)
      rw [List.drop_eq_getElem_cons hj] at ha
      rw [g4]
      refine ⟨?_, ?_⟩
      · show wkG (L.map sD) j (S ++ [.lst acc]) = _
        unfold wkG
        rw [if_pos wj, List.getElem?_map, g3]; rfl
      obtain ⟨x, hx⟩ : ∃ x, L[j] = x := ⟨_, rfl⟩
      rw [hx] at ha ⊢
      obtain ⟨h, q, o⟩ := x
      refine ⟨_, rfl, ?_⟩
      cases o with
      | none =>
        refine ⟨.bk _, _, sSeq_bk ((sIf_t (tOr_t' (tB_ok (eB_ok rfl rfl rfl)))).trans ((sSeq_nx (sEx_ok (eBM_ok rfl (ty_list (get_last _ _)) (a1_ok (eTup_ok (a3_ok rfl rfl rfl) (by simp))) (app_last (by omega))))).trans rfl)), ?_⟩
        refine ⟨_, _, _, _, ?_, rfl⟩
        rw [← ha]; rfl
      | some k =>
        have tst : tOr' (tB (eB (gIsN false) (eVar 6) (eC .non))) (tB (eB gLtI (eVar 3) (eVar 6))) [some (dK l), some (.int (n : Nat)), some (.loc S.length), some (.int (m : Nat)), some (dK h), some (.fl ((frw h q).map pD)), some (.int (k : Nat))] (S ++ [.lst acc]) = some (.ok (decide (m < k)) (S ++ [.lst acc])) := by
          exact tOr_f (tB_ok (b := false) (eB_ok rfl rfl rfl)) (tB_ok (eB_ok rfl rfl (gLt_i.trans (by rw [dec_lt]))))
        by_cases hmk : m < k
        · rw [decide_eq_true hmk] at tst
          refine ⟨.bk _, _, sSeq_bk ((sIf_t tst).trans ((sSeq_nx (sEx_ok (eBM_ok rfl (ty_list (get_last _ _)) (a1_ok (eTup_ok (a3_ok rfl rfl rfl) (by simp))) (app_last (by omega))))).trans rfl)), ?_⟩
          refine ⟨_, _, _, _, ?_, rfl⟩
          rw [← ha]
          simp only [gone, if_pos hmk]
          rfl
        · rw [decide_eq_false hmk] at tst
          refine ws_no tst ?_
          refine ws_ex (eBM_ok rfl (ty_list (get_last _ _)) (a1_ok (eTup_ok (a3_ok rfl rfl rfl) (by simp))) (app_last (by omega))) ?_
          refine ws_set1 (eB_ok rfl rfl (gSub_nat (by omega))) ⟨acc ++ [gD (h, q, k)], m - k, _, _, _, rfl, rfl, by simp [la], ?_, ?_⟩
          · exact bds_all.mpr fun d hd => by
              rcases List.mem_append.mp hd with z | z
              · exact bds_all.mp hb d z
              · rw [List.mem_singleton.mp z]; exact bd_gD
          · rw [← ha]
            simp only [gone, if_neg hmk, List.map_cons, List.append_assoc]
            rfl
    · rintro τ S' ⟨acc, m, x4, x5, x6, rfl, rfl, la, hb, ha⟩
      have wj : Wf (S ++ [.lst acc]) := wf_app w (bds_mono (Nat.zero_le _) _ hb)
      show wkG (L.map sD) L.length (S ++ [.lst acc]) = _
      unfold wkG
      rw [if_pos wj, List.getElem?_eq_none (by simp)]
    · rintro τ S' ⟨acc, m, x4, x5, x6, rfl, rfl, la, hb, ha⟩
      rw [List.drop_length] at ha
      refine ws_rt rfl ⟨_, rfl, rfl, ?_⟩
      rw [← ha]; simp [gone]
    · rintro j τ S' hj ⟨x3, x4, x5, x6, rfl, rfl⟩
      exact ws_rt rfl ⟨_, rfl, rfl, rfl⟩
  obtain ⟨d, S', e, rfl, rfl⟩ := fn_ws main
  exact e
end Sb
end
section
set_option Elab.async false
set_option linter.all false
set_option maxRecDepth 100000
set_option maxHeartbeats 4000000
namespace Sb
open PySem PySem.Spec PyProof.Rows L2
variable {K : PySem.W.Frag} {S : Sto}
theorem strl_len : ∀ (f : Nat) (l : List Card), (strl f l).length ≤ f
  | 0, l => Nat.le_refl _
  | f + 1, l => by
    unfold strl
    split
    · simp
    · simp only [List.length_cons]
      exact Nat.succ_le_succ (strl_len f _)
theorem sm_bound {f : Nat → Nat} {b : Nat} : ∀ {n : Nat}, (∀ i, i < n → f i ≤ b) → sm f n ≤ n * b
  | 0, _ => by simp [sm]
  | n + 1, h => by
    show sm f n + f n ≤ _
    have := sm_bound (f := f) (b := b) (n := n) fun i hi => h i (by omega)
    have := h n (by omega)
    rw [Nat.add_mul, Nat.one_mul]; omega
theorem pot_le {l : List Card} (ok : DeckOk l) : pot l ≤ 1600 := by
  have h := ok.hi
  have := sm_bound (f := fun i => i - ra l i) (b := l.length) (n := l.length) fun i hi => by show i - ra l i ≤ _; omega
  have : l.length * l.length ≤ 40 * 40 := Nat.mul_le_mul h h
  unfold pot; omega
theorem strl_ok {l : List Card} (ok : DeckOk l) : (strl (pot l + 1) l).length ≤ 100000 := by
  have := strl_len (pot l + 1) l
  have := pot_le ok
  omega
/-- the last of the stretches gone -/
theorem gone_last : ∀ (f : Nat) {l : List Card} (n : Nat), DeckOk l → pot l < f → ∃ (ini : List (List Card × Nat × Nat)) (h : List Card) (q m : Nat), gone (strl f l) n = ini ++ [(h, q, m)] ∧ m ≤ n ∧ stps m h = stps n l ∧ DeckOk h ∧ HomeTo h q ∧ Within h q m
  | 0, l, n, ok, hf => absurd hf (Nat.not_lt_zero _)
  | f + 1, l, n, ok, hf => by
    cases ha : aw l with
    | nil =>
      obtain ⟨h1, h2⟩ := aw_nil ok ha
      exact ⟨[], l, clo l - 1, n, by simp only [strl, ha, gone]; rfl, Nat.le_refl _, rfl, ok, h1, h2 n⟩
    | cons q r =>
      obtain ⟨h1, h2, h3⟩ := aw_head ok ha
      obtain ⟨hb, _⟩ := stretch ok h3 h1
      by_cases hn : n < stl l q + 1
      · refine ⟨[], l, q, n, ?_, Nat.le_refl _, rfl, ok, h3, fun t ht => .inl (hb t (by omega))⟩
        simp only [strl, ha, gone, if_pos hn]; rfl
      · have hp := pot_stretch ok h3 h1 h2
        obtain ⟨ini, h, q', m, e, hm, es, ok', h4, h5⟩ := gone_last f (n - (stl l q + 1)) (stps_ok ok (stl l q + 1)) (by omega)
        refine ⟨(l, q, stl l q + 1) :: ini, h, q', m, ?_, by omega, ?_, ok', h4, h5⟩
        · simp only [strl, ha, gone, if_neg hn, e]; rfl
        · rw [es]
          have a : ∀ (a b : Nat) (k : List Card), stps b (stps a k) = stps (a + b) k := fun a b k => by
            induction b with
            | zero => rfl
            | succ b ih => show stp (stps b (stps a k)) = stp (stps (a + b) k); rw [ih]
          rw [a]; congr 1; omega
theorem deck_after_ok {l : List Card} {n : Nat} (w : Wf S) (ok : DeckOk l) (hn : n < 2 ^ 1000) : M_deck_after [dK l, .int (n : Nat)] S = some (.ok (dK (stps n l)) S) := by
  obtain ⟨ini, h, q, m, e, hm, es, ok', h1, h2⟩ := gone_last (pot l + 1) n ok (by omega)
  have sg := stretches_gone_ok (S := S) (n := n) w ok (strl_ok ok)
  rw [e, List.map_append] at sg
  have fg := fz_lst (f := eCl M_stretches_gone 2 (aCons (eVar 0) (aCons (eVar 1) aNil))) (τ := [some (dK l), some (.int (n : Nat)), none, none, none]) (X := [.lst (ini.map gD ++ [gD (h, q, m)])]) w (eCl_ok (a2_ok rfl rfl) rfl sg) (get_last _ _) (Nat.le_refl _) (bds_all.mpr fun d hd => by
    rcases List.mem_append.mp hd with z | z
    · obtain ⟨x, _, rfl⟩ := List.mem_map.mp z
      exact bd_gD
    · rw [List.mem_singleton.mp z]; exact bd_gD)
  refine fnM_rt ((sSeq_nx (sAs_ok (eB_ok fg (eNeg_ok rfl) ix_last) rfl)).trans (sRt_ok ?_))
  rw [← es]
  exact turned_fz w ok' h1 h2 (by omega) (a3_ok rfl rfl rfl)
end Sb
end
section
set_option Elab.async false
set_option linter.all false
set_option maxRecDepth 100000
set_option maxHeartbeats 4000000
namespace Sb
open PySem PySem.Spec PyProof.Rows L2
variable {K : PySem.W.Frag} {S : Sto}
end Sb
end
section
set_option Elab.async false
set_option linter.all false
set_option maxRecDepth 100000
set_option maxHeartbeats 4000000
namespace Sb
open PySem PySem.Spec PyProof.Rows L2
variable {K : PySem.W.Frag} {S : Sto}
/-! ## a ring told: its size, the names at its phases, its holes -/
def hls : Nat → Pat → List Nat
  | _, [] => []
  | i, none :: r => i :: hls (i + 1) r
  | i, some _ :: r => hls (i + 1) r
end Sb
end
section
set_option Elab.async false
set_option linter.all false
set_option maxRecDepth 100000
set_option maxHeartbeats 4000000
namespace Sb
open PySem PySem.Spec PyProof.Rows L2
variable {K : PySem.W.Frag} {S : Sto}
theorem gEq_nats {ns : List Nat} : gEq false (.fl ((natL ns).map D.int)) (.fl []) S = some (.bl (decide (ns = [])), S) := by
  have := gEq_fi (S := S) (neg := false) (l := natL ns) (m := [])
  refine this.trans ?_
  simp [natL]
end Sb
end
section
set_option Elab.async false
set_option linter.all false
set_option maxRecDepth 100000
set_option maxHeartbeats 4000000
namespace Sb
open PySem PySem.Spec PyProof.Rows L2
variable {K : PySem.W.Frag} {S : Sto}
end Sb
end
section
set_option Elab.async false
set_option linter.all false
set_option maxRecDepth 100000
set_option maxHeartbeats 4000000
namespace Sb
open PySem PySem.Spec PyProof.Rows L2
variable {K : PySem.W.Frag} {S : Sto}
end Sb
end
section
set_option Elab.async false
set_option linter.all false
set_option maxRecDepth 100000
set_option maxHeartbeats 4000000
namespace Sb
open PySem PySem.Spec PyProof.Rows L2
variable {K : PySem.W.Frag} {S : Sto}
theorem stp_low {l : List Card} {c : Nat} (hc : c ≤ l.length) (h : ∀ x ∈ l.take c, rch l.length x < c) (h0 : 1 ≤ c) : (∀ x ∈ (stp l).take c, x ∈ l.take c) ∧ (stp l).drop c = l.drop c := by
  cases l with
  | nil => simp at hc; omega
  | cons x r =>
    obtain ⟨b, rfl⟩ : ∃ b, c = b + 1 := ⟨c - 1, by omega⟩
    have hk := h x (by simp)
    have e : rch (x :: r).length x = min x.2.toNat r.length := rfl
    rw [e] at hk
    have e2 : stp (x :: r) = r.take (min x.2.toNat r.length) ++ x :: r.drop (min x.2.toNat r.length) := rfl
    rw [e2]
    have hkr : min x.2.toNat r.length ≤ r.length := by omega
    generalize min x.2.toNat r.length = k at *
    have lk : (r.take k).length = k := by rw [List.length_take]; omega
    obtain ⟨a, rfl⟩ : ∃ a, b = k + a := ⟨b - k, by omega⟩
    refine ⟨fun y hy => ?_, ?_⟩
    · rw [List.take_append, lk, show k + a + 1 - k = a + 1 by omega, List.take_succ_cons, List.take_of_length_le (by rw [lk]; omega)] at hy
      rw [List.take_succ_cons]
      rcases List.mem_append.mp hy with z | z
      · exact List.mem_cons_of_mem _ ((List.take_sublist_take_left (show k ≤ k + a by omega)).subset z)
      · rcases List.mem_cons.mp z with z | z
        · rw [z]; exact List.mem_cons_self
        · refine List.mem_cons_of_mem _ ?_
          have : (r.drop k).take a = (r.take (k + a)).drop k := by rw [List.drop_take]; congr 1; omega
          rw [this] at z
          exact List.mem_of_mem_drop z
    · rw [List.drop_append, lk, show k + a + 1 - k = a + 1 by omega, List.drop_of_length_le (by rw [lk]; omega), List.nil_append, List.drop_succ_cons, List.drop_drop, List.drop_succ_cons]
theorem stps_low {l : List Card} {c : Nat} (hc : c ≤ l.length) (h : ∀ x ∈ l.take c, rch l.length x < c) (h0 : 1 ≤ c) : ∀ n, (∀ x ∈ (stps n l).take c, x ∈ l.take c) ∧ (stps n l).drop c = l.drop c
  | 0 => ⟨fun _ h => h, rfl⟩
  | n + 1 => by
    obtain ⟨a, b⟩ := stps_low hc h h0 n
    have hl := (stps_perm l n).length_eq
    obtain ⟨a2, b2⟩ := stp_low (l := stps n l) (c := c) (by omega) (fun x hx => by rw [hl]; exact h x (a x hx)) h0
    exact ⟨fun x hx => a x (a2 x hx), b2.trans b⟩
theorem stps_drop {l : List Card} (ok : DeckOk l) (n : Nat) : (stps n l).drop (clo l) = l.drop (clo l) := by
  have A := clo_is ok.lo
  refine (stps_low A.hi (fun x hx => ?_) A.lo n).2
  obtain ⟨i, hi, rfl⟩ := List.mem_take_iff_getElem.mp hx
  have := A.all i (by omega)
  unfold ra at this
  rwa [at0_eq (by omega)] at this
end Sb
end
section
set_option Elab.async false
set_option linter.all false
set_option maxRecDepth 100000
set_option maxHeartbeats 4000000
namespace Sb
open PySem PySem.Spec PyProof.Rows L2
variable {K : PySem.W.Frag} {S : Sto}
end Sb
end
section
set_option Elab.async false
set_option linter.all false
set_option maxRecDepth 100000
set_option maxHeartbeats 4000000
namespace Sb
open PySem PySem.Spec PyProof.Rows L2
variable {K : PySem.W.Frag} {S : Sto}
/-! ## a home deck of the reel -/
end Sb
end
section
set_option Elab.async false
set_option linter.all false
set_option maxRecDepth 100000
set_option maxHeartbeats 4000000
namespace Sb
open PySem PySem.Spec PyProof.Rows L2
variable {K : PySem.W.Frag} {S : Sto}
end Sb
end
section
set_option Elab.async false
set_option linter.all false
set_option maxRecDepth 100000
set_option maxHeartbeats 4000000
namespace Sb
open PySem PySem.Spec PyProof.Rows L2
variable {K : PySem.W.Frag} {S : Sto}
/-! ## how often, when: rows -/
/-! ## settled decks -/
end Sb
end
section
set_option Elab.async false
set_option linter.all false
set_option maxRecDepth 100000
set_option maxHeartbeats 4000000
namespace Sb
open PySem PySem.Spec PyProof.Rows L2
variable {K : PySem.W.Frag} {S : Sto}
end Sb
end
section
set_option Elab.async false
set_option linter.all false
set_option maxRecDepth 100000
set_option maxHeartbeats 4000000
namespace Sb
open PySem PySem.Spec PyProof.Rows L2
variable {K : PySem.W.Frag} {S : Sto}
end Sb
end
section
set_option Elab.async false
set_option linter.all false
set_option maxRecDepth 100000
set_option maxHeartbeats 4000000
namespace Sb
open PySem PySem.Spec PyProof.Rows L2
variable {K : PySem.W.Frag} {S : Sto}
end Sb
end
section
set_option Elab.async false
set_option linter.all false
set_option maxRecDepth 100000
set_option maxHeartbeats 4000000
namespace Sb
open PySem PySem.Spec PyProof.Rows L2
variable {K : PySem.W.Frag} {S : Sto}
/-! ## how often a name is on top -/
end Sb
end
section
set_option Elab.async false
set_option linter.all false
set_option maxRecDepth 100000
set_option maxHeartbeats 4000000
namespace Sb
open PySem PySem.Spec PyProof.Rows L2
variable {K : PySem.W.Frag} {S : Sto}
/-! ## when a name is seen for the so-manieth time, any deck -/
end Sb
end
section
set_option Elab.async false
set_option linter.all false
set_option maxRecDepth 100000
set_option maxHeartbeats 4000000
namespace Sb
open PySem PySem.Spec PyProof.Rows L2
variable {K : PySem.W.Frag} {S : Sto}
/-! ## when_seen of any deck -/
end Sb
end
section
set_option Elab.async false
set_option linter.all false
set_option maxRecDepth 100000
set_option maxHeartbeats 4000000
namespace Sb
open PySem PySem.Spec PyProof.Rows L2
variable {K : PySem.W.Frag} {S : Sto}
/-! ## spans of any deck -/
def spn : Nat → List Strt → List (Nat × Strt)
  | _, [] => []
  | g, x :: r => (g, x) :: spn (g + x.2.2.getD 0) r
def spD (y : Nat × Strt) : D := .tup [.int (y.1 : Nat), dK y.2.1, .fl ((frw y.2.1 y.2.2.1).map pD), sLen y.2.2.2]
abbrev spans (l : List Card) : List (Nat × Strt) := spn 0 (strl (pot l + 1) l)
theorem spn_len : ∀ (L : List Strt) (g : Nat), (spn g L).length = L.length
  | [], _ => rfl
  | x :: r, g => by simp [spn, spn_len r]
theorem bd_spD {k : Nat} {y : Nat × Strt} : bd k (spD y) = true := by
  obtain ⟨g, h, q, o⟩ := y
  have e2 : bds k ((frw h q).map pD) = true := bds_map fun _ _ => bd_pD
  cases o <;> simp only [spD, sLen, bd, bds, bds_dC, e2, Bool.and_self]
def gsum : List Strt → Nat
  | [] => 0
  | x :: r => x.2.2.getD 0 + gsum r
theorem spn_app : ∀ (L M : List Strt) (g : Nat), spn g (L ++ M) = spn g L ++ spn (g + gsum L) M
  | [], M, g => by simp [spn, gsum]
  | x :: r, M, g => by simp only [List.cons_append, spn, spn_app r M, gsum]; rw [Nat.add_assoc]
theorem gsum_snoc (L : List Strt) (x : Strt) : gsum (L ++ [x]) = gsum L + x.2.2.getD 0 := by
  induction L with
  | nil => simp [gsum]
  | cons y r ih => simp only [List.cons_append, gsum, ih]; omega
theorem spans_ok {l : List Card} (w : Wf S) (ok : DeckOk l) : M_spans_of [dK l] S = some (.ok (.loc S.length) (S ++ [.lst ((spans l).map spD)])) := by
  have hz := sizeLine_eq
  have hp := strl_ok ok
  unfold spans
  generalize hL : strl (pot l + 1) l = L at *
  have hy : Y_stretches [dK l] = some (L.map sD) := by rw [gen_ok' ok, hL]
  have main : Ws (m_spans_of (ini 6 [dK l]) S) fun fl S' => ∃ d, fl = .rt d ∧ d = .loc S.length ∧ S' = S ++ [.lst ((spn 0 L).map spD)] := by
    refine ws_set (eLst_ok aNil_ok (by simp)) ?_
    refine ws_set rfl ?_
    refine ws_forG (L := L.map sD) (ds := [dK l]) (S1 := S ++ [.lst []]) L.length (fun j τ S' => ∃ (x3 x4 x5 : Option D), S' = S ++ [.lst ((spn 0 (L.take j)).map spD)] ∧ τ = [some (dK l), some (.loc S.length), some (.int (gsum (L.take j) : Nat)), x3, x4, x5]) (fun _ _ _ => False)
      (fun j => sD (L.getD j ([], 0, none))) (a1_ok rfl) rfl hy (by simp) ⟨none, none, none, rfl, rfl⟩ ?_ ?_ ?_ (fun _ _ _ _ h => h.elim)
    · rintro j τ S' hj ⟨x3, x4, x5, rfl, rfl⟩
      have g3 := List.getElem?_eq_getElem hj
      have g4 : L.getD j ([], 0, none) = L[j] := by rw [List.getD_eq_getElem?_getD, g3]; rfl
      have wj : Wf (S ++ [.lst ((spn 0 (L.take j)).map spD)]) := wf_app w (show bds _ _ = true from bds_map fun _ _ => bd_spD)
      rw [g4]
      refine ⟨?_, ?_⟩
      · show wkG (L.map sD) j _ = _
        unfold wkG
        rw [if_pos wj, List.getElem?_map, g3]; rfl
      have et : L.take (j + 1) = L.take j ++ [L[j]] := by rw [List.take_append_getElem hj]
      rw [et, spn_app, gsum_snoc]
      obtain ⟨x, hx⟩ : ∃ x, L[j] = x := ⟨_, rfl⟩
      rw [hx]
      obtain ⟨h, q, o⟩ := x
      refine ⟨_, rfl, ?_⟩
      have ap := app_last (S := S) (ds := (spn 0 (L.take j)).map spD) (x := spD (gsum (L.take j), h, q, o)) (by rw [List.length_map, spn_len, List.length_take, hz]; omega)
      have e1 : (spn 0 (L.take j)).map spD ++ [spD (gsum (L.take j), h, q, o)] = (spn 0 (L.take j) ++ spn (0 + gsum (L.take j)) [(h, q, o)]).map spD := by
        rw [List.map_append, Nat.zero_add]; rfl
      rw [e1] at ap
      refine ws_ex (eBM_ok rfl (ty_list (get_last _ _)) (a1_ok (d := spD (gsum (L.take j), h, q, o)) (eTup_ok (aCons_ok rfl (a3_ok rfl rfl rfl)) (by simp))) ap) ?_
      cases o with
      | none => exact bif_f (tB_ok (b := false) (eB_ok rfl rfl rfl)) (ws_nop ⟨_, _, _, rfl, rfl⟩)
      | some k =>
        refine bif_t (S1 := S ++ [.lst ((spn 0 (L.take j) ++ spn (0 + gsum (L.take j)) [(h, q, some k)]).map spD)]) (tB_ok (b := true) (eB_ok rfl rfl rfl)) ?_
        have ga : ∀ {S : Sto}, gAddI (.int (gsum (L.take j) : Nat)) (.int (k : Nat)) S = some (.int (gsum (L.take j) + k : Nat), S) := fun {S} => by rw [gAddI_i]; rfl
        exact ws_set1 (eB_ok rfl rfl ga) ⟨_, _, _, rfl, rfl⟩
    · rintro τ S' ⟨x3, x4, x5, rfl, rfl⟩
      show wkG (L.map sD) L.length (S ++ [.lst ((spn 0 (L.take L.length)).map spD)]) = _
      have wj : Wf (S ++ [.lst ((spn 0 (L.take L.length)).map spD)]) := wf_app w (show bds _ _ = true from bds_map fun _ _ => bd_spD)
      unfold wkG
      rw [if_pos wj, List.getElem?_eq_none (by simp)]
    · rintro τ S' ⟨x3, x4, x5, rfl, rfl⟩
      rw [List.take_length]
      exact ws_rt rfl ⟨_, rfl, rfl, rfl⟩
  obtain ⟨d, S', e, rfl, rfl⟩ := fn_ws main
  exact e
theorem spans_fz {l : List Card} {a : AF} {τ : Sl} (w : Wf S) (ok : DeckOk l) (ha : a τ S = some (.ok [dK l] S)) : fz (eCl M_spans_of 1 a) τ S = some (.ok (.fl ((spans l).map spD)) S) :=
  fz_lst (n := S.length) w (eCl_ok ha rfl (spans_ok w ok)) (get_last _ _) (Nat.le_refl _) (bds_map fun _ _ => bd_spD)
end Sb
end
section
set_option Elab.async false
set_option linter.all false
set_option maxRecDepth 100000
set_option maxHeartbeats 4000000
namespace Sb
open PySem PySem.Spec PyProof.Rows L2
/-! ## what stays within a stretch -/
theorem clo_all_n {l : List Card} (hl : 1 ≤ l.length) {m : Nat} (hm : 1 ≤ m) (h : ∀ i, i < m → ra l i < m) : ∀ n i, i < m → ra (stps n l) i < m
  | 0 => h
  | n + 1 => clo_all (l := stps n l) (by rw [stps_len]; exact hl) m hm (clo_all_n hl hm h n)
theorem clo_mono {l : List Card} (ok : DeckOk l) (n : Nat) : clo (stps n l) ≤ clo l := by
  have A := clo_is ok.lo
  have B := clo_is (stps_ok ok n).lo
  apply Classical.byContradiction
  intro q
  obtain ⟨i, h1, h2⟩ := B.no (clo l) A.lo (by omega)
  have := clo_all_n ok.lo A.lo A.all n i h1
  omega
theorem clo_mono2 {l : List Card} (ok : DeckOk l) {a b : Nat} (h : a ≤ b) : clo (stps b l) ≤ clo (stps a l) := by
  have := clo_mono (stps_ok ok a) (b - a)
  rw [stps_add] at this
  rwa [show a + (b - a) = b by omega] at this
section
variable {h : List Card} {q : Nat} {r : List Nat}
theorem str_at (ok : DeckOk h) (ha : aw h = q :: r) : ∀ t, t ≤ stl h q → ∀ p, q ≤ p → at0 (stps t h) p = at0 h p := by
  obtain ⟨h1, h2, h3⟩ := aw_head ok ha
  obtain ⟨hb, _⟩ := stretch ok h3 h1
  intro t
  induction t with
  | zero => exact fun _ _ _ => rfl
  | succ t ih =>
    intro ht p hp
    have := hb t (by omega)
    show at0 (stp (stps t h)) p = _
    rw [stp_at0 (stps_ok ok t).lo, if_neg (by omega), if_neg (by omega)]
    exact ih (by omega) p hp
theorem str_in (ok : DeckOk h) (ha : aw h = q :: r) : ∀ t, t ≤ stl h q → ∀ i, i < q → ∃ j, j < q ∧ at0 (stps t h) j = at0 h i := by
  obtain ⟨h1, h2, h3⟩ := aw_head ok ha
  obtain ⟨hb, _⟩ := stretch ok h3 h1
  intro t
  induction t with
  | zero => exact fun _ i hi => ⟨i, hi, rfl⟩
  | succ t ih =>
    intro ht i hi
    obtain ⟨j, hj, e⟩ := ih (by omega) i hi
    have hk := hb t (by omega)
    have hl := (stps_ok ok t).lo
    by_cases z : j = 0
    · refine ⟨ra (stps t h) 0, hk, ?_⟩
      show at0 (stp (stps t h)) _ = _
      rw [stp_at0 hl, if_neg (by omega), if_pos rfl, ← e, z]
    · by_cases z2 : j ≤ ra (stps t h) 0
      · refine ⟨j - 1, by omega, ?_⟩
        show at0 (stp (stps t h)) _ = _
        rw [stp_at0 hl, if_pos (by omega), ← e, show j - 1 + 1 = j by omega]
      · refine ⟨j, hj, ?_⟩
        show at0 (stp (stps t h)) _ = _
        rw [stp_at0 hl, if_neg (by omega), if_neg (by omega), ← e]
theorem ra_of_at {a b : List Card} (hl : a.length = b.length) {i j : Nat} (e : at0 a i = at0 b j) : ra a i = ra b j := by unfold ra; rw [e, hl]
theorem str_clo (ok : DeckOk h) (ha : aw h = q :: r) {t : Nat} (ht : t ≤ stl h q) : clo (stps t h) = clo h := by
  obtain ⟨h1, h2, h3⟩ := aw_head ok ha
  obtain ⟨hb, hlast⟩ := stretch ok h3 h1
  have A := clo_is ok.lo
  have okt := stps_ok ok t
  have B := clo_is okt.lo
  refine B.uniq (d := clo h) ⟨A.lo, by rw [stps_len]; exact A.hi, clo_all_n ok.lo A.lo A.all t, fun m m1 m2 => ?_⟩
  apply Classical.byContradiction
  intro no
  have all : ∀ i, i < m → ra (stps t h) i < m := fun i hi => Nat.lt_of_not_le fun z => no ⟨i, hi, z⟩
  by_cases z : m ≤ q
  · have := clo_all_n okt.lo m1 all (stl h q - t) 0 (by omega)
    rw [stps_add, show t + (stl h q - t) = stl h q by omega] at this
    omega
  · obtain ⟨i, hi, hri⟩ := A.no m m1 m2
    by_cases zi : q ≤ i
    · have := all i hi
      rw [ra_of_at (stps_len h t) (str_at ok ha t ht i zi)] at this
      omega
    · obtain ⟨j, hj, e⟩ := str_in ok ha t ht i (by omega)
      have := all j (by omega)
      rw [ra_of_at (stps_len h t) e] at this
      omega
end
/-! ## the spans, told by the steps -/
inductive Spn (l : List Card) : Nat → List (Nat × Strt) → Prop
  | last {g : Nat} : aw (stps g l) = [] → Spn l g [(g, stps g l, clo (stps g l) - 1, none)]
  | step {g q : Nat} {r : List Nat} {xs : List (Nat × Strt)} : aw (stps g l) = q :: r → Spn l (g + (stl (stps g l) q + 1)) xs → Spn l g ((g, stps g l, q, some (stl (stps g l) q + 1)) :: xs)
theorem spn_is {l : List Card} (ok : DeckOk l) : ∀ (f g : Nat), pot (stps g l) < f → Spn l g (spn g (strl f (stps g l)))
  | 0, g, h => absurd h (Nat.not_lt_zero _)
  | f + 1, g, h => by
    have okg := stps_ok ok g
    cases ha : aw (stps g l) with
    | nil =>
      simp only [strl, ha, spn]
      exact .last ha
    | cons q r =>
      obtain ⟨h1, h2, h3⟩ := aw_head okg ha
      have hp := pot_stretch okg h3 h1 h2
      simp only [strl, ha, spn, Option.getD_some]
      rw [stps_add]
      rw [stps_add] at hp
      exact .step ha (spn_is ok f _ (by omega))
theorem spans_is {l : List Card} (ok : DeckOk l) : Spn l 0 (spans l) := spn_is ok (pot l + 1) 0 (by show pot l < _; omega)
/-- behind how many steps none is away -/
def snd (xs : List (Nat × Strt)) : Nat := match xs.getLast? with
  | some y => y.1
  | none => 0
theorem Spn.ne {l : List Card} {g : Nat} {xs : List (Nat × Strt)} (h : Spn l g xs) : xs ≠ [] := by cases h <;> simp
theorem snd_cons (y : Nat × Strt) {zs : List (Nat × Strt)} (hz : zs ≠ []) : snd (y :: zs) = snd zs := by
  cases zs with
  | nil => exact absurd rfl hz
  | cons z zs => simp only [snd, List.getLast?_cons_cons]
def InC (c : Nat) (k : List Card) : Prop := ∀ i, i < c → i ≤ ra k i ∧ ra k i < c
theorem inC_stp {c : Nat} {k : List Card} (hl : 1 ≤ k.length) (hc : 1 ≤ c) (h : InC c k) : InC c (stp k) := fun i hi => by
  have h0 := (h 0 (by omega)).2
  rw [ra_stp hl]
  split
  · have := h (i + 1) (by omega); omega
  · split
    · omega
    · exact h i hi
theorem inC_of {l : List Card} (ok : DeckOk l) (ha : aw l = []) : InC (clo l) l := fun i hi => by
  have A := clo_is ok.lo
  unfold aw at ha
  rw [List.filter_eq_nil_iff] at ha
  have := ha i (List.mem_range.mpr hi)
  exact ⟨by simpa using this, A.all i hi⟩
theorem inC_stps {l : List Card} (ok : DeckOk l) (ha : aw l = []) : ∀ n, InC (clo l) (stps n l)
  | 0 => inC_of ok ha
  | n + 1 => inC_stp (stps_ok ok n).lo (clo_is ok.lo).lo (inC_stps ok ha n)
theorem closed_back {c m : Nat} {k : List Card} (hl : 1 ≤ k.length) (hk : InC c k) (m1 : 1 ≤ m) (hm : m < c) (all : ∀ i, i < m → ra (stp k) i < m) : ∀ i, i < m → ra k i < m := by
  intro i hi
  by_cases z : m ≤ ra k 0
  · have := all (m - 1) (by omega)
    rw [ra_stp hl, if_pos (by omega), show m - 1 + 1 = m by omega] at this
    have := (hk m hm).1
    omega
  · by_cases z0 : i = 0
    · rw [z0]; omega
    · by_cases z1 : i ≤ ra k 0
      · have := all (i - 1) (by omega)
        rw [ra_stp hl, if_pos (by omega), show i - 1 + 1 = i by omega] at this
        exact this
      · have := all i hi
        rw [ra_stp hl, if_neg (by omega), if_neg (by omega)] at this
        exact this
theorem settled_clo {l : List Card} (ok : DeckOk l) (ha : aw l = []) (n : Nat) : clo (stps n l) = clo l := by
  have A := clo_is ok.lo
  have B := clo_is (stps_ok ok n).lo
  have hc := clo_mono ok n
  apply Classical.byContradiction
  intro q
  have back : ∀ j, (∀ i, i < clo (stps n l) → ra (stps j l) i < clo (stps n l)) → ∀ i, i < clo (stps n l) → ra l i < clo (stps n l) := by
    intro j
    induction j with
    | zero => exact fun h => h
    | succ j ih => exact fun h => ih (closed_back (stps_ok ok j).lo (inC_stps ok ha j) B.lo (by omega) h)
  obtain ⟨i, h1, h2⟩ := A.no (clo (stps n l)) B.lo (by omega)
  have := back n B.all i h1
  omega
/-! ## comings home, by steps -/
def hmn (l : List Card) : List Str := ((List.range l.length).filter fun i => decide (i ≤ ra l i)).map fun i => (at0 l i).1
theorem Spn.head {l : List Card} {g : Nat} {xs : List (Nat × Strt)} (h : Spn l g xs) : ∃ y zs, xs = y :: zs ∧ y.1 = g ∧ y.2.1 = stps g l := by
  cases h with
  | last ha => exact ⟨_, _, rfl, rfl, rfl⟩
  | step ha hx => exact ⟨_, _, rfl, rfl, rfl⟩
end Sb
end
section
set_option Elab.async false
set_option linter.all false
set_option maxRecDepth 100000
set_option maxHeartbeats 4000000
namespace Sb
open PySem PySem.Spec PyProof.Rows L2
variable {K : PySem.W.Frag} {S : Sto}
/-! ## two spans in a row: what comes home -/
/-! ## all comings -/
theorem Spn.all {l : List Card} {g : Nat} {xs : List (Nat × Strt)} (h : Spn l g xs) : ∀ y ∈ xs, y.2.1 = stps y.1 l ∧ g ≤ y.1 := by
  induction h with
  | last ha => intro y hy; rw [List.mem_singleton.mp hy]; exact ⟨rfl, Nat.le_refl _⟩
  | step ha hx ih =>
    intro y hy
    rcases List.mem_cons.mp hy with z | z
    · rw [z]; exact ⟨rfl, Nat.le_refl _⟩
    · have := ih y z
      exact ⟨this.1, by omega⟩
theorem Spn.pos {l : List Card} {g : Nat} {xs : List (Nat × Strt)} (h : Spn l g xs) : ∀ y ∈ xs.tail, g + 1 ≤ y.1 := by
  cases h with
  | last ha => intro y hy; cases hy
  | step ha hx =>
    intro y hy
    have := hx.all y hy
    omega
theorem ix_lastG {ds : List D} {d : D} (h : ds.getLast? = some d) : gIx (.fl ds) (.int (-1)) S = some (d, S) := by
  have hne : ds ≠ [] := fun z => by rw [z] at h; cases h
  have hl : 1 ≤ ds.length := by cases ds with | nil => exact absurd rfl hne | cons _ _ => simp
  have e : ds[ds.length - 1]? = some d := by rw [← List.getLast?_eq_getElem?]; exact h
  have h0 : ¬ ((0 : Int) ≤ -1) := by decide
  have h1 : (-(ds.length : Int) ≤ -1) := by omega
  have h2 : ((ds.length : Int) + -1).toNat = ds.length - 1 := by omega
  have h3 : (-1 + (ds.length : Int)).toNat = ds.length - 1 := by omega
  have h4 : (1 : Int) ≤ (ds.length : Int) := by omega
  simp [gIx, seqD, atI, ixN, h0, h1, h2, h3, h4, e]
end Sb
end
section
set_option Elab.async false
set_option linter.all false
set_option maxRecDepth 100000
set_option maxHeartbeats 4000000
namespace Sb
open PySem PySem.Spec PyProof.Rows L2
variable {K : PySem.W.Frag} {S : Sto}
/-! ## closings -/
theorem ix_lastL {n : Nat} {ds : List D} {d : D} (h0 : S[n]? = some (.lst ds)) (h : ds.getLast? = some d) : gIx (.loc n) (.int (-1)) S = some (d, S) := by
  have := ix_lastG (S := S) h
  simp only [gIx, seqD, h0] at this ⊢
  exact this
/-! ## fates -/
/-- the last step ahead of n that shows a name -/
def lst (f : Nat → Option Str) (x : Str) : Nat → Option Nat
  | 0 => none
  | n + 1 => if f n = some x then some n else lst f x n
theorem Spn.at {l : List Card} {g : Nat} {xs : List (Nat × Strt)} (h : Spn l g xs) : ∀ i, (hi : i + 1 < xs.length) → ∃ q r, aw (stps (xs[i]'(by omega)).1 l) = q :: r ∧ (xs[i]'(by omega)).2 = (stps (xs[i]'(by omega)).1 l, q, some (stl (stps (xs[i]'(by omega)).1 l) q + 1)) ∧ (xs[i + 1]).1 = (xs[i]'(by omega)).1 + (stl (stps (xs[i]'(by omega)).1 l) q + 1) := by
  induction h with
  | last ha => intro i hi; simp at hi
  | @step g q r xs ha hx ih =>
    intro i hi
    cases i with
    | zero =>
      obtain ⟨y, zs, rfl, e1, e2⟩ := hx.head
      exact ⟨q, r, ha, rfl, e1⟩
    | succ i => exact ih i (by simpa using hi)
end Sb
end
section
set_option Elab.async false
set_option linter.all false
set_option maxRecDepth 100000
set_option maxHeartbeats 4000000
namespace Sb
open PySem PySem.Spec PyProof.Rows L2
variable {S : Sto}
def dN (l : List Card) : D := .ntu (l.map dC)
@[simp] theorem bd_dN {k : Nat} {l : List Card} : bd k (dN l) = true := by simp only [dN, bd, bds_dC]
end Sb
end
section
set_option Elab.async false
set_option linter.all false
set_option maxRecDepth 100000
set_option maxHeartbeats 4000000
namespace Sb
open PySem PySem.Spec PyProof.Rows L2
variable {K : PySem.W.Frag} {S : Sto}
end Sb
end
section
set_option Elab.async false
set_option linter.all false
set_option maxRecDepth 100000
set_option maxHeartbeats 4000000
namespace Sb
open PySem PySem.Spec PyProof.Rows L2
variable {K : PySem.W.Frag} {S : Sto}
/-! ## walks over a list of the store -/
/-! ## the word of a kept exception -/
/-! ## what is no deck -/
end Sb
end
section
set_option Elab.async false
set_option linter.all false
set_option maxRecDepth 100000
set_option maxHeartbeats 4000000
namespace Sb
open PySem PySem.Spec PyProof.Rows L2
variable {K : PySem.W.Frag} {S : Sto}
theorem fz_dct0 {τ : Sl} (w : Wf S) : fz eDct0 τ S = some (.ok (.fd [] []) S) := by
  have nb : ¬ (bd S.length (.loc S.length) = true) := by simp [bd]
  have e1 : rb (S ++ [.dct []]) S.length 8 (.loc S.length) = some (.fd [] []) := by
    conv => lhs; unfold rb
    simp only [if_neg nb, get_last]
    rfl
  have ww : wfk S.length ((S ++ [Ob.dct []]).take S.length) = true := by rw [take_app]; exact w
  rw [fz_eq]
  simp only [eDct0, fzR, if_pos ww, e1, Option.map_some]
  rw [take_app]
def w8 (k : Nat) : Str := ⟨#[(("abcdefgh" : Str).cps.toList)[k % 8]'(Nat.lt_of_lt_of_le (Nat.mod_lt k (by decide)) (by decide))]⟩ ++ cutS "xyzuvwq" none (some ((k / 8 : Nat) : Int))
/-! ### the draw of it -/
end Sb
end
section
set_option Elab.async false
set_option linter.all false
set_option maxRecDepth 100000
set_option maxHeartbeats 4000000
namespace Sb
open PySem PySem.Spec PyProof.Rows L2
variable {K : PySem.W.Frag} {S : Sto}
/-! ## what is no deck, as the spring draws it -/
def w7 (k : Nat) : Str := ("w" : Str) ++ ⟨#[(("abcdefg" : Str).cps.toList).getD (k / 6) 0]⟩ ++ ⟨#[(("abcdef" : Str).cps.toList).getD (k % 6) 0]⟩
end Sb
end
section
set_option Elab.async false
set_option linter.all false
set_option maxRecDepth 100000
set_option maxHeartbeats 4000000
namespace Sb
open PySem PySem.Spec PyProof.Rows L2
variable {K : PySem.W.Frag} {S : Sto}
/-! ## those that are seen for ever -/
end Sb
end
section
set_option Elab.async false
set_option linter.all false
set_option maxRecDepth 100000
set_option maxHeartbeats 4000000
namespace Sb
open PySem PySem.Spec PyProof.Rows L2
variable {K : PySem.W.Frag} {S : Sto}
end Sb
end
section
set_option Elab.async false
set_option linter.all false
set_option maxRecDepth 100000
set_option maxHeartbeats 4000000
namespace Sb
open PySem PySem.Spec PyProof.Rows L2 PySem.W
variable {K : PySem.W.Frag} {S : Sto}
/-! ## the decks that come to a deck -/
/-- the card at a place laid on top -/
def hd (l : List Card) (i : Nat) : List Card := at0 l i :: (l.take i ++ l.drop (i + 1))
/-! ### lists of decks -/
end Sb
end
section
set_option Elab.async false
set_option linter.all false
set_option maxRecDepth 100000
set_option maxHeartbeats 4000000
namespace Sb
open PySem PySem.Spec PyProof.Rows L2
variable {K : PySem.W.Frag} {S : Sto}
end Sb
end
section
set_option Elab.async false
set_option linter.all false
set_option maxRecDepth 100000
set_option maxHeartbeats 4000000
namespace Sb
open PySem PySem.Spec PyProof.Rows L2
variable {K : PySem.W.Frag} {S : Sto}
theorem eAnd_f {fa fb : EF} {τ : Sl} {S S1 : Sto} (h : fa τ S = some (.ok (.bl false) S1)) : eAnd fa fb τ S = some (.ok (.bl false) S1) := by
  simp only [eAnd, M.bnd, h, truD, Option.bind_some]; rfl
/-! ## numbers that are none -/
/-! ## two laws about what comes ahead, refused -/
end Sb
end
section
set_option Elab.async false
set_option linter.all false
set_option maxRecDepth 100000
set_option maxHeartbeats 4000000
namespace K53
open PySem PySem.Spec PyProof.Rows L2 Sb
variable {K : PySem.W.Frag} {S : Sto}
/-! ## beneath the closed place -/
def bnt (l : List Card) (x : Str) (s : Nat) : Bool := decide (x ∈ ((stps s l).drop (clo (stps s l))).map (·.1))
theorem drop_on {l : List Card} (ok : DeckOk l) {a b : Nat} (h : a ≤ b) : (stps b l).drop (clo (stps a l)) = (stps a l).drop (clo (stps a l)) := by
  have := stps_drop (stps_ok ok a) (b - a)
  rwa [stps_add, show a + (b - a) = b by omega] at this
theorem bnt_same {l : List Card} (ok : DeckOk l) {x : Str} {a b : Nat} (h : a ≤ b) (e : clo (stps b l) = clo (stps a l)) : bnt l x b = bnt l x a := by
  unfold bnt
  rw [e, drop_on ok h]
theorem bnt_mono {l : List Card} (ok : DeckOk l) {x : Str} {a b : Nat} (h : a ≤ b) (ha : bnt l x a = true) : bnt l x b = true := by
  unfold bnt at *
  have h1 := of_decide_eq_true ha
  rw [← drop_on ok h] at h1
  refine decide_eq_true ?_
  have hc := clo_mono2 ok h
  obtain ⟨c, hc1, hc2⟩ := List.mem_map.mp h1
  refine List.mem_map.mpr ⟨c, ?_, hc2⟩
  have e : (stps b l).drop (clo (stps a l)) = ((stps b l).drop (clo (stps b l))).drop (clo (stps a l) - clo (stps b l)) := by rw [List.drop_drop]; congr 1; omega
  rw [e] at hc1
  exact List.mem_of_mem_drop hc1
theorem pos_drop {m : List Card} (ok : DeckOk m) {x : Str} {j c : Nat} (hj : j < m.length) (hx : m[j].1 = x) : (x ∈ (m.drop c).map (·.1)) ↔ c ≤ j := by
  constructor
  · intro h
    obtain ⟨d, hd, e⟩ := List.mem_map.mp h
    obtain ⟨i, hi, rfl⟩ := List.getElem_of_mem hd
    rw [List.length_drop] at hi
    rw [List.getElem_drop] at e
    have hlt : c + i < m.length := by omega
    have e3 : (m.map (·.1))[c + i]'(by simpa using hlt) = (m.map (·.1))[j]'(by simpa using hj) := by rw [List.getElem_map, List.getElem_map, e, hx]
    have := (List.getElem_inj ok.nd).mp e3
    omega
  · intro h
    refine List.mem_map.mpr ⟨m[j], ?_, hx⟩
    rw [List.mem_iff_getElem]
    refine ⟨j - c, by rw [List.length_drop]; omega, ?_⟩
    rw [List.getElem_drop]
    congr 1
    omega
theorem bnt_pos {l : List Card} (ok : DeckOk l) {x : Str} {s j : Nat} (hj : j < (stps s l).length) (hx : (stps s l)[j].1 = x) : bnt l x s = decide (clo (stps s l) ≤ j) := by
  unfold bnt
  exact decide_eq_decide.mpr (pos_drop (stps_ok ok s) hj hx)
theorem has_pos {l : List Card} {x : Str} {i : Nat} (hi : i < l.length) (hx : l[i].1 = x) (s : Nat) : ∃ j, ∃ h : j < (stps s l).length, (stps s l)[j].1 = x := by
  have hm : l[i] ∈ stps s l := (stps_perm l s).mem_iff.mpr (List.getElem_mem hi)
  obtain ⟨j, hj, e⟩ := List.getElem_of_mem hm
  exact ⟨j, hj, by rw [e, hx]⟩
/-! ## the first stretch with the name beneath -/
def nvS (x : Str) : List (Nat × Strt) → Option (Nat × Nat)
  | [] => none
  | y :: ys => if x ∈ (y.2.1.drop (clo y.2.1)).map (·.1) then some (y.1, clo y.2.1) else nvS x ys
theorem spn_mem {l : List Card} {g : Nat} {xs : List (Nat × Strt)} (h : Spn l g xs) : ∀ y ∈ xs, y.2.1 = stps y.1 l := by
  induction h with
  | last ha => intro y hy; simp at hy; subst hy; rfl
  | step ha h ih =>
    intro y hy
    rcases List.mem_cons.mp hy with rfl | hy
    · rfl
    · exact ih y hy
def FstN (l : List Card) (x : Str) (g : Nat) : Option (Nat × Nat) → Prop
  | none => ∀ s, g ≤ s → bnt l x s = false
  | some z => g ≤ z.1 ∧ bnt l x z.1 = true ∧ z.2 = clo (stps z.1 l) ∧ ∀ s, g ≤ s → s < z.1 → bnt l x s = false
theorem nvS_is {l : List Card} (ok : DeckOk l) {x : Str} {g : Nat} {xs : List (Nat × Strt)} (h : Spn l g xs) : FstN l x g (nvS x xs) := by
  induction h with
  | last ha =>
    rename_i g
    have same : ∀ s, g ≤ s → bnt l x s = bnt l x g := fun s hs => bnt_same ok hs (by
      have := settled_clo (stps_ok ok g) ha (s - g)
      rwa [stps_add, show g + (s - g) = s by omega] at this)
    unfold nvS
    split
    · rename_i q
      exact ⟨Nat.le_refl _, decide_eq_true q, rfl, fun s h1 h2 => by omega⟩
    · rename_i q
      intro s hs
      rw [same s hs]
      exact decide_eq_false q
  | step ha h ih =>
    rename_i g q0 r xs
    have same : ∀ s, g ≤ s → s < g + (stl (stps g l) q0 + 1) → bnt l x s = bnt l x g := fun s hs h2 => bnt_same ok hs (by
      have := str_clo (stps_ok ok g) ha (t := s - g) (by omega)
      rwa [stps_add, show g + (s - g) = s by omega] at this)
    unfold nvS
    split
    · rename_i q
      exact ⟨Nat.le_refl _, decide_eq_true q, rfl, fun s h1 h2 => by omega⟩
    · rename_i q
      have q : bnt l x g = false := decide_eq_false q
      have lo : ∀ s, g ≤ s → s < g + (stl (stps g l) q0 + 1) → bnt l x s = false := fun s h1 h2 => by rw [same s h1 h2, q]
      cases e : nvS x xs with
      | none =>
        rw [e] at ih
        intro s hs
        by_cases z : s < g + (stl (stps g l) q0 + 1)
        · exact lo s hs z
        · exact ih s (by omega)
      | some z =>
        rw [e] at ih
        obtain ⟨a, b, c, d⟩ := ih
        refine ⟨by omega, b, c, fun s h1 h2 => ?_⟩
        by_cases y : s < g + (stl (stps g l) q0 + 1)
        · exact lo s h1 y
        · exact d s (by omega) h2
def nvD : Option (Nat × Nat) → D
  | none => .non
  | some z => .tup [.int (z.1 : Nat), .int (z.2 : Nat)]
abbrev nvr' (l : List Card) (x : Str) : Option (Nat × Nat) := nvS x (spans l)
theorem never_paper_ok {d : D} {l : List Card} {i : Nat} {x : Str} (w : Wf S) (hd : isDeck S d l) (ok : DeckOk l) (hi : i < l.length) (hx : l[i].1 = x) : M_never_paper K [d, .str x] S = some (.ok (nvD (nvr' l x)) S) := by
  have ef := find_place_ok (K := K) (S := S) ok hi
  rw [hx] at ef
  have mem := spn_mem (spans_is ok)
  refine fn_wt ?_
  refine ws_set (deck_fz w hd ok (a1_ok rfl)) ?_
  refine ws_ex (eCl_ok (a2_ok rfl rfl) rfl ef) ?_
  refine ws_for (spans l).length (fun j τ S' => S' = S ∧ nvS x (spans l) = nvS x ((spans l).drop j) ∧ ∃ x3 x4 x5 x6, τ = [some d, some (.str x), some (dK l), x3, x4, x5, x6]) (fun j => spD ((spans l).getD j (0, l, 0, none))) (iSeq_ok (spans_fz w ok (a1_ok rfl)) wk_fl) (by show _ ≤ ((spans l).map spD).length; rw [List.length_map]; exact Nat.le_refl _) ⟨rfl, by rw [List.drop_zero], none, none, none, none, rfl⟩ ?_ (fun τ S' _ => by show some (((spans l).map spD)[(spans l).length]?) = _; simp) ?_
  · rintro j τ S' hj ⟨rfl, hn, x3, x4, x5, x6, rfl⟩
    have gd : (spans l).getD j (0, l, 0, none) = (spans l)[j] := by rw [List.getD_eq_getElem?_getD, List.getElem?_eq_getElem hj]; rfl
    rw [gd]
    have hm := mem _ (List.getElem_mem hj)
    have hdr : (spans l).drop j = (spans l)[j] :: (spans l).drop (j + 1) := List.drop_eq_getElem_cons hj
    refine ⟨by show some (((spans l).map spD)[j]?) = _; rw [List.getElem?_map, List.getElem?_eq_getElem hj]; rfl, _, rfl, ?_⟩
    rw [hdr] at hn
    generalize (spans l)[j] = y at *
    obtain ⟨g, h0, q, o⟩ := y
    have hm : h0 = stps g l := hm
    subst hm
    have okg := stps_ok ok g
    obtain ⟨p, hp, hpx⟩ := has_pos hi hx g
    have ep := find_place_ok (K := K) (S := S') okg hp
    rw [hpx] at ep
    refine ws_set (eCl_ok (a1_ok rfl) rfl (closed_ok okg)) ?_
    have t : (tB (eB gGeI (eCl (M_find_place K) 2 (aCons (eVar 4) (aCons (eVar 1) (aNil)))) (eVar 6))) [some d, some (.str x), some (dK l), some (.int (g : Nat)), some (dK (stps g l)), some (sLen o), some (.int (clo (stps g l) : Nat))] S' = some (.ok (decide (clo (stps g l) ≤ p)) S') :=
      tB_ok (eB_ok (eCl_ok (a2_ok rfl rfl) rfl ep) rfl (gGe_i.trans (by congr 3; exact decide_eq_decide.mpr (by omega))))
    have hpd := pos_drop okg (c := clo (stps g l)) hp hpx
    have hn := hn.trans (show nvS x ((g, stps g l, q, o) :: (spans l).drop (j + 1)) = (if x ∈ ((stps g l).drop (clo (stps g l))).map (·.1) then some (g, clo (stps g l)) else nvS x ((spans l).drop (j + 1))) from rfl)
    by_cases z : clo (stps g l) ≤ p
    · rw [if_pos (hpd.mpr z)] at hn
      rw [decide_eq_true z] at t
      refine bif_t t (ws_rt (eTup_ok (a2_ok rfl rfl) (by simp)) ⟨?_, rfl⟩)
      show Fl.rt _ = Fl.rt (nvD (nvS x (spans l)))
      rw [hn]; rfl
    · rw [if_neg (fun h => z (hpd.mp h))] at hn
      rw [decide_eq_false z] at t
      exact bif_f t (ws_nop ⟨rfl, hn, _, _, _, _, rfl⟩)
  · rintro τ' S' ⟨rfl, hn, x3, x4, x5, x6, rfl⟩
    rw [List.drop_length] at hn
    refine ws_rt rfl ⟨?_, rfl⟩
    show Fl.rt _ = Fl.rt (nvD (nvS x (spans l)))
    rw [hn]; rfl
/-! ## two numbers in a thing -/
def ints2 : List D → Option (Int × Int)
  | [.int a, .int b] => some (a, b)
  | _ => none
def num2 (d : D) : Option (Int × Int) := (seqO d).bind ints2
def oD2 : Option (Int × Int) → D
  | none => .non
  | some (a, b) => .tup [.int a, .int b]
theorem numbers2_ok {e : D} (h : Th1 e) (S : Sto) : M_numbers_in [e, .int 2] S = some (.ok (oD2 (num2 e)) S) := by
  cases q : seqO e with
  | none =>
    have : num2 e = none := by unfold num2; rw [q]; rfl
    rw [this]
    exact fnM_rt (sSeq_rt ((sIf_t (or_t (tNt_ok (b := false) (tB_ok (eCl_ok (a1_ok rfl) rfl (nolist_pl h.1 q S)))))).trans (sRt_ok rfl)))
  | some es =>
    have sq := seqO_sq q
    have hn : num2 e = ints2 es := by unfold num2; rw [q]; rfl
    obtain ⟨hl, hp⟩ := h.2 es q
    have hls : tNt (tB (eCl (M_is_listed) 1 (aCons (eVar 0) (aNil)))) (ini 3 [e, .int 2]) S = some (.ok false S) := tNt_ok (b := true) (tB_ok (eCl_ok (a1_ok rfl) rfl (sq.listed S)))
    have hlen : tB (eB (gEq true) (eCB gLenX (aCons (eVar 0) (aNil))) (eVar 1)) (ini 3 [e, .int 2]) S = some (.ok (!decide (es.length = 2)) S) := tB_ok (eB_ok (eCB_ok (a1_ok rfl) (sq.len S)) rfl (gEq_nat (neg := true) (i := es.length) (j := 2)))
    rw [hn]
    by_cases h3 : es.length = 2
    · refine fnM_rt ((sSeq_nx (sIf_f (or_f hls (hlen.trans (by simp [h3]))))).trans ?_)
      have L := goA_all (nxt := fun i _ => some es[i]?) (g := tN 2) (k := 3) (fe := eCl (M_is_whole) 1 (aCons (eVar 2) (aNil))) (ds := es) isI (fun _ _ => rfl) (fun d hd S => ⟨_, rfl, eCl_ok (a1_ok rfl) rfl (whole_pl (hp d hd) S)⟩) (es.length + 1) 0 S (Nat.zero_le _) (by omega)
      have eA : eAll 3 (iSeq (eVar 0)) (tN 2) (eCl (M_is_whole) 1 (aCons (eVar 2) (aNil))) (ini 3 [e, .int 2]) S = some (.ok (.bl (es.all isI)) S) := by
        unfold eAll
        rw [iSeq_ok (d := e) (S1 := S) rfl (sq.wk S)]
        simp only [L, Option.bind_some, List.drop_zero]
      match es, h3 with
      | [a, b], _ =>
        cases ha : [a, b].all isI with
        | true =>
          rw [ha] at eA
          simp only [List.all_cons, List.all_nil, Bool.and_true, Bool.and_eq_true] at ha
          obtain ⟨h1, h2⟩ := ha
          cases a <;> first | cases h1 | skip
          cases b <;> first | cases h2 | skip
          refine sRt_ok (eIf_t (tB_ok eA) (eCB_ok (a1_ok rfl) ?_))
          rcases sq with rfl | rfl <;> rfl
        | false =>
          rw [ha] at eA
          have : ints2 [a, b] = none := by
            cases a <;> first | rfl | skip
            cases b <;> first | rfl | cases ha
          rw [this]
          exact sRt_ok (eIf_f (tB_ok eA) rfl)
    · have : ints2 es = none := by
        unfold ints2
        split
        · exact absurd rfl h3
        · rfl
      rw [this]
      exact fnM_rt (sSeq_rt ((sIf_t (tOr_f hls (hlen.trans (by simp [h3])))).trans (sRt_ok rfl)))
/-! ## whether a thing shows never -/
def shN (l : List Card) (x : Str) : Option (Int × Int) → Bool
  | none => false
  | some z => decide (0 ≤ z.1 ∧ 0 ≤ z.2) && (decide ((clo (stps z.1.toNat l) : Int) = z.2) && bnt l x z.1.toNat)
theorem never_shows_ok {d p : D} {l : List Card} {i : Nat} {x : Str} (w : Wf S) (hd : isDeck S d l) (ok : DeckOk l) (hi : i < l.length) (hx : l[i].1 = x) (hp : Th1 p) (hb : ∀ z, num2 p = some z → z.1 < 2 ^ 1000) : M_never_shows K [d, .str x, p] S = some (.ok (.bl (shN l x (num2 p))) S) := by
  have ef := find_place_ok (K := K) (S := S) ok hi
  rw [hx] at ef
  have en := numbers2_ok hp S
  refine fn_wt ?_
  refine ws_set (deck_fz w hd ok (a1_ok rfl)) ?_
  refine ws_ex (eCl_ok (a2_ok rfl rfl) rfl ef) ?_
  refine ws_set (eCl_ok (a2_ok rfl rfl) rfl en) ?_
  cases q : num2 p with
  | none => exact ws_iret (or_t (tB_ok (b := true) (eB_ok rfl rfl rfl))) rfl ⟨rfl, rfl⟩
  | some z =>
    obtain ⟨a, b⟩ := z
    have ha := hb _ q
    let τ : Sl := [some d, some (.str x), some p, some (dK l), some (.tup [.int a, .int b]), none, none, none]
    have gm : gMinT [.tup [.int a, .int b]] S = some (.int (min a b), S) := rfl
    have t2 : (tB (eB gLtI (eCB gMinT (aCons (eVar 4) (aNil))) (eC (.int 0)))) τ S = some (.ok (decide (min a b < 0)) S) := tB_ok (eB_ok (eCB_ok (a1_ok rfl) gm) rfl gLt_i)
    have t1 : (tB (eB (gIsN false) (eVar 4) (eC .non))) τ S = some (.ok false S) := tB_ok (eB_ok rfl rfl rfl)
    by_cases h0 : 0 ≤ a ∧ 0 ≤ b
    · rw [decide_eq_false (by omega)] at t2
      refine ws_no (or_f t1 t2) ?_
      refine ws_nx (sAs_ok (show eVar 4 τ S = _ from rfl) rfl) ?_
      obtain ⟨n, rfl⟩ : ∃ n : Nat, a = (n : Nat) := ⟨a.toNat, by omega⟩
      obtain ⟨m, rfl⟩ : ∃ m : Nat, b = (m : Nat) := ⟨b.toNat, by omega⟩
      have hn : n < 2 ^ 1000 := by
        have : ((n : Nat) : Int) < 2 ^ 1000 := ha
        exact_mod_cast this
      have okn := stps_ok ok n
      refine ws_set (eCl_ok (a2_ok rfl rfl) rfl (deck_after_ok w ok hn)) ?_
      obtain ⟨j, hj, hjx⟩ := has_pos hi hx n
      have ej := find_place_ok (K := K) (S := S) okn hj
      rw [hjx] at ej
      have hbn := bnt_pos ok hj hjx
      let τ7 : Sl := [some d, some (.str x), some p, some (dK l), some (.tup [.int (n : Nat), .int (m : Nat)]), some (.int (n : Nat)), some (.int (m : Nat)), some (dK (stps n l))]
      have g1 : gEq false (.int (clo (stps n l) : Nat)) (.int (m : Nat)) S = some (.bl (decide (clo (stps n l) = m)), S) := gEq_nat.trans (by simp)
      have e1 : (eB (gEq false) (eCl (M_closed_of) 1 (aCons (eVar 7) (aNil))) (eVar 6)) τ7 S = some (.ok (.bl (decide (clo (stps n l) = m))) S) := eB_ok (eCl_ok (a1_ok rfl) rfl (closed_ok okn)) rfl g1
      have e2 : (eB gGeI (eCl (M_find_place K) 2 (aCons (eVar 7) (aCons (eVar 1) (aNil)))) (eVar 6)) τ7 S = some (.ok (.bl (decide (m ≤ j))) S) := eB_ok (eCl_ok (a2_ok rfl rfl) rfl ej) rfl (gGe_i.trans (by congr 3; exact decide_eq_decide.mpr (by omega)))
      have hsh : shN l x (some (((n : Nat) : Int), ((m : Nat) : Int))) = (decide (clo (stps n l) = m) && bnt l x n) := by
        simp only [shN, Int.toNat_natCast]
        rw [decide_eq_true h0, Bool.true_and]
        congr 1
        exact decide_eq_decide.mpr (by omega)
      rw [hsh]
      by_cases c : clo (stps n l) = m
      · rw [decide_eq_true c] at e1
        have := eAnd_t e1 rfl e2
        refine ws_rt this ⟨?_, rfl⟩
        rw [decide_eq_true c, hbn, c]; rfl
      · rw [decide_eq_false c] at e1
        refine ws_rt (eAnd_f e1) ⟨?_, rfl⟩
        rw [decide_eq_false c]; rfl
    · rw [decide_eq_true (by omega)] at t2
      have hsh : shN l x (some (a, b)) = false := by
        simp only [shN]
        rw [decide_eq_false h0]; rfl
      rw [hsh]
      exact ws_iret (tOr_f t1 t2) rfl ⟨rfl, rfl⟩
end K53
end
section
set_option Elab.async false
set_option linter.all false
set_option maxRecDepth 100000
set_option maxHeartbeats 4000000
/-! A deck out of the bag. -/
namespace Sb
open PySem PySem.Spec PyProof.Rows L2
variable {K : PySem.W.Frag} {S : Sto}
theorem bag_deck_ok {n k most : Nat} (w : Wf S) (h : Bag n k S) (hk : k < 2 ^ 38) (hm0 : 1 ≤ most) (hm1 : most ≤ 40) :
    ∃ (S' : Sto) (l : List Card), M_bag_deck [.loc n, .int (most : Nat)] S = some (.ok (dK l) S') ∧ DeckOk l ∧ l.length ≤ most ∧ (∀ c ∈ l, c.2 < 10 ^ 30) ∧ Bag n (k + 400) S' ∧ Fr n S S' := by
  have main : Ws (m_bag_deck (ini 9 [.loc n, .int (most : Nat)]) S) fun fl S' => ∃ d, fl = .rt d ∧ ∃ l, d = dK l ∧ DeckOk l ∧ l.length ≤ most ∧ (∀ c ∈ l, c.2 < 10 ^ 30) ∧ Bag n (k + 400) S' ∧ Fr n S S' := by
    have B : ∀ b : Nat, b ≤ 10 ^ 28 → b < 2 ^ 200 := fun b hb => Nat.lt_of_le_of_lt hb (by decide)
    have hz := sizeLine_eq
    obtain ⟨v1, S1, e1, b1, sp1, sm1, w1⟩ := bag_drw (S := S) (j := 0) (τ := ini 9 [.loc n, .int (most : Nat)]) (fm := eVar 1) (b := most) w rfl rfl h (by omega) (by omega) (B _ (by omega))
    let m : Nat := 1 + v1
    have hm : 1 ≤ m ∧ m ≤ most := by show 1 ≤ 1 + v1 ∧ 1 + v1 ≤ _; omega
    refine ws_set (d := .int (m : Nat)) (eB_ok rfl e1 gAdd_nat) ?_
    let τ2 : Sl := [some (.loc n), some (.int (most : Nat)), some (.int (m : Nat)), none, none, none, none, none, none]
    obtain ⟨kind, S2, e2, b2, sp2, sm2, w2⟩ := bag_drw (S := S1) (j := 0) (τ := τ2) (fm := eC (.int 7)) (b := 7) w1 rfl rfl sp1 (by omega) (by omega) (B _ (by omega))
    refine ws_set e2 ?_
    let τ3 : Sl := [some (.loc n), some (.int (most : Nat)), some (.int (m : Nat)), some (.int (kind : Nat)), none, none, none, none, none]
    obtain ⟨a, S3, e3, b3, sp3, sm3, w3⟩ := bag_drw (S := S2) (j := 0) (τ := τ3) (fm := eVar 2) (b := m) w2 rfl rfl sp2 (by omega) (by omega) (B _ (by omega))
    obtain ⟨b, S4, e4, b4, sp4, sm4, w4⟩ := bag_drw (S := S3) (j := 0) (τ := τ3) (fm := eVar 2) (b := m) w3 rfl rfl sp3 (by omega) (by omega) (B _ (by omega))
    refine ws_set (fz_list (ds := [.int (a : Nat), .int (b : Nat)]) (S1 := S4) (a2_ok e3 e4) (by rw [sm4.len, sm3.len]) w4 (by simp) rfl) ?_
    refine ws_set (eLst_ok aNil_ok (by simp)) ?_
    let F : Nat := S4.length
    let Sc : Sto := S4 ++ [.lst []]
    have wc : Wf Sc := wf_app w4 rfl
    have hSc : Sc[F]? = some (.lst []) := get_last _ _
    have lSc : Sc.length = F + 1 := by show (S4 ++ _).length = _; simp [F]
    have hn4 : n < F := bag_src.lt sp4
    obtain ⟨Sd, xs, e5, lx, ndx, nmx, sp5, sm5, w5⟩ := bag_names_ok (S := Sc) (n := n) (k := k + 4) (m := m) wc (bag_src.app sp4) (by omega) hm.1 (by omega)
    refine ws_for m (fun i τ S' => ∃ (l : List Card) (x6 x7 x8 : Option D), τ = [some (.loc n), some (.int (most : Nat)), some (.int (m : Nat)), some (.int (kind : Nat)), some (.fl [.int (a : Nat), .int (b : Nat)]), some (.loc F), x6, x7, x8] ∧ l.length = i ∧ l.map (·.1) = xs.take i ∧ (∀ c ∈ l, 0 ≤ c.2 ∧ c.2 < 10 ^ 30) ∧ S'.length = Sc.length ∧ S'[F]? = some (.lst (l.map dC)) ∧ (∀ q, q ≠ n → q ≠ F → S'[q]? = Sc[q]?) ∧ Bag n (k + 48 + 5 * i) S' ∧ Wf S')
      (fun i => .tup [.int (i : Nat), .str (xs.getD i default)]) (iEnX_fl (a1_ok (eCl_ok (a2_ok rfl rfl) rfl e5))) (by simp [wkE, lx])
      ⟨[], none, none, none, rfl, rfl, rfl, (fun _ z => by cases z), sm5.len, (sm5.at_ F (by omega)).trans hSc, fun q h1 _ => sm5.at_ q h1, bag_src.mono sp5 (by omega), w5⟩ ?_ ?_ ?_
    · rintro i τ S' hi ⟨l, x6, x7, x8, rfl, ll, lm, hd, len, hf, keep, sp, w'⟩
      have hi' : i < xs.length := by omega
      have g3 := List.getElem?_eq_getElem hi'
      have g4 : xs.getD i default = xs[i] := by rw [List.getD_eq_getElem?_getD, g3]; rfl
      rw [g4]
      refine ⟨by rw [wkE_nxt (by rw [List.length_map]; exact hi')]; simp, _, rfl, ?_⟩
      let τ1 : Sl := [some (.loc n), some (.int (most : Nat)), some (.int (m : Nat)), some (.int (kind : Nat)), some (.fl [.int (a : Nat), .int (b : Nat)]), some (.loc F), some (.int (i : Nat)), some (.str xs[i]), x8]
      obtain ⟨u1, T1, q1, c1, t1, s1, y1⟩ := bag_drw (S := S') (j := 0) (τ := τ1) (fm := eB gAdd (eVar 2) (eC (.int 2))) (b := m + 2) w' rfl (eB_ok rfl rfl gAdd_nat) sp (by omega) (by omega) (B _ (by omega))
      obtain ⟨u2, T2, q2, c2, t2, s2, y2⟩ := bag_drw (S := T1) (j := 0) (τ := τ1) (fm := eC (.int 4)) (b := 4) y1 rfl rfl t1 (by omega) (by omega) (B _ (by omega))
      obtain ⟨u3, T3, q3, c3, t3, s3, y3⟩ := bag_drw (S := T2) (j := 0) (τ := τ1) (fm := eC (.int 2)) (b := 2) y2 rfl rfl t2 (by omega) (by omega) (B _ (by omega))
      have mx : gMax [.int 0, .int ((i : Nat) - 1 + (u2 : Nat))] T2 = some (.int ((i + u2 - 1 : Nat) : Nat), T2) := by
        simp only [gMax, gMax2]
        congr 3
        split <;> omega
      obtain ⟨y, ey, hy⟩ : ∃ y : Nat, gIx (.fl [.int (a : Nat), .int (b : Nat)]) (.int (u3 : Nat)) T3 = some (.int (y : Nat), T3) ∧ y < 40 := by
        have : u3 = 0 ∨ u3 = 1 := by omega
        rcases this with rfl | rfl
        · exact ⟨a, ix_seq' (c := "list") rfl rfl rfl, by omega⟩
        · exact ⟨b, ix_seq' (c := "list") rfl rfl rfl, by omega⟩
      refine ws_set (fz_list (ds := [.int (u1 : Nat), .int ((i + u2 - 1 : Nat) : Nat), .int (y : Nat)]) (S1 := T3) (a3_ok q1 (eCB_ok (a2_ok (S1 := T1) rfl (eB_ok (eB_ok rfl rfl gSub_i) q2 gAdd_i)) mx) (eB_ok rfl q3 ey)) (by rw [s3.len, s2.len, s1.len]) y3 (by simp) rfl) ?_
      let τ5 : Sl := [some (.loc n), some (.int (most : Nat)), some (.int (m : Nat)), some (.int (kind : Nat)), some (.fl [.int (a : Nat), .int (b : Nat)]), some (.loc F), some (.int (i : Nat)), some (.str xs[i]), some (.fl [.int (u1 : Nat), .int ((i + u2 - 1 : Nat) : Nat), .int (y : Nat)])]
      obtain ⟨u4, T4, q4, c4, t4, s4, y4⟩ := bag_drw (S := T3) (j := 0) (τ := τ5) (fm := eC (.int 9)) (b := 9) y3 rfl rfl t3 (by omega) (by omega) (B _ (by omega))
      obtain ⟨u5, T5, q5, c5, t5, s5, y5⟩ := bag_drw (S := T4) (j := 0) (τ := τ5) (fm := eVar 2) (b := m) y4 rfl rfl t4 (by omega) (by omega) (B _ (by omega))
      have p29 : gPow (.int 10) (.int 29) T3 = some (.int ((10 ^ 29 : Nat) : Nat), T3) := by
        have : (0 : Int) ≤ 29 ∧ (29 : Int) ≤ 1000000 ∧ (10 : Int).natAbs < 2 ^ 64 := by decide
        simp only [gPow, gI, decide_eq_true this, if_true]
        rfl
      refine ws_set (eB_ok rfl (fz_list (ds := [.int ((10 ^ 29 + u4 : Nat) : Nat), .int (i : Nat), .int ((m - 1 - i : Nat) : Nat), .int ((1 + u5 : Nat) : Nat)]) (S1 := T5)
        (aCons_ok (eB_ok (eB_ok rfl rfl p29) q4 gAdd_nat) (a3_ok (S1 := T4) rfl (eB_ok (eB_ok rfl rfl (gSub_nat (i := m) (j := 1) hm.1)) rfl (gSub_nat (by omega))) (eB_ok rfl q5 gAdd_nat))) (by rw [s5.len, s4.len]) y5 (by simp) rfl) (fl_add (by simp))) ?_
      let all : List Nat := [u1, i + u2 - 1, y, 10 ^ 29 + u4, i, m - 1 - i, 1 + u5]
      have hkd : kind < all.length := by show kind < 7; omega
      have hall : ∀ v ∈ all, v < 10 ^ 30 := fun v hv => by
        simp only [all, List.mem_cons, List.not_mem_nil, or_false] at hv
        rcases hv with rfl | rfl | rfl | rfl | rfl | rfl | rfl <;> omega
      have ek : gIx (.fl ([.int (u1 : Nat), .int ((i + u2 - 1 : Nat) : Nat), .int (y : Nat)] ++ [.int ((10 ^ 29 + u4 : Nat) : Nat), .int (i : Nat), .int ((m - 1 - i : Nat) : Nat), .int ((1 + u5 : Nat) : Nat)])) (.int (kind : Nat)) T5 = some (.int (all[kind] : Nat), T5) := by
        refine ix_seq' (c := "list") rfl rfl ?_
        show (all.map fun v : Nat => D.int (v : Nat))[kind]? = _
        rw [List.getElem?_map, List.getElem?_eq_getElem hkd]; rfl
      have hdp := hall _ (List.getElem_mem hkd)
      generalize all[kind] = dp at ek hdp
      have smT : Sm n S' T5 := (((s1.trans s2).trans s3).trans s4).trans s5
      have hfT : T5[F]? = some (.lst (l.map dC)) := (smT.at_ F (by omega)).trans hf
      have hlT : T5.length = Sc.length := smT.len.trans len
      have hll : (l.map dC).length < sizeLine := by rw [List.length_map]; omega
      have ap : gAppend (.loc F) [dC (xs[i], (dp : Int))] T5 = some (.non, T5.set F (.lst (l.map dC ++ [dC (xs[i], (dp : Int))]))) := by
        simp only [gAppend, listD, hfT, Option.bind_some, if_pos hll]
      refine ⟨_, _, sEx_ok (eBM_ok rfl (ty_list hfT) (a1_ok (eTup_ok (a2_ok rfl (eB_ok rfl rfl ek)) (by simp))) ap), l ++ [(xs[i], (dp : Int))], _, _, _, rfl, by simp [ll], ?_, fun c hc => ?_, by rw [List.length_set]; exact hlT, ?_, ?_, ?_, ?_⟩
      · rw [List.map_append, lm, List.map_cons, List.map_nil, ← List.take_append_getElem hi']
      · rcases List.mem_append.mp hc with q | q
        · exact hd c q
        · rw [List.mem_singleton.mp q]
          exact ⟨Int.natCast_nonneg dp, by show (dp : Int) < 10 ^ 30; omega⟩
      · rw [List.getElem?_set_self (by omega)]; simp
      · intro q h1 h2
        rw [List.getElem?_set_ne (Ne.symm h2), smT.at_ q h1]; exact keep q h1 h2
      · exact bag_src.mono (bag_src.fr (S := T5) t5 (List.getElem?_set_ne (by omega))) (by omega)
      · refine wf_set y5 ?_
        show bds _ _ = true
        rw [show l.map dC ++ [dC (xs[i], (dp : Int))] = (l ++ [(xs[i], (dp : Int))]).map dC by simp]; exact bds_dC
    · rintro τ S' _
      have := wkE_end (es := xs.map D.str) (S := S')
      rwa [List.length_map, lx] at this
    · rintro τ S' ⟨l, x6, x7, x8, rfl, ll, lm, hd, len, hf, keep, sp, w'⟩
      refine ws_rt (eCB_ok (a1_ok rfl) (d := dK l) (S2 := S') (by simp only [gTuple, seqD, hf, Option.bind_some])) ⟨_, rfl, l, rfl, ⟨by omega, by omega, fun c hc => ?_, fun c hc => (hd c hc).1, ?_⟩, by omega, fun c hc => (hd c hc).2, bag_src.mono sp (by omega), ?_⟩
      · have : c.1 ∈ xs.take m := by rw [← lm]; exact List.mem_map_of_mem hc
        exact nmx _ (List.mem_of_mem_take this)
      · rw [lm]; exact ndx.sublist (List.take_sublist _ _)
      · refine ⟨by rw [len, lSc]; have := sm4.len; have := sm3.len; have := sm2.len; have := sm1.len; omega, fun q h1 h2 => ?_⟩
        have hq : q < S4.length := by have := sm4.len; have := sm3.len; have := sm2.len; have := sm1.len; omega
        rw [keep q h1 (Nat.ne_of_lt hq)]
        show (S4 ++ _)[q]? = _
        rw [List.getElem?_append_left hq, sm4.at_ q h1, sm3.at_ q h1, sm2.at_ q h1, sm1.at_ q h1]
  obtain ⟨d, S', e, l, rfl, h1⟩ := fn_ws main
  exact ⟨S', l, e, h1⟩
end Sb
namespace Sb
open PySem PySem.Spec PyProof.Rows L2
theorem bag_deck_fz {n k most : Nat} {τ : Sl} {a : AF} {S S0 : Sto} (hl : S.length = S0.length) (w : Wf S) (h : Bag n k S) (hk : k < 2 ^ 38) (hm0 : 1 ≤ most) (hm1 : most ≤ 40) (ha : a τ S0 = some (.ok [.loc n, .int (most : Nat)] S)) :
    ∃ (S' : Sto) (l : List Card), fz (eCl M_bag_deck 2 a) τ S0 = some (.ok (dK l) S') ∧ DeckOk l ∧ l.length ≤ most ∧ (∀ c ∈ l, c.2 < 10 ^ 30) ∧ Bag n (k + 400) S' ∧ Sm n S S' ∧ Wf S' := by
  obtain ⟨S1, l, e, ok, hl2, hb, sp, fr⟩ := bag_deck_ok (n := n) (most := most) w h hk hm0 hm1
  have hn := bag_src.lt h
  obtain ⟨sm, sp2, w2⟩ := bag_src.cut w fr sp hn
  refine ⟨_, l, ?_, ok, hl2, hb, sp2, sm, w2⟩
  have w3 : wfk S0.length (S1.take S0.length) = true := by
    have := w2
    unfold Wf at this
    rw [← hl]
    rwa [sm.len] at this
  rw [fz_eq, show eCl M_bag_deck 2 a τ S0 = some (.ok (dK l) S1) from eCl_ok ha rfl e]
  simp only [fzR, if_pos w3, rb_bd (bd_dK (k := S0.length) (l := l)), Option.map_some]
  rw [hl]
end Sb
end
section
set_option Elab.async false
set_option linter.all false
set_option maxRecDepth 100000
set_option maxHeartbeats 4000000
namespace Sb
open PySem PySem.Spec PyProof.Rows L2
variable {K : PySem.W.Frag} {S : Sto}
/-! the reel's names are not "qqqqqqqq" -/
end Sb
end
section
set_option Elab.async false
set_option linter.all false
set_option maxRecDepth 100000
set_option maxHeartbeats 4000000
namespace Sb
open PySem PySem.Spec PyProof.Rows L2
variable {K : PySem.W.Frag} {S : Sto}
theorem ne_nats {ns : List Nat} : gEq true (.fl ((natL ns).map D.int)) (.fl []) S = some (.bl (decide (ns ≠ [])), S) := by
  have := gEq_fi (S := S) (neg := true) (l := natL ns) (m := [])
  rw [show ([] : List Int).map D.int = [] from rfl] at this
  rw [this]
  cases ns <;> simp [natL]
end Sb
end
section
set_option Elab.async false
set_option linter.all false
set_option maxRecDepth 100000
set_option maxHeartbeats 4000000
namespace Sb
open PySem PySem.Spec PyProof.Rows L2
variable {K : PySem.W.Frag} {S : Sto}
/-! ## things equal to themselves -/
theorem gEq_self {neg : Bool} {d : D} {p : PyData} (h1 : toPy 8 S d = some p) (h2 : SeqAt.shaped p = true) : gEq neg d d S = some (.bl (!neg), S) := by
  have h3 : p.canLay0 = true := by
    have : (PyData.canLay0 p && decide (PyData.depth p ≤ 64)) = true := h2
    exact (Bool.and_eq_true _ _ |>.mp this).1
  simp only [gEq, h1, h2, and_self, if_true, SeqAt.eqv_refl p h3]
  cases neg <;> rfl
/-! ## the deck gone on -/
/-! ### fates of the deck gone on -/
end Sb
end
section
set_option Elab.async false
set_option linter.all false
set_option maxRecDepth 100000
set_option maxHeartbeats 4000000
namespace Sb
open PySem PySem.Spec PyProof.Rows L2
/-! ## a card beneath a closed place -/
structure Lng (l : List Card) (z : Card) : Prop where
  ok : DeckOk l
  lt : l.length < 40
  clo : Sb.clo l < l.length
  dep : ∀ c ∈ l, c.2 < l.length
  nm : Nm z.1
  dz : 0 ≤ z.2
  fresh : ∀ c ∈ l, c.1 ≠ z.1
section
variable {l : List Card} {z : Card}
theorem Lng.ok' (h : Lng l z) : DeckOk (l ++ [z]) := by
  have hl : (l ++ [z]).length = l.length + 1 := by simp
  have h1 := h.ok.lo
  have h2 := h.lt
  refine ⟨by omega, by omega, fun c hc => ?_, fun c hc => ?_, ?_⟩
  · rcases List.mem_append.mp hc with q | q
    · exact h.ok.nm c q
    · rw [List.mem_singleton.mp q]; exact h.nm
  · rcases List.mem_append.mp hc with q | q
    · exact h.ok.dep c q
    · rw [List.mem_singleton.mp q]; exact h.dz
  · rw [List.map_append, List.nodup_append]
    refine ⟨h.ok.nd, by simp, fun a ha b hb e => ?_⟩
    obtain ⟨c, hc, rfl⟩ := List.mem_map.mp ha
    have : b = z.1 := by simpa using hb
    exact h.fresh c hc (e.trans this)
theorem Lng.stps (h : Lng l z) (n : Nat) : Sb.stps n (l ++ [z]) = Sb.stps n l ++ [z] := stps_last (fun e => by have := h.ok.lo; rw [e] at this; simp at this) (fun c hc => by have := h.dep c hc; omega) n
theorem Lng.at (h : Lng l z) (n : Nat) {i : Nat} (hi : i < l.length) : at0 (Sb.stps n (l ++ [z])) i = at0 (Sb.stps n l) i := by
  rw [h.stps]
  unfold at0
  rw [List.getD_eq_getElem?_getD, List.getD_eq_getElem?_getD, List.getElem?_append_left (by rw [stps_len]; exact hi)]
theorem Lng.ra (h : Lng l z) (n : Nat) {i : Nat} (hi : i < l.length) : Sb.ra (Sb.stps n (l ++ [z])) i = Sb.ra (Sb.stps n l) i := by
  unfold Sb.ra
  rw [h.at n hi, stps_len, stps_len, List.length_append, List.length_singleton]
  have hm := at0_mem (l := Sb.stps n l) (show i < (Sb.stps n l).length by rw [stps_len]; exact hi)
  have := h.dep _ (stps_mem n _ hm)
  unfold rch
  omega
theorem Lng.cl (h : Lng l z) (n : Nat) : Sb.clo (Sb.stps n (l ++ [z])) = Sb.clo (Sb.stps n l) := by
  have A := clo_is (stps_ok h.ok n).lo
  have B := clo_is (stps_ok h.ok' n).lo
  have hc : Sb.clo (Sb.stps n l) < l.length := Nat.lt_of_le_of_lt (clo_mono h.ok n) h.clo
  refine B.uniq ⟨A.lo, by rw [stps_len, List.length_append]; omega, fun i hi => ?_, fun m m1 m2 => ?_⟩
  · rw [h.ra n (by omega)]; exact A.all i hi
  · obtain ⟨i, h1, h2⟩ := A.no m m1 m2
    exact ⟨i, h1, by rw [h.ra n (by omega)]; exact h2⟩
theorem Lng.aw (h : Lng l z) (n : Nat) : Sb.aw (Sb.stps n (l ++ [z])) = Sb.aw (Sb.stps n l) := by
  have hc : Sb.clo (Sb.stps n l) < l.length := Nat.lt_of_le_of_lt (clo_mono h.ok n) h.clo
  unfold Sb.aw
  rw [h.cl n]
  refine List.filter_congr fun i hi => ?_
  rw [h.ra n (by have := List.mem_range.mp hi; omega)]
theorem Lng.hm (h : Lng l z) (n : Nat) {x : Str} (hx : x ≠ z.1) : x ∈ hmn (Sb.stps n (l ++ [z])) ↔ x ∈ hmn (Sb.stps n l) := by
  have e1 : (Sb.stps n (l ++ [z])).length = l.length + 1 := by rw [stps_len]; simp
  have e2 : (Sb.stps n l).length = l.length := stps_len l n
  have key : ∀ k : List Card, x ∈ hmn k ↔ ∃ i, i < k.length ∧ i ≤ Sb.ra k i ∧ (at0 k i).1 = x := fun k => by
    unfold hmn
    rw [List.mem_map]
    constructor
    · rintro ⟨i, hi, e⟩
      obtain ⟨a, b⟩ := List.mem_filter.mp hi
      exact ⟨i, List.mem_range.mp a, of_decide_eq_true b, e⟩
    · rintro ⟨i, a, b, e⟩
      exact ⟨i, List.mem_filter.mpr ⟨List.mem_range.mpr a, decide_eq_true b⟩, e⟩
  rw [key, key, e1, e2]
  constructor
  · rintro ⟨i, a, b, e⟩
    by_cases q : i < l.length
    · exact ⟨i, q, by rw [← h.ra n q]; exact b, by rw [← h.at n q]; exact e⟩
    · have : i = l.length := by omega
      subst this
      exfalso
      apply hx
      rw [← e, h.stps]
      unfold at0
      rw [List.getD_eq_getElem?_getD, List.getElem?_append_right (by rw [stps_len]; exact Nat.le_refl _), stps_len]
      simp
  · rintro ⟨i, a, b, e⟩
    exact ⟨i, by omega, by rw [h.ra n a]; exact b, by rw [h.at n a]; exact e⟩
end
end Sb
end
section
set_option Elab.async false
set_option linter.all false
set_option maxRecDepth 100000
set_option maxHeartbeats 4000000
namespace Sb
open PySem PySem.Spec PyProof.Rows L2
/-! ## one card away, one place beneath its reach -/
structure OneA (l : List Card) (p : Nat) : Prop where
  ok : DeckOk l
  aw : Sb.aw l = [p]
  dp : (at0 l p).2 = (p : Int) - 1
section
variable {l : List Card} {p : Nat}
theorem OneA.lo (h : OneA l p) : 1 ≤ p ∧ p < clo l ∧ p ≤ ra (stps (stl l p) l) 0 ∧ ra (stps (stl l p) l) 0 < clo l := by
  obtain ⟨h1, h2, h3⟩ := aw_head h.ok h.aw
  have B := clo_is (stps_ok h.ok (stl l p)).lo
  have := B.all 0 B.lo
  rw [str_clo h.ok h.aw (Nat.le_refl _)] at this
  exact ⟨by omega, h1, (stretch h.ok h3 h1).2, this⟩
end
/-! ## beneath the closed place -/
end Sb
end
section
set_option Elab.async false
set_option linter.all false
set_option maxRecDepth 100000
set_option maxHeartbeats 4000000
namespace Sb
open PySem PySem.Spec PyProof.Rows L2
/-! ## how many comings there are, and how far on -/
theorem Spn.far {l : List Card} (ok : DeckOk l) {g : Nat} {xs : List (Nat × Strt)} (h : Spn l g xs) : snd xs ≤ g + xs.length * 2 ^ 400 := by
  induction h with
  | last ha => show _ ≤ _; exact Nat.le_add_right _ _
  | @step g q r xs ha hx ih =>
    rw [snd_cons _ hx.ne, List.length_cons, Nat.add_mul, Nat.one_mul]
    obtain ⟨h1, h2, h3⟩ := aw_head (stps_ok ok g) ha
    have := stl_lt (stps_ok ok g) h3 h1
    omega
end Sb
end
section
set_option Elab.async false
set_option linter.all false
set_option maxRecDepth 100000
set_option maxHeartbeats 4000000
/-! Two decks beside each other: what the stretches tell, whatever the law. -/
namespace Sb
open PySem PySem.Spec PyProof.Rows L2
variable {K : PySem.W.Frag} {S : Sto}
theorem Spn.row {l : List Card} (ok : DeckOk l) {g : Nat} {xs : List (Nat × Strt)} (h : Spn l g xs) : ∀ s, g ≤ s → ∃ g' q o, (xs.filter fun y => decide (y.1 ≤ s)).getLast? = some (g', stps g' l, q, o) ∧ g' ≤ s ∧ HomeTo (stps g' l) q ∧ Within (stps g' l) q (s - g') := by
  induction h with
  | @last g ha =>
    intro s hs
    obtain ⟨h1, h2⟩ := aw_nil (stps_ok ok g) ha
    exact ⟨g, clo (stps g l) - 1, none, by simp [hs], hs, h1, h2 _⟩
  | @step g q r xs ha hr ih =>
    intro s hs
    obtain ⟨h1, h2, h3⟩ := aw_head (stps_ok ok g) ha
    obtain ⟨hb, _⟩ := stretch (stps_ok ok g) h3 h1
    by_cases q1 : s < g + (stl (stps g l) q + 1)
    · refine ⟨g, q, some (stl (stps g l) q + 1), ?_, hs, h3, fun t ht => .inl (hb t (by omega))⟩
      have : xs.filter (fun y => decide (y.1 ≤ s)) = [] := List.filter_eq_nil_iff.mpr fun y hy => by
        have := (hr.all y hy).2
        simp; omega
      rw [List.filter_cons, if_pos (by simpa using hs), this]
      rfl
    · obtain ⟨g', q', o, e, i1, i2, i3⟩ := ih s (by omega)
      refine ⟨g', q', o, ?_, i1, i2, i3⟩
      rw [List.filter_cons, if_pos (by simpa using hs), List.getLast?_cons, e]
      rfl
/-! ## sorted({..}) over data -/
end Sb
end
section
set_option Elab.async false
set_option linter.all false
set_option maxRecDepth 100000
set_option maxHeartbeats 4000000
namespace Sb
open PySem PySem.Spec PyProof.Rows L2
variable {K : PySem.W.Frag} {S : Sto}
/-! ## how long a round is -/
/-! ## behind a round all is the same -/
/-! ## shares -/
end Sb
end
section
set_option Elab.async false
set_option linter.all false
set_option maxRecDepth 100000
set_option maxHeartbeats 4000000
namespace Sb
open PySem PySem.Spec PyProof.Rows L2
/-! ## by how many steps rows turn into others -/
def Spec (ps as : List Pat) : Option Nat → Prop
  | some r => trn ps r = as ∧ ∀ n, trn ps n = as → r ≤ n
  | none => ∀ n, trn ps n ≠ as
/-! ## decks -/
end Sb
end
section
set_option Elab.async false
set_option linter.all false
set_option maxRecDepth 100000
set_option maxHeartbeats 4000000
/-! Rows beside each other: where they are unlike, unlike names are shown. -/
namespace Sb
open PySem PySem.Spec PyProof.Rows L2
variable {K : PySem.W.Frag} {S : Sto}
/-- each row has the holes of its level, and the next one is as long as they are many, and one more; the last one has none -/
def ChR : List Pat → Prop
  | [] => True
  | p :: r => 1 ≤ p.length ∧ (∀ x : Str, p.count (some x) ≤ 1) ∧ (match r with
    | [] => p.count none = 0
    | p' :: _ => 1 ≤ p.count none ∧ p'.length = p.count none + 1) ∧ ChR r
/-! ## the first unlike level -/
theorem ChR.len : ∀ {a : List Pat} {p q : Pat} {r s : List Pat}, ChR (a ++ p :: r) → ChR (a ++ q :: s) → (a = [] → p.length = q.length) → p.length = q.length
  | [], _, _, _, _, _, _, h => h rfl
  | x :: a, p, q, r, s, hp, hq, _ => by
    obtain ⟨_, _, m1, c1⟩ := hp
    obtain ⟨_, _, m2, c2⟩ := hq
    refine ChR.len c1 c2 fun e => ?_
    subst e
    rw [m1.2, m2.2]
/-! ## the rows of a deck -/
end Sb
end
section
set_option Elab.async false
set_option linter.all false
set_option maxRecDepth 100000
set_option maxHeartbeats 4000000
namespace Sb
open PySem PySem.Spec PyProof.Rows L2
end Sb
end
section
set_option Elab.async false
set_option linter.all false
set_option maxRecDepth 100000
set_option maxHeartbeats 4000000
/-! steps of decks of at most 25 cards -/
namespace Sb
open PySem PySem.Spec PyProof.Rows L2
end Sb
end
section
set_option Elab.async false
set_option linter.all false
set_option maxRecDepth 100000
set_option maxHeartbeats 4000000
namespace K53
open PySem PySem.Spec PyProof.Rows L2 Sb
variable {K : PySem.W.Frag} {S : Sto}
theorem gIndex_strs {xs : List Str} {x : Str} (hx : ∀ y ∈ xs, Nm y) (hn : Nm x) (h : xs.findIdx (fun z => decide (z = x)) < xs.length) : gIndex (.fl (xs.map D.str)) [.str x] S = some (.int (xs.findIdx (fun z => decide (z = x)) : Nat), S) := by
  have tp : toPy 8 S (.fl (xs.map D.str)) = some (.list (xs.map PyData.str)) := toPy_fnames 6 S xs
  have sh := shp_names hx
  have t1 : toPy 8 S (.str x) = some (.str x) := rfl
  have s1 := shp_str hn
  have fi : (xs.map PyData.str).findIdx (fun z => PyData.eqv z (.str x)) = xs.findIdx (fun z => decide (z = x)) := by
    clear h tp sh hx
    induction xs with
    | nil => rfl
    | cons a r ih => simp only [List.map_cons, List.findIdx_cons, eqv_str, ih]
  simp only [gIndex, tp, t1, sh, s1, fi, List.length_map, h, and_self, true_and, if_true]
theorem idx_of {m : List Card} (ok : DeckOk m) {x : Str} {j : Nat} (hj : j < m.length) (hx : m[j].1 = x) : (m.map (·.1)).findIdx (fun z => decide (z = x)) = j := by
  have hlt : (m.map (·.1)).findIdx (fun z => decide (z = x)) < (m.map (·.1)).length := List.findIdx_lt_length_of_exists ⟨x, List.mem_map.mpr ⟨m[j], List.getElem_mem hj, hx⟩, decide_eq_true rfl⟩
  have h1 := List.findIdx_getElem (w := hlt)
  have h2 := of_decide_eq_true h1
  have e : (m.map (·.1))[(m.map (·.1)).findIdx (fun z => decide (z = x))]'hlt = (m.map (·.1))[j]'(by simpa using hj) := by rw [h2, List.getElem_map, hx]
  exact (List.getElem_inj ok.nd).mp e
theorem beneath_ok {m : List Card} (w : Wf S) (ok : DeckOk m) {x : Str} {j : Nat} (hj : j < m.length) (hx : m[j].1 = x) : M_bag_beneath [dK m, .str x] S = some (.ok (.bl (decide (clo m ≤ j))) S) := by
  have nmx : Nm x := hx ▸ ok.nm _ (List.getElem_mem hj)
  have e := lc_pu (fi := iSeq (eVar 0)) (g := tN2 2 3) (t := tAll) (fe := eVar 2) (vs := [2, 3]) (τ := [some (dK m), some (.str x), none, none]) (S := S) (ds := m.map dC)
    (fun _ => true) (fun d => match d with | .tup [y, _] => y | _ => .non) w (iSeq_ok rfl wk_tup) wks_ds (by have := ok.hi; rw [List.length_map]; omega)
    (fun d hd _ => by obtain ⟨c, _, rfl⟩ := List.mem_map.mp hd; rfl)
    (fun d hd S' _ _ => by
      obtain ⟨c, hc, rfl⟩ := List.mem_map.mp hd
      exact ⟨_, rfl, rfl, fun _ => rfl⟩)
  rw [filter_tt, List.map_map] at e
  have en : m.map ((fun d => match d with | .tup [y, _] => y | _ => D.non) ∘ dC) = (m.map (·.1)).map D.str := by rw [List.map_map]; rfl
  rw [en] at e
  have hi := idx_of ok hj hx
  have gi := gIndex_strs (S := S) (xs := m.map (·.1)) (x := x) (fun y hy => by
    obtain ⟨c, hc, rfl⟩ := List.mem_map.mp hy
    exact ok.nm c hc) nmx (by rw [hi]; simpa using hj)
  rw [hi] at gi
  refine fnM_rt (sRt_ok (eB_ok (eBM_ok e rfl (a1_ok rfl) gi) (eCl_ok (a1_ok rfl) rfl (bag_closed_ok w ok)) (gGe_i.trans ?_)))
  congr 3
  exact decide_eq_decide.mpr (by omega)
theorem so_ok {b : Bool} : M_bag_so [.bl b, .bl b] S = some (.ok (.bl true) S) := by
  refine fnM_rt (sRt_ok (eAnd_t (d := .bl true) (eIs_ok rfl rfl rfl) rfl ?_))
  exact eB_ok rfl rfl (gEq_self (d := .bl b) (p := .bool b) rfl rfl)
/-- the first of the numbers below N -/
theorem first_take {P : Nat → Bool} {s0 N : Nat} (h0 : s0 < N) (hp : P s0 = true) (hno : ∀ s, s < s0 → P s = false) : ((List.range N).filter P).take 1 = [s0] := by
  rw [List.take_one, List.head?_filter]
  have : (List.range N).find? P = some s0 := by
    rw [List.find?_range_eq_some]
    exact ⟨hp, List.mem_range.mpr h0, fun j hj => by rw [hno j hj]; rfl⟩
  rw [this]; rfl
theorem none_take {P : Nat → Bool} {N : Nat} (h : ∀ s, s < N → P s = false) : ((List.range N).filter P).take 1 = [] := by
  rw [List.filter_eq_nil_iff.mpr fun s hs => by rw [h s (List.mem_range.mp hs)]; decide]
  rfl
/-- the first step at which a name lies beneath, if it comes within N -/
theorem least_is {l : List Card} {x : Str} (ok : DeckOk l) (N : Nat) : ((List.range N).filter (bnt l x)).take 1 = match nvr' l x with | none => [] | some z => if z.1 < N then [z.1] else [] := by
  have h := nvS_is (x := x) ok (spans_is ok)
  unfold nvr'
  cases e : nvS x (spans l) with
  | none =>
    rw [e] at h
    exact none_take fun s _ => h s (Nat.zero_le _)
  | some z =>
    rw [e] at h
    obtain ⟨_, h2, _, h4⟩ := h
    show _ = if z.1 < N then [z.1] else []
    split
    · rename_i q
      exact first_take q h2 fun s hs => h4 s (Nat.zero_le _) hs
    · rename_i q
      exact none_take fun s hs => h4 s (Nat.zero_le _) (by omega)
theorem some_rng {c m : Nat} (h : c < m) : (List.range m).filter (fun i => decide (c = i)) = [c] := by
  have nd : ((List.range m).filter fun i => decide (c = i)).Nodup := List.nodup_range.filter _
  refine List.perm_singleton.mp ((List.perm_ext_iff_of_nodup nd (by simp)).mpr fun a => ?_)
  simp only [List.mem_filter, List.mem_range, decide_eq_true_eq, List.mem_singleton]
  omega
abbrev rowD (l : List Card) (N : Nat) : List D := (List.range N).map fun i => dK (stps i l)
theorem row_at {l : List Card} {N i : Nat} (h : i < N) : (rowD l N)[i]? = some (dK (stps i l)) := by
  rw [List.getElem?_map, List.getElem?_range h]; rfl
/-! ## one name -/
structure Here (n p k : Nat) (l : List Card) (S : Sto) : Prop where
  bag : Bag n k S
  row : S[p]? = some (.lst (rowD l 201))
  wf : Wf S
theorem Here.on {n p k k' : Nat} {l : List Card} {S S' : Sto} (h : Here n p k l S) (hp : p ≠ n) (b : Bag n k' S') (m : Sm n S S') (w : Wf S') : Here n p k' l S' := ⟨b, m.get h.row hp, w⟩
theorem th1_tup {ds : List D} (h : ds.length ≤ 1000) (h2 : ∀ x ∈ ds, Pl x = true) : Th1 (.tup ds) := ⟨rfl, fun es e => by cases e; exact ⟨h, h2⟩⟩
theorem th1_fl {ds : List D} (h : ds.length ≤ 1000) (h2 : ∀ x ∈ ds, Pl x = true) : Th1 (.fl ds) := ⟨rfl, fun es e => by cases e; exact ⟨h, h2⟩⟩
theorem th1_pl {d : D} (h : Pl d = true) (h2 : seqO d = none) : Th1 d := ⟨h, fun es e => by rw [h2] at e; cases e⟩
theorem pl2 {a b : Int} : ∀ x ∈ [D.int a, D.int b], Pl x = true := fun x hx => by
  simp only [List.mem_cons, List.not_mem_nil, or_false] at hx
  rcases hx with rfl | rfl <;> rfl
theorem four_ok {n k j : Nat} {τ : Sl} {S : Sto} (w : Wf S) (h0 : τ[j]? = some (some (.loc n))) (h : Bag n k S) (hk : k < 2 ^ 39) :
    ∃ (v : Int) (S' : Sto), eB gIx (fz (eLst (aCons (eC (.int 0)) (aCons (eC (.int 0)) (aCons (eC (.int 1)) (aCons (eNeg (eC (.int 1))) (aNil))))))) (eCl M_bag_draw 2 (aCons (eVar j) (aCons (eC (.int 4)) aNil))) τ S = some (.ok (.int v) S') ∧ -1 ≤ v ∧ v ≤ 1 ∧ Bag n (k + 1) S' ∧ Sm n S S' ∧ Wf S' := by
  have E := fz_list (τ := τ) (S := S) (S1 := S) (r := aCons (eC (.int 0)) (aCons (eC (.int 0)) (aCons (eC (.int 1)) (aCons (eNeg (eC (.int 1))) (aNil))))) (ds := [.int 0, .int 0, .int 1, .int (-1)]) (aCons_ok rfl (a3_ok rfl rfl rfl)) rfl w (by simp) rfl
  obtain ⟨v, S1, e1, b1, sp1, sm1, w1⟩ := bag_drw (S := S) (j := j) (τ := τ) (fm := eC (.int 4)) (b := 4) w h0 rfl h (by omega) (by omega) (by decide)
  have hv : v = 0 ∨ v = 1 ∨ v = 2 ∨ v = 3 := by omega
  rcases hv with rfl | rfl | rfl | rfl
  · exact ⟨0, S1, eB_ok E e1 (ix_seq' (c := "list") (i := 0) (ds := [.int 0, .int 0, .int 1, .int (-1)]) rfl rfl rfl), by omega, by omega, sp1, sm1, w1⟩
  · exact ⟨0, S1, eB_ok E e1 (ix_seq' (c := "list") (i := 1) (ds := [.int 0, .int 0, .int 1, .int (-1)]) rfl rfl rfl), by omega, by omega, sp1, sm1, w1⟩
  · exact ⟨1, S1, eB_ok E e1 (ix_seq' (c := "list") (i := 2) (ds := [.int 0, .int 0, .int 1, .int (-1)]) rfl rfl rfl), by omega, by omega, sp1, sm1, w1⟩
  · exact ⟨-1, S1, eB_ok E e1 (ix_seq' (c := "list") (i := 3) (ds := [.int 0, .int 0, .int 1, .int (-1)]) rfl rfl rfl), by omega, by omega, sp1, sm1, w1⟩
/-- the things that are no paper of never -/
def odds (x : Str) : List D := [.non, .int 0, .str "", .tup [], .fl [], .tup [.int 0], .tup [.int 0, .int 1, .int 2], .tup [.bl true, .int 1], .tup [.int 0, .bl true], .tup [.int (-1), .int 1], .tup [.str "0", .int 1], .fd [] [], .tup [.tup [.int 0, .int 1]], .str x]
theorem odds_ok {x : Str} {l : List Card} : ∀ p ∈ odds x, Th1 p ∧ (∀ z, num2 p = some z → z.1 < 2 ^ 1000) ∧ shN l x (num2 p) = false := fun p hp => by
  simp only [odds, List.mem_cons, List.not_mem_nil, or_false] at hp
  have no : ∀ {q : D}, num2 q = none → (∀ z, num2 q = some z → z.1 < 2 ^ 1000) ∧ shN l x (num2 q) = false := fun {q} e => by
    rw [e]
    exact ⟨fun z h => (by cases h), rfl⟩
  have al : ∀ {ds : List D}, ds.all Pl = true → ∀ x ∈ ds, Pl x = true := fun h => List.all_eq_true.mp h
  rcases hp with rfl | rfl | rfl | rfl | rfl | rfl | rfl | rfl | rfl | rfl | rfl | rfl | rfl | rfl
  · exact ⟨th1_pl rfl rfl, no rfl⟩
  · exact ⟨th1_pl rfl rfl, no rfl⟩
  · exact ⟨th1_pl rfl rfl, no rfl⟩
  · exact ⟨th1_tup (by simp) (al rfl), no rfl⟩
  · exact ⟨th1_fl (by simp) (al rfl), no rfl⟩
  · exact ⟨th1_tup (by simp) (al rfl), no rfl⟩
  · exact ⟨th1_tup (by simp) (al rfl), no rfl⟩
  · exact ⟨th1_tup (by simp) (al rfl), no rfl⟩
  · exact ⟨th1_tup (by simp) (al rfl), no rfl⟩
  · refine ⟨th1_tup (by simp) (al rfl), fun z h => ?_, rfl⟩
    cases h
    decide
  · exact ⟨th1_tup (by simp) (al rfl), no rfl⟩
  · exact ⟨th1_pl rfl rfl, no rfl⟩
  · exact ⟨th1_tup (by simp) (al rfl), no rfl⟩
  · exact ⟨th1_pl rfl rfl, no rfl⟩
theorem deck2_ok {n k : Nat} {τ : Sl} (w : Wf S) (h : Bag n k S) (hk : k < 2 ^ 37) (h0 : τ[1]? = some (some (.loc n))) :
    ∃ (l : List Card) (S' : Sto), eB gIx (fz (eLst (aCons (fz (eCl (M_bag_deck) 2 (aCons (eVar 1) (aCons (eC (.int 7)) (aNil))))) (aCons (fz (eCl (M_bag_settled) 2 (aCons (eVar 1) (aCons (eC (.int 10)) (aNil))))) (aNil))))) (eCB gInt (aCons (eB (gEq false) (eCl (M_bag_draw) 2 (aCons (eVar 1) (aCons (eC (.int 3)) (aNil)))) (eC (.int 0))) (aNil))) τ S = some (.ok (dK l) S') ∧
      DeckOk l ∧ l.length ≤ 10 ∧ (∀ c ∈ l, c.2 < 10 ^ 30) ∧ Bag n (k + 801) S' ∧ Sm n S S' ∧ Wf S' := by
  obtain ⟨S1, l1, e1, ok1, hl1, hb1, b1, m1, w1⟩ := bag_deck_fz (n := n) (k := k) (most := 7) (τ := τ) (a := aCons (eVar 1) (aCons (eC (.int 7)) (aNil))) (S := S) (S0 := S) rfl w h (by omega) (by omega) (by omega) (a2_ok (eVar_at h0) rfl)
  obtain ⟨S2, l2, e2, ok2, hl2, _, hb2, b2, m2, w2⟩ := settled_fz (n := n) (k := k + 400) (most := 10) (τ := τ) (a := aCons (eVar 1) (aCons (eC (.int 10)) (aNil))) (S := S1) (S0 := S1) rfl w1 b1 (by omega) (by omega) (by omega) (a2_ok (eVar_at h0) rfl)
  have E := fz_list (τ := τ) (S := S) (S1 := S2) (ds := [dK l1, dK l2]) (a2_ok e1 e2) (m2.len.trans m1.len) w2 (by simp) (by simp only [bds, bd_dK, Bool.and_self])
  obtain ⟨v, S3, e3, hv, b3, m3, w3⟩ := bag_drw (S := S2) (j := 1) (τ := τ) (fm := eC (.int 3)) (b := 3) w2 h0 rfl b2 (by omega) (by omega) (by decide)
  have g0 : gEq false (.int (v : Nat)) (.int ((0 : Nat) : Nat)) S3 = some (.bl (decide (v = 0)), S3) := gEq_nat.trans (by simp)
  have e4 : (eCB gInt (aCons (eB (gEq false) (eCl (M_bag_draw) 2 (aCons (eVar 1) (aCons (eC (.int 3)) (aNil)))) (eC (.int 0))) (aNil))) τ S2 = some (.ok (.int ((if decide (v = 0) then 1 else 0 : Nat) : Nat)) S3) := eCB_ok (a1_ok (eB_ok e3 rfl g0)) gInt_bl
  by_cases q : v = 0
  · rw [decide_eq_true q] at e4
    refine ⟨l2, S3, eB_ok E e4 (ix_seq' (c := "list") (i := 1) (ds := [dK l1, dK l2]) rfl rfl rfl), ok2, hl2, fun c hc => ?_, b3, m1.trans (m2.trans m3), w3⟩
    have := hb2 c hc
    have e1 : (10 : Int) ^ 29 = 100000000000000000000000000000 := by decide
    have e2 : (10 : Int) ^ 30 = 1000000000000000000000000000000 := by decide
    omega
  · rw [decide_eq_false q] at e4
    exact ⟨l1, S3, eB_ok E e4 (ix_seq' (c := "list") (i := 0) (ds := [dK l1, dK l2]) rfl rfl rfl), ok1, by omega, hb1, b3, m1.trans (m2.trans m3), w3⟩
theorem gIx_nv {z : Nat × Nat} : gIx (nvD (some z)) (.int 0) S = some (.int (z.1 : Nat), S) := rfl
theorem law_ok {d : D} {ns : List Int} (hd : seqD S d = some (ns.map D.int)) (hs : ∀ X, seqD (S ++ X) d = some (ns.map D.int)) (ht : ∀ ds, d ≠ .tup ds ∧ d ≠ .fl ds) (hx : ∀ X, gLenX [d] (S ++ X) = some (.int ns.length, S ++ X)) (w : Wf S) : ∃ S', M_law K [d] S = some (.ok (.bl true) S') := by
  obtain ⟨o, e1, sp, wX⟩ := bag_bag_ok hd ht w
  have hz := sizeLine_eq
  refine law_ws ?_
  refine ws_set (eCl_ok (a1_ok rfl) rfl e1) ?_
  generalize hn : S.length = n at *
  obtain ⟨T, hT, eT⟩ := turnsB (τ := [some d, some (.loc n), none, none, none, none, none, none, none, none, none, none, none, none, none, none, none, none]) (i := 0) 2 5 (by decide) (hx [o]) rfl
  refine ws_for T (fun i τ S' => ∃ x2 x3 x4 x5 x6 x7 x8 x9 x10 x11 x12 x13 x14 x15 x16 x17, τ = [some d, some (.loc n), x2, x3, x4, x5, x6, x7, x8, x9, x10, x11, x12, x13, x14, x15, x16, x17] ∧ Bag n (1000 * i) S' ∧ Wf S') (fun i => .int (i : Nat)) eT (Nat.le_refl _) ⟨none, none, none, none, none, none, none, none, none, none, none, none, none, none, none, none, rfl, sp, wX⟩ ?_ (fun _ _ _ => rg_end) ?_
  · rintro i τ S1 hi ⟨x2, x3, x4, x5, x6, x7, x8, x9, x10, x11, x12, x13, x14, x15, x16, x17, rfl, sp1, w1⟩
    refine ⟨rg_nxt hi, _, rfl, ?_⟩
    obtain ⟨l, S2, e2, ok, hl, hb, b2, m2, w2⟩ := deck2_ok (τ := [some d, some (.loc n), some (.int (i : Nat)), x3, x4, x5, x6, x7, x8, x9, x10, x11, x12, x13, x14, x15, x16, x17]) w1 sp1 (by omega) rfl
    refine ws_set e2 ?_
    have hnl : n < S2.length := bag_src.lt b2
    -- the line
    refine ws_set (eLst_ok (ds := [dK l]) (a1_ok rfl) (by simp)) ?_
    obtain ⟨p, hp⟩ : ∃ p, S2.length = p := ⟨_, rfl⟩
    rw [hp]
    have hpn : p ≠ n := by omega
    have bagx : ∀ ob : Ob, Bag n (1000 * i + 801) (S2 ++ [ob]) := fun ob => bag_src.fr b2 (List.getElem?_append_left hnl)
    refine ws_for 200 (fun j τ S' => S' = S2 ++ [.lst (rowD l (j + 1))] ∧ ∃ y5, τ = [some d, some (.loc n), some (.int (i : Nat)), some (dK l), some (.loc p), y5, x6, x7, x8, x9, x10, x11, x12, x13, x14, x15, x16, x17]) (fun j => .int (j : Nat)) (iRg1_ok (n := 200) (a1_ok rfl) (by omega)) (Nat.le_refl _) ⟨rfl, x5, rfl⟩ ?_ (fun _ _ _ => rg_end) ?_
    · rintro j τ S' hj ⟨rfl, y5, rfl⟩
      refine ⟨rg_nxt hj, _, rfl, ?_⟩
      have okj := stps_ok ok j
      have g1 : (S2 ++ [.lst (rowD l (j + 1))] : Sto)[S2.length]? = some (.lst (rowD l (j + 1))) := get_last _ _
      have il : gIx (.loc S2.length) (.int (-1)) (S2 ++ [.lst (rowD l (j + 1))]) = some (dK (stps j l), S2 ++ [.lst (rowD l (j + 1))]) := ix_lastL g1 (by unfold rowD; rw [List.range_succ, List.map_append, List.getLast?_append]; rfl)
      have hlen : (rowD l (j + 1)).length < sizeLine := by rw [List.length_map, List.length_range]; omega
      rw [← hp]
      refine ⟨_, _, sEx_ok (eBM_ok rfl (ty_list g1) (a1_ok (eCl_ok (a1_ok (eB_ok rfl rfl il)) rfl (bag_slid_ok okj))) (app_last hlen)), ?_, _, rfl⟩
      show S2 ++ [Ob.lst (rowD l (j + 1) ++ [dK (stp (stps j l))])] = S2 ++ [.lst (rowD l (j + 1 + 1))]
      have e : stp (stps j l) = stps (j + 1) l := by rw [← stps_add l j 1]; rfl
      rw [e]
      unfold rowD
      rw [List.range_succ (n := j + 1), List.map_append]; rfl
    rintro τ S3 ⟨rfl, y5, rfl⟩
    have w3 : Wf (S2 ++ [.lst (rowD l 201)]) := wf_app w2 (by
      show bdO _ (.lst (rowD l 201)) = true
      exact bds_map fun _ _ => bd_dK)
    have row3 : (S2 ++ [.lst (rowD l 201)] : Sto)[p]? = some (.lst (rowD l 201)) := by rw [← hp]; exact get_last _ _
    obtain ⟨dd, S4, e4, hdd, b4, m4, w4⟩ := bag_dressed_ok (l := l) w3 (bagx _) (by omega) ok.hi
    refine ws_set (eCl_ok (a2_ok rfl rfl) rfl e4) ?_
    have here4 : Here n p (1000 * i + 802) l S4 := ⟨b4, m4.get row3 hpn, w4⟩
    -- the names
    have eN := lc_pu (fi := iSeq (eVar 3)) (g := tN 8) (t := tAll) (fe := eB gIx (eVar 8) (eC (.int 0))) (vs := [8]) (τ := [some d, some (.loc n), some (.int (i : Nat)), some (dK l), some (.loc p), y5, some dd, x7, x8, x9, x10, x11, x12, x13, x14, x15, x16, x17]) (S := S4) (ds := l.map dC)
      (fun _ => true) (fun d => match d with | .tup [y, _] => y | _ => .non) w4 (iSeq_ok rfl wk_tup) wks_ds (by rw [List.length_map]; omega)
      (fun d hd _ => by obtain ⟨c, _, rfl⟩ := List.mem_map.mp hd; rfl)
      (fun d hd S' _ _ => by
        obtain ⟨c, hc, rfl⟩ := List.mem_map.mp hd
        exact ⟨_, rfl, rfl, fun _ => eB_ok rfl rfl ix_name⟩)
    rw [filter_tt, List.map_map] at eN
    have en : l.map ((fun d => match d with | .tup [y, _] => y | _ => D.non) ∘ dC) = (l.map (·.1)).map D.str := by rw [List.map_map]; rfl
    rw [en] at eN
    refine ws_for1 l.length (fun j τ S' => (∃ y5 y7 y8 y9 y10 y11 y12 y13 y14 y15 y16 y17, τ = [some d, some (.loc n), some (.int (i : Nat)), some (dK l), some (.loc p), y5, some dd, y7, y8, y9, y10, y11, y12, y13, y14, y15, y16, y17]) ∧ Here n p (1000 * i + 802 + 9 * j) l S') (fun j => .str (at0 l j).1) (iSeq_ok eN wk_fl) (by show _ ≤ ((l.map (·.1)).map D.str).length; simp) ⟨⟨_, _, _, _, _, _, _, _, _, _, _, _, rfl⟩, here4⟩ ?_ (fun _ _ _ => by show some (((l.map (·.1)).map D.str)[l.length]?) = _; simp) ?_
    · rintro j τ S5 hj ⟨⟨y5, y7, y8, y9, y10, y11, y12, y13, y14, y15, y16, y17, rfl⟩, h5⟩
      have gd : (at0 l j).1 = l[j].1 := by rw [at0_eq hj]
      rw [gd]
      refine ⟨by show some (((l.map (·.1)).map D.str)[j]?) = _; rw [List.getElem?_map, List.getElem?_map, List.getElem?_eq_getElem hj]; rfl, _, rfl, ?_⟩
      obtain ⟨x, hx⟩ : ∃ x, l[j].1 = x := ⟨_, rfl⟩
      rw [hx]
      have w5 := h5.wf
      have hk5 : 1000 * i + 802 + 9 * j + 9 < 2 ^ 37 := by omega
      have bnS : ∀ {T : Sto} {s : Nat}, Wf T → s < 201 → M_bag_beneath [dK (stps s l), .str x] T = some (.ok (.bl (bnt l x s)) T) := fun {T s} wT hs => by
        obtain ⟨q, hq, hqx⟩ := has_pos hj hx s
        rw [bnt_pos ok hq hqx]
        exact beneath_ok wT (stps_ok ok s) hq hqx
      have at_ : ∀ {T : Sto} {s : Nat}, T[p]? = some (.lst (rowD l 201)) → s < 201 → gIx (.loc p) (.int (s : Nat)) T = some (dK (stps s l), T) := fun {T s} hT hs => ix_loc hT (row_at hs)
      have hplt : p < S5.length := (List.getElem?_eq_some_iff.mp h5.row).1
      -- least
      have eL := lc_pu (fi := iRg1 (aCons (eC (.int 200)) (aNil))) (g := tN 5) (t := tB (eCl (M_bag_beneath) 2 (aCons (eB gIx (eVar 4) (eVar 5)) (aCons (eVar 7) (aNil))))) (fe := eVar 5) (vs := [5]) (τ := [some d, some (.loc n), some (.int (i : Nat)), some (dK l), some (.loc p), y5, some dd, some (.str x), y8, y9, y10, y11, y12, y13, y14, y15, y16, y17]) (S := S5) (ds := (List.range 200).map fun i : Nat => D.int i)
        (fun d => match d with | .int z => bnt l x z.toNat | _ => false) id w5 (iRg1_ok (n := 200) (a1_ok rfl) (by omega)) wks_rg (by simp)
        (fun d hd _ => by obtain ⟨i, _, rfl⟩ := List.mem_map.mp hd; rfl)
        (fun d hd S'' w'' ⟨X, hX⟩ => by
          obtain ⟨s, hs, rfl⟩ := List.mem_map.mp hd
          have hs' := List.mem_range.mp hs
          have hr : S''[p]? = some (.lst (rowD l 201)) := by rw [hX, List.getElem?_append_left hplt]; exact h5.row
          exact ⟨_, rfl, tB_ok (eCl_ok (a2_ok (eB_ok rfl rfl (at_ hr (by omega))) rfl) rfl (bnS w'' (by omega))), fun _ => rfl⟩)
      rw [List.map_id, List.filter_map] at eL
      have eL2 : (fun d => match d with | .int z => bnt l x z.toNat | _ => false) ∘ (fun i : Nat => D.int i) = bnt l x := rfl
      rw [eL2] at eL
      obtain ⟨L, hL⟩ : ∃ L, ((List.range 200).filter (bnt l x)).take 1 = L := ⟨_, rfl⟩
      have least := least_is (x := x) ok 200
      rw [hL] at least
      have eC1 : gSl (.fl (((List.range 200).filter (bnt l x)).map fun i : Nat => D.int i)) none (some ((1 : Nat) : Int)) S5 = some (.fl (L.map fun i : Nat => D.int i), S5) := by rw [cut_fl, ← List.map_take, hL]
      refine ws_set (eSl_ok eL rfl (oSo_ok rfl) eC1) ?_
      refine ws_set (eCl_ok (a2_ok rfl rfl) rfl (never_paper_ok w5 (hdd.deck _) ok hj hx)) ?_
      have nvf := nvS_is (x := x) ok (spans_is ok)
      have nvr_eq : nvS x (spans l) = nvr' l x := rfl
      rw [nvr_eq] at nvf
      generalize nvr' l x = R at *
      let τA : Sl := [some d, some (.loc n), some (.int (i : Nat)), some (dK l), some (.loc p), y5, some dd, some (.str x), y8, some (.fl (L.map fun i : Nat => D.int i)), some (nvD R), y11, y12, y13, y14, y15, y16, y17]
      have ne_nil : ∀ {τ : Sl} {T : Sto}, Wf T → τ[9]? = some (some (.fl (L.map fun i : Nat => D.int i))) → (tB (eB (gEq true) (eVar 9) (fz (eLst (aNil))))) τ T = some (.ok (decide (L ≠ [])) T) := fun {τ T} wT h9 => by
        refine tB_ok (eB_ok (eVar_at h9) (fz_list aNil_ok rfl wT (by simp) rfl) ?_)
        have := ne_nats (S := T) (ns := L)
        unfold natL at this
        rw [List.map_map] at this
        exact this
      have eq_nil : ∀ {τ : Sl} {T : Sto}, Wf T → τ[9]? = some (some (.fl (L.map fun i : Nat => D.int i))) → (tB (eB (gEq false) (eVar 9) (fz (eLst (aNil))))) τ T = some (.ok (decide (L = [])) T) := fun {τ T} wT h9 => by
        refine tB_ok (eB_ok (eVar_at h9) (fz_list aNil_ok rfl wT (by simp) rfl) ?_)
        have := gEq_nats (S := T) (ns := L)
        unfold natL at this
        rw [List.map_map] at this
        exact this
      -- as least
      have clo40 : ∀ s, clo (stps s l) ≤ 40 := fun s => Nat.le_trans (clo_le (stps_ok ok s)) (stps_ok ok s).hi
      have cases2 : (L = [] ∧ ∀ z, R = some z → 200 ≤ z.1) ∨ ∃ s0, L = [s0] ∧ s0 < 200 ∧ R = some (s0, clo (stps s0 l)) ∧ bnt l x s0 = true := by
        cases R with
        | none => exact .inl ⟨least, fun z h => by cases h⟩
        | some z =>
          obtain ⟨_, f2, f3, _⟩ := nvf
          by_cases q : z.1 < 200
          · have : L = [z.1] := by rw [least]; exact if_pos q
            exact .inr ⟨z.1, this, q, by rw [← f3], f2⟩
          · have : L = [] := by rw [least]; exact if_neg q
            exact .inl ⟨this, fun y h => by cases h; omega⟩
      have tA1 : (tAn (tB (eB (gEq true) (eVar 9) (fz (eLst (aNil))))) (tB (eB (gEqS true) (eCB gReprX (aCons (eVar 10) (aNil))) (eCB gReprX (aCons (eTup (aCons (eB gIx (eVar 9) (eC (.int 0))) (aCons (eCl (M_bag_closed) 1 (aCons (eB gIx (eVar 4) (eB gIx (eVar 9) (eC (.int 0)))) (aNil))) (aNil)))) (aNil)))))) τA S5 = some (.ok false S5) := by
        have t1 := ne_nil (τ := τA) w5 rfl
        rcases cases2 with ⟨hL0, _⟩ | ⟨s0, hL0, hs0, hR, hbn⟩
        · rw [hL0] at t1
          exact an_f t1
        · rw [decide_eq_true (by rw [hL0]; simp)] at t1
          refine (an_t t1 ?_).trans rfl
          have i9 : eB gIx (eVar 9) (eC (.int 0)) τA S5 = some (.ok (.int (s0 : Nat)) S5) := eB_ok rfl rfl (ix_seq' (c := "list") (i := 0) (ds := L.map fun i : Nat => D.int i) rfl rfl (by rw [hL0]; rfl))
          have hrp : Rp (nvD R) 402 1 := by
            rw [hR]
            exact (Rp.seq (n := 2) (w := 200) (k := 0) (ds := [.int (s0 : Nat), .int (clo (stps s0 l) : Nat)]) (fun y hy => by
              simp only [List.mem_cons, List.not_mem_nil, or_false] at hy
              rcases hy with rfl | rfl
              · exact Rp.int (by rw [Int.natAbs_natCast]; exact Nat.lt_trans hs0 (by decide))
              · exact Rp.int (by rw [Int.natAbs_natCast]; exact Nat.lt_of_le_of_lt (clo40 s0) (by decide))) (by simp)).1
          obtain ⟨tr, etr⟩ := hrp.repr (by omega) (by omega) (.inl (by rw [hR]; exact ⟨_, rfl⟩))
          have hRd : nvD R = .tup [.int (s0 : Nat), .int (clo (stps s0 l) : Nat)] := by rw [hR]; rfl
          have r2 := etr S5
          refine tB_ok (eB_ok (eCB_ok (a1_ok rfl) (etr S5)) (eCB_ok (a1_ok (eTup_ok (a2_ok i9 (eCl_ok (a1_ok (eB_ok rfl i9 (at_ h5.row (by omega)))) rfl (bag_closed_ok w5 (stps_ok ok s0)))) (by simp))) (by rw [← hRd]; exact r2)) gEqS_same)
      refine ws_no tA1 ?_
      have tA2 : (tAn (tB (eB (gEq false) (eVar 9) (fz (eLst (aNil))))) (tAn (tB (eB (gIsN true) (eVar 10) (eC .non))) (tB (eB gLtI (eB gIx (eVar 10) (eC (.int 0))) (eC (.int 200)))))) τA S5 = some (.ok false S5) := by
        have t1 := eq_nil (τ := τA) w5 rfl
        rcases cases2 with ⟨hL0, hR⟩ | ⟨s0, hL0, hs0, hR, hbn⟩
        · rw [decide_eq_true hL0] at t1
          refine (an_t t1 ?_)
          cases R with
          | none => exact an_f (tB_ok (b := false) (eB_ok rfl rfl rfl))
          | some z =>
            have := hR z rfl
            refine (an_t (tB_ok (b := true) (eB_ok rfl rfl rfl)) (tB_ok (b := false) (eB_ok (eB_ok (show eVar 10 τA S5 = _ from rfl) rfl gIx_nv) rfl (gLt_i.trans ?_))))
            rw [decide_eq_false (by omega)]
        · rw [decide_eq_false (by rw [hL0]; simp)] at t1
          exact an_f t1
      refine ws_no tA2 ?_
      -- four papers
      have shw := fun (T : Sto) (wT : Wf T) (dk pp : D) (hdk : isDeck T dk l) (hpp : Th1 pp) (hbb : ∀ z, num2 pp = some z → z.1 < 2 ^ 1000) => never_shows_ok (K := K) (S := T) wT hdk ok hj hx hpp hbb
      refine ws_for 4 (fun a τ S' => (∃ z11 z12 z13 z14, τ = [some d, some (.loc n), some (.int (i : Nat)), some (dK l), some (.loc p), y5, some dd, some (.str x), y8, some (.fl (L.map fun i : Nat => D.int i)), some (nvD R), z11, z12, z13, z14, y15, y16, y17]) ∧ Here n p (1000 * i + 802 + 9 * j + 2 * a) l S') (fun a => .int (a : Nat)) (iRg1_ok (n := 4) (a1_ok rfl) (by omega)) (Nat.le_refl _) ⟨⟨_, _, _, _, rfl⟩, h5⟩ ?_ (fun _ _ _ => rg_end) ?_
      · rintro a τ S6 ha ⟨⟨z11, z12, z13, z14, rfl⟩, h6⟩
        refine ⟨rg_nxt ha, _, rfl, ?_⟩
        obtain ⟨v, S7, e7, hv, b7, m7, w7⟩ := bag_drw (S := S6) (j := 1) (τ := [some d, some (.loc n), some (.int (i : Nat)), some (dK l), some (.loc p), y5, some dd, some (.str x), y8, some (.fl (L.map fun i : Nat => D.int i)), some (nvD R), some (.int (a : Nat)), z12, z13, z14, y15, y16, y17]) (fm := eC (.int 200)) (b := 200) h6.wf rfl rfl h6.bag (by omega) (by omega) (by decide)
        refine ws_set e7 ?_
        have h7 := h6.on hpn b7 m7 w7
        let τB : Sl := [some d, some (.loc n), some (.int (i : Nat)), some (dK l), some (.loc p), y5, some dd, some (.str x), y8, some (.fl (L.map fun i : Nat => D.int i)), some (nvD R), some (.int (a : Nat)), some (.int (v : Nat)), z13, z14, y15, y16, y17]
        have okv := stps_ok ok v
        have ecl : ∀ {T : Sto} {τ : Sl}, Wf T → T[p]? = some (.lst (rowD l 201)) → τ[4]? = some (some (.loc p)) → τ[12]? = some (some (.int (v : Nat))) → eCl (M_bag_closed) 1 (aCons (eB gIx (eVar 4) (eVar 12)) (aNil)) τ T = some (.ok (.int (clo (stps v l) : Nat)) T) := fun {T τ} wT hT h4 h12 =>
          eCl_ok (a1_ok (eB_ok (eVar_at h4) (eVar_at h12) (at_ hT (by omega)))) rfl (bag_closed_ok wT okv)
        obtain ⟨o, S8, e8, ho1, ho2, b8, m8, w8⟩ := four_ok (S := S7) (j := 1) (τ := τB) w7 rfl b7 (by omega)
        have h8 := h7.on hpn b8 m8 w8
        have c1 : 1 ≤ clo (stps v l) := (clo_is okv.lo).lo
        obtain ⟨m, hm⟩ : ∃ m : Nat, ((clo (stps v l) : Nat) : Int) + o = (m : Nat) := ⟨(((clo (stps v l) : Nat) : Int) + o).toNat, by omega⟩
        refine ws_set (eB_ok (ecl w7 h7.row rfl rfl) e8 (gAdd_i.trans (by rw [hm]))) ?_
        let τC : Sl := [some d, some (.loc n), some (.int (i : Nat)), some (dK l), some (.loc p), y5, some dd, some (.str x), y8, some (.fl (L.map fun i : Nat => D.int i)), some (nvD R), some (.int (a : Nat)), some (.int (v : Nat)), some (.int (m : Nat)), z14, y15, y16, y17]
        have due : (eAnd (eB (gEq false) (eVar 13) (eCl (M_bag_closed) 1 (aCons (eB gIx (eVar 4) (eVar 12)) (aNil)))) (eCl (M_bag_beneath) 2 (aCons (eB gIx (eVar 4) (eVar 12)) (aCons (eVar 7) (aNil))))) τC S8 = some (.ok (.bl (decide (clo (stps v l) = m) && bnt l x v)) S8) := by
          have g1 : gEq false (.int (m : Nat)) (.int (clo (stps v l) : Nat)) S8 = some (.bl (decide (clo (stps v l) = m)), S8) := gEq_nat.trans (by simp [eq_comm])
          have q1 : (eB (gEq false) (eVar 13) (eCl (M_bag_closed) 1 (aCons (eB gIx (eVar 4) (eVar 12)) (aNil)))) τC S8 = some (.ok (.bl (decide (clo (stps v l) = m))) S8) := eB_ok rfl (ecl w8 h8.row rfl rfl) g1
          have q2 : (eCl (M_bag_beneath) 2 (aCons (eB gIx (eVar 4) (eVar 12)) (aCons (eVar 7) (aNil)))) τC S8 = some (.ok (.bl (bnt l x v)) S8) := eCl_ok (a2_ok (eB_ok rfl rfl (at_ h8.row (by omega))) rfl) rfl (bnS w8 (by omega))
          by_cases c : clo (stps v l) = m
          · rw [decide_eq_true c] at q1 ⊢
            rw [Bool.true_and]
            exact eAnd_t q1 rfl q2
          · rw [decide_eq_false c] at q1 ⊢
            exact eAnd_f q1
        refine ws_set due ?_
        have hsh : shN l x (some (((v : Nat) : Int), ((m : Nat) : Int))) = (decide (clo (stps v l) = m) && bnt l x v) := by
          simp only [shN, Int.toNat_natCast]
          rw [decide_eq_true (by omega), Bool.true_and]
          congr 1
          exact decide_eq_decide.mpr (by omega)
        have hbb : ∀ z, some (((v : Nat) : Int), ((m : Nat) : Int)) = some z → z.1 < 2 ^ 1000 := fun z h => by
          cases h
          have : v < 2 ^ 1000 := Nat.lt_trans hv (by decide +kernel)
          show ((v : Nat) : Int) < 2 ^ 1000
          exact_mod_cast this
        have s1 := shw S8 w8 (dK l) (.tup [.int (v : Nat), .int (m : Nat)]) (isDeck_dK l) (th1_tup (by simp) pl2) hbb
        have s2 := shw S8 w8 dd (.fl [.int (v : Nat), .int (m : Nat)]) (hdd.deck _) (th1_fl (by simp) pl2) hbb
        rw [show num2 (.tup [.int (v : Nat), .int (m : Nat)]) = some (((v : Nat) : Int), ((m : Nat) : Int)) from rfl, hsh] at s1
        rw [show num2 (.fl [.int (v : Nat), .int (m : Nat)]) = some (((v : Nat) : Int), ((m : Nat) : Int)) from rfl, hsh] at s2
        refine ws_no (tNt_ok (b := true) (tB_ok (eCl_ok (a2_ok (eCl_ok (a3_ok rfl rfl (eTup_ok (a2_ok rfl rfl) (by simp))) rfl s1) rfl) rfl so_ok))) ?_
        refine bif_f (tNt_ok (b := true) (tB_ok (eCl_ok (a2_ok (eCl_ok (a3_ok rfl rfl (fz_list (a2_ok rfl rfl) rfl w8 (by simp) rfl)) rfl s2) rfl) rfl so_ok))) (ws_nop ⟨⟨_, _, _, _, rfl⟩, ?_⟩)
        exact ⟨bag_src.mono h8.bag (by omega), h8.row, h8.wf⟩
      rintro τ S6 ⟨⟨z11, z12, z13, z14, rfl⟩, h6⟩
      -- far on
      let τD : Sl := [some d, some (.loc n), some (.int (i : Nat)), some (dK l), some (.loc p), y5, some dd, some (.str x), y8, some (.fl (L.map fun i : Nat => D.int i)), some (nvD R), z11, z12, z13, z14, y15, y16, y17]
      have far : Ws (sIf (tB (eB (gEq true) (eVar 9) (fz (eLst (aNil))))) (sSeq (sSet 15 (eB gAdd (eB gIx (eVar 9) (eC (.int 0))) (eCl (M_bag_draw) 2 (aCons (eVar 1) (aCons (eB gPow (eC (.int 10)) (eC (.int 29))) (aNil)))))) (sSeq (sIf (tB (eB (gIsB true) (eCl (M_never_shows K) 3 (aCons (eVar 3) (aCons (eVar 7) (aCons (eTup (aCons (eVar 15) (aCons (eB gAdd (eCB gLenX (aCons (eVar 3) (aNil))) (eC (.int 1))) (aNil)))) (aNil))))) (eC (.bl false)))) (sRt (eC (.bl false))) (sNop)) (sIf (tB (eB (gEq true) (fz (eLc (iRg1 (aCons (eB gAdd (eCB gLenX (aCons (eVar 3) (aNil))) (eC (.int 1))) (aNil))) (tN 13) (tB (eCl (M_never_shows K) 3 (aCons (eVar 3) (aCons (eVar 7) (aCons (eTup (aCons (eVar 15) (aCons (eVar 13) (aNil)))) (aNil)))))) (eC (.int 1)) [13])) (fz (eLst (aCons (eC (.int 1)) (aNil)))))) (sRt (eC (.bl false))) (sNop)))) (sNop) τD S6) fun fl S' => ∃ y, fl = .nx (τD.set 15 y) ∧ Here n p (1000 * i + 802 + 9 * j + 9) l S' := by
        have t1 := ne_nil (τ := τD) h6.wf rfl
        rcases cases2 with ⟨hL0, _⟩ | ⟨s0, hL0, hs0, hR, hbn⟩
        · rw [hL0] at t1
          exact bif_f t1 (ws_nop ⟨y15, rfl, bag_src.mono h6.bag (by omega), h6.row, h6.wf⟩)
        · rw [decide_eq_true (by rw [hL0]; simp)] at t1
          refine bif_t t1 ?_
          have i9 : eB gIx (eVar 9) (eC (.int 0)) τD S6 = some (.ok (.int (s0 : Nat)) S6) := eB_ok rfl rfl (ix_seq' (c := "list") (i := 0) (ds := L.map fun i : Nat => D.int i) rfl rfl (by rw [hL0]; rfl))
          obtain ⟨v, S7, e7, hv, b7, m7, w7⟩ := bag_drw (S := S6) (j := 1) (τ := τD) (fm := eB gPow (eC (.int 10)) (eC (.int 29))) (b := 10 ^ 29) h6.wf rfl (eB_ok rfl rfl pow29N) h6.bag (by omega) (by decide) (by decide)
          refine ws_set (eB_ok i9 e7 gAdd_nat) ?_
          have h7 := h6.on hpn b7 m7 w7
          obtain ⟨f, hf⟩ : ∃ f, s0 + v = f := ⟨_, rfl⟩
          rw [hf]
          have hfb : f < 2 ^ 1000 := Nat.lt_trans (show f < 10 ^ 30 by omega) (by decide +kernel)
          have hbf : bnt l x f = true := bnt_mono ok (by omega) hbn
          have hcf := clo_le (stps_ok ok f)
          have hlf : (stps f l).length = l.length := (stps_perm l f).length_eq
          let τE : Sl := [some d, some (.loc n), some (.int (i : Nat)), some (dK l), some (.loc p), y5, some dd, some (.str x), y8, some (.fl (L.map fun i : Nat => D.int i)), some (nvD R), z11, z12, z13, z14, some (.int (f : Nat)), y16, y17]
          have hbb : ∀ (m : Nat) z, some (((f : Nat) : Int), ((m : Nat) : Int)) = some z → z.1 < 2 ^ 1000 := fun m z h => by
            cases h
            show ((f : Nat) : Int) < 2 ^ 1000
            exact_mod_cast hfb
          have hsh : ∀ m : Nat, shN l x (some (((f : Nat) : Int), ((m : Nat) : Int))) = decide (clo (stps f l) = m) := fun m => by
            simp only [shN, Int.toNat_natCast]
            rw [decide_eq_true (by omega), Bool.true_and, hbf, Bool.and_true]
            exact decide_eq_decide.mpr (by omega)
          have s1 := fun (T : Sto) (wT : Wf T) (m : Nat) => shw T wT (dK l) (.tup [.int (f : Nat), .int (m : Nat)]) (isDeck_dK l) (th1_tup (by simp) pl2) (hbb m)
          have s1 : ∀ (T : Sto) (wT : Wf T) (m : Nat), M_never_shows K [dK l, .str x, .tup [.int (f : Nat), .int (m : Nat)]] T = some (.ok (.bl (decide (clo (stps f l) = m))) T) := fun T wT m => by
            have := s1 T wT m
            rw [show num2 (.tup [.int (f : Nat), .int (m : Nat)]) = some (((f : Nat) : Int), ((m : Nat) : Int)) from rfl, hsh] at this
            exact this
          have len1 : ∀ {τ : Sl} {T : Sto}, τ[3]? = some (some (dK l)) → eB gAdd (eCB gLenX (aCons (eVar 3) (aNil))) (eC (.int 1)) τ T = some (.ok (.int ((l.length + 1 : Nat) : Nat)) T) := fun {τ T} h3 => eB_ok (eCB_ok (a1_ok (eVar_at h3)) len_deck) rfl (gAdd_nat (j := 1))
          have s2 := s1 S7 w7 (l.length + 1)
          rw [decide_eq_false (by omega)] at s2
          refine ws_no (tB_ok (b := false) (eB_ok (eCl_ok (a3_ok rfl rfl (eTup_ok (a2_ok rfl (len1 rfl)) (by simp))) rfl s2) rfl rfl)) ?_
          have eP := lc_pu (fi := iRg1 (aCons (eB gAdd (eCB gLenX (aCons (eVar 3) (aNil))) (eC (.int 1))) (aNil))) (g := tN 13) (t := tB (eCl (M_never_shows K) 3 (aCons (eVar 3) (aCons (eVar 7) (aCons (eTup (aCons (eVar 15) (aCons (eVar 13) (aNil)))) (aNil)))))) (fe := eC (.int 1)) (vs := [13]) (τ := τE) (S := S7) (ds := (List.range (l.length + 1)).map fun i : Nat => D.int i)
            (fun d => match d with | .int z => decide (clo (stps f l) = z.toNat) | _ => false) (fun _ => .int 1) w7 (iRg1_ok (n := l.length + 1) (a1_ok (len1 rfl)) (by omega)) wks_rg (by simp; omega)
            (fun d hd _ => rfl)
            (fun d hd S'' w'' _ => by
              obtain ⟨m, hm, rfl⟩ := List.mem_map.mp hd
              exact ⟨_, rfl, tB_ok (eCl_ok (a3_ok rfl rfl (eTup_ok (a2_ok rfl rfl) (by simp))) rfl (s1 S'' w'' m)), fun _ => rfl⟩)
          rw [List.filter_map] at eP
          have eP2 : ((fun d => match d with | .int z => decide (clo (stps f l) = z.toNat) | _ => false) ∘ (fun i : Nat => D.int i)) = fun i : Nat => decide (clo (stps f l) = i) := rfl
          rw [eP2, some_rng (by omega)] at eP
          refine bif_f (tB_ok (b := false) (eB_ok eP (fz_list (ds := [.int 1]) (a1_ok rfl) rfl w7 (by simp) rfl) (gEq_self (p := .list [.int 1]) rfl rfl))) (ws_nop ⟨some (.int (f : Nat)), rfl, bag_src.mono b7 (by omega), h7.row, w7⟩)
      obtain ⟨fl, S7, ef, yf, rfl, h7⟩ := far
      refine ws_nx ef ?_
      -- odd things
      let τF : Sl := [some d, some (.loc n), some (.int (i : Nat)), some (dK l), some (.loc p), y5, some dd, some (.str x), y8, some (.fl (L.map fun i : Nat => D.int i)), some (nvD R), z11, z12, z13, z14, yf, y16, y17]
      have w7 := h7.wf
      have tp : ∀ {a : D} {τ : Sl} {T : Sto}, eTup (aCons (eC a) (aNil)) τ T = some (.ok (.tup [a]) T) := fun {a τ T} => eTup_ok (a1_ok rfl) (by simp)
      have tp2 : ∀ {a b : D} {τ : Sl} {T : Sto}, eTup (aCons (eC a) (aCons (eC b) (aNil))) τ T = some (.ok (.tup [a, b]) T) := fun {a b τ T} => eTup_ok (a2_ok rfl rfl) (by simp)
      have eO : fz (eLst (aCons (eC .non) (aCons (eC (.int 0)) (aCons (eC (.str "")) (aCons (eTup (aNil)) (aCons (fz (eLst (aNil))) (aCons (eTup (aCons (eC (.int 0)) (aNil))) (aCons (eTup (aCons (eC (.int 0)) (aCons (eC (.int 1)) (aCons (eC (.int 2)) (aNil))))) (aCons (eTup (aCons (eC (.bl true)) (aCons (eC (.int 1)) (aNil)))) (aCons (eTup (aCons (eC (.int 0)) (aCons (eC (.bl true)) (aNil)))) (aCons (eTup (aCons (eNeg (eC (.int 1))) (aCons (eC (.int 1)) (aNil)))) (aCons (eTup (aCons (eC (.str "0")) (aCons (eC (.int 1)) (aNil)))) (aCons (fz (eDct0)) (aCons (eTup (aCons (eTup (aCons (eC (.int 0)) (aCons (eC (.int 1)) (aNil)))) (aNil))) (aCons (eVar 7) (aNil)))))))))))))))) τF S7 = some (.ok (.fl (odds x)) S7) :=
        fz_list (ds := odds x) (aCons_ok rfl (aCons_ok rfl (aCons_ok rfl (aCons_ok (eTup_ok aNil_ok (by simp)) (aCons_ok (fz_list aNil_ok rfl w7 (by simp) rfl) (aCons_ok tp (aCons_ok (eTup_ok (a3_ok rfl rfl rfl) (by simp)) (aCons_ok tp2 (aCons_ok tp2 (aCons_ok (eTup_ok (a2_ok rfl rfl) (by simp)) (aCons_ok tp2 (aCons_ok (fz_dct0 w7) (a2_ok (eTup_ok (a1_ok tp2) (by simp)) rfl))))))))))))) rfl w7 (by show 14 ≤ 1000; decide) rfl
      refine ws_set eO ?_
      have oddk := odds_ok (x := x) (l := l)
      have eQ := lc_pu (fi := iSeq (eVar 16)) (g := tN 17) (t := tB (eB (gIsB true) (eCl (M_never_shows K) 3 (aCons (eVar 3) (aCons (eVar 7) (aCons (eVar 17) (aNil))))) (eC (.bl false)))) (fe := eVar 17) (vs := [17]) (τ := [some d, some (.loc n), some (.int (i : Nat)), some (dK l), some (.loc p), y5, some dd, some (.str x), y8, some (.fl (L.map fun i : Nat => D.int i)), some (nvD R), z11, z12, z13, z14, yf, some (.fl (odds x)), y17]) (S := S7) (ds := odds x)
        (fun _ => false) id w7 (iSeq_ok rfl wk_fl) wks_ds (by show 14 ≤ 100000; decide)
        (fun d hd z => by cases z)
        (fun d hd S'' w'' _ => by
          obtain ⟨o1, o2, o3⟩ := oddk d hd
          have := shw S'' w'' (dK l) d (isDeck_dK l) o1 o2
          rw [o3] at this
          exact ⟨_, rfl, tB_ok (eB_ok (eCl_ok (a3_ok rfl rfl rfl) rfl this) rfl rfl), fun z => by cases z⟩)
      rw [show ((odds x).filter fun _ => false) = [] from List.filter_eq_nil_iff.mpr fun _ _ => by simp] at eQ
      refine bif_f (tB_ok (b := false) (eB_ok eQ (fz_list aNil_ok rfl w7 (by simp) rfl) (gEq_self (p := .list []) rfl rfl))) (ws_nop ⟨⟨_, _, _, _, _, _, _, _, _, _, _, _, rfl⟩, ?_⟩)
      exact ⟨h7.bag, h7.row, h7.wf⟩
    · rintro τ S5 ⟨⟨y5, y7, y8, y9, y10, y11, y12, y13, y14, y15, y16, y17, rfl⟩, h5⟩
      exact ⟨_, _, _, _, _, _, _, _, _, _, _, _, _, _, _, _, rfl, bag_src.mono h5.bag (by omega), h5.wf⟩
  · rintro τ' S' ⟨x2, x3, x4, x5, x6, x7, x8, x9, x10, x11, x12, x13, x14, x15, x16, x17, rfl, sp', w'⟩
    exact ws_rt rfl rfl
end K53
end
section
set_option Elab.async false
set_option linter.all false
set_option maxRecDepth 100000
set_option maxHeartbeats 4000000
namespace Sb
open PySem PySem.Spec PyProof.Rows L2
theorem bds_ints {k : Nat} : ∀ ns : List Int, bds k (ns.map D.int) = true
  | [] => rfl
  | n :: ns => by simp only [List.map_cons, bds, bd, bds_ints ns, Bool.and_self]
/-- the script in the heap, as data -/
theorem script_in {T : Tb} {H : Hp} {a : Addr} {ns : List Int} (hS : SqL T.K H a (ns.map V.int)) (ht : ∀ p ∈ T.tabs, H p = some (.tbl #[])) (hl : ∀ p ∈ T.lams, p.1 ∉ T.tabs ∧ H p.1 = some (.tbl #[]) := by intro p hp; cases hp) : ∃ (φ : List Addr) (S : Sto) (d : D), Rel T φ S H ∧ RDs T H φ [d] [.ref a] ∧
    seqD S d = some (ns.map D.int) ∧ (∀ X, seqD (S ++ X) d = some (ns.map D.int)) ∧ (∀ ds, d ≠ .tup ds ∧ d ≠ .fl ds) ∧ (∀ X, gLenX [d] (S ++ X) = some (.int ns.length, S ++ X)) ∧ wfk S.length S = true := by
  have tab : ∀ p ∈ T.tabs, GxR.TabG H p := fun p hp => ⟨#[], ht p hp, trivial⟩
  have lam : ∀ p ∈ T.lams, p.1 ∉ T.tabs ∧ LamT H p.1 p.2 := fun p hp => ⟨(hl p hp).1, #[], (hl p hp).2, trivial, fun pos cv hc => by simp [codeAmong] at hc⟩
  have rest : Scr T H a ns → ∃ (φ : List Addr) (S : Sto) (d : D), Rel T φ S H ∧ RDs T H φ [d] [.ref a] ∧
    seqD S d = some (ns.map D.int) ∧ (∀ X, seqD (S ++ X) d = some (ns.map D.int)) ∧ (∀ ds, d ≠ .tup ds ∧ d ≠ .fl ds) ∧ (∀ X, gLenX [d] (S ++ X) = some (.int ns.length, S ++ X)) ∧ wfk S.length S = true := fun z =>
    ⟨[], [], .scr ns, ⟨rfl, List.nodup_nil, fun n o b h => by simp at h, tab, lam⟩, ⟨_, [], rfl, ⟨a, rfl, z⟩, rfl⟩, rfl, fun _ => rfl, (fun _ => ⟨fun e => (by cases e), fun e => (by cases e)⟩), (fun X => by simp [gLenX, gLen, seqD]), rfl⟩
  rcases hS with (h | ⟨o, h⟩) | h
  · have e1 : ∀ X : Sto, seqD ([.lst (ns.map D.int)] ++ X) (.loc 0) = some (ns.map D.int) := fun X => by simp [seqD]
    refine ⟨[a], [.lst (ns.map D.int)], .loc 0, ⟨rfl, by simp, fun n o b h1 h2 => ?_, tab, lam⟩, ⟨_, [], rfl, ⟨a, rfl, rfl⟩, rfl⟩, by simp [seqD], e1, (fun _ => ⟨fun e => (by cases e), fun e => (by cases e)⟩), (fun X => by simp [gLenX, gLen, seqD]), by simp [wfk, bdO, bds_ints]⟩
    cases n with
    | zero =>
      simp at h1 h2
      subst h1 h2
      exact ⟨_, h, ints_rds ns⟩
    | succ n => simp at h1
  · exact rest (.inl ⟨o, h⟩)
  · exact rest (.inr h)
theorem cx_false {P : Program} {w : World} {H : Hp} {s : Shared} {e : Value} {s' : Shared} : L2.CX P w [] H s (fun _ _ _ => False) e s' → False := by
  rintro ⟨_, _, _, _, _, _, _, _, _, _, _, _, z⟩
  exact z
end Sb
end
section
set_option Elab.async false
set_option linter.all false
set_option maxRecDepth 100000
set_option maxHeartbeats 4000000
namespace Sb
open PySem PySem.Spec PyProof.Rows L2 LamX
/-- the law's call, its def promised where no print is under way -/
theorem law_callH {P : Program} {w : World} {K : PySem.W.Frag} {mg mb : Str → Option Value} {CX : CXT} {k : Nat} {fa a : Addr} {cs : List (Addr × Addr)} {fd : FuncData} {x : Str} {sp : Sp} {s1 : Shared} {vs : List Value} {ns : List Int}
    (inK : K.In s1.heap) (nsM : s1.heap.Ns mainGlobals mg) (nsB : s1.heap.Ns builtinsNs mb) (boot : ∀ x : Str, x ≠ "__name__" → mb x = bootBuiltins x) (noLim : s1.heap.NoLimit) (noGen : s1.gens = #[])
    (tabs : ∀ p ∈ cs, s1.heap.get? p.2 = some { cls := .none, data := .fields #[] }) (outK : ∀ p ∈ cs, K.lookup p.2 = none) (heads : ∀ p ∈ cs, PySem.W.CodeHd s1.heap p.1 p.2)
    (blt : ∃ (bm : Addr) (ob : Obj), mg "__builtins__" = some (.ref bm) ∧ bm ≠ builtinsNs ∧ s1.heap.get? bm = some ob ∧ ob.cls = .type "module" ∧ ob.dict = some builtinsNs ∧ ob.data = .plain)
    (isL : s1.heap.get? a = some { cls := .type "list", data := .seq vs.toArray }) (areInts : IntsAre vs ns) (short : ns.length ≤ sizeLine) (hsys : ∃ o es ep, s1.heap.get? sysModules = some o ∧ o.data = .dict es ep) (room : Room k callerA) (quiet : callerA.guards = some [])
    (F : ∀ base : Heap, K.In base → base.Ns mainGlobals mg → (∀ p ∈ cs, TabB base mg p.1 p.2) → (∃ o, base.get? sysModules = some o) → FnOkG P w K mg base CX k fa fd [x] sp) (bind : ∀ (s : Shared) (u : Value), BindsTo s fd ⟨[u], []⟩ [(x, u)])
    (wish : ∀ H : Hp, (∀ p ∈ cs, H p.2 = some (.tbl #[])) → SqL K H a (ns.map V.int) → sp [.ref a] H (fun v _ => v = .bl true) fun _ _ _ => False)
    (noX : ∀ H e s', CX [] H s1 (fun _ _ _ => False) e s' → False) :
    codeAny (model P w) callerA (.call (.ref fa) ⟨[.ref a], []⟩) (fun r s' => r = .ok (.ret (.bool true)) ∧ PySem.OldK s1.heap s'.heap ∧ s'.os = s1.os ∧ AllBare s'.gens) s1 := by
  have rel := vals_ints areInts
  have lenV := areInts.length
  have tabAt : ∀ b : Addr, b ∈ cs.map (·.2) → s1.heap.get? b = some { cls := .none, data := .fields #[] } := fun b hb => by
    obtain ⟨p, hp, rfl⟩ := List.mem_map.mp hb
    exact tabs p hp
  have notT : a ∉ cs.map (·.2) := fun z => by
    have z1 := congrArg (Option.map Obj.data) (isL.symm.trans (tabAt a z))
    cases z1
  have inT : ∀ p ∈ cs, p.2 ∈ cs.map (·.2) := fun p hp => List.mem_map_of_mem (f := (·.2)) hp
  have main : ∀ H : Hp, (∀ p ∈ cs, H p.2 = some (.tbl #[])) → (∀ b, H b = none ∨ b ∈ cs.map (·.2) ∨ ∃ o xs, H b = some (.frz o (.lst xs))) → SqL K H a (ns.map V.int) → HOk P w H s1.heap → (∀ b, H b ≠ none → b = a ∨ b ∈ cs.map (·.2)) → (H a ≠ none → K.lookup a = none) →
      codeAny (model P w) callerA (.call (.ref fa) ⟨[.ref a], []⟩) (fun r s' => r = .ok (.ret (.bool true)) ∧ PySem.OldK s1.heap s'.heap ∧ s'.os = s1.os ∧ AllBare s'.gens) s1 := by
    intro H tH oneOf sq okH only aK
    have free : ∀ {b : Addr} {o : Obj}, s1.heap.get? b = some o → (∀ vs n, o.data ≠ .seq vs n) → o.data ≠ .fields #[] → H b = none := fun {b o} e h1 h2 => by
      by_cases q : H b = none
      · exact q
      · rcases only b q with z | z
        · rw [z, isL] at e
          exact absurd (congrArg Obj.data (Option.some.inj e)).symm (h1 _ _)
        · rw [tabAt b z] at e
          exact absurd (congrArg Obj.data (Option.some.inj e)).symm h2
    have freeD : ∀ {b : Addr} {o : Obj} {es : Array DictEntry} {ep : Nat}, s1.heap.get? b = some o → o.data = .dict es ep → H b = none := fun {b o es ep} e d =>
      free e (fun vs n z => by rw [d] at z; cases z) fun z => by rw [d] at z; cases z
    have nsKept : ∀ {b : Addr} {m : Str → Option Value}, s1.heap.Ns b m → (hidT s1.heap H).Ns b m := fun {b m} ⟨o, es, ep, e, d, r⟩ => ⟨o, es, ep, hidT_get e (freeD e d), d, r⟩
    have inKb : K.In (hidT s1.heap H) := fun b o e => hidT_get (inK b o e) (by
      by_cases q : H b = none
      · exact q
      · rcases only b q with z | z
        · rw [z] at e q
          rw [aK q] at e; cases e
        · obtain ⟨p, hp, rfl⟩ := List.mem_map.mp z
          rw [outK p hp] at e; cases e)
    have md : L2.Mod K mg (hidT s1.heap H) := ⟨inKb, nsKept nsM, ⟨mb, nsKept nsB, boot⟩, let ⟨mc, h1, h2⟩ := noLim; ⟨mc, nsKept h1, h2⟩⟩
    have tb : ∀ p ∈ cs, TabB (hidT s1.heap H) mg p.1 p.2 := fun p hp => by
      have atP := tabs p hp
      refine ⟨?_, ?_, fun z => ?_⟩
      · obtain ⟨o, us, file, tf, flags, tg, inF, text, tt, e1, r1, r2, r3, rest⟩ := heads p hp
        refine ⟨o, us, file, tf, flags, tg, inF, text, tt, hidT_get e1 (free e1 (fun vs n z => by rw [r2] at z; cases z) fun z => ?_), r1, r2, r3, rest⟩
        rw [r2] at z
        cases z
        simp at r3
      · obtain ⟨bm, ob, b1, b2, b3, b4, b5, b6⟩ := blt
        have n1 : bm ≠ mainGlobals := fun q => by
          obtain ⟨o, es, ep, e, hd, _⟩ := nsM
          rw [q, e] at b3
          cases b3
          rw [hd] at b6; cases b6
        have n2 : bm ≠ p.2 := fun q => by
          rw [q, atP] at b3
          cases b3
          cases b6
        exact ⟨bm, ob, b1, b2, n1, n2, hidT_get b3 (free b3 (fun vs n z => by rw [b6] at z; cases z) fun z => by rw [b6] at z; cases z), b4, b5, b6⟩
      · obtain ⟨o, es, ep, e, hd, _⟩ := nsM
        rw [z, atP] at e
        cases e
        cases hd
    have env0 : Env0 P w K mg (hidT s1.heap H) callerA [] s1 H := ⟨rfl, md, fun b o e => of_hidT e, Nat.le_of_eq (hidT_size _ _), trivial, fun b hb => absurd (show b ∈ ([] : List Addr) from hb) (by simp), okH, .of_eq noGen⟩
    refine codeAny_mono ((F _ inKb (nsKept nsM) tb (let ⟨o, es, ep, e, d⟩ := hsys; ⟨o, hidT_get e (freeD e d)⟩)).run callerA [] s1 H ⟨[.ref a], []⟩ [.ref a] [.ref a] _ _ room quiet env0 (bind s1 (.ref a)) (.cons rfl .nil) (wish H tH sq)) fun r s' h => ?_
    cases r with
    | error e => exact (noX H e s' h).elim
    | ok fl =>
      cases fl with
      | next => exact False.elim h
      | brk => exact False.elim h
      | cont => exact False.elim h
      | ret u =>
        obtain ⟨v, H', os, bare, un, ok', r', q⟩ := h
        obtain rfl : v = .bl true := q
        obtain rfl : u = Value.bool true := r'
        have stay : ∀ b o, b ∉ cs.map (·.2) → s1.heap.get? b = some o → s'.heap.get? b = some o := fun b o nb e => by
          rcases oneOf b with z | z | ⟨ob, xs, z⟩
          · exact un.keep b o e z (fun y => absurd (show b ∈ ([] : List Addr) from y) (by simp)) (by simp)
          · exact absurd z nb
          · have o1 := (okH b _ z).1
            have o2 := (ok' b _ (un.frzs b ob _ z)).1
            rw [e] at o1; cases o1
            exact o2
        have more : ∀ p ∈ cs, ∃ ps : Array Value, s'.heap.get? p.2 = some { cls := .none, data := .fields ps } := fun p hp => by
          obtain ⟨ps, z⟩ := un.tbls p.2 #[] (tH p hp)
          exact ⟨_, ok' p.2 _ z⟩
        refine ⟨rfl, ⟨fun b o e => ?_, fun b o e => ?_⟩, os, bare⟩
        · by_cases hb : b ∈ cs.map (·.2)
          · obtain ⟨p, hp, rfl⟩ := List.mem_map.mp hb
            obtain ⟨ps, hm⟩ := more p hp
            rw [tabs p hp] at e
            cases e
            exact .inr (.inl ⟨((heads p hp).tab (tabs p hp)).isCodeTable, rfl, #[], ps, rfl, by rw [Array.empty_append]; exact hm⟩)
          · exact .inl (stay b o hb e)
        · by_cases hb : b ∈ cs.map (·.2)
          · obtain ⟨p, hp, rfl⟩ := List.mem_map.mp hb
            obtain ⟨ps, hm⟩ := more p hp
            exact ⟨_, hm⟩
          · exact ⟨o, stay b o hb e⟩
  cases hk : K.lookup a with
  | some o =>
    have e := inK a o hk
    rw [isL] at e
    cases e
    have hT : ∀ b, b ∈ cs.map (·.2) → (fun b => if b ∈ cs.map (·.2) then some (HO.tbl #[]) else none : Hp) b = some (.tbl #[]) := fun b hb => if_pos hb
    have hN : ∀ b, b ∉ cs.map (·.2) → (fun b => if b ∈ cs.map (·.2) then some (HO.tbl #[]) else none : Hp) b = none := fun b hb => if_neg hb
    refine main (fun b => if b ∈ cs.map (·.2) then some (HO.tbl #[]) else none) (fun p hp => hT _ (inT p hp)) (fun b => ?_) (.inr ⟨_, vs.toArray, _, hk, rfl, rfl, rfl, by rw [List.size_toArray, lenV]; exact short, by simpa using rel⟩) (fun b u z => ?_) (fun b z => ?_) fun z => absurd (hN a notT) z
    · by_cases hb : b ∈ cs.map (·.2)
      · exact .inr (.inl hb)
      · exact .inl (hN b hb)
    · by_cases hb : b ∈ cs.map (·.2)
      · rw [hT b hb] at z
        cases z
        exact tabAt b hb
      · rw [hN b hb] at z; cases z
    · by_cases hb : b ∈ cs.map (·.2)
      · exact .inr hb
      · exact absurd (hN b hb) z
  | none =>
    let He0 : Hp := fun b => if b = a then some (.frz { cls := .type "list", data := .seq vs.toArray } (.lst (ns.map V.int))) else if b ∈ cs.map (·.2) then some (.tbl #[]) else none
    have hA : He0 a = some (.frz { cls := .type "list", data := .seq vs.toArray } (.lst (ns.map V.int))) := if_pos rfl
    have hT : ∀ b, b ∈ cs.map (·.2) → He0 b = some (.tbl #[]) := fun b hb => (if_neg fun z => notT (by rw [← z]; exact hb)).trans (if_pos hb)
    have hN : ∀ b, b ≠ a → b ∉ cs.map (·.2) → He0 b = none := fun b h1 h2 => (if_neg h1).trans (if_neg h2)
    refine main He0 (fun p hp => hT _ (inT p hp)) (fun b => ?_) (.inl (.inr ⟨_, hA⟩)) (fun b u z => ?_) (fun b z => ?_) fun _ => hk
    · by_cases h1 : b = a
      · exact .inr (.inr ⟨_, _, by rw [h1]; exact hA⟩)
      · by_cases h2 : b ∈ cs.map (·.2)
        · exact .inr (.inl h2)
        · exact .inl (hN b h1 h2)
    · by_cases h1 : b = a
      · rw [h1, hA] at z
        cases z
        rw [h1]
        exact ⟨isL, by rw [List.length_map]; exact short, vs, _, rel, isL⟩
      · by_cases h2 : b ∈ cs.map (·.2)
        · rw [hT b h2] at z
          cases z
          exact tabAt b h2
        · rw [hN b h1 h2] at z; cases z
    · by_cases h1 : b = a
      · exact .inl h1
      · by_cases h2 : b ∈ cs.map (·.2)
        · exact .inr h2
        · exact absurd (hN b h1 h2) z
/-- what is known of the law at the head's heap -/
def LawAtH (l : PySem.W.OpenLaw) (w : World) (K : PySem.W.Frag) (CX : CXT) (k n : Nat) (x : Str) (mg : Str → Option Value) (fa : Addr) (h : Heap) : Prop :=
  ∃ (fd : FuncData) (cs : List (Addr × Addr)) (sp : Sp), (∀ p ∈ cs, h.get? p.2 = some { cls := .none, data := .fields #[] }) ∧ (∀ p ∈ cs, K.lookup p.2 = none) ∧ (∀ p ∈ cs, PySem.W.CodeHd h p.1 p.2) ∧ (∀ (s : Shared) (u : Value), BindsTo s fd ⟨[u], []⟩ [(x, u)]) ∧
    (∀ (H : Hp) (a : Addr) (ns : List Int), ns.length ≤ n → (∀ z ∈ ns, Builtin.Int.intBits z ≤ 1048576) → (∀ p ∈ cs, H p.2 = some (.tbl #[])) → SqL K H a (ns.map V.int) → sp [.ref a] H (fun v _ => v = .bl true) fun _ _ _ => False) ∧
    ∀ base : Heap, K.In base → base.Ns mainGlobals mg → (∀ p ∈ cs, TabB base mg p.1 p.2) → (∃ o, base.get? sysModules = some o) → FnOkG l.prog w K mg base CX k fa fd [x] sp
theorem walk_H {l : PySem.W.OpenLaw} {n k : Nat} {q : Program} {loose : List Str} {XP : (Str → Option Value) → Heap → Prop} {YP : World → Heap → Prop} {d : DefRec} {CX : World → CXT} {x : Str} (hn : l.most = some n) (hn2 : n ≤ sizeLine) (hdf : d.params.defaults = []) (room : Room k callerA) (quiet : callerA.guards = some [])
    (F : ∀ (w : World) (mg : Str → Option Value) (fa : Addr) (h : Heap), YP w h → h.Ns mainGlobals mg → mg d.name = some (.ref fa) → ∃ K : PySem.W.Frag, K.In h ∧ (∃ o es ep, h.get? sysModules = some o ∧ o.data = .dict es ep) ∧ LawAtH l w K (CX w) k n x mg fa h)
    (noX : ∀ (w : World) (H : Hp) (s : Shared) (e : Value) (s' : Shared), CX w [] H s (fun _ _ _ => False) e s' → False) : PySem.W.WalkO q loose XP YP l.row.toRowW d [] (fun f vs => PySem.call f vs) := by
  refine Att.attach_callB hn hdf fun w s0 s1 mg mb fa o pm cd doc a vs ns G Y ho hd hcd hmg hobj hints hlen hbits hg => ?_
  obtain ⟨K, inK, hsys, fd, cs, sp, h1, h2, h3, h4, h5, h6⟩ := F w mg fa _ Y G.T.g hmg
  exact law_callH inK G.T.g G.T.b G.T.builtins G.T.nolimit hg h1 h2 h3 G.T.bmain hobj hints (Nat.le_trans hlen hn2) hsys room quiet h6 h4 (fun H tH sq => h5 H a ns hlen hbits tH sq) fun H e s' => noX w H s1 e s'
end Sb
end
set_option Elab.async false
set_option linter.all false
set_option maxRecDepth 100000
set_option maxHeartbeats 0
namespace K53
open PySem PySem.Spec PyProof.Rows L2 Sb
theorem at_law {w : World} {K : PySem.W.Frag} {h : Heap} {mg : Str → Option Value} {f : Addr} (X : K.In h) (G : h.Ns mainGlobals mg) (hfa : mg "law" = some (.ref f)) (c : He.SaysX fa fn [] tf (Sb.clsB []) w h K) :
    Sb.LawAtH PySem.Challenge.rw_slideback_k53_papers_of_never w K (L2.CX (PySem.Challenge.rw_slideback_k53_papers_of_never).prog w) lv_law 63 "script" mg f h := by
  have cd := c.t.d
  obtain ⟨fd, F⟩ := cd.def_ 42 (d := d_law) rfl
  have gl := He.glo_ok X G (cd.fact 42 (f := .glo "law") rfl)
  have ef := hfa.symm.trans gl
  cases ef
  refine ⟨fd, tf.map (He.cT K), spM (TT (PySem.Challenge.rw_slideback_k53_papers_of_never).prog w K) (M_law K) 1, fun p hp => ?_, fun p hp => ?_, fun p hp => ?_, ?_, fun H a ns _ _ hT hS => ?_, fun base Kb Gb hT Hs => ?_⟩
  · obtain ⟨q, hq, rfl⟩ := List.mem_map.mp hp
    exact c.empty q hq
  · obtain ⟨q, hq, rfl⟩ := List.mem_map.mp hp
    exact c.out q hq
  · obtain ⟨q, hq, rfl⟩ := List.mem_map.mp hp
    exact PySem.W.codeHd_of_K X (c.hd q hq)
  · have b := FunD.bindsA (ps := ["script"]) F fun _ _ _ _ _ _ us hl => match us, hl with | [_], _ => rfl
    exact fun s u => b s [u] rfl
  · obtain ⟨φ, S, d, R, r, h1, h2, h3, h4, h5⟩ := script_in (T := TT (PySem.Challenge.rw_slideback_k53_papers_of_never).prog w K) hS (fun p hp => by
      obtain ⟨q, hq, rfl⟩ := List.mem_map.mp hp
      exact hT q hq)
    obtain ⟨S', e⟩ := law_ok (K := K) h1 h2 h3 h4 h5
    exact ⟨φ, S, [d], _, R, r, rfl, e, fun φ' H' v _ _ z => z⟩
  · exact fo_law ⟨cd, Kb, Gb, fun p hp => ⟨(hT p hp).code, (hT p hp).bm, (hT p hp).gP⟩, Hs⟩ F
end K53
open PySem PySem.W PySem.Calls PyProof.Rows
set_option maxRecDepth 100000 in
set_option maxHeartbeats 0 in
theorem PySem.Challenge.cw_slideback_k53_papers_of_never_holds : PySem.Challenge.rw_slideback_k53_papers_of_never.Holds := by
  w_on; o_law
  refine HandSHeadRun.head_any (r := K53.R) (q := view K53.R.prog [K53.lawAt]) (H := K53.hk) (ob := K53.ob) (M := K53.steps) (loose := K53.loose) (d := HandSHeadRun.topDef K53.R.prog K53.lawAt) (kwd := []) K53.ob_eq
    (by kernel_rfl) (fun s => by kernel_rfl) K53.run (by kernel_rfl) (by kernel_rfl) (by kernel_rfl) (by rfl) (by first | assumption | decide +kernel) (by decide +kernel) ⟨rfl, rfl, rfl, rfl, rfl, by decide +kernel⟩ ?hw ?hc
  case hw => w_witness2
  case hc =>
    refine Sb.walk_H (l := PySem.Challenge.rw_slideback_k53_papers_of_never) (n := 63) (k := K53.lv_law) (x := "script") (CX := L2.CX (PySem.Challenge.rw_slideback_k53_papers_of_never).prog) rfl (by decide) (by kernel_rfl) ⟨rfl, by decide, by decide⟩ rfl ?F (fun _ _ _ _ _ z => Sb.cx_false z)
    intro w mg fa h Y G hmg0
    obtain ⟨⟨K, KX, c⟩, Hs⟩ := Y
    have hmg : mg ("law" : PySem.Str) = some (.ref fa) := by
      have e : (HandSHeadRun.topDef K53.R.prog K53.lawAt).name = ("law" : PySem.Str) := by kernel_rfl
      rw [← e]
      exact hmg0
    exact ⟨K, KX, Hs, K53.at_law KX G hmg c⟩

