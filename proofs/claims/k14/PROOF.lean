import PyProof.Rows.All
import Wide.All
import OpenK.AllK
import Wide.FinOn
import PyProof.EqAt
import PyProof.EqKinds
import PyProof.TupleCall
import HandS.ForMost
import HandS.ForExc
import HandS.Flow
import HandS.Wide
import HandS.TupAny
import HandS.AnyAll
import HandS.SetKeys
import HandS.IsInst
import HandS.Deep
import HandS.Text
import HandS.More
import HandS.SetFor
import HandS.GenList
import HandS.Defaults
import HandS.HeadHook4
import HandS.WordsExc
import HandS.ExcOwn
import HandS.SetBool
import HandS.Iter
import KE.GoesMore
import HandS.Sort
import KE.SortData
import PyProof.ReprRoads
import HandS.MakeKwOnly
import HandS.Exc
import HandS.ExcIs
import HandS.Dict
import PyProof.StrBlock2
import HandS.Style
import HandS.WideBits
import HandS.EndTab
import HandS.HeadWalk
import HandS.Rev
import HandS.DictComp
import KE.KDictZip
import KE.GoesZip
import HandS.Conv
import HandS.Zip
import HandS.List
import KE.KDictPairs
import PyProof.ListStr
import HandS.Small
import HandS.Gcd
import HandS.TupMul
import HandS.Nested
import PyProof.Rows.StrMeet
import PyProof.Rows.TmSorted
import KE.KStateDown
import HandS.Head0
import HandS.Head1
import HandS.Head2
import HandS.HeadEnd
import HandS.HeadHook1
import HandS.HeadHook2
import HandS.HeadHook3
import HandS.Head3
import PyProof.ReprLen
import PySem.Challenge.RW_slideback_k14_levels_refused
section
set_option Elab.async false
set_option linter.all false
set_option maxRecDepth 100000
namespace Sb
open PySem PySem.Spec PyProof.Rows L2

/-! ## data, store, outcome -/
inductive D where
  | non | bl (b : Bool) | int (i : Int) | str (x : Str) | tup (ds : List D) | loc (n : Nat) | scr (ns : List Int) | fl (ds : List D) | exn (c : Addr) | fd (ks : List Key) (ds : List D) | rgo (lo hi : Int) | ntu (ds : List D)
  deriving Inhabited
inductive Ob where
  | lst (ds : List D) | dct (kvs : List (Key × D)) | ks (s : Key → Bool) (n : Nat)
  deriving Inhabited
abbrev Sto := List Ob
structure Exn where
  cls : Addr
  fs : Option (List (Str × V))
inductive Rs (α : Type) where
  | ok (a : α) (S : Sto)
  | ex (x : Exn) (S : Sto)
abbrev M (α : Type) := Sto → Option (Rs α)
def M.ret {α : Type} (a : α) : M α := fun S => some (.ok a S)
def M.bnd {α β : Type} (m : M α) (k : α → M β) : M β := fun S => match m S with
  | none => none
  | some (.ex x S1) => some (.ex x S1)
  | some (.ok a S1) => k a S1

/-! ## how data lie in the heap -/
/-- the written part, the tables of code objects that may grow -/
structure Tb where
  P : Program
  w : World
  K : PySem.W.Frag
  tabs : List Addr
/-- the script, an object that stands -/
def Scr (T : Tb) (H : Hp) (a : Addr) (ns : List Int) : Prop := (∃ o, H a = some (.frz o (.lst (ns.map V.int)))) ∨
  ∃ (o : Obj) (its : Array Value) (n : Nat), T.K.lookup a = some o ∧ o.cls = .type "list" ∧ o.dict = none ∧ o.data = .seq its n ∧ its.size ≤ sizeLine ∧ Vals (ns.map V.int) its.toList
theorem Scr.seq {T : Tb} {H : Hp} {a : Addr} {ns : List Int} (h : Scr T H a ns) : SqL T.K H a (ns.map V.int) := by
  rcases h with ⟨o, h⟩ | h
  · exact .inl (.inr ⟨o, h⟩)
  · exact .inr h
mutual
def RD (T : Tb) (H : Hp) (φ : List Addr) : D → V → Prop
  | .non, v => v = .non
  | .bl b, v => v = .bl b
  | .int i, v => v = .int i
  | .str x, v => v = .str x
  | .tup ds, v => ∃ a vs, v = .ref a ∧ Rd H a (.tup vs) ∧ RDs T H φ ds vs
  | .loc n, v => ∃ a, v = .ref a ∧ φ[n]? = some a
  | .scr ns, v => ∃ a, v = .ref a ∧ Scr T H a ns
  | .fl ds, v => ∃ a vs, v = .ref a ∧ a ∉ φ ∧ H a = some (.lst vs) ∧ RDs T H φ ds vs
  | .exn c, v => ∃ (a : Addr) (oe : Obj) (vs : Array Value), v = .ref a ∧ H a = some (.frz oe (.own a)) ∧ oe.cls = .ref c ∧ oe.dict = none ∧ oe.data = .fields vs
  | .fd ks ds, v => ∃ a ws, v = .ref a ∧ a ∉ φ ∧ Rd H a (.dK ws) ∧ ws.map (·.1) = ks ∧ RDs T H φ ds (ws.map (·.2))
  | .rgo lo hi, v => ∃ (a : Addr) (o : Obj), v = .ref a ∧ H a = some (.frz o (.rng lo hi))
  | .ntu ds, v => ∃ (a : Addr) (vs : List V) (o : Obj), v = .ref a ∧ H a = some (.frz o (.tup vs)) ∧ o.dict = none ∧ RDs T H φ ds vs
def RDs (T : Tb) (H : Hp) (φ : List Addr) : List D → List V → Prop
  | [], vs => vs = []
  | d :: ds, vs => ∃ v r, vs = v :: r ∧ RD T H φ d v ∧ RDs T H φ ds r
end
def RO (T : Tb) (H : Hp) (φ : List Addr) (a : Addr) : Ob → Prop
  | .lst ds => ∃ vs, H a = some (.lst vs) ∧ RDs T H φ ds vs
  | .dct kvs => ∃ ws, H a = some (.dK ws) ∧ ws.map (·.1) = kvs.map (·.1) ∧ RDs T H φ (kvs.map (·.2)) (ws.map (·.2))
  | .ks s n => H a = some (SetK T.P T.w a s n)
/-- the store lies in the heap at φ; the tables at T stand -/
structure Rel (T : Tb) (φ : List Addr) (S : Sto) (H : Hp) : Prop where
  len : φ.length = S.length
  nd : φ.Nodup
  obj : ∀ (n : Nat) o a, S[n]? = some o → φ[n]? = some a → RO T H φ a o
  tab : ∀ p ∈ T.tabs, GxR.TabG H p
structure Ext (φ : List Addr) (H : Hp) (φ' : List Addr) (H' : Hp) : Prop where
  pre : ∃ ψ, φ' = φ ++ ψ
  tup : ∀ a vs, H a = some (.tup vs) → H' a = some (.tup vs)
  frz : ∀ a o u, H a = some (.frz o u) → H' a = some (.frz o u)
  lst : ∀ a vs, a ∉ φ → H a = some (.lst vs) → H' a = some (.lst vs)
  dic : ∀ a ws, a ∉ φ → H a = some (.dK ws) → Rd H' a (.dK ws)
  nw : ∀ a, a ∈ φ' → a ∈ φ ∨ H a = none
  ded : ∀ a, H' a = none → H a = none
theorem Ext.refl {φ : List Addr} {H : Hp} : Ext φ H φ H := ⟨⟨[], by simp⟩, fun _ _ h => h, fun _ _ _ h => h, fun _ _ _ h => h, fun _ _ _ h => .inl h, fun _ h => .inl h, fun _ h => h⟩
theorem Ext.out {φ : List Addr} {H : Hp} {φ' : List Addr} {H' : Hp} (e : Ext φ H φ' H') {a : Addr} {u : HO} (ha : a ∉ φ) (h : H a = some u) : a ∉ φ' := fun z => (e.nw a z).elim ha fun q => by rw [h] at q; cases q
theorem Ext.trans {φ φ1 φ2 : List Addr} {H H1 H2 : Hp} (a : Ext φ H φ1 H1) (b : Ext φ1 H1 φ2 H2) : Ext φ H φ2 H2 := by
  have a0 := a
  obtain ⟨⟨x, rfl⟩, t1, f1, l1, k1, n1, d1⟩ := a
  obtain ⟨⟨y, rfl⟩, t2, f2, l2, k2, n2, d2⟩ := b
  exact ⟨⟨x ++ y, by simp⟩, fun p vs h => t2 p vs (t1 p vs h), fun p o u h => f2 p o u (f1 p o u h), fun p vs ha h => l2 p vs (a0.out ha h) (l1 p vs ha h), fun p ws ha h => (k1 p ws ha h).elim (fun z => k2 p ws (fun y => (n1 p y).elim ha fun q => by rw [h] at q; cases q) z) fun ⟨o, z⟩ => .inr ⟨o, f2 _ _ _ z⟩,
    fun p h => (n2 p h).elim (n1 p) fun q => .inr (d1 p q), fun p h => d1 p (d2 p h)⟩
theorem Ext.get {φ φ1 : List Addr} {H H1 : Hp} (e : Ext φ H φ1 H1) {n : Nat} {a : Addr} (h : φ[n]? = some a) : φ1[n]? = some a := by
  obtain ⟨⟨x, rfl⟩, _⟩ := e
  rw [List.getElem?_append_left (List.getElem?_eq_some_iff.mp h).1]
  exact h
theorem Ext.rdT {φ φ1 : List Addr} {H H1 : Hp} (e : Ext φ H φ1 H1) {a : Addr} {vs : List V} (h : Rd H a (.tup vs)) : Rd H1 a (.tup vs) := h.elim (fun h => .inl (e.tup a vs h)) fun ⟨o, h⟩ => .inr ⟨o, e.frz _ _ _ h⟩
mutual
theorem RD.ext {T : Tb} {φ φ1 : List Addr} {H H1 : Hp} (e : Ext φ H φ1 H1) : ∀ (d : D) (v : V), RD T H φ d v → RD T H1 φ1 d v
  | .non, v, h => h
  | .bl b, v, h => h
  | .int i, v, h => h
  | .str x, v, h => h
  | .tup ds, v, h => by
    obtain ⟨a, vs, e1, e2, e3⟩ := h
    exact ⟨a, vs, e1, e.rdT e2, RDs.ext e ds vs e3⟩
  | .loc n, v, h => by
    obtain ⟨a, e1, e2⟩ := h
    exact ⟨a, e1, e.get e2⟩
  | .scr ns, v, h => by
    obtain ⟨a, e1, e2⟩ := h
    exact ⟨a, e1, e2.imp (fun ⟨o, z⟩ => ⟨o, e.frz _ _ _ z⟩) id⟩
  | .fl ds, v, h => by
    obtain ⟨a, vs, e1, e2, e3, e4⟩ := h
    exact ⟨a, vs, e1, e.out e2 e3, e.lst a vs e2 e3, RDs.ext e ds vs e4⟩
  | .exn c, v, h => by
    obtain ⟨a, oe, vs, e1, e2, e3⟩ := h
    exact ⟨a, oe, vs, e1, e.frz _ _ _ e2, e3⟩
  | .fd ks ds, v, h => by
    obtain ⟨a, ws, e1, e2, e3, e4, e5⟩ := h
    refine ⟨a, ws, e1, ?_, ?_, e4, RDs.ext e ds _ e5⟩
    · rcases e3 with e3 | ⟨o, e3⟩
      · exact e.out e2 e3
      · exact e.out e2 e3
    · rcases e3 with e3 | ⟨o, e3⟩
      · exact e.dic a ws e2 e3
      · exact .inr ⟨o, e.frz _ _ _ e3⟩
  | .rgo lo hi, v, h => by
    obtain ⟨a, o, e1, e2⟩ := h
    exact ⟨a, o, e1, e.frz _ _ _ e2⟩
  | .ntu ds, v, h => by
    obtain ⟨a, vs, o, e1, e2, e3, e4⟩ := h
    exact ⟨a, vs, o, e1, e.frz _ _ _ e2, e3, RDs.ext e ds vs e4⟩
theorem RDs.ext {T : Tb} {φ φ1 : List Addr} {H H1 : Hp} (e : Ext φ H φ1 H1) : ∀ (ds : List D) (vs : List V), RDs T H φ ds vs → RDs T H1 φ1 ds vs
  | [], vs, h => h
  | d :: ds, vs, h => by
    obtain ⟨v, r, e1, e2, e3⟩ := h
    exact ⟨v, r, e1, RD.ext e d v e2, RDs.ext e ds r e3⟩
end
section
variable {T : Tb} {H : Hp} {φ : List Addr}
theorem RDs.length : ∀ {ds : List D} {vs : List V}, RDs T H φ ds vs → ds.length = vs.length
  | [], _, h => by cases h; rfl
  | d :: ds, _, h => by
    obtain ⟨v, r, rfl, _, h3⟩ := h
    simp [RDs.length h3]
theorem RDs.get : ∀ {ds : List D} {vs : List V} {i : Nat} {d : D}, RDs T H φ ds vs → ds[i]? = some d → ∃ v, vs[i]? = some v ∧ RD T H φ d v
  | [], _, i, d, h, e => by simp at e
  | d0 :: ds, _, 0, d, h, e => by
    obtain ⟨v, r, rfl, h2, h3⟩ := h
    simp at e; subst e
    exact ⟨v, by simp, h2⟩
  | d0 :: ds, _, i + 1, d, h, e => by
    obtain ⟨v, r, rfl, h2, h3⟩ := h
    obtain ⟨w, e1, e2⟩ := RDs.get (i := i) (d := d) h3 (by simpa using e)
    exact ⟨w, by simpa using e1, e2⟩
theorem RDs.app : ∀ {ds es : List D} {vs ws : List V}, RDs T H φ ds vs → RDs T H φ es ws → RDs T H φ (ds ++ es) (vs ++ ws)
  | [], es, vs, ws, h, h2 => by cases h; exact h2
  | d :: ds, es, vs, ws, h, h2 => by
    obtain ⟨v, r, rfl, e2, e3⟩ := h
    exact ⟨v, r ++ ws, rfl, e2, RDs.app e3 h2⟩
theorem RDs.one {d : D} {v : V} (h : RD T H φ d v) : RDs T H φ [d] [v] := ⟨v, [], rfl, h, rfl⟩
theorem RDs.take : ∀ {ds : List D} {vs : List V} (n : Nat), RDs T H φ ds vs → RDs T H φ (ds.take n) (vs.take n)
  | _, _, 0, h => by simp; rfl
  | [], _, n + 1, h => by cases h; simp; rfl
  | d :: ds, _, n + 1, h => by
    obtain ⟨v, r, rfl, h2, h3⟩ := h
    exact ⟨v, r.take n, by simp, h2, RDs.take n h3⟩
theorem RDs.drop : ∀ {ds : List D} {vs : List V} (n : Nat), RDs T H φ ds vs → RDs T H φ (ds.drop n) (vs.drop n)
  | _, _, 0, h => h
  | [], _, n + 1, h => by cases h; simp; rfl
  | d :: ds, _, n + 1, h => by
    obtain ⟨v, r, rfl, h2, h3⟩ := h
    exact RDs.drop n h3
theorem RDs.set : ∀ {ds : List D} {vs : List V} {d : D} {v : V} (i : Nat), RDs T H φ ds vs → RD T H φ d v → RDs T H φ (ds.set i d) (vs.set i v)
  | [], _, _, _, _, h, _ => by cases h; simp; rfl
  | d0 :: ds, _, d, v, 0, h, hd => by
    obtain ⟨w, r, rfl, h2, h3⟩ := h
    exact ⟨v, r, rfl, hd, h3⟩
  | d0 :: ds, _, d, v, i + 1, h, hd => by
    obtain ⟨w, r, rfl, h2, h3⟩ := h
    exact ⟨w, r.set i v, rfl, h2, RDs.set i h3 hd⟩
theorem RDs.eraseIdx : ∀ {ds : List D} {vs : List V} (i : Nat), RDs T H φ ds vs → RDs T H φ (ds.eraseIdx i) (vs.eraseIdx i)
  | [], _, i, h => by cases h; simp; rfl
  | d0 :: ds, _, 0, h => by
    obtain ⟨w, r, rfl, h2, h3⟩ := h
    exact h3
  | d0 :: ds, _, i + 1, h => by
    obtain ⟨w, r, rfl, h2, h3⟩ := h
    exact ⟨w, r.eraseIdx i, rfl, h2, RDs.eraseIdx i h3⟩
end
theorem RO.ext {T : Tb} {φ φ1 : List Addr} {H H1 : Hp} (e : Ext φ H φ1 H1) {a : Addr} (k : H1 a = H a) : ∀ {o : Ob}, RO T H φ a o → RO T H1 φ1 a o
  | .lst ds, ⟨vs, h, r⟩ => ⟨vs, k.trans h, r.ext e _ _⟩
  | .dct kvs, ⟨ws, h, q, r⟩ => ⟨ws, k.trans h, q, r.ext e _ _⟩
  | .ks s n, h => k.trans h
theorem RO.some {T : Tb} {H : Hp} {φ : List Addr} {a : Addr} : ∀ {o : Ob}, RO T H φ a o → ∃ u, H a = some u ∧ (∀ vs, u ≠ .tup vs) ∧ (∀ ps, u ≠ .tbl ps) ∧ ∀ o w, u ≠ .frz o w
  | .lst ds, ⟨vs, h, _⟩ => ⟨_, h, (fun _ z => by cases z), (fun _ z => by cases z), fun _ _ z => by cases z⟩
  | .dct kvs, ⟨ws, h, _, _⟩ => ⟨_, h, (fun _ z => by cases z), (fun _ z => by cases z), fun _ _ z => by cases z⟩
  | .ks s n, h => ⟨_, h, (fun _ z => by cases z), (fun _ z => by cases z), fun _ _ z => by cases z⟩
theorem upd_dead {H : Hp} {p a : Addr} {u : HO} (h : upd H p u a = none) : H a = none := by
  by_cases q : a = p
  · subst q; rw [upd_same] at h; cases h
  · rw [upd_ne q] at h; exact h
theorem Ext.fresh {φ : List Addr} {H : Hp} {p : Addr} {u : HO} (n : H p = none) : Ext φ H φ (upd H p u) :=
  ⟨⟨[], by simp⟩, fun a vs h => by rw [upd_ne (ne_of_none h n)]; exact h, fun a o w h => by rw [upd_ne (ne_of_none h n)]; exact h, fun a vs _ h => by rw [upd_ne (ne_of_none h n)]; exact h, fun a vs _ h => .inl (by rw [upd_ne (ne_of_none h n)]; exact h), fun _ h => .inl h, fun _ h => upd_dead h⟩
theorem Ext.freshL {φ : List Addr} {H : Hp} {p : Addr} {u : HO} (n : H p = none) : Ext φ H (φ ++ [p]) (upd H p u) :=
  ⟨⟨[p], rfl⟩, fun a vs h => by rw [upd_ne (ne_of_none h n)]; exact h, fun a o w h => by rw [upd_ne (ne_of_none h n)]; exact h, fun a vs _ h => by rw [upd_ne (ne_of_none h n)]; exact h, fun a vs _ h => .inl (by rw [upd_ne (ne_of_none h n)]; exact h),
    fun a h => (List.mem_append.mp h).imp id fun q => by simp at q; subst q; exact n, fun _ h => upd_dead h⟩
/-- a new object that the store does not see -/
theorem Rel.garb {T : Tb} {φ : List Addr} {S : Sto} {H : Hp} {p : Addr} {u : HO} (R : Rel T φ S H) (n : H p = none) : Rel T φ S (upd H p u) ∧ Ext φ H φ (upd H p u) := by
  have e : Ext φ H φ (upd H p u) := Ext.fresh n
  refine ⟨⟨R.len, R.nd, fun i o a h1 h2 => ?_, fun q hq => ?_⟩, e⟩
  · have r := R.obj i o a h1 h2
    obtain ⟨w, hw, _⟩ := r.some
    exact r.ext e (upd_ne (ne_of_none hw n))
  · obtain ⟨ps, h, t⟩ := R.tab q hq
    exact ⟨ps, by rw [upd_ne (ne_of_none h n)]; exact h, t⟩
theorem Rel.notin {T : Tb} {φ : List Addr} {S : Sto} {H : Hp} {p : Addr} (R : Rel T φ S H) (n : H p = none) : p ∉ φ := fun hm => by
  obtain ⟨i, hi, rfl⟩ := List.getElem_of_mem hm
  have hs : i < S.length := by rw [← R.len]; exact hi
  obtain ⟨w, hw, _⟩ := (R.obj i _ _ (List.getElem?_eq_getElem hs) (List.getElem?_eq_getElem hi)).some
  rw [n] at hw; cases hw
/-- a new object of the store -/
theorem Rel.new {T : Tb} {φ : List Addr} {S : Sto} {H : Hp} {p : Addr} {u : HO} {o : Ob} (R : Rel T φ S H) (n : H p = none) (ho : RO T (upd H p u) (φ ++ [p]) p o) : Rel T (φ ++ [p]) (S ++ [o]) (upd H p u) ∧ Ext φ H (φ ++ [p]) (upd H p u) := by
  have e : Ext φ H (φ ++ [p]) (upd H p u) := Ext.freshL n
  have hp : p ∉ φ := fun hm => by
    obtain ⟨i, hi, rfl⟩ := List.getElem_of_mem hm
    have hs : i < S.length := by rw [← R.len]; exact hi
    obtain ⟨w, hw, _⟩ := (R.obj i _ _ (List.getElem?_eq_getElem hs) (List.getElem?_eq_getElem hi)).some
    rw [n] at hw; cases hw
  refine ⟨⟨by simp [R.len], ?_, fun i q a h1 h2 => ?_, fun q hq => ?_⟩, e⟩
  · rw [List.nodup_append]
    exact ⟨R.nd, by simp, fun a ha b hb => by simp at hb; subst hb; exact fun z => hp (z ▸ ha)⟩
  · by_cases hi : i < S.length
    · rw [List.getElem?_append_left hi] at h1
      rw [List.getElem?_append_left (by rw [R.len]; exact hi)] at h2
      have r := R.obj i q a h1 h2
      obtain ⟨w, hw, _⟩ := r.some
      exact r.ext e (upd_ne (ne_of_none hw n))
    · have hl : i < (S ++ [o]).length := (List.getElem?_eq_some_iff.mp h1).1
      simp at hl
      have : i = S.length := by omega
      subst this
      simp at h1
      rw [← R.len] at h2
      simp at h2
      subst h1 h2
      exact ho
  · obtain ⟨ps, h, t⟩ := R.tab q hq
    exact ⟨ps, by rw [upd_ne (ne_of_none h n)]; exact h, t⟩
/-- an object of the store is written -/
theorem Rel.put {T : Tb} {φ : List Addr} {S : Sto} {H : Hp} {i : Nat} {a : Addr} {u : HO} {o : Ob} (R : Rel T φ S H) (hi : φ[i]? = some a) (hs : i < S.length) (ho : RO T (upd H a u) φ a o) :
    Rel T φ (S.set i o) (upd H a u) ∧ Ext φ H φ (upd H a u) := by
  obtain ⟨z, hz, hz1, hz2, hz3⟩ := (R.obj i _ _ (List.getElem?_eq_getElem hs) hi).some
  have e : Ext φ H φ (upd H a u) := ⟨⟨[], by simp⟩, fun b vs h => by
    by_cases hb : b = a
    · subst hb; rw [hz] at h; cases h; exact absurd rfl (hz1 vs)
    · rw [upd_ne hb]; exact h, fun b o' w h => by
    by_cases hb : b = a
    · subst hb; rw [hz] at h; cases h; exact absurd rfl (hz3 _ _)
    · rw [upd_ne hb]; exact h, fun b vs nb h => by rw [upd_ne fun q : b = a => nb (q ▸ List.mem_of_getElem? hi)]; exact h, fun b vs nb h => .inl (by rw [upd_ne fun q : b = a => nb (q ▸ List.mem_of_getElem? hi)]; exact h), fun _ h => .inl h, fun _ h => upd_dead h⟩
  refine ⟨⟨by simp [R.len], R.nd, fun j q b h1 h2 => ?_, fun q hq => ?_⟩, e⟩
  · by_cases hj : j = i
    · subst hj
      rw [List.getElem?_set_self hs] at h1
      cases h1
      rw [hi] at h2; cases h2
      exact ho
    · rw [List.getElem?_set_ne (Ne.symm hj)] at h1
      have r := R.obj j q b h1 h2
      refine r.ext e (upd_ne fun z => ?_)
      subst z
      obtain ⟨l1, e1⟩ := List.getElem?_eq_some_iff.mp hi
      obtain ⟨l2, e2⟩ := List.getElem?_eq_some_iff.mp h2
      exact hj ((List.getElem_inj R.nd).mp (e2.trans e1.symm))
  · obtain ⟨ps, h, t⟩ := R.tab q hq
    have : q ≠ a := fun z => by
      subst z
      rw [hz] at h; cases h
      exact hz2 ps rfl
    exact ⟨ps, by rw [upd_ne this]; exact h, t⟩

/-! ## slots -/
abbrev Sl := List (Option D)
structure RSl (T : Tb) (H : Hp) (φ : List Addr) (τ : Sl) (σ : L2.St) : Prop where
  len : τ.length = σ.length
  at_ : ∀ (i : Nat) (d : D), τ[i]? = some (some d) → ∃ v, σ[i]? = some (some v) ∧ RD T H φ d v
theorem RSl.ext {T : Tb} {φ φ1 : List Addr} {H H1 : Hp} (e : Ext φ H φ1 H1) {τ : Sl} {σ : L2.St} (r : RSl T H φ τ σ) : RSl T H1 φ1 τ σ := ⟨r.len, fun i d h => by
  obtain ⟨v, h1, h2⟩ := r.at_ i d h
  exact ⟨v, h1, h2.ext e _ _⟩⟩
theorem RSl.set {T : Tb} {φ : List Addr} {H : Hp} {τ : Sl} {σ : L2.St} {d : D} {v : V} (r : RSl T H φ τ σ) (i : Nat) (h : RD T H φ d v) : RSl T H φ (τ.set i (some d)) (σ.set i (some v)) := by
  refine ⟨by simp [r.len], fun j e hj => ?_⟩
  by_cases hij : i = j
  · subst hij
    have hl : i < τ.length := by
      have := (List.getElem?_eq_some_iff.mp hj).1
      simpa using this
    rw [List.getElem?_set_self hl] at hj
    cases hj
    exact ⟨v, by rw [List.getElem?_set_self (by rw [← r.len]; exact hl)], h⟩
  · rw [List.getElem?_set_ne hij] at hj
    obtain ⟨w, h1, h2⟩ := r.at_ j e hj
    exact ⟨w, by rw [List.getElem?_set_ne hij]; exact h1, h2⟩

/-! ## readings -/
def RX (x : Exn) (d : Option Addr) (H : Hp) : Prop := match x.fs with
  | none => d = none
  | some l => ∃ a, d = some a ∧ H a = some (.xd l)
/-- what is wanted of an outcome -/
def EndE (T : Tb) (φ : List Addr) (H : Hp) (o : Rs D) (Q : VK) (W : XK) : Prop := match o with
  | .ok d S' => ∀ φ' H' v, Ext φ H φ' H' → Rel T φ' S' H' → RD T H' φ' d v → Q v H'
  | .ex x S' => ∀ φ' H' d, Ext φ H φ' H' → Rel T φ' S' H' → RX x d H' → W (.ref x.cls) d H'
def EndEs (T : Tb) (φ : List Addr) (H : Hp) (o : Rs (List D)) (Q : List V → Hp → Prop) (W : XK) : Prop := match o with
  | .ok ds S' => ∀ φ' H' vs, Ext φ H φ' H' → Rel T φ' S' H' → RDs T H' φ' ds vs → Q vs H'
  | .ex x S' => ∀ φ' H' d, Ext φ H φ' H' → Rel T φ' S' H' → RX x d H' → W (.ref x.cls) d H'
def EndB (T : Tb) (φ : List Addr) (H : Hp) (o : Rs Bool) (Q : Bool → Hp → Prop) (W : XK) : Prop := match o with
  | .ok b S' => ∀ φ' H', Ext φ H φ' H' → Rel T φ' S' H' → Q b H'
  | .ex x S' => ∀ φ' H' d, Ext φ H φ' H' → Rel T φ' S' H' → RX x d H' → W (.ref x.cls) d H'
theorem EndE.mono {T : Tb} {φ φ1 : List Addr} {H H1 : Hp} {o : Rs D} {Q : VK} {W : XK} (h : EndE T φ H o Q W) (e : Ext φ H φ1 H1) : EndE T φ1 H1 o Q W := by
  cases o with
  | ok d S => exact fun φ' H' v e' => h φ' H' v (e.trans e')
  | ex x S => exact fun φ' H' v e' => h φ' H' v (e.trans e')
theorem EndEs.mono {T : Tb} {φ φ1 : List Addr} {H H1 : Hp} {o : Rs (List D)} {Q : List V → Hp → Prop} {W : XK} (h : EndEs T φ H o Q W) (e : Ext φ H φ1 H1) : EndEs T φ1 H1 o Q W := by
  cases o with
  | ok d S => exact fun φ' H' v e' => h φ' H' v (e.trans e')
  | ex x S => exact fun φ' H' v e' => h φ' H' v (e.trans e')
theorem EndB.mono {T : Tb} {φ φ1 : List Addr} {H H1 : Hp} {o : Rs Bool} {Q : Bool → Hp → Prop} {W : XK} (h : EndB T φ H o Q W) (e : Ext φ H φ1 H1) : EndB T φ1 H1 o Q W := by
  cases o with
  | ok d S => exact fun φ' H' e' => h φ' H' (e.trans e')
  | ex x S => exact fun φ' H' v e' => h φ' H' v (e.trans e')
abbrev EF := Sl → M D
abbrev AF := Sl → M (List D)
abbrev BF := Sl → M Bool
def rdE (T : Tb) (W : WX) (f : EF) : TE := fun σ H Q => ∃ φ S τ o, Rel T φ S H ∧ RSl T H φ τ σ ∧ f τ S = some o ∧ EndE T φ H o Q fun c d H' => W c d σ H'
def rdA (T : Tb) (W : WX) (f : AF) : TA := fun σ H Q => ∃ φ S τ o, Rel T φ S H ∧ RSl T H φ τ σ ∧ f τ S = some o ∧ EndEs T φ H o Q fun c d H' => W c d σ H'
def rdT (T : Tb) (W : WX) (f : BF) : TT := fun σ H Q => ∃ φ S τ o, Rel T φ S H ∧ RSl T H φ τ σ ∧ f τ S = some o ∧ EndB T φ H o Q fun c d H' => W c d σ H'
theorem _root_.L2.PE.imp {X : Cx} {e : Expr} {t t' : TE} (h : PE X e t) (i : ∀ σ H Q, t' σ H Q → t σ H Q) : PE X e t' := ⟨fun pins s σ H Q I hq => h.run pins s σ H Q I (i σ H Q hq)⟩
theorem _root_.L2.PT.imp {X : Cx} {e : Expr} {t t' : TT} (h : PT X e t) (i : ∀ σ H Q, t' σ H Q → t σ H Q) : PT X e t' := ⟨fun pins s σ H Q I hq => h.run pins s σ H Q I (i σ H Q hq)⟩
theorem _root_.L2.PW.imp {X : Cx} {e : Expr} {t t' : TT} (h : PW X e t) (i : ∀ σ H Q, t' σ H Q → t σ H Q) : PW X e t' := ⟨fun wh pins s σ H Q I hq => h.run wh pins s σ H Q I (i σ H Q hq)⟩
theorem _root_.L2.PA.imp {X : Cx} {e : List Expr} {t t' : TA} (h : PA X e t) (i : ∀ σ H Q, t' σ H Q → t σ H Q) : PA X e t' := ⟨fun p pins s σ H Q I hq => h.run p pins s σ H Q I (i σ H Q hq)⟩
theorem _root_.L2.PS.imp {X : Cx} {e : Stmt} {t t' : TS} (h : PS X e t) (i : ∀ D σ H, t' D σ H → t D σ H) : PS X e t' := ⟨fun pins s σ H D I hq => h.run pins s σ H D I (i D σ H hq)⟩
theorem _root_.L2.PSs.imp {X : Cx} {e : List Stmt} {t t' : TS} (h : PSs X e t) (i : ∀ D σ H, t' D σ H → t D σ H) : PSs X e t' := ⟨fun pins s σ H D I hq => h.run pins s σ H D I (i D σ H hq)⟩

/-- the state behind a part -/
def At (T : Tb) (φ : List Addr) (H : Hp) (d : D) (S : Sto) (v : V) (H1 : Hp) (φ1 : List Addr) : Prop := Ext φ H φ1 H1 ∧ Rel T φ1 S H1 ∧ RD T H1 φ1 d v
theorem rdE_bnd {T : Tb} {W : WX} {a : EF} {k : D → M D} {φ : List Addr} {S : Sto} {τ : Sl} {o : Rs D} {σ : L2.St} {H : Hp} {Q : VK} (R : Rel T φ S H) (r : RSl T H φ τ σ) (h : (a τ).bnd k S = some o) (q : EndE T φ H o Q fun c d H' => W c d σ H') {Q' : VK}
    (n : ∀ d S1 v H1 φ1, At T φ H d S1 v H1 φ1 → k d S1 = some o → EndE T φ1 H1 o Q (fun c d H' => W c d σ H') → Q' v H1) : rdE T W a σ H Q' := by
  unfold M.bnd at h
  cases e : a τ S with
  | none => rw [e] at h; cases h
  | some x =>
    rw [e] at h
    refine ⟨φ, S, τ, x, R, r, e, ?_⟩
    cases x with
    | ok d S1 => exact fun φ' H' v e1 e2 e3 => n d S1 v H' φ' ⟨e1, e2, e3⟩ h (q.mono e1)
    | ex x S1 =>
      cases h
      exact q
theorem rdA_bnd {T : Tb} {W : WX} {a : AF} {k : List D → M D} {φ : List Addr} {S : Sto} {τ : Sl} {o : Rs D} {σ : L2.St} {H : Hp} {Q : VK} (R : Rel T φ S H) (r : RSl T H φ τ σ) (h : (a τ).bnd k S = some o) (q : EndE T φ H o Q fun c d H' => W c d σ H') {Q' : List V → Hp → Prop}
    (n : ∀ d S1 v H1 φ1, Ext φ H φ1 H1 → Rel T φ1 S1 H1 → RDs T H1 φ1 d v → k d S1 = some o → EndE T φ1 H1 o Q (fun c d H' => W c d σ H') → Q' v H1) : rdA T W a σ H Q' := by
  unfold M.bnd at h
  cases e : a τ S with
  | none => rw [e] at h; cases h
  | some x =>
    rw [e] at h
    refine ⟨φ, S, τ, x, R, r, e, ?_⟩
    cases x with
    | ok d S1 => exact fun φ' H' v e1 e2 e3 => n d S1 v H' φ' e1 e2 e3 h (q.mono e1)
    | ex x S1 =>
      cases h
      exact q
theorem rdT_bnd {T : Tb} {W : WX} {a : BF} {k : Bool → M D} {φ : List Addr} {S : Sto} {τ : Sl} {o : Rs D} {σ : L2.St} {H : Hp} {Q : VK} (R : Rel T φ S H) (r : RSl T H φ τ σ) (h : (a τ).bnd k S = some o) (q : EndE T φ H o Q fun c d H' => W c d σ H') {Q' : Bool → Hp → Prop}
    (n : ∀ d S1 H1 φ1, Ext φ H φ1 H1 → Rel T φ1 S1 H1 → k d S1 = some o → EndE T φ1 H1 o Q (fun c d H' => W c d σ H') → Q' d H1) : rdT T W a σ H Q' := by
  unfold M.bnd at h
  cases e : a τ S with
  | none => rw [e] at h; cases h
  | some x =>
    rw [e] at h
    refine ⟨φ, S, τ, x, R, r, e, ?_⟩
    cases x with
    | ok d S1 => exact fun φ' H' e1 e2 => n d S1 H' φ' e1 e2 h (q.mono e1)
    | ex x S1 =>
      cases h
      exact q
end Sb
end
section
set_option Elab.async false
set_option linter.all false
set_option maxRecDepth 100000
namespace Sb
open PySem PySem.Spec PyProof.Rows L2
/-! ## what is told is kept apart from the store -/
mutual
/-- all places named lie below k -/
def bd (k : Nat) : D → Bool
  | .loc n => decide (n < k)
  | .tup ds => bds k ds
  | .fl ds => bds k ds
  | .fd _ ds => bds k ds
  | .ntu ds => bds k ds
  | _ => true
def bds (k : Nat) : List D → Bool
  | [] => true
  | d :: ds => bd k d && bds k ds
end
def bdO (k : Nat) : Ob → Bool
  | .lst ds => bds k ds
  | .dct kvs => bds k (kvs.map (·.2))
  | .ks _ _ => true
def wfk (k : Nat) (S : Sto) : Bool := S.all (bdO k)
/-- read out, lists and all -/
def rb (S : Sto) (k : Nat) : Nat → D → Option D
  | 0, d => if bd k d = true then some d else none
  | m + 1, d => if bd k d = true then some d else match d with
    | .tup ds => (ds.mapM (rb S k m)).map .tup
    | .fl ds => (ds.mapM (rb S k m)).map .fl
    | .fd ks ds => (ds.mapM (rb S k m)).map (.fd ks)
    | .ntu ds => (ds.mapM (rb S k m)).map .ntu
    | .loc n => match S[n]? with
      | some (.lst ds) => (ds.mapM (rb S k m)).map .fl
      | some (.dct kvs) => ((kvs.map (·.2)).mapM (rb S k m)).map (.fd (kvs.map (·.1)))
      | _ => none
    | _ => none
def fz (f : EF) : EF := fun τ S => match f τ S with
  | none => none
  | some (.ok d S1) => if wfk S.length (S1.take S.length) = true then (rb S1 S.length 8 d).map fun d' => .ok d' (S1.take S.length) else none
  | some (.ex x S1) => if wfk S.length (S1.take S.length) = true then some (.ex x (S1.take S.length)) else none
section
variable {T : Tb} {H : Hp} {φ ψ : List Addr}
mutual
theorem RD.cut : ∀ (d : D) (v : V), bd φ.length d = true → RD T H (φ ++ ψ) d v → RD T H φ d v
  | .non, v, _, h => h
  | .bl b, v, _, h => h
  | .int i, v, _, h => h
  | .str x, v, _, h => h
  | .tup ds, v, b, h => by
    obtain ⟨a, vs, e1, e2, e3⟩ := h
    exact ⟨a, vs, e1, e2, RDs.cut ds vs (by simpa [bd] using b) e3⟩
  | .loc n, v, b, h => by
    obtain ⟨a, e1, e2⟩ := h
    have hn : n < φ.length := by simpa [bd] using b
    exact ⟨a, e1, by rw [List.getElem?_append_left hn] at e2; exact e2⟩
  | .scr ns, v, _, h => h
  | .fl ds, v, b, h => by
    obtain ⟨a, vs, e1, e2, e3, e4⟩ := h
    exact ⟨a, vs, e1, fun z => e2 (List.mem_append_left _ z), e3, RDs.cut ds vs (by simpa [bd] using b) e4⟩
  | .exn c, v, _, h => h
  | .fd ks ds, v, b, h => by
    obtain ⟨a, ws, e1, e2, e3, e4, e5⟩ := h
    exact ⟨a, ws, e1, fun z => e2 (List.mem_append_left _ z), e3, e4, RDs.cut ds _ (by simpa [bd] using b) e5⟩
  | .rgo lo hi, v, _, h => h
  | .ntu ds, v, b, h => by
    obtain ⟨a, vs, o, e1, e2, e3, e4⟩ := h
    exact ⟨a, vs, o, e1, e2, e3, RDs.cut ds vs (by simpa [bd] using b) e4⟩
theorem RDs.cut : ∀ (ds : List D) (vs : List V), bds φ.length ds = true → RDs T H (φ ++ ψ) ds vs → RDs T H φ ds vs
  | [], vs, _, h => h
  | d :: ds, vs, b, h => by
    obtain ⟨v, r, e1, e2, e3⟩ := h
    simp only [bds, Bool.and_eq_true] at b
    exact ⟨v, r, e1, RD.cut d v b.1 e2, RDs.cut ds r b.2 e3⟩
end
theorem RO.cut {a : Addr} : ∀ {o : Ob}, bdO φ.length o = true → RO T H (φ ++ ψ) a o → RO T H φ a o
  | .lst ds, b, ⟨vs, h, r⟩ => ⟨vs, h, RDs.cut _ _ b r⟩
  | .dct kvs, b, ⟨ws, h, q, r⟩ => ⟨ws, h, q, RDs.cut _ _ b r⟩
  | .ks s n, _, h => h
theorem Rel.cut {S : Sto} (R : Rel T (φ ++ ψ) S H) (w : wfk φ.length (S.take φ.length) = true) : Rel T φ (S.take φ.length) H := by
  have l := R.len
  rw [List.length_append] at l
  refine ⟨by rw [List.length_take]; omega, (List.nodup_append.mp R.nd).1, fun n o a h1 h2 => ?_, R.tab⟩
  have hn : n < φ.length := (List.getElem?_eq_some_iff.mp h2).1
  have hb : bdO φ.length o = true := List.all_eq_true.mp w o (List.mem_of_getElem? h1)
  rw [List.getElem?_take_of_lt hn] at h1
  exact RO.cut hb (R.obj n o a h1 (by rw [List.getElem?_append_left hn]; exact h2))
theorem rbs_ok {S : Sto} {m : Nat} {k : Nat} (ih : ∀ (d d' : D) (v : V), rb S k m d = some d' → RD T H (φ ++ ψ) d v → RD T H φ d' v) : ∀ (ds ds' : List D) (vs : List V), ds.mapM (rb S k m) = some ds' → RDs T H (φ ++ ψ) ds vs → RDs T H φ ds' vs
  | [], ds', vs, e, h => by
    simp at e; subst e
    exact h
  | d :: ds, ds', vs, e, h => by
    obtain ⟨v, r, rfl, h1, h2⟩ := h
    rw [List.mapM_cons] at e
    simp only [Option.bind_eq_bind, Option.bind_eq_some_iff, Option.pure_def, Option.some.injEq] at e
    obtain ⟨p, e1, qs, e2, rfl⟩ := e
    exact ⟨v, r, rfl, ih d p v e1 h1, rbs_ok ih ds qs r e2 h2⟩
theorem rb_ok {S : Sto} (R : Rel T (φ ++ ψ) S H) : ∀ (m : Nat) (d d' : D) (v : V), rb S φ.length m d = some d' → RD T H (φ ++ ψ) d v → RD T H φ d' v
  | 0, d, d', v, e, h => by
    simp only [rb] at e
    split at e
    · rename_i b; cases e; exact RD.cut d v b h
    · cases e
  | m + 1, d, d', v, e, h => by
    unfold rb at e
    split at e
    · rename_i b; cases e; exact RD.cut d v b h
    · rename_i nb
      cases d with
      | tup ds =>
        simp only [Option.map_eq_some_iff] at e
        obtain ⟨ds', e1, rfl⟩ := e
        obtain ⟨a, vs, h1, h2, h3⟩ := h
        exact ⟨a, vs, h1, h2, rbs_ok (rb_ok R m) ds ds' vs e1 h3⟩
      | fl ds =>
        simp only [Option.map_eq_some_iff] at e
        obtain ⟨ds', e1, rfl⟩ := e
        obtain ⟨a, vs, h1, h2, h3, h4⟩ := h
        exact ⟨a, vs, h1, fun z => h2 (List.mem_append_left _ z), h3, rbs_ok (rb_ok R m) ds ds' vs e1 h4⟩
      | fd ks ds =>
        simp only [Option.map_eq_some_iff] at e
        obtain ⟨ds', e1, rfl⟩ := e
        obtain ⟨a, ws, h1, h2, h3, h4, h5⟩ := h
        exact ⟨a, ws, h1, fun z => h2 (List.mem_append_left _ z), h3, h4, rbs_ok (rb_ok R m) ds ds' _ e1 h5⟩
      | ntu ds =>
        simp only [Option.map_eq_some_iff] at e
        obtain ⟨ds', e1, rfl⟩ := e
        obtain ⟨a, vs, o, h1, h2, h3, h4⟩ := h
        exact ⟨a, vs, o, h1, h2, h3, rbs_ok (rb_ok R m) ds ds' vs e1 h4⟩
      | loc n =>
        obtain ⟨a, h1, h2⟩ := h
        simp only at e
        split at e
        · rename_i ds q
          simp only [Option.map_eq_some_iff] at e
          obtain ⟨ds', e1, rfl⟩ := e
          obtain ⟨vs, h3, h4⟩ := R.obj n _ a q h2
          refine ⟨a, vs, h1, fun z => nb ?_, h3, rbs_ok (rb_ok R m) ds ds' vs e1 h4⟩
          obtain ⟨i, hi, ei⟩ := List.getElem_of_mem z
          obtain ⟨hn, en⟩ := List.getElem?_eq_some_iff.mp h2
          have hi' : i < (φ ++ ψ).length := by rw [List.length_append]; omega
          have ei' : (φ ++ ψ)[i] = a := by rw [List.getElem_append_left hi]; exact ei
          have : i = n := (List.getElem_inj R.nd).mp (ei'.trans en.symm)
          subst this
          simp only [bd, decide_eq_true_eq]; exact hi
        · rename_i kvs q
          simp only [Option.map_eq_some_iff] at e
          obtain ⟨ds', e1, rfl⟩ := e
          obtain ⟨ws, h3, hk, h4⟩ := R.obj n _ a q h2
          refine ⟨a, ws, h1, fun z => nb ?_, .inl h3, hk, rbs_ok (rb_ok R m) _ ds' _ e1 h4⟩
          obtain ⟨i, hi, ei⟩ := List.getElem_of_mem z
          obtain ⟨hn, en⟩ := List.getElem?_eq_some_iff.mp h2
          have hi' : i < (φ ++ ψ).length := by rw [List.length_append]; omega
          have ei' : (φ ++ ψ)[i] = a := by rw [List.getElem_append_left hi]; exact ei
          have : i = n := (List.getElem_inj R.nd).mp (ei'.trans en.symm)
          subst this
          simp only [bd, decide_eq_true_eq]; exact hi
        · cases e
      | _ => cases e
end
theorem Ext.cut {φ φ' : List Addr} {H H' : Hp} (e : Ext φ H φ' H') : Ext φ H φ H' := ⟨⟨[], by simp⟩, e.tup, e.frz, e.lst, e.dic, fun _ h => .inl h, e.ded⟩
theorem fz_imp {T : Tb} {W : WX} {f : EF} {σ : L2.St} {H : Hp} {Q : VK} (h : rdE T W (fz f) σ H Q) : rdE T W f σ H Q := by
  obtain ⟨φ, S, τ, o, R, r, e, q⟩ := h
  unfold fz at e
  cases e1 : f τ S with
  | none => rw [e1] at e; cases e
  | some x =>
    rw [e1] at e
    refine ⟨φ, S, τ, x, R, r, e1, ?_⟩
    cases x with
    | ok d S1 =>
      simp only at e
      split at e
      · rename_i w
        simp only [Option.map_eq_some_iff] at e
        obtain ⟨d', e2, rfl⟩ := e
        intro φ' H' v E R' r'
        have E' := E
        obtain ⟨⟨ψ, rfl⟩, _⟩ := E'
        rw [← R.len] at w e2
        have R2 := R'.cut w
        rw [R.len] at R2
        exact q φ H' v E.cut R2 (rb_ok R' 8 d d' v e2 r')
      · cases e
    | ex x S1 =>
      simp only at e
      split at e
      · rename_i w
        cases e
        intro φ' H' v E R' r'
        have E' := E
        obtain ⟨⟨ψ, rfl⟩, _⟩ := E'
        rw [← R.len] at w
        have R2 := R'.cut w
        rw [R.len] at R2
        exact q φ H' v E.cut R2 r'
      · cases e
theorem d_fz {X : Cx} {T : Tb} {W : WX} {e : Expr} {f : EF} (h : PE X e (rdE T W f)) : PE X e (rdE T W (fz f)) := h.imp fun _ _ _ h => fz_imp h
end Sb
end
section
set_option Elab.async false
set_option linter.all false
set_option maxRecDepth 100000
set_option maxHeartbeats 4000000
namespace Sb
open PySem PySem.Spec PyProof.Rows L2

abbrev G2 := D → D → Sto → Option (D × Sto)
abbrev GN := List D → Sto → Option (D × Sto)
def lft (o : Option (D × Sto)) : Option (Rs D) := match o with
  | some (d, S) => some (.ok d S)
  | none => none
/-- what a value's rule wants, by data -/
def Fin (T : Tb) (φ : List Addr) (H : Hp) (o : Option (D × Sto)) (Q : VK) : Prop := ∃ d S', o = some (d, S') ∧ ∀ φ' H' v, Ext φ H φ' H' → Rel T φ' S' H' → RD T H' φ' d v → Q v H'
theorem Fin.of {T : Tb} {φ : List Addr} {H : Hp} {o : Option (D × Sto)} {o' : Rs D} {Q : VK} {W : XK} (h : lft o = some o') (q : EndE T φ H o' Q W) : Fin T φ H o Q := by
  cases o with
  | none => cases h
  | some p =>
    obtain ⟨d, S⟩ := p
    cases h
    exact ⟨d, S, rfl, q⟩
theorem Fin.val {T : Tb} {φ : List Addr} {S : Sto} {H : Hp} {d : D} {v : V} {Q : VK} (f : Fin T φ H (some (d, S)) Q) (R : Rel T φ S H) (r : RD T H φ d v) : Q v H := by
  obtain ⟨d', S', e, q⟩ := f
  cases e
  exact q φ H v .refl R r
/-- a new tuple -/
theorem Fin.tup {T : Tb} {φ : List Addr} {S : Sto} {H : Hp} {ds : List D} {vs : List V} {Q : VK} (f : Fin T φ H (some (.tup ds, S)) Q) (R : Rel T φ S H) (r : RDs T H φ ds vs) (p : Addr) (hp : H p = none) : Q (.ref p) (upd H p (.tup vs)) := by
  obtain ⟨d', S', e, q⟩ := f
  cases e
  obtain ⟨R1, E1⟩ := R.garb (u := .tup vs) hp
  exact q φ _ _ E1 R1 ⟨p, vs, rfl, (.inl upd_same), r.ext E1 _ _⟩
/-- a new list -/
theorem Fin.lst {T : Tb} {φ : List Addr} {S : Sto} {H : Hp} {ds : List D} {vs : List V} {Q : VK} (f : Fin T φ H (some (.loc S.length, S ++ [.lst ds])) Q) (R : Rel T φ S H) (r : RDs T H φ ds vs) (p : Addr) (hp : H p = none) : Q (.ref p) (upd H p (.lst vs)) := by
  obtain ⟨d', S', e, q⟩ := f
  cases e
  obtain ⟨R1, E1⟩ := R.garb (u := .lst vs) hp
  have E2 : Ext φ H (φ ++ [p]) (upd H p (.lst vs)) := Ext.freshL hp
  obtain ⟨R2, _⟩ := R.new (o := .lst ds) hp ⟨vs, upd_same, r.ext E2 _ _⟩
  exact q _ _ _ E2 R2 ⟨p, rfl, by rw [← R.len]; simp⟩
theorem Fin.fl {T : Tb} {φ : List Addr} {S : Sto} {H : Hp} {ds : List D} {vs : List V} {Q : VK} (f : Fin T φ H (some (.fl ds, S)) Q) (R : Rel T φ S H) (r : RDs T H φ ds vs) (p : Addr) (hp : H p = none) : Q (.ref p) (upd H p (.lst vs)) := by
  obtain ⟨d', S', e, q⟩ := f
  cases e
  obtain ⟨R1, E1⟩ := R.garb (u := .lst vs) hp
  exact q φ _ _ E1 R1 ⟨p, vs, rfl, R.notin hp, upd_same, r.ext E1 _ _⟩
theorem Ext.put {φ : List Addr} {H : Hp} {a : Addr} {us : List V} {u : HO} (hm : a ∈ φ) (ha : H a = some (.lst us)) : Ext φ H φ (upd H a u) := ⟨⟨[], by simp⟩, fun b vs h => by
    by_cases hb : b = a
    · subst hb; rw [ha] at h; cases h
    · rw [upd_ne hb]; exact h, fun b o w h => by
    by_cases hb : b = a
    · subst hb; rw [ha] at h; cases h
    · rw [upd_ne hb]; exact h, fun b vs nb h => by rw [upd_ne fun q : b = a => nb (q ▸ hm)]; exact h, fun b vs nb h => .inl (by rw [upd_ne fun q : b = a => nb (q ▸ hm)]; exact h), fun _ h => .inl h, fun _ h => upd_dead h⟩
/-- a list written -/
theorem Fin.put {T : Tb} {φ : List Addr} {S : Sto} {H : Hp} {d : D} {n : Nat} {a : Addr} {ds : List D} {vs us : List V} {v : V} {Q : VK} (f : Fin T φ H (some (d, S.set n (.lst ds))) Q) (R : Rel T φ S H) (hn : φ[n]? = some a) (hs : n < S.length) (ha : H a = some (.lst us))
    (r : RDs T H φ ds vs) (rd : RD T H φ d v) : Q v (upd H a (.lst vs)) := by
  obtain ⟨d', S', e, q⟩ := f
  cases e
  have E1 := Ext.put (φ := φ) (u := .lst vs) (List.mem_of_getElem? hn) ha
  obtain ⟨R2, _⟩ := R.put (o := .lst ds) (u := .lst vs) hn hs ⟨vs, upd_same, r.ext E1 _ _⟩
  exact q _ _ _ E1 R2 (rd.ext E1 _ _)

/-! ## sequences -/
def seqD (S : Sto) : D → Option (List D)
  | .tup ds => some ds
  | .loc n => match S[n]? with
    | some (.lst ds) => some ds
    | _ => none
  | .scr ns => some (ns.map .int)
  | .fl ds => some ds
  | _ => none
theorem ints_rds {T : Tb} {H : Hp} {φ : List Addr} : ∀ ns : List Int, RDs T H φ (ns.map D.int) (ns.map V.int)
  | [] => rfl
  | n :: ns => ⟨.int n, ns.map V.int, rfl, rfl, ints_rds ns⟩
theorem seq_sq {T : Tb} {φ : List Addr} {S : Sto} {H : Hp} {d : D} {v : V} {ds : List D} (R : Rel T φ S H) (r : RD T H φ d v) (h : seqD S d = some ds) : ∃ a vs, v = .ref a ∧ (SqL T.K H a vs ∨ SqT T.K H a vs) ∧ RDs T H φ ds vs := by
  cases d with
  | tup es =>
    cases h
    obtain ⟨a, vs, e1, e2, e3⟩ := r
    exact ⟨a, vs, e1, .inr (.inl e2), e3⟩
  | loc n =>
    obtain ⟨a, e1, e2⟩ := r
    simp only [seqD] at h
    split at h
    · rename_i q
      cases h
      obtain ⟨vs, h1, h2⟩ := R.obj n _ a q e2
      exact ⟨a, vs, e1, .inl (.of h1), h2⟩
    · cases h
  | scr ns =>
    obtain ⟨a, e1, e2⟩ := r
    cases h
    exact ⟨a, _, e1, .inl e2.seq, ints_rds ns⟩
  | fl es =>
    cases h
    obtain ⟨a, vs, e1, e2, e3, e4⟩ := r
    exact ⟨a, vs, e1, .inl (.of e3), e4⟩
  | _ => cases h
def listD (S : Sto) : D → Option (List D)
  | .loc n => match S[n]? with
    | some (.lst ds) => some ds
    | _ => none
  | _ => none
theorem list_sq {T : Tb} {φ : List Addr} {S : Sto} {H : Hp} {d : D} {v : V} {ds : List D} (R : Rel T φ S H) (r : RD T H φ d v) (h : listD S d = some ds) : ∃ n a vs, d = .loc n ∧ v = .ref a ∧ S[n]? = some (.lst ds) ∧ φ[n]? = some a ∧ H a = some (.lst vs) ∧ RDs T H φ ds vs := by
  cases d with
  | loc n =>
    obtain ⟨a, e1, e2⟩ := r
    simp only [listD] at h
    split at h
    · rename_i q
      cases h
      obtain ⟨vs, h1, h2⟩ := R.obj n _ a q e2
      exact ⟨n, a, vs, rfl, e1, q, e2, h1, h2⟩
    · cases h
  | _ => cases h

/-! ## names, constants -/
section
variable {X : Cx} {T : Tb} {W : WX} {pos : Pos}
def eVar (i : Nat) : EF := fun τ S => match τ[i]? with
  | some (some d) => some (.ok d S)
  | _ => none
theorem d_var (i : Nat) {x : Str} (hN : X.N[i]? = some x := by rfl) (hv : Vis X.env.scope x := by first | exact Or.inl rfl | exact Or.inr (Or.inl rfl) | exact Or.inr (Or.inr rfl)) (hd : (x == ("__debug__" : Str)) = false := by decide)
    (hcd : (x == ("__classdict__" : Str)) = false := by decide) : PE X (.Name x pos) (rdE T W (eVar i)) :=
  (pe_var hN hv hd hcd).imp fun σ H Q h => by
    obtain ⟨φ, S, τ, o, R, r, e, q⟩ := h
    unfold eVar at e
    split at e
    · rename_i d hd
      cases e
      obtain ⟨v, h1, h2⟩ := r.at_ i d hd
      exact ⟨v, h1, q φ H v .refl R h2⟩
    · cases e
def eC (d : D) : EF := fun _ S => some (.ok d S)
theorem d_of_c {e : Expr} {v : V} (d : D) (h : PE X e (tC v)) (hd : ∀ H φ, RD T H φ d v) : PE X e (rdE T W (eC d)) := h.imp fun σ H Q h => by
  obtain ⟨φ, S, τ, o, R, r, e, q⟩ := h
  cases e
  exact q φ H v .refl R (hd H φ)
theorem d_int {i j} : PE X (.Constant (.int i) j pos) (rdE T W (eC (.int i))) := d_of_c _ pe_int fun _ _ => rfl
theorem d_bl {b j} : PE X (.Constant (.bool b) j pos) (rdE T W (eC (.bl b))) := d_of_c _ pe_bl fun _ _ => rfl
theorem d_non {j} : PE X (.Constant .none j pos) (rdE T W (eC .non)) := d_of_c _ pe_non fun _ _ => rfl
theorem d_str {x j} : PE X (.Constant (.str x) j pos) (rdE T W (eC (.str x))) := d_of_c _ pe_str fun _ _ => rfl
/-- a module's number -/
theorem d_num {x : Str} {i : Int} {t : Tok} (hg : Gl X x) (hm : X.mg x = some (.int i t)) (hd : (x == ("__debug__" : Str)) = false := by decide) : PE X (.Name x pos) (rdE T W (eC (.int i))) :=
  d_of_c _ (pe_glob (v := .int i) hg hm ⟨t, rfl⟩ hd) fun _ _ => rfl

/-! ## operators -/
variable {a b c : Expr} {fa fb fc : EF}
def eB (g : G2) (fa fb : EF) : EF := fun τ => (fa τ).bnd fun x => (fb τ).bnd fun y S => lft (g x y S)
def rG2 (T : Tb) (g : G2) : R2 := fun x y H Q => ∃ φ S d1 d2, Rel T φ S H ∧ RD T H φ d1 x ∧ RD T H φ d2 y ∧ Fin T φ H (g d1 d2 S) Q
theorem two_of {g : G2} {σ : L2.St} {H : Hp} {Q : VK} (h : rdE T W (eB g fa fb) σ H Q) : rdE T W fa σ H fun x H1 => rdE T W fb σ H1 fun y H2 => rG2 T g x y H2 Q := by
  obtain ⟨φ, S, τ, o, R, r, e, q⟩ := h
  refine rdE_bnd R r e q fun d1 S1 v1 H1 φ1 ⟨E1, R1, r1⟩ e1 q1 => ?_
  refine rdE_bnd R1 (r.ext E1) e1 q1 fun d2 S2 v2 H2 φ2 ⟨E2, R2, r2⟩ e2 q2 => ?_
  exact ⟨φ2, S2, d1, d2, R2, r1.ext E2 _ _, r2, Fin.of e2 q2⟩
theorem d_bin {op : Operator} {g : G2} (ho : OpR X (binaryOp op) (rG2 T g)) (ha : PE X a (rdE T W fa)) (hb : PE X b (rdE T W fb)) : PE X (.BinOp a op b pos) (rdE T W (eB g fa fb)) :=
  (pe_op ho ha hb).imp fun _ _ _ h => two_of h
theorem d_cmp {op : CmpOp} {g : G2} (ho : OpR X (compareOp op) (rG2 T g)) (ha : PE X a (rdE T W fa)) (hb : PE X b (rdE T W fb)) (hm : behindInMarks op b = false) : PE X (.Compare a [op] [b] pos) (rdE T W (eB g fa fb)) :=
  (pe_cmpR ho ha hb hm).imp fun _ _ _ h => two_of h
theorem OpR.imp {f : Value → Value → Sem Value} {r r' : R2} (h : OpR X f r) (i : ∀ x y H Q, r' x y H Q → r x y H Q) : OpR X f r' := fun pins s σ H x y v u Q I rx ry q => h pins s σ H x y v u Q I rx ry (i x y H Q q)

/-- the things of a list, kept or not -/
def flD (S : Sto) : D → Option (List D)
  | .fl ds => some ds
  | d => listD S d
theorem fl_sq {T : Tb} {φ : List Addr} {S : Sto} {H : Hp} {d : D} {v : V} {ds : List D} (R : Rel T φ S H) (r : RD T H φ d v) (h : flD S d = some ds) : ∃ a vs, v = .ref a ∧ H a = some (.lst vs) ∧ RDs T H φ ds vs := by
  unfold flD at h
  split at h
  · cases h
    obtain ⟨a, vs, e1, _, e2, e3⟩ := r
    exact ⟨a, vs, e1, e2, e3⟩
  · obtain ⟨n, a, vs, _, e1, _, _, e2, e3⟩ := list_sq R r h
    exact ⟨a, vs, e1, e2, e3⟩
def gAdd : G2 := fun x y S => match x, y with
  | .int i, .int j => some (.int (i + j), S)
  | .str s, .str t => if s.length + t.length ≤ sizeLine then some (.str (s ++ t), S) else none
  | .tup ds, .tup es => if ds.length + es.length ≤ sizeLine then some (.tup (ds ++ es), S) else none
  | .loc m, .loc n => match S[m]?, S[n]? with
    | some (.lst ds), some (.lst es) => if ds.length + es.length ≤ sizeLine then some (.loc S.length, S ++ [.lst (ds ++ es)]) else none
    | _, _ => none
  | .fl ds, y => (flD S y).bind fun es => if ds.length + es.length ≤ sizeLine then some (.fl (ds ++ es), S) else none
  | .loc m, .fl es => (flD S (.loc m)).bind fun ds => if ds.length + es.length ≤ sizeLine then some (.fl (ds ++ es), S) else none
  | _, _ => none
theorem o_add : OpR X (binaryOp .Add) (rG2 T gAdd) :=
  OpR.imp (OpR.or op_add (OpR.or op_add_str (OpR.or op_catA op_cat))) fun x y H Q h => by
    obtain ⟨φ, S, d1, d2, R, r1, r2, f⟩ := h
    cases d1 with
    | int i =>
      cases d2 with
      | int j => cases r1; cases r2; exact .inl ⟨i, j, rfl, rfl, f.val R rfl⟩
      | _ => obtain ⟨_, _, e, _⟩ := f; cases e
    | str s =>
      cases d2 with
      | str t =>
        cases r1; cases r2
        simp only [gAdd] at f
        split at f
        · rename_i hl
          exact .inr (.inl ⟨s, t, rfl, rfl, hl, f.val R rfl⟩)
        · obtain ⟨_, _, e, _⟩ := f; cases e
      | _ => obtain ⟨_, _, e, _⟩ := f; cases e
    | tup ds =>
      cases d2 with
      | tup es =>
        simp only [gAdd] at f
        split at f
        · rename_i hl
          have r1' := r1
          have r2' := r2
          obtain ⟨p, vs, rfl, h1, s1⟩ := r1
          obtain ⟨q, ws, rfl, h2, s2⟩ := r2
          have l1 := s1.length
          have l2 := s2.length
          refine .inr (.inr (.inl ⟨p, q, vs, ws, rfl, rfl, .inl h1, .inl h2, by omega, fun e => ?_, fun _ e => ?_, fun _ _ z hz => ?_⟩))
          · subst e
            have : ds = [] := List.eq_nil_of_length_eq_zero (by simpa using l1)
            subst this
            exact f.val R (by simpa using r2')
          · subst e
            have : es = [] := List.eq_nil_of_length_eq_zero (by simpa using l2)
            subst this
            exact f.val R (by simpa using r1')
          · exact f.tup R (s1.app s2) z hz
        · obtain ⟨_, _, e, _⟩ := f; cases e
      | _ => obtain ⟨_, _, e, _⟩ := f; cases e
    | loc m =>
      cases d2 with
      | loc n =>
        simp only [gAdd] at f
        split at f
        · rename_i ds es h1 h2
          split at f
          · rename_i hl
            obtain ⟨p, rfl, e1⟩ := r1
            obtain ⟨q, rfl, e2⟩ := r2
            obtain ⟨vs, k1, s1⟩ := R.obj m _ p h1 e1
            obtain ⟨ws, k2, s2⟩ := R.obj n _ q h2 e2
            have l1 := s1.length
            have l2 := s2.length
            exact .inr (.inr (.inr ⟨p, q, vs, ws, rfl, rfl, k1, k2, by omega, fun z hz => f.lst R (s1.app s2) z hz⟩))
          · obtain ⟨_, _, e, _⟩ := f; cases e
        · obtain ⟨_, _, e, _⟩ := f; cases e
      | fl es =>
        simp only [gAdd] at f
        cases e : flD S (.loc m) with
        | none => rw [e] at f; obtain ⟨_, _, e, _⟩ := f; cases e
        | some ds =>
          rw [e] at f
          simp only [Option.bind_some] at f
          split at f
          · obtain ⟨p, vs, rfl, k1, s1⟩ := fl_sq R r1 e
            obtain ⟨q, ws, rfl, _, k2, s2⟩ := r2
            have l1 := s1.length
            have l2 := s2.length
            exact .inr (.inr (.inr ⟨p, q, vs, ws, rfl, rfl, k1, k2, by omega, fun z hz => f.fl R (s1.app s2) z hz⟩))
          · obtain ⟨_, _, e, _⟩ := f; cases e
      | _ => obtain ⟨_, _, e, _⟩ := f; cases e
    | fl ds =>
      simp only [gAdd] at f
      cases e : flD S d2 with
      | none => rw [e] at f; obtain ⟨_, _, e, _⟩ := f; cases e
      | some es =>
        rw [e] at f
        simp only [Option.bind_some] at f
        split at f
        · obtain ⟨p, vs, rfl, _, k1, s1⟩ := r1
          obtain ⟨q, ws, rfl, k2, s2⟩ := fl_sq R r2 e
          have l1 := s1.length
          have l2 := s2.length
          exact .inr (.inr (.inr ⟨p, q, vs, ws, rfl, rfl, k1, k2, by omega, fun z hz => f.fl R (s1.app s2) z hz⟩))
        · obtain ⟨_, _, e, _⟩ := f; cases e
    | _ => obtain ⟨_, _, e, _⟩ := f; cases e
/-- two whole numbers under a condition -/
def gI (C : Int → Int → Bool) (g : Int → Int → D) : G2 := fun x y S => match x, y with
  | .int i, .int j => if C i j = true then some (g i j, S) else none
  | _, _ => none
theorem o_int {f : Value → Value → Sem Value} {C : Int → Int → Prop} {gv : Int → Int → V} (h : OpR X f (rI C gv)) {c : Int → Int → Bool} {g : Int → Int → D} (hc : ∀ i j, c i j = true → C i j) (hg : ∀ i j H φ, RD T H φ (g i j) (gv i j)) : OpR X f (rG2 T (gI c g)) :=
  OpR.imp h fun x y H Q h => by
    obtain ⟨φ, S, d1, d2, R, r1, r2, f⟩ := h
    cases d1 with
    | int i =>
      cases d2 with
      | int j =>
        cases r1; cases r2
        simp only [gI] at f
        split at f
        · rename_i k
          exact ⟨i, j, rfl, rfl, hc i j k, f.val R (hg _ _ _ _)⟩
        · obtain ⟨_, _, e, _⟩ := f; cases e
      | _ => obtain ⟨_, _, e, _⟩ := f; cases e
    | _ => obtain ⟨_, _, e, _⟩ := f; cases e
theorem o_int0 {f : Value → Value → Sem Value} {gv : Int → Int → V} (h : OpR X f (rI0 gv)) {g : Int → Int → D} (hg : ∀ i j H φ, RD T H φ (g i j) (gv i j)) : OpR X f (rG2 T (gI (fun _ _ => true) g)) :=
  OpR.imp h fun x y H Q h => by
    obtain ⟨φ, S, d1, d2, R, r1, r2, f⟩ := h
    cases d1 with
    | int i =>
      cases d2 with
      | int j => cases r1; cases r2; exact ⟨i, j, rfl, rfl, f.val R (hg _ _ _ _)⟩
      | _ => obtain ⟨_, _, e, _⟩ := f; cases e
    | _ => obtain ⟨_, _, e, _⟩ := f; cases e
def gSub : G2 := gI (fun _ _ => true) fun i j => .int (i - j)
theorem o_sub : OpR X (binaryOp .Sub) (rG2 T gSub) := o_int0 op_sub fun _ _ _ _ => rfl
def gMul : G2 := gI (fun i j => decide (i.natAbs.log2 + j.natAbs.log2 < 1000000)) fun i j => .int (i * j)
theorem o_mul : OpR X (binaryOp .Mult) (rG2 T gMul) := o_int op_mulW (fun i j h => show i.natAbs.log2 + j.natAbs.log2 < 1000000 from of_decide_eq_true h) fun _ _ _ _ => rfl
/-- a divisor above 0 -/
def gMod : G2 := gI (fun _ j => decide (0 < j)) fun i j => .int (i % j)
theorem o_mod : OpR X (binaryOp .Mod) (rG2 T gMod) := o_int op_mod (fun _ _ h => of_decide_eq_true h) fun _ _ _ _ => rfl
def gDiv : G2 := gI (fun _ j => decide (0 < j ∧ j.natAbs.log2 < 9000)) fun i j => .int (i / j)
theorem o_div : OpR X (binaryOp .FloorDiv) (rG2 T gDiv) := o_int op_fdivW (fun i j h => show 0 < j ∧ j.natAbs.log2 < 9000 from of_decide_eq_true h) fun _ _ _ _ => rfl
def gPow : G2 := gI (fun i j => decide (0 ≤ j ∧ j ≤ 1000000 ∧ i.natAbs < 2 ^ 64)) fun i j => .int (i ^ j.toNat)
theorem o_pow : OpR X (binaryOp .Pow) (rG2 T gPow) := o_int op_pow (fun i j h => show 0 ≤ j ∧ j ≤ 1000000 ∧ i.natAbs < 2 ^ 64 from of_decide_eq_true h) fun _ _ _ _ => rfl
def gLtI : G2 := gI (fun _ _ => true) fun i j => .bl (decide (i < j))
def gGtI : G2 := gI (fun _ _ => true) fun i j => .bl (decide (j < i))
def gGeI : G2 := gI (fun _ _ => true) fun i j => .bl (decide (j ≤ i))
theorem o_lt : OpR X (compareOp .Lt) (rG2 T gLtI) := o_int0 op_lt fun _ _ _ _ => rfl
theorem o_gt : OpR X (compareOp .Gt) (rG2 T gGtI) := o_int0 op_gt fun _ _ _ _ => rfl
theorem o_ge : OpR X (compareOp .GtE) (rG2 T gGeI) := o_int0 op_ge fun _ _ _ _ => rfl
/-- <= of whole numbers and of texts -/
def gLe : G2 := fun x y S => match x, y with
  | .int i, .int j => some (.bl (decide (i ≤ j)), S)
  | .str i, .str j => some (.bl (!decide (j.cps.toList < i.cps.toList)), S)
  | _, _ => none
theorem o_le : OpR X (compareOp .LtE) (rG2 T gLe) := OpR.imp (OpR.or op_le op_le_str) fun x y H Q h => by
  obtain ⟨φ, S, d1, d2, R, r1, r2, f⟩ := h
  cases d1 with
  | int i =>
    cases d2 with
    | int j => cases r1; cases r2; exact .inl ⟨i, j, rfl, rfl, f.val R rfl⟩
    | _ => obtain ⟨_, _, e, _⟩ := f; cases e
  | str i =>
    cases d2 with
    | str j => cases r1; cases r2; exact .inr ⟨i, j, rfl, rfl, f.val R rfl⟩
    | _ => obtain ⟨_, _, e, _⟩ := f; cases e
  | _ => obtain ⟨_, _, e, _⟩ := f; cases e

/-! ## equality of data -/
def toPy : Nat → Sto → D → Option PyData
  | 0, _, _ => none
  | n + 1, S, d => match d with
    | .non => some .none
    | .bl b => some (.bool b)
    | .int i => some (.int i)
    | .str x => some (.str x)
    | .tup ds => (ds.mapM (toPy n S)).map .tuple
    | .loc k => match S[k]? with
      | some (.lst ds) => (ds.mapM (toPy n S)).map .list
      | _ => none
    | .scr _ => none
    | .fl ds => (ds.mapM (toPy n S)).map .list
    | .exn _ => none
    | .fd _ _ => none
    | .rgo _ _ => none
    | .ntu _ => none
theorem all_dp {T : Tb} {K : PySem.W.Frag} {φ : List Addr} {S : Sto} {H : Hp} {n : Nat} (ih : ∀ d v p, RD T H φ d v → toPy n S d = some p → Dp K H v p) : ∀ (ds : List D) (vs : List V) (ps : List PyData), RDs T H φ ds vs → ds.mapM (toPy n S) = some ps → DpAll K H vs ps
  | [], vs, ps, h, e => by
    cases h
    simp at e
    subst e
    exact .nil
  | d :: ds, vs, ps, h, e => by
    obtain ⟨v, r, rfl, h1, h2⟩ := h
    rw [List.mapM_cons] at e
    simp only [Option.bind_eq_bind, Option.bind_eq_some_iff, Option.pure_def, Option.some.injEq] at e
    obtain ⟨p, e1, qs, e2, rfl⟩ := e
    exact .cons (ih d v p h1 e1) (all_dp ih ds r qs h2 e2)
theorem py_dp {K : PySem.W.Frag} {T : Tb} {φ : List Addr} {S : Sto} {H : Hp} (R : Rel T φ S H) : ∀ (n : Nat) (d : D) (v : V) (p : PyData), RD T H φ d v → toPy n S d = some p → Dp K H v p
  | 0, d, v, p, _, e => by cases e
  | n + 1, d, v, p, r, e => by
    cases d with
    | non => cases r; cases e; exact .non
    | bl b => cases r; cases e; exact .bl b
    | int i => cases r; cases e; exact .int i
    | str x => cases r; cases e; exact .str x
    | tup ds =>
      obtain ⟨a, vs, rfl, h1, h2⟩ := r
      simp only [toPy, Option.map_eq_some_iff] at e
      obtain ⟨ps, e1, rfl⟩ := e
      exact .tup (.inl h1) (all_dp (py_dp R n) ds vs ps h2 e1)
    | loc k =>
      simp only [toPy] at e
      obtain ⟨a, rfl, h1⟩ := r
      split at e
      · rename_i q
        simp only [Option.map_eq_some_iff] at e
        obtain ⟨ps, e1, rfl⟩ := e
        obtain ⟨vs, k1, k2⟩ := R.obj k _ a q h1
        exact .lst (.of k1) (all_dp (py_dp R n) _ vs ps k2 e1)
      · cases e
    | scr ns => cases e
    | exn c => cases e
    | fd ks ds => cases e
    | rgo lo hi => cases e
    | ntu ds => cases e
    | fl ds =>
      obtain ⟨a, vs, rfl, _, h1, h2⟩ := r
      simp only [toPy, Option.map_eq_some_iff] at e
      obtain ⟨ps, e1, rfl⟩ := e
      exact .lst (.of h1) (all_dp (py_dp R n) ds vs ps h2 e1)
def gEq (neg : Bool) : G2 := fun x y S => match toPy 8 S x, toPy 8 S y with
  | some d, some e => if SeqAt.shaped d = true ∧ SeqAt.shaped e = true then some (.bl (if neg then !PyData.eqv d e else PyData.eqv d e), S) else none
  | _, _ => none
theorem eq_of {K : PySem.W.Frag} {neg : Bool} {x y : V} {H : Hp} {Q : VK} (h : rG2 T (gEq neg) x y H Q) : ∃ d e, Dp K H x d ∧ Dp K H y e ∧ SeqAt.shaped d = true ∧ SeqAt.shaped e = true ∧ Q (.bl (if neg then !PyData.eqv d e else PyData.eqv d e)) H := by
  obtain ⟨φ, S, d1, d2, R, r1, r2, f⟩ := h
  simp only [gEq] at f
  split at f
  · rename_i d e h1 h2
    split at f
    · rename_i hs
      exact ⟨d, e, py_dp R _ _ _ _ r1 h1, py_dp R _ _ _ _ r2 h2, hs.1, hs.2, f.val R rfl⟩
    · obtain ⟨_, _, z, _⟩ := f; cases z
  · obtain ⟨_, _, z, _⟩ := f; cases z
theorem o_eq (hu : X.A.units + 64 < cLine) : OpR X (compareOp .Eq) (rG2 T (gEq false)) := OpR.imp (op_eqD hu) fun _ _ _ _ h => eq_of h
theorem o_ne (hu : X.A.units + 64 < cLine) : OpR X (compareOp .NotEq) (rG2 T (gEq true)) := OpR.imp (op_neD hu) fun _ _ _ _ h => eq_of h
/-- in, not in: over a list of data -/
def gIn (neg : Bool) : G2 := fun x y S => match toPy 8 S x, toPy 8 S y with
  | some d, some (.list es) => if SeqAt.shaped d = true ∧ SeqAt.shaped (.list es) = true then some (.bl (if neg then !es.any fun z => PyData.eqv z d else es.any fun z => PyData.eqv z d), S) else none
  | _, _ => none
theorem in_of {K : PySem.W.Frag} {neg : Bool} {x y : V} {H : Hp} {Q : VK} (h : rG2 T (gIn neg) x y H Q) : ∃ d es, Dp K H x d ∧ Dp K H y (.list es) ∧ SeqAt.shaped d = true ∧ SeqAt.shaped (.list es) = true ∧ Q (.bl (if neg then !es.any fun z => PyData.eqv z d else es.any fun z => PyData.eqv z d)) H := by
  obtain ⟨φ, S, d1, d2, R, r1, r2, f⟩ := h
  simp only [gIn] at f
  split at f
  · rename_i d e h1 h2
    split at f
    · rename_i hs
      exact ⟨d, e, py_dp R _ _ _ _ r1 h1, py_dp R _ _ _ _ r2 h2, hs.1, hs.2, f.val R rfl⟩
    · obtain ⟨_, _, z, _⟩ := f; cases z
  · obtain ⟨_, _, z, _⟩ := f; cases z
theorem o_notIn (hu : X.A.units + 65 < cLine) : OpR X (compareOp .NotIn) (rG2 T (gIn true)) := OpR.imp (op_notInD hu) fun _ _ _ _ h => in_of h
def isNonD : D → Bool
  | .non => true
  | _ => false
theorem isNonD_ok {T : Tb} {H : Hp} {φ : List Addr} {d : D} {v : V} (r : RD T H φ d v) : decide (v = .non) = isNonD d := by
  cases d with
  | non => cases r; rfl
  | bl _ => cases r; rfl
  | int _ => cases r; rfl
  | str _ => cases r; rfl
  | tup _ => obtain ⟨a, vs, rfl, _⟩ := r; rfl
  | loc _ => obtain ⟨a, rfl, _⟩ := r; rfl
  | scr _ => obtain ⟨a, rfl, _⟩ := r; rfl
  | fl _ => obtain ⟨a, vs, rfl, _⟩ := r; rfl
  | exn _ => obtain ⟨a, oe, vs, rfl, _⟩ := r; rfl
  | fd _ _ => obtain ⟨a, ws, rfl, _⟩ := r; rfl
  | rgo _ _ => obtain ⟨a, o, rfl, _⟩ := r; rfl
  | ntu _ => obtain ⟨a, vs, o, rfl, _⟩ := r; rfl
def gIsN (neg : Bool) : G2 := fun x y S => match y with
  | .non => some (.bl (if neg then !isNonD x else isNonD x), S)
  | _ => none
theorem isN_of {neg : Bool} {x y : V} {H : Hp} {Q : VK} (h : rG2 T (gIsN neg) x y H Q) : y = .non ∧ Q (.bl (if neg then !decide (x = .non) else decide (x = .non))) H := by
  obtain ⟨φ, S, d1, d2, R, r1, r2, f⟩ := h
  cases d2 with
  | non => cases r2; rw [isNonD_ok r1]; exact ⟨rfl, f.val R rfl⟩
  | _ => obtain ⟨_, _, z, _⟩ := f; cases z
theorem o_isN : OpR X (compareOp .Is) (rG2 T (gIsN false)) := OpR.imp op_isN fun _ _ _ _ h => isN_of h
end
end Sb
end
section
set_option Elab.async false
set_option linter.all false
set_option maxRecDepth 100000
set_option maxHeartbeats 4000000
namespace Sb
open PySem PySem.Spec PyProof.Rows L2

section
variable {X : Cx} {T : Tb} {W : WX} {pos : Pos}
/-! ## arguments, displays -/
def aNil : AF := fun _ S => some (.ok [] S)
def aCons (f : EF) (r : AF) : AF := fun τ => (f τ).bnd fun d => (r τ).bnd fun ds S => some (.ok (d :: ds) S)
theorem rdA_bndA {a : AF} {k : List D → M (List D)} {φ : List Addr} {S : Sto} {τ : Sl} {o : Rs (List D)} {σ : L2.St} {H : Hp} {Q : List V → Hp → Prop} (R : Rel T φ S H) (r : RSl T H φ τ σ) (h : (a τ).bnd k S = some o) (q : EndEs T φ H o Q fun c d H' => W c d σ H') {Q' : List V → Hp → Prop}
    (n : ∀ d S1 v H1 φ1, Ext φ H φ1 H1 → Rel T φ1 S1 H1 → RDs T H1 φ1 d v → k d S1 = some o → EndEs T φ1 H1 o Q (fun c d H' => W c d σ H') → Q' v H1) : rdA T W a σ H Q' := by
  unfold M.bnd at h
  cases e : a τ S with
  | none => rw [e] at h; cases h
  | some x =>
    rw [e] at h
    refine ⟨φ, S, τ, x, R, r, e, ?_⟩
    cases x with
    | ok d S1 => exact fun φ' H' v e1 e2 e3 => n d S1 v H' φ' e1 e2 e3 h (q.mono e1)
    | ex x S1 => cases h; exact q
theorem rdE_bndA {a : EF} {k : D → M (List D)} {φ : List Addr} {S : Sto} {τ : Sl} {o : Rs (List D)} {σ : L2.St} {H : Hp} {Q : List V → Hp → Prop} (R : Rel T φ S H) (r : RSl T H φ τ σ) (h : (a τ).bnd k S = some o) (q : EndEs T φ H o Q fun c d H' => W c d σ H') {Q' : VK}
    (n : ∀ d S1 v H1 φ1, At T φ H d S1 v H1 φ1 → k d S1 = some o → EndEs T φ1 H1 o Q (fun c d H' => W c d σ H') → Q' v H1) : rdE T W a σ H Q' := by
  unfold M.bnd at h
  cases e : a τ S with
  | none => rw [e] at h; cases h
  | some x =>
    rw [e] at h
    refine ⟨φ, S, τ, x, R, r, e, ?_⟩
    cases x with
    | ok d S1 => exact fun φ' H' v e1 e2 e3 => n d S1 v H' φ' ⟨e1, e2, e3⟩ h (q.mono e1)
    | ex x S1 => cases h; exact q
variable {a b c e : Expr} {es : List Expr} {fa fb fc : EF} {ra : AF}
theorem d_nil : PA X [] (rdA T W aNil) := pa_nil.imp fun σ H Q h => by
  obtain ⟨φ, S, τ, o, R, r, e, q⟩ := h
  cases e
  exact q φ H [] .refl R rfl
theorem d_cons (ha : PE X e (rdE T W fa)) (hr : PA X es (rdA T W ra)) (hs : starEach (e :: es) X.env = (false, eval e X.env) :: starEach es X.env := by rfl) : PA X (e :: es) (rdA T W (aCons fa ra)) :=
  (pa_cons ha hr hs).imp fun σ H Q h => by
    obtain ⟨φ, S, τ, o, R, r, e, q⟩ := h
    refine rdE_bndA R r e q fun d1 S1 v1 H1 φ1 ⟨E1, R1, r1⟩ e1 q1 => ?_
    refine rdA_bndA R1 (r.ext E1) e1 q1 fun d2 S2 v2 H2 φ2 E2 R2 r2 e2 q2 => ?_
    cases e2
    exact q2 φ2 H2 _ .refl R2 ⟨v1, v2, rfl, r1.ext E2 _ _, r2⟩
def eTup (r : AF) : EF := fun τ => (r τ).bnd fun ds S => if ds.length ≤ sizeLine then some (.ok (.tup ds) S) else none
def eLst (r : AF) : EF := fun τ => (r τ).bnd fun ds S => if ds.length ≤ sizeLine then some (.ok (.loc S.length) (S ++ [.lst ds])) else none
theorem d_tup {x1} (h : PA X es (rdA T W ra)) : PE X (.Tuple es x1 pos) (rdE T W (eTup ra)) := (pe_tup h).imp fun σ H Q h => by
  obtain ⟨φ, S, τ, o, R, r, e, q⟩ := h
  refine rdA_bnd R r e q fun ds S1 vs H1 φ1 E1 R1 r1 e1 q1 => ?_
  split at e1
  · rename_i hl
    cases e1
    exact ⟨by rw [← r1.length]; exact hl, fun p hp => Fin.tup (S := S1) ⟨_, _, rfl, q1⟩ R1 r1 p hp⟩
  · cases e1
theorem d_lst (h : PA X es (rdA T W ra)) : PE X (.List es pos) (rdE T W (eLst ra)) := (pe_lst h).imp fun σ H Q h => by
  obtain ⟨φ, S, τ, o, R, r, e, q⟩ := h
  refine rdA_bnd R r e q fun ds S1 vs H1 φ1 E1 R1 r1 e1 q1 => ?_
  split at e1
  · rename_i hl
    cases e1
    exact ⟨by rw [← r1.length]; exact hl, fun p hp => Fin.lst (S := S1) ⟨_, _, rfl, q1⟩ R1 r1 p hp⟩
  · cases e1

/-! ## built-ins called -/
def rGN (T : Tb) (g : GN) : List V → Hp → VK → Prop := fun xs H Q => ∃ φ S ds, Rel T φ S H ∧ RDs T H φ ds xs ∧ Fin T φ H (g ds S) Q
def eCB (g : GN) (r : AF) : EF := fun τ => (r τ).bnd fun ds S => lft (g ds S)
theorem cb_of {g : GN} {σ : L2.St} {H : Hp} {Q : VK} (h : rdE T W (eCB g ra) σ H Q) : tCB (rGN T g) (rdA T W ra) σ H Q := by
  obtain ⟨φ, S, τ, o, R, r, e, q⟩ := h
  refine rdA_bnd R r e q fun ds S1 vs H1 φ1 E1 R1 r1 e1 q1 => ?_
  exact ⟨φ1, S1, ds, R1, r1, Fin.of e1 q1⟩
theorem d_callB {id : String} {x : Str} {p : Pos} {g : GN} (hc : CallR X (.builtin id) (rGN T g)) (hg : Gl X x) (hm : X.mg x = none) (hv : bootBuiltins x = some (.builtin id)) (ha : PA X (e :: es) (rdA T W ra)) (hn : x ≠ "__name__" := by decide) (hdb : (x == ("__debug__" : Str)) = false := by decide)
    (he : starEach (e :: es) X.env = (false, eval e X.env) :: starEach es X.env := by rfl) (hpl : (backTo pos (starEach es X.env)).any (·.1) = false := by rfl) : PE X (.Call (.Name x p) (e :: es) [] pos) (rdE T W (eCB g ra)) :=
  (pe_callB hc hg hm hv ha hn hdb he hpl).imp fun _ _ _ h => cb_of h
theorem d_callTy {n : String} {x : Str} {p : Pos} {g : GN} (hc : CallR X (.type n) (rGN T g)) (hg : Gl X x) (hm : X.mg x = none) (hv : bootBuiltins x = some (.type n)) (ha : PA X (e :: es) (rdA T W ra)) (hn : x ≠ "__name__" := by decide) (hdb : (x == ("__debug__" : Str)) = false := by decide)
    (he : starEach (e :: es) X.env = (false, eval e X.env) :: starEach es X.env := by rfl) (hpl : (backTo pos (starEach es X.env)).any (·.1) = false := by rfl) : PE X (.Call (.Name x p) (e :: es) [] pos) (rdE T W (eCB g ra)) :=
  (pe_callTy hc hg hm hv ha hn hdb he hpl).imp fun _ _ _ h => cb_of h
theorem CallR.imp {f : Value} {r r' : List V → Hp → VK → Prop} (h : CallR X f r) (i : ∀ xs H Q, r' xs H Q → r xs H Q) : CallR X f r' := fun pins s σ H xs us Q I rx q => h pins s σ H xs us Q I rx (i xs H Q q)
theorem MtR.imp {f : String} {r r' : V → List V → Hp → VK → Prop} (h : MtR X f r) (i : ∀ x xs H Q, r' x xs H Q → r x xs H Q) : MtR X f r' := fun pins s σ H x xs v us Q I rx rxs q => h pins s σ H x xs v us Q I rx rxs (i x xs H Q q)
theorem IxR.imp {r r' : R2} (h : IxR X r) (i : ∀ x y H Q, r' x y H Q → r x y H Q) : IxR X r' := fun va sl pins s σ H x y v u Q I rx ry q => h va sl pins s σ H x y v u Q I rx ry (i x y H Q q)
/-- one argument -/
theorem one_of {g : D → Sto → Option (D × Sto)} {xs : List V} {H : Hp} {Q : VK} (h : rGN T (fun ds S => match ds with | [d] => g d S | _ => none) xs H Q) : ∃ φ S d v, xs = [v] ∧ Rel T φ S H ∧ RD T H φ d v ∧ Fin T φ H (g d S) Q := by
  obtain ⟨φ, S, ds, R, r, f⟩ := h
  match ds, r, f with
  | [], _, f => obtain ⟨_, _, z, _⟩ := f; cases z
  | [d], r, f =>
    obtain ⟨v, l, rfl, r1, r2⟩ := r
    cases r2
    exact ⟨φ, S, d, v, rfl, R, r1, f⟩
  | _ :: _ :: _, _, f => obtain ⟨_, _, z, _⟩ := f; cases z
theorem two_args {g : D → D → Sto → Option (D × Sto)} {xs : List V} {H : Hp} {Q : VK} (h : rGN T (fun ds S => match ds with | [d, e] => g d e S | _ => none) xs H Q) : ∃ φ S d e v w, xs = [v, w] ∧ Rel T φ S H ∧ RD T H φ d v ∧ RD T H φ e w ∧ Fin T φ H (g d e S) Q := by
  obtain ⟨φ, S, ds, R, r, f⟩ := h
  match ds, r, f with
  | [], _, f => obtain ⟨_, _, z, _⟩ := f; cases z
  | [d], _, f => obtain ⟨_, _, z, _⟩ := f; cases z
  | [d, e], r, f =>
    obtain ⟨v, l, rfl, r1, w, l2, rfl, r2, r3⟩ := r
    cases r3
    exact ⟨φ, S, d, e, v, w, rfl, R, r1, r2, f⟩
  | _ :: _ :: _ :: _, _, f => obtain ⟨_, _, z, _⟩ := f; cases z
def gLen : GN := fun ds S => match ds with
  | [d] => (fun d S => match d with
    | .str x => if x.length ≤ sizeLine then some (.int x.length, S) else none
    | d => (seqD S d).bind fun es => some (.int es.length, S)) d S
  | _ => none
theorem c_len (hK : T.K = X.K) : CallR X (.builtin "len") (rGN T gLen) := CallR.imp call_len fun xs H Q h => by
  obtain ⟨φ, S, d, v, rfl, R, r, f⟩ := one_of h
  refine ⟨v, ?_⟩
  split at f
  · rename_i x
    cases r
    split at f
    · rename_i hl
      exact ⟨x.length, rfl, ⟨hl, rfl⟩, f.val R rfl⟩
    · obtain ⟨_, _, z, _⟩ := f; cases z
  · cases e : seqD S d with
    | none => rw [e] at f; obtain ⟨_, _, z, _⟩ := f; cases z
    | some es =>
      rw [e] at f
      obtain ⟨p, vs, rfl, k, s⟩ := seq_sq R r e
      rw [hK] at k
      have l := s.length
      refine ⟨vs.length, rfl, ?_, f.val R (by rw [← l]; rfl)⟩
      rcases k with k | k
      · exact .inl ⟨vs, k, rfl⟩
      · exact .inr ⟨vs, k, rfl⟩
def gAbs : GN := fun ds S => match ds with
  | [d] => (fun d S => match d with | .int i => some (.int (if i < 0 then -i else i), S) | _ => none) d S
  | _ => none
theorem c_abs : CallR X (.builtin "abs") (rGN T gAbs) := CallR.imp call_abs fun xs H Q h => by
  obtain ⟨φ, S, d, v, rfl, R, r, f⟩ := one_of h
  split at f
  · cases r; exact ⟨_, rfl, f.val R rfl⟩
  · obtain ⟨_, _, z, _⟩ := f; cases z
/-- int(n), int(truth) -/
def gInt : GN := fun ds S => match ds with
  | [d] => (fun d S => match d with | .int i => some (.int i, S) | .bl b => some (.int (if b then 1 else 0), S) | _ => none) d S
  | _ => none
theorem c_int : CallR X (.type "int") (rGN T gInt) := CallR.imp call_int1 fun xs H Q h => by
  obtain ⟨φ, S, d, v, rfl, R, r, f⟩ := one_of h
  split at f
  · cases r; exact .inl ⟨_, rfl, f.val R rfl⟩
  · cases r; exact .inr ⟨_, rfl, f.val R rfl⟩
  · obtain ⟨_, _, z, _⟩ := f; cases z
def gMax2 : GN := fun ds S => match ds with
  | [d, e] => (fun d e S => match d, e with | .int i, .int j => some (.int (if j > i then j else i), S) | _, _ => none) d e S
  | _ => none
theorem c_max2 (hc : X.calm = true) : CallR X (.builtin "max") (rGN T gMax2) := CallR.imp (call_max2 hc) fun xs H Q h => by
  obtain ⟨φ, S, d, e, v, w, rfl, R, r, r2, f⟩ := two_args h
  split at f
  · cases r; cases r2; exact ⟨_, _, rfl, f.val R rfl⟩
  · obtain ⟨_, _, z, _⟩ := f; cases z
def gMin2 : GN := fun ds S => match ds with
  | [d, e] => (fun d e S => match d, e with | .int i, .int j => some (.int (if j < i then j else i), S) | _, _ => none) d e S
  | _ => none
theorem c_min2 (hc : X.calm = true) : CallR X (.builtin "min") (rGN T gMin2) := CallR.imp (call_min2 hc) fun xs H Q h => by
  obtain ⟨φ, S, d, e, v, w, rfl, R, r, r2, f⟩ := two_args h
  split at f
  · cases r; cases r2; exact ⟨_, _, rfl, f.val R rfl⟩
  · obtain ⟨_, _, z, _⟩ := f; cases z
def gTuple : GN := fun ds S => match ds with
  | [d] => (fun d S => (seqD S d).bind fun es => some (.tup es, S)) d S
  | _ => none
theorem c_tuple (hK : T.K = X.K) : CallR X (.type "tuple") (rGN T gTuple) := CallR.imp call_tuple_of fun xs H Q h => by
  obtain ⟨φ, S, d, v, rfl, R, r, f⟩ := one_of h
  cases d with
  | tup ds =>
    have r' := r
    obtain ⟨a, vs, rfl, k, s⟩ := r
    exact ⟨a, vs, rfl, .inr ⟨.inl k, f.val R r'⟩⟩
  | loc n =>
    cases e : seqD S (.loc n) with
    | none => rw [e] at f; obtain ⟨_, _, z, _⟩ := f; cases z
    | some es =>
      rw [e] at f
      simp only [seqD] at e
      obtain ⟨a, rfl, h1⟩ := r
      split at e
      · rename_i q
        cases e
        obtain ⟨vs, k1, k2⟩ := R.obj n _ a q h1
        exact ⟨a, vs, rfl, .inl ⟨.of k1, fun p hp => f.tup R k2 p hp⟩⟩
      · cases e
  | scr ns =>
    obtain ⟨a, rfl, h1⟩ := r
    have q := h1.seq
    rw [hK] at q
    exact ⟨a, _, rfl, .inl ⟨q, fun p hp => f.tup R (ints_rds ns) p hp⟩⟩
  | fl es =>
    obtain ⟨a, vs, rfl, _, k, s⟩ := r
    exact ⟨a, vs, rfl, .inl ⟨.of k, fun p hp => f.tup R s p hp⟩⟩
  | _ => obtain ⟨_, _, z, _⟩ := f; cases z
def gList : GN := fun ds S => match ds with
  | [d] => (fun d S => (seqD S d).bind fun es => some (.loc S.length, S ++ [.lst es])) d S
  | _ => none
def intsD : List D → Option (List Int)
  | [] => some []
  | .int i :: r => (intsD r).map (i :: ·)
  | _ => none
theorem ints_ok {H : Hp} {φ : List Addr} : ∀ {ds : List D} {vs : List V} {ns : List Int}, RDs T H φ ds vs → intsD ds = some ns → vs = ns.map V.int
  | [], vs, ns, h, e => by cases h; cases e; rfl
  | d :: ds, vs, ns, h, e => by
    obtain ⟨v, r, rfl, h1, h2⟩ := h
    cases d with
    | int i =>
      cases h1
      simp only [intsD, Option.map_eq_some_iff] at e
      obtain ⟨ms, e1, rfl⟩ := e
      rw [ints_ok h2 e1]; rfl
    | _ => cases e
def maxI : List Int → Int
  | [] => 0
  | [i] => i
  | i :: r => max i (maxI r)
theorem maxI_is : ∀ (ns : List Int) (m : Int), m ∈ ns → (∀ y, y ∈ ns → y ≤ m) → m = maxI ns
  | [], m, h, _ => by cases h
  | [i], m, h, k => by
    simp at h
    exact h
  | i :: j :: r, m, h, k => by
    show m = max i (maxI (j :: r))
    rcases List.mem_cons.mp h with e | e
    · subst e
      have q : ∀ (l : List Int), l ≠ [] → maxI l ∈ l := by
        intro l
        induction l with
        | nil => intro z; exact absurd rfl z
        | cons x xs ih =>
          intro _
          cases xs with
          | nil => simp [maxI]
          | cons y ys =>
            show max x (maxI (y :: ys)) ∈ _
            by_cases hh : x ≤ maxI (y :: ys)
            · rw [Int.max_eq_right hh]; exact List.mem_cons_of_mem _ (ih (by simp))
            · rw [Int.max_eq_left (by omega)]; exact List.mem_cons_self
      have := k _ (List.mem_cons_of_mem _ (q (j :: r) (by simp)))
      omega
    · have h1 := maxI_is (j :: r) m e fun y hy => k y (List.mem_cons_of_mem _ hy)
      have h2 := k i List.mem_cons_self
      rw [← h1]; omega
/-- max of a list of whole numbers -/
def gMax1 : GN := fun ds S => match ds with
  | [d] => (fun d S => match d with
    | .loc n => (seqD S (.loc n)).bind fun es => (intsD es).bind fun ns => if ns = [] then none else some (.int (maxI ns), S)
    | .fl es => (intsD es).bind fun ns => if ns = [] then none else some (.int (maxI ns), S)
    | _ => none) d S
  | _ => none
theorem c_max1 (hK : T.K = X.K) (hc : X.calm = true) : CallR X (.builtin "max") (rGN T gMax1) := CallR.imp (cr_max hc) fun xs H Q h => by
  obtain ⟨φ, S, d, v, rfl, R, r, f⟩ := one_of h
  split at f
  · rename_i n
    cases e : seqD S (.loc n) with
    | none => rw [e] at f; obtain ⟨_, _, z, _⟩ := f; cases z
    | some es =>
      rw [e] at f
      simp only [Option.bind_some] at f
      cases e2 : intsD es with
      | none => rw [e2] at f; obtain ⟨_, _, z, _⟩ := f; cases z
      | some ns =>
        rw [e2] at f
        simp only [Option.bind_some] at f
        split at f
        · obtain ⟨_, _, z, _⟩ := f; cases z
        · rename_i hne
          obtain ⟨a, rfl, h1⟩ := r
          have key : ∃ vs, SqL X.K H a vs ∧ RDs T H φ es vs := by
            simp only [seqD] at e
            split at e
            · rename_i q
              cases e
              obtain ⟨vs, k1, k2⟩ := R.obj n _ a q h1
              exact ⟨vs, .of k1, k2⟩
            · cases e
          obtain ⟨vs, k1, k2⟩ := key
          rw [ints_ok k2 e2] at k1
          exact ⟨a, ns, rfl, k1, List.length_pos_iff.mpr hne, fun m h1 h2 => by rw [maxI_is ns m h1 h2]; exact f.val R rfl⟩
  · rename_i es
    cases e2 : intsD es with
    | none => rw [e2] at f; obtain ⟨_, _, z, _⟩ := f; cases z
    | some ns =>
      rw [e2] at f
      simp only [Option.bind_some] at f
      split at f
      · obtain ⟨_, _, z, _⟩ := f; cases z
      · rename_i hne
        obtain ⟨a, vs, rfl, _, k1, k2⟩ := r
        rw [ints_ok k2 e2] at k1
        exact ⟨a, ns, rfl, .of k1, List.length_pos_iff.mpr hne, fun m h1 h2 => by rw [maxI_is ns m h1 h2]; exact f.val R rfl⟩
  · obtain ⟨_, _, z, _⟩ := f; cases z
/-- of two numbers, or of a list -/
def gMax : GN := fun ds S => match ds with
  | [d] => gMax1 [d] S
  | ds => gMax2 ds S
theorem c_max (hK : T.K = X.K) (hc : X.calm = true) : CallR X (.builtin "max") (rGN T gMax) := CallR.imp (CallR.or (c_max1 (T := T) hK hc) (c_max2 (T := T) hc)) fun xs H Q h => by
  obtain ⟨φ, S, ds, R, r, f⟩ := h
  unfold gMax at f
  split at f
  · exact .inl ⟨φ, S, _, R, r, f⟩
  · exact .inr ⟨φ, S, _, R, r, f⟩

/-! ## subscripts, slices -/
def gIx : G2 := fun x y S => match y with
  | .int i => match x with
    | .str z => if z.length ≤ sizeLine then (atI z.cps.toList i).bind fun c => some (.str ⟨#[c]⟩, S) else none
    | x => (seqD S x).bind fun ds => (atI ds i).bind fun d => some (d, S)
  | _ => none
theorem atI_rds {H : Hp} {φ : List Addr} {ds : List D} {vs : List V} {i : Int} {d : D} (r : RDs T H φ ds vs) (h : atI ds i = some d) : ∃ v, atI vs i = some v ∧ RD T H φ d v := by
  unfold atI at h ⊢
  rw [← r.length]
  cases e : ixN ds.length i with
  | none => rw [e] at h; cases h
  | some j =>
    rw [e] at h
    exact r.get (i := j) h
theorem x_ix (hK : T.K = X.K) : IxR X (rG2 T gIx) := IxR.imp ix_seq fun x y H Q h => by
  obtain ⟨φ, S, d1, d2, R, r1, r2, f⟩ := h
  simp only [gIx] at f
  split at f
  · rename_i i
    cases r2
    split at f
    · rename_i z
      cases r1
      split at f
      · rename_i hl
        cases e : atI z.cps.toList i with
        | none => rw [e] at f; obtain ⟨_, _, z, _⟩ := f; cases z
        | some c => rw [e] at f; exact .inr (.inr ⟨z, i, c, rfl, rfl, hl, e, f.val R rfl⟩)
      · obtain ⟨_, _, z, _⟩ := f; cases z
    · cases e : seqD S d1 with
      | none => rw [e] at f; obtain ⟨_, _, z, _⟩ := f; cases z
      | some ds =>
        rw [e] at f
        simp only [Option.bind_some] at f
        cases e2 : atI ds i with
        | none => rw [e2] at f; obtain ⟨_, _, z, _⟩ := f; cases z
        | some d =>
          rw [e2] at f
          obtain ⟨a, vs, rfl, k, s⟩ := seq_sq R r1 e
          rw [hK] at k
          obtain ⟨v, h1, h2⟩ := atI_rds s e2
          rcases k with k | k
          · exact .inl ⟨a, vs, i, v, rfl, rfl, k, h1, f.val R h2⟩
          · exact .inr (.inl ⟨a, vs, i, v, rfl, rfl, k, h1, f.val R h2⟩)
  · obtain ⟨_, _, z, _⟩ := f; cases z
theorem d_ix {g : G2} (hr : IxR X (rG2 T g)) (ha : PE X a (rdE T W fa)) (hb : PE X b (rdE T W fb)) (hs : PlainIx b := by exact fun _ _ => rfl) : PE X (.Subscript a b pos) (rdE T W (eB g fa fb)) :=
  (pe_ix hr ha hb hs).imp fun _ _ _ h => two_of h
/-- an end of a slice -/
abbrev OF := Sl → M (Option Int)
def EndO (T : Tb) (φ : List Addr) (H : Hp) (o : Rs (Option Int)) (Q : Option Int → Hp → Prop) (W : XK) : Prop := match o with
  | .ok b S' => ∀ φ' H', Ext φ H φ' H' → Rel T φ' S' H' → Q b H'
  | .ex x S' => ∀ φ' H' d, Ext φ H φ' H' → Rel T φ' S' H' → RX x d H' → W (.ref x.cls) d H'
def rdO (T : Tb) (W : WX) (f : OF) : TO := fun σ H Q => ∃ φ S τ o, Rel T φ S H ∧ RSl T H φ τ σ ∧ f τ S = some o ∧ EndO T φ H o Q fun c d H' => W c d σ H'
theorem _root_.L2.PO.imp {e : Option Expr} {t t' : TO} (h : PO X e t) (i : ∀ σ H Q, t' σ H Q → t σ H Q) : PO X e t' := ⟨fun pins s σ H Q I hq => h.run pins s σ H Q I (i σ H Q hq)⟩
def oNo : OF := fun _ S => some (.ok none S)
def oSo (f : EF) : OF := fun τ => (f τ).bnd fun d S => match d with | .int i => some (.ok (some i) S) | _ => none
theorem d_noPart : PO X none (rdO T W oNo) := po_none.imp fun σ H Q h => by
  obtain ⟨φ, S, τ, o, R, r, e, q⟩ := h
  cases e
  exact q φ H .refl R
theorem d_part (h : PE X e (rdE T W fa)) : PO X (some e) (rdO T W (oSo fa)) := (po_some h).imp fun σ H Q h => by
  obtain ⟨φ, S, τ, o, R, r, e, q⟩ := h
  unfold oSo M.bnd at e
  cases e1 : fa τ S with
  | none => rw [e1] at e; cases e
  | some x =>
    rw [e1] at e
    refine ⟨φ, S, τ, x, R, r, e1, ?_⟩
    cases x with
    | ex x S1 => cases e; exact q
    | ok d S1 =>
      simp only at e
      split at e
      · cases e
        rename_i i
        exact fun φ' H' v E R' r' => by cases r'; exact ⟨i, rfl, q φ' H' E R'⟩
      · cases e
def cutD (ds : List D) (lo hi : Option Int) : List D := (ds.drop (HT.sIx ds.length 0 lo)).take (HT.sIx ds.length ds.length hi - HT.sIx ds.length 0 lo)
theorem cut_rds {H : Hp} {φ : List Addr} {ds : List D} {vs : List V} (r : RDs T H φ ds vs) (lo hi : Option Int) : RDs T H φ (cutD ds lo hi) (cutV vs lo hi) := by
  unfold cutD cutV
  rw [r.length]
  exact (r.drop _).take _
abbrev GS := D → Option Int → Option Int → Sto → Option (D × Sto)
def gSl : GS := fun x lo hi S => match x with
  | .tup ds => some (.tup (cutD ds lo hi), S)
  | .fl ds => some (.fl (cutD ds lo hi), S)
  | x => (seqD S x).bind fun ds => some (.loc S.length, S ++ [.lst (cutD ds lo hi)])
def rGS (T : Tb) (g : GS) : V → Option Int → Option Int → Hp → VK → Prop := fun x lo hi H Q => ∃ φ S d, Rel T φ S H ∧ RD T H φ d x ∧ Fin T φ H (g d lo hi S) Q
theorem SlR.imp {r r' : V → Option Int → Option Int → Hp → VK → Prop} (h : SlR X r) (i : ∀ x lo hi H Q, r' x lo hi H Q → r x lo hi H Q) : SlR X r' := by
  intro pins s σ H x v vl vu lo hi sl Q I rx hs pl pu q
  exact h pins s σ H x v vl vu lo hi sl Q I rx hs pl pu (i x lo hi H Q q)
theorem cutD_whole {ds : List D} {lo hi : Option Int} (h : HT.sIx ds.length 0 lo = 0 ∧ HT.sIx ds.length ds.length hi = ds.length) : cutD ds lo hi = ds := by
  unfold cutD
  rw [h.1, h.2]; simp
theorem s_sl (hK : T.K = X.K) : SlR X (rGS T gSl) := SlR.imp (SlR.or sl_list sl_tupA) fun x lo hi H Q h => by
  obtain ⟨φ, S, d, R, r, f⟩ := h
  simp only [gSl] at f
  split at f
  · rename_i ds
    have r' := r
    obtain ⟨a, vs, rfl, k, s⟩ := r
    have l := s.length
    refine .inr ⟨a, vs, rfl, .inl k, fun hw => ?_, fun hw p hp => f.tup R (cut_rds s lo hi) p hp⟩
    rw [← l] at hw
    rw [cutD_whole hw] at f
    exact f.val R r'
  · rename_i ds
    obtain ⟨a, vs, rfl, _, k, s⟩ := r
    exact .inl ⟨a, vs, rfl, .of k, fun p hp => f.fl R (cut_rds s lo hi) p hp⟩
  · rename_i hn hn2
    cases e : seqD S d with
    | none => rw [e] at f; obtain ⟨_, _, z, _⟩ := f; cases z
    | some ds =>
      rw [e] at f
      cases d with
      | loc n =>
        obtain ⟨a, rfl, h1⟩ := r
        simp only [seqD] at e
        split at e
        · rename_i q
          cases e
          obtain ⟨vs, k1, k2⟩ := R.obj n _ a q h1
          exact .inl ⟨a, vs, rfl, .of k1, fun p hp => f.lst R (cut_rds k2 lo hi) p hp⟩
        · cases e
      | tup ds => exact absurd rfl (hn ds)
      | fl ds => exact absurd rfl (hn2 ds)
      | scr ns =>
        cases e
        obtain ⟨a, rfl, h1⟩ := r
        have q := h1.seq
        rw [hK] at q
        exact .inl ⟨a, _, rfl, q, fun p hp => f.lst R (cut_rds (ints_rds ns) lo hi) p hp⟩
      | _ => cases e
def eSl (fe : EF) (lo hi : OF) : EF := fun τ => (fe τ).bnd fun x => (lo τ).bnd fun l => (hi τ).bnd fun u S => lft (gSl x l u S)
theorem rdO_bnd {a : OF} {k : Option Int → M D} {φ : List Addr} {S : Sto} {τ : Sl} {o : Rs D} {σ : L2.St} {H : Hp} {Q : VK} (R : Rel T φ S H) (r : RSl T H φ τ σ) (h : (a τ).bnd k S = some o) (q : EndE T φ H o Q fun c d H' => W c d σ H') {Q' : Option Int → Hp → Prop}
    (n : ∀ d S1 H1 φ1, Ext φ H φ1 H1 → Rel T φ1 S1 H1 → k d S1 = some o → EndE T φ1 H1 o Q (fun c d H' => W c d σ H') → Q' d H1) : rdO T W a σ H Q' := by
  unfold M.bnd at h
  cases e : a τ S with
  | none => rw [e] at h; cases h
  | some x =>
    rw [e] at h
    refine ⟨φ, S, τ, x, R, r, e, ?_⟩
    cases x with
    | ok d S1 => exact fun φ' H' e1 e2 => n d S1 H' φ' e1 e2 h (q.mono e1)
    | ex x S1 => cases h; exact q
theorem d_sl (hK : T.K = X.K) {lo hi : Option Expr} {p2 : Pos} {fl fh : OF} (he : PE X e (rdE T W fa)) (hl : PO X lo (rdO T W fl)) (hu : PO X hi (rdO T W fh)) : PE X (.Subscript e (.Slice lo hi none p2) pos) (rdE T W (eSl fa fl fh)) :=
  (pe_slice (s_sl (T := T) hK) he hl hu).imp fun σ H Q h => by
    obtain ⟨φ, S, τ, o, R, r, e, q⟩ := h
    refine rdE_bnd R r e q fun d1 S1 v1 H1 φ1 ⟨E1, R1, r1⟩ e1 q1 => ?_
    refine rdO_bnd R1 (r.ext E1) e1 q1 fun l S2 H2 φ2 E2 R2 e2 q2 => ?_
    refine rdO_bnd R2 ((r.ext E1).ext E2) e2 q2 fun u S3 H3 φ3 E3 R3 e3 q3 => ?_
    exact ⟨φ3, S3, d1, R3, (r1.ext E2 _ _).ext E3 _ _, Fin.of e3 q3⟩

/-! ## methods of built-in types -/
abbrev GM := D → List D → Sto → Option (D × Sto)
def rGM (T : Tb) (g : GM) : V → List V → Hp → VK → Prop := fun x xs H Q => ∃ φ S d ds, Rel T φ S H ∧ RD T H φ d x ∧ RDs T H φ ds xs ∧ Fin T φ H (g d ds S) Q
/-- what has the type -/
def tyD (S : Sto) (n : String) : D → Bool
  | .str _ => decide (n = "str")
  | .loc k => match S[k]? with
    | some (.lst _) => decide (n = "list")
    | some (.dct _) => decide (n = "dict")
    | _ => false
  | .fl _ => decide (n = "list")
  | _ => false
theorem ty_ok {K : PySem.W.Frag} {φ : List Addr} {S : Sto} {H : Hp} {n : String} {d : D} {v : V} (R : Rel T φ S H) (r : RD T H φ d v) (h : tyD S n d = true) : tyV K n v H := by
  cases d with
  | str x => cases r; exact (of_decide_eq_true h : n = "str")
  | loc k =>
    obtain ⟨a, rfl, h1⟩ := r
    simp only [tyD] at h
    split at h
    · rename_i q
      obtain ⟨vs, k1, k2⟩ := R.obj k _ a q h1
      exact .inl ⟨of_decide_eq_true h, vs, .of k1⟩
    · rename_i q
      obtain ⟨ws, k1, _⟩ := R.obj k _ a q h1
      exact .inr (.inr (.inl ⟨of_decide_eq_true h, .inl ⟨ws, k1⟩⟩))
    · cases h
  | fl ds =>
    obtain ⟨a, vs, rfl, _, k1, k2⟩ := r
    exact .inl ⟨of_decide_eq_true h, vs, .of k1⟩
  | _ => cases h
def eBM (n : String) (g : GM) (fo : EF) (r : AF) : EF := fun τ => (fo τ).bnd fun x S => if tyD S n x = true then (r τ).bnd (fun ds S => lft (g x ds S)) S else none
variable {o : Expr} {fo : EF} {name : Str} {apos cpos : Pos} {n id : String} {g : GM}
theorem d_bm (pa : PlainAttrs n) (slot : Slot n name id) (hty : typeOf (.builtin id) = pure (.type "method_descriptor")) (hm : MtR X id (rGM T g)) (ho : PE X o (rdE T W fo)) (ha : PA X (e :: es) (rdA T W ra))
    (hbase : attributeBase o name X.env (eval o X.env) = eval o X.env := by rfl)
    (hfew : ((backTo cpos (starEach (e :: es) X.env)).all (fun x => !x.1) && (backToKw cpos (keywordEach [] X.env)).all (fun x => x.1.isSome)
      && decide ((e :: es).length + ([] : List Keyword).length + (if ([] : List Keyword).isEmpty then 0 else 1) < 30)) = true := by rfl)
    (hline : (apos.endLine == cpos.line) = true := by rfl) (hs : starEach (e :: es) X.env = (false, eval e X.env) :: starEach es X.env := by rfl) (hplain : (backTo cpos (starEach es X.env)).any (·.1) = false := by rfl) :
    PE X (.Call (.Attribute o name apos) (e :: es) [] cpos) (rdE T W (eBM n g fo ra)) :=
  (pe_bm pa slot hty hm ho ha hbase hfew hline hs hplain).imp fun σ H Q h => by
    obtain ⟨φ, S, τ, o, R, r, e, q⟩ := h
    refine rdE_bnd R r e q fun d1 S1 v1 H1 φ1 ⟨E1, R1, r1⟩ e1 q1 => ?_
    split at e1
    · rename_i ht
      refine ⟨ty_ok R1 r1 ht, rdA_bnd R1 (r.ext E1) e1 q1 fun ds S2 vs H2 φ2 E2 R2 r2 e2 q2 => ?_⟩
      exact ⟨φ2, S2, d1, ds, R2, r1.ext E2 _ _, r2, Fin.of e2 q2⟩
    · cases e1
theorem mem_lt {S : Sto} {n : Nat} {o : Ob} (h : S[n]? = some o) : n < S.length := (List.getElem?_eq_some_iff.mp h).1
def gAppend : GM := fun x ds S => match x, ds with
  | .loc n, [d] => (listD S (.loc n)).bind fun es => if es.length < sizeLine then some (.non, S.set n (.lst (es ++ [d]))) else none
  | _, _ => none
theorem m_append : MtR X "list.append" (rGM T gAppend) := MtR.imp mt_append fun x xs H Q h => by
  obtain ⟨φ, S, d, ds, R, r1, r2, f⟩ := h
  simp only [gAppend] at f
  split at f
  · rename_i k y
    cases e : listD S (.loc k) with
    | none => rw [e] at f; obtain ⟨_, _, z, _⟩ := f; cases z
    | some es =>
      rw [e] at f
      simp only [Option.bind_some] at f
      split at f
      · rename_i hl
        obtain ⟨m, a, vs, e1, rfl, hS, hφ, hH, s⟩ := list_sq R r1 e
        cases e1
        obtain ⟨v, l, rfl, r3, r4⟩ := r2
        cases r4
        refine ⟨a, vs, v, rfl, rfl, hH, by rw [← s.length]; exact hl, ?_⟩
        exact f.put R hφ (mem_lt hS) hH (s.app (RDs.one r3)) rfl
      · obtain ⟨_, _, z, _⟩ := f; cases z
  · obtain ⟨_, _, z, _⟩ := f; cases z
/-- xs.pop(i) -/
def gPopAt : GM := fun x ds S => match x, ds with
  | .loc n, [.int i] => (listD S (.loc n)).bind fun es => if -(2 ^ 63) ≤ i ∧ i < 2 ^ 63 then (seqIndex? i es.length).bind fun k => (es[k]?).bind fun d => some (d, S.set n (.lst (es.eraseIdx k))) else none
  | _, _ => none
def gInsert : GM := fun x ds S => match x, ds with
  | .loc n, [.int i, d] => (listD S (.loc n)).bind fun es => if es.length < sizeLine ∧ 0 ≤ i ∧ i < 2 ^ 63 then some (.non, S.set n (.lst (es.take i.toNat ++ [d] ++ es.drop i.toNat))) else none
  | _, _ => none
def strsD : List D → Option (List Str)
  | [] => some []
  | .str x :: r => (strsD r).map (x :: ·)
  | _ => none
theorem strs_ok {H : Hp} {φ : List Addr} : ∀ {ds : List D} {vs : List V} {ns : List Str}, RDs T H φ ds vs → strsD ds = some ns → vs = ns.map V.str
  | [], vs, ns, h, e => by cases h; cases e; rfl
  | d :: ds, vs, ns, h, e => by
    obtain ⟨v, r, rfl, h1, h2⟩ := h
    cases d with
    | str i =>
      cases h1
      simp only [strsD, Option.map_eq_some_iff] at e
      obtain ⟨ms, e1, rfl⟩ := e
      rw [strs_ok h2 e1]; rfl
    | _ => cases e
def gJoin : GM := fun x ds S => match x, ds with
  | .str a, [d] => (seqD S d).bind fun es => (strsD es).bind fun ys => if (ys.map (·.length)).sum + ys.length * a.length ≤ 16777216 then some (.str (Txt.join a ys), S) else none
  | _, _ => none
theorem m_join (hK : T.K = X.K) : MtR X "str.join" (rGM T gJoin) := MtR.imp mt_join fun x xs H Q h => by
  obtain ⟨φ, S, d, ds, R, r1, r2, f⟩ := h
  simp only [gJoin] at f
  split at f
  · rename_i z y
    cases r1
    cases e : seqD S y with
    | none => rw [e] at f; obtain ⟨_, _, z, _⟩ := f; cases z
    | some es =>
      rw [e] at f
      simp only [Option.bind_some] at f
      cases e2 : strsD es with
      | none => rw [e2] at f; obtain ⟨_, _, z, _⟩ := f; cases z
      | some ys =>
        rw [e2] at f
        simp only [Option.bind_some] at f
        split at f
        · rename_i hl
          obtain ⟨v, l, rfl, r3, r4⟩ := r2
          cases r4
          obtain ⟨a, vs, rfl, k, s⟩ := seq_sq R r3 e
          rw [hK] at k
          rw [strs_ok s e2] at k
          exact ⟨z, a, ys, rfl, rfl, k, hl, f.val R rfl⟩
        · obtain ⟨_, _, z, _⟩ := f; cases z
  · obtain ⟨_, _, z, _⟩ := f; cases z
end
end Sb
end
section
set_option Elab.async false
set_option linter.all false
set_option maxRecDepth 100000
set_option maxHeartbeats 4000000
namespace Sb
open PySem PySem.Spec PyProof.Rows L2

section
variable {X : Cx} {T : Tb} {W : WX} {pos : Pos}
variable {a b c e : Expr} {es rest : List Expr} {fa fb fc : EF} {ra : AF} {ta tb : BF}
/-! ## truth, tests -/
def truD (S : Sto) : D → Option Bool
  | .non => some false
  | .bl b => some b
  | .int i => some (i != 0)
  | .str x => if x.length ≤ sizeLine then some ((x.length : Int) != 0) else none
  | .tup ds => some (!ds.isEmpty)
  | .loc n => match S[n]? with
    | some (.lst ds) => some (!ds.isEmpty)
    | some (.dct kvs) => some (!kvs.isEmpty)
    | _ => none
  | .scr _ => none
  | .fl ds => some (!ds.isEmpty)
  | .exn _ => none
  | .fd _ _ => none
  | .rgo _ _ => none
  | .ntu _ => none
theorem emp_rds {H : Hp} {φ : List Addr} {ds : List D} {vs : List V} (r : RDs T H φ ds vs) : ds.isEmpty = vs.isEmpty := by
  have l := r.length
  cases ds <;> cases vs <;> simp_all
theorem tru_of {K : PySem.W.Frag} {φ : List Addr} {S : Sto} {H : Hp} {d : D} {v : V} {k : Bool} (R : Rel T φ S H) (r : RD T H φ d v) (h : truD S d = some k) : TruV K v H k := by
  cases d with
  | non => cases r; cases h; exact rfl
  | bl b => cases r; cases h; exact rfl
  | int i => cases r; cases h; exact rfl
  | str x =>
    cases r
    simp only [truD] at h
    split at h
    · rename_i hl; cases h; exact ⟨hl, rfl⟩
    · cases h
  | tup ds =>
    obtain ⟨p, vs, rfl, k1, s⟩ := r
    cases h
    exact .inr (.inl ⟨vs, .inl k1, by rw [emp_rds s]⟩)
  | loc n =>
    obtain ⟨p, rfl, h1⟩ := r
    simp only [truD] at h
    split at h
    · rename_i q
      cases h
      obtain ⟨vs, k1, k2⟩ := R.obj n _ p q h1
      exact .inl ⟨vs, .of k1, by rw [emp_rds k2]⟩
    · rename_i q
      cases h
      rename_i kvs
      obtain ⟨ws, k1, k2, _⟩ := R.obj n _ p q h1
      refine .inr (.inr ⟨ws, k1, ?_⟩)
      cases ws <;> cases kvs <;> simp_all
    · cases h
  | scr ns => cases h
  | exn c => cases h
  | fd ks ds => cases h
  | rgo lo hi => cases h
  | ntu ds => cases h
  | fl ds =>
    obtain ⟨p, vs, rfl, _, k1, s⟩ := r
    cases h
    exact .inl ⟨vs, .of k1, by rw [emp_rds s]⟩
/-- a test by a truth -/
def tB (f : EF) : BF := fun τ => (f τ).bnd fun d S => match d with | .bl b => some (.ok b S) | _ => none
theorem rdE_bndB {a : EF} {k : D → M Bool} {φ : List Addr} {S : Sto} {τ : Sl} {o : Rs Bool} {σ : L2.St} {H : Hp} {Q : Bool → Hp → Prop} (R : Rel T φ S H) (r : RSl T H φ τ σ) (h : (a τ).bnd k S = some o) (q : EndB T φ H o Q fun c d H' => W c d σ H') {Q' : VK}
    (n : ∀ d S1 v H1 φ1, At T φ H d S1 v H1 φ1 → k d S1 = some o → EndB T φ1 H1 o Q (fun c d H' => W c d σ H') → Q' v H1) : rdE T W a σ H Q' := by
  unfold M.bnd at h
  cases e : a τ S with
  | none => rw [e] at h; cases h
  | some x =>
    rw [e] at h
    refine ⟨φ, S, τ, x, R, r, e, ?_⟩
    cases x with
    | ok d S1 => exact fun φ' H' v e1 e2 e3 => n d S1 v H' φ' ⟨e1, e2, e3⟩ h (q.mono e1)
    | ex x S1 => cases h; exact q
theorem rdT_bndB {a : BF} {k : Bool → M Bool} {φ : List Addr} {S : Sto} {τ : Sl} {o : Rs Bool} {σ : L2.St} {H : Hp} {Q : Bool → Hp → Prop} (R : Rel T φ S H) (r : RSl T H φ τ σ) (h : (a τ).bnd k S = some o) (q : EndB T φ H o Q fun c d H' => W c d σ H') {Q' : Bool → Hp → Prop}
    (n : ∀ d S1 H1 φ1, Ext φ H φ1 H1 → Rel T φ1 S1 H1 → k d S1 = some o → EndB T φ1 H1 o Q (fun c d H' => W c d σ H') → Q' d H1) : rdT T W a σ H Q' := by
  unfold M.bnd at h
  cases e : a τ S with
  | none => rw [e] at h; cases h
  | some x =>
    rw [e] at h
    refine ⟨φ, S, τ, x, R, r, e, ?_⟩
    cases x with
    | ok d S1 => exact fun φ' H' e1 e2 => n d S1 H' φ' e1 e2 h (q.mono e1)
    | ex x S1 => cases h; exact q
theorem rdT_at {a : BF} {φ : List Addr} {S : Sto} {τ : Sl} {o : Rs Bool} {σ : L2.St} {H : Hp} {Q : Bool → Hp → Prop} (R : Rel T φ S H) (r : RSl T H φ τ σ) (h : a τ S = some o) (q : EndB T φ H o Q fun c d H' => W c d σ H') : rdT T W a σ H Q := ⟨φ, S, τ, o, R, r, h, q⟩
theorem rdE_at {a : EF} {φ : List Addr} {S : Sto} {τ : Sl} {o : Rs D} {σ : L2.St} {H : Hp} {Q : VK} (R : Rel T φ S H) (r : RSl T H φ τ σ) (h : a τ S = some o) (q : EndE T φ H o Q fun c d H' => W c d σ H') : rdE T W a σ H Q := ⟨φ, S, τ, o, R, r, h, q⟩
theorem tB_of {σ : L2.St} {H : Hp} {Q : Bool → Hp → Prop} (h : rdT T W (tB fa) σ H Q) : rdE T W fa σ H fun x H1 => ∃ c, x = .bl c ∧ Q c H1 := by
  obtain ⟨φ, S, τ, o, R, r, e, q⟩ := h
  refine rdE_bndB R r e q fun d1 S1 v1 H1 φ1 ⟨E1, R1, r1⟩ e1 q1 => ?_
  split at e1
  · cases e1; cases r1; exact ⟨_, rfl, q1 φ1 H1 .refl R1⟩
  · cases e1
theorem t_val (h : PE X e (rdE T W fa)) (he : ∀ whole, isTrue e X.env whole = (do let v ← whole; standAt e.pos; holding [v] (truthy v)) := by intro _; rfl) : PT X e (rdT T W (tB fa)) :=
  (pt_val h he).imp fun _ _ _ h => tB_of h
theorem t_cmp {op : CmpOp} {g : G2} (ho : OpR X (compareOp op) (rG2 T g)) (ha : PE X a (rdE T W fa)) (hb : PE X b (rdE T W fb)) (hm : behindInMarks op b = false) : PT X (.Compare a [op] [b] pos) (rdT T W (tB (eB g fa fb))) :=
  (pt_cmpR ho ha hb hm).imp fun σ H Q h => two_of (tB_of h)
def tAn (t u : BF) : BF := fun τ => (t τ).bnd fun b => if b = true then u τ else fun S => some (.ok false S)
def tOr' (t u : BF) : BF := fun τ => (t τ).bnd fun b => if b = true then (fun S => some (.ok true S)) else u τ
def tNt (t : BF) : BF := fun τ => (t τ).bnd fun b S => some (.ok (!b) S)
theorem w_or1 (h : PT X a (rdT T W ta)) : PW X (.BoolOp .Or [a] pos) (rdT T W ta) := pw_or1 h
theorem w_or (h : PT X a (rdT T W ta)) (h2 : PW X (.BoolOp .Or (b :: rest) pos) (rdT T W tb)) : PW X (.BoolOp .Or (a :: b :: rest) pos) (rdT T W (tOr' ta tb)) := (pw_or h h2).imp fun σ H Q h => by
  obtain ⟨φ, S, τ, o, R, r, e, q⟩ := h
  refine rdT_bndB R r e q fun k S1 H1 φ1 E1 R1 e1 q1 => ?_
  cases k with
  | true => cases e1; exact q1 φ1 H1 .refl R1
  | false => exact rdT_at R1 (r.ext E1) e1 q1
theorem t_not (h : PT X a (rdT T W ta)) : PT X (.UnaryOp .Not a pos) (rdT T W (tNt ta)) := (pt_not h).imp fun σ H Q h => by
  obtain ⟨φ, S, τ, o, R, r, e, q⟩ := h
  refine rdT_bndB R r e q fun k S1 H1 φ1 E1 R1 e1 q1 => ?_
  cases e1
  exact q1 φ1 H1 .refl R1
/-! ## values by tests -/
def eIf (t : BF) (fa fb : EF) : EF := fun τ => (t τ).bnd fun b => if b = true then fa τ else fb τ
theorem d_if (h : PT X c (rdT T W ta)) (ha : PE X a (rdE T W fa)) (hb : PE X b (rdE T W fb)) : PE X (.IfExp c a b pos) (rdE T W (eIf ta fa fb)) := (pe_ifExp h ha hb).imp fun σ H Q h => by
  obtain ⟨φ, S, τ, o, R, r, e, q⟩ := h
  refine rdT_bnd R r e q fun k S1 H1 φ1 E1 R1 e1 q1 => ?_
  cases k with
  | true => exact rdE_at R1 (r.ext E1) e1 q1
  | false => exact rdE_at R1 (r.ext E1) e1 q1
def eAnd (fa fb : EF) : EF := fun τ => (fa τ).bnd fun d S => (truD S d).bind fun b => if b = true then fb τ S else some (.ok d S)
def eOr (fa fb : EF) : EF := fun τ => (fa τ).bnd fun d S => (truD S d).bind fun b => if b = true then some (.ok d S) else fb τ S
def eNot (fa : EF) : EF := fun τ => (fa τ).bnd fun d S => (truD S d).bind fun b => some (.ok (.bl (!b)) S)
theorem d_one {op} (h : PE X a (rdE T W fa)) : PE X (.BoolOp op [a] pos) (rdE T W fa) := pe_one h
theorem d_and (ha : PE X a (rdE T W fa)) (hb : PE X (.BoolOp .And (b :: rest) pos) (rdE T W fb)) : PE X (.BoolOp .And (a :: b :: rest) pos) (rdE T W (eAnd fa fb)) := (pe_andT ha hb).imp fun σ H Q h => by
  obtain ⟨φ, S, τ, o, R, r, e, q⟩ := h
  refine rdE_bnd R r e q fun d S1 v H1 φ1 ⟨E1, R1, r1⟩ e1 q1 => ?_
  simp only [Option.bind_eq_some_iff] at e1
  obtain ⟨k, e2, e3⟩ := e1
  refine ⟨k, tru_of R1 r1 e2, ?_⟩
  cases k with
  | true => exact rdE_at R1 (r.ext E1) e3 q1
  | false => cases e3; exact q1 φ1 H1 v .refl R1 r1
theorem d_not (ha : PE X a (rdE T W fa)) : PE X (.UnaryOp .Not a pos) (rdE T W (eNot fa)) := (pe_notT ha).imp fun σ H Q h => by
  obtain ⟨φ, S, τ, o, R, r, e, q⟩ := h
  refine rdE_bnd R r e q fun d S1 v H1 φ1 ⟨E1, R1, r1⟩ e1 q1 => ?_
  simp only [Option.bind_eq_some_iff] at e1
  obtain ⟨k, e2, e3⟩ := e1
  cases e3
  exact ⟨k, tru_of R1 r1 e2, q1 φ1 H1 _ .refl R1 rfl⟩
/-- a < b < c -/
def eCh (g g' : G2) (fa fb fc : EF) : EF := fun τ => (fa τ).bnd fun x => (fb τ).bnd fun y S => match g x y S with
  | some (.bl true, S1) => (fc τ).bnd (fun z S => lft (g' y z S)) S1
  | some (.bl false, S1) => some (.ok (.bl false) S1)
  | _ => none
theorem d_chain {op op' : CmpOp} {g g' : G2} (ho : OpR X (compareOp op) (rG2 T g)) (ho' : OpR X (compareOp op') (rG2 T g')) (ha : PE X a (rdE T W fa)) (hb : PE X b (rdE T W fb)) (hc : PE X c (rdE T W fc)) (hlm : lastMarks [op, op'] [b, c] = false := by with_unfolding_all rfl) :
    PE X (.Compare a [op, op'] [b, c] pos) (rdE T W (eCh g g' fa fb fc)) := (pe_chain ho ho' ha hb hc hlm).imp fun σ H Q h => by
  obtain ⟨φ, S, τ, o, R, r, e, q⟩ := h
  refine rdE_bnd R r e q fun d1 S1 v1 H1 φ1 ⟨E1, R1, r1⟩ e1 q1 => ?_
  refine rdE_bnd R1 (r.ext E1) e1 q1 fun d2 S2 v2 H2 φ2 ⟨E2, R2, r2⟩ e2 q2 => ?_
  split at e2
  · rename_i S3 eg
    refine ⟨φ2, S2, d1, d2, R2, r1.ext E2 _ _, r2, _, _, eg, fun φ3 H3 v3 E3 R3 r3 => ?_⟩
    cases r3
    refine ⟨true, rfl, ?_⟩
    rw [if_pos rfl]
    refine rdE_bnd R3 (((r.ext E1).ext E2).ext E3) e2 (q2.mono E3) fun d4 S4 v4 H4 φ4 ⟨E4, R4, r4⟩ e4 q4 => ?_
    exact ⟨φ4, S4, d2, d4, R4, (r2.ext E3 _ _).ext E4 _ _, r4, Fin.of e4 q4⟩
  · rename_i S3 eg
    cases e2
    refine ⟨φ2, S2, d1, d2, R2, r1.ext E2 _ _, r2, _, _, eg, fun φ3 H3 v3 E3 R3 r3 => ?_⟩
    cases r3
    refine ⟨false, rfl, ?_⟩
    rw [if_neg (by decide)]
    exact q2 φ3 H3 _ E3 R3 rfl
  · cases e2

/-! ## isinstance -/
def kindD (S : Sto) : D → Option String
  | .non => some "NoneType"
  | .bl _ => some "bool"
  | .int _ => some "int"
  | .str _ => some "str"
  | .tup _ => some "tuple"
  | .loc n => match S[n]? with
    | some (.lst _) => some "list"
    | some (.dct _) => some "dict"
    | _ => none
  | .scr _ => none
  | .fl _ => some "list"
  | .exn _ => none
  | .fd _ _ => some "dict"
  | .rgo _ _ => none
  | .ntu _ => some "tuple"
theorem kind_ok {K : PySem.W.Frag} {φ : List Addr} {S : Sto} {H : Hp} {d : D} {v : V} {k : String} (R : Rel T φ S H) (r : RD T H φ d v) (h : kindD S d = some k) : TyX K H v (.type k) := by
  cases d with
  | non => cases r; cases h; exact .base .non
  | bl b => cases r; cases h; exact .base (.bl b)
  | int i => cases r; cases h; exact .base (.int i)
  | str x => cases r; cases h; exact .base (.str x)
  | tup ds =>
    obtain ⟨p, vs, rfl, k1, s⟩ := r
    cases h
    rcases k1 with k1 | ⟨o, k1⟩
    · exact .base (.tup k1)
    · exact .fTuple k1
  | rgo lo hi => cases h
  | ntu ds => obtain ⟨p, vs, o, rfl, k1, _⟩ := r; cases h; exact .fTuple k1
  | loc n =>
    obtain ⟨p, rfl, h1⟩ := r
    simp only [kindD] at h
    split at h
    · rename_i q; cases h; obtain ⟨vs, k1, k2⟩ := R.obj n _ p q h1; exact .base (.lst k1)
    · rename_i q; cases h; obtain ⟨ws, k1, _⟩ := R.obj n _ p q h1; exact .base (.dK k1)
    · cases h
  | scr ns => cases h
  | exn c => cases h
  | fd ks ds =>
    obtain ⟨p, ws, rfl, _, k1, _⟩ := r
    cases h
    rcases k1 with k1 | ⟨o, k1⟩
    · exact .base (.dK k1)
    · exact .fDict k1
  | fl ds => obtain ⟨p, vs, rfl, _, k1, s⟩ := r; cases h; exact .base (.lst k1)
def eIs (n : String) (f : EF) : EF := fun τ => (f τ).bnd fun d S => (kindD S d).bind fun k => (kitB k n).bind fun b => some (.ok (.bl b) S)
theorem d_is {n : String} {y : Str} {p p2 : Pos} (hg : Gl X "isinstance") (hm : X.mg "isinstance" = none) (hg2 : Gl X y) (hm2 : X.mg y = none) (hv2 : bootBuiltins y = some (.type n)) (he : PE X e (rdE T W fa))
    (hn : y ≠ "__name__" := by decide) (hd : (y == ("__debug__" : Str)) = false := by decide)
    (hs : starEach [e, .Name y p2] X.env = (false, eval e X.env) :: starEach [.Name y p2] X.env := by rfl) (hpl : (backTo pos (starEach [.Name y p2] X.env)).any (·.1) = false := by rfl) :
    PE X (.Call (.Name "isinstance" p) [e, .Name y p2] [] pos) (rdE T W (eIs n fa)) :=
  (pe_callB call_isi hg hm (by decide +kernel) (pa_cons he (pa_cons (pe_bltn (v := .ty n) hg2 hm2 hv2 rfl hn hd) pa_nil) hs) (by decide) (by decide) hs hpl).imp fun σ H Q h => by
    obtain ⟨φ, S, τ, o, R, r, e, q⟩ := h
    refine rdE_bnd R r e q fun d S1 v H1 φ1 ⟨E1, R1, r1⟩ e1 q1 => ?_
    simp only [Option.bind_eq_some_iff] at e1
    obtain ⟨k, e2, b, e3, e4⟩ := e1
    cases e4
    exact ⟨v, .ty n, .type k, .type n, b, rfl, .ty n, kind_ok R1 r1 e2, kit_ty e3, q1 φ1 H1 _ .refl R1 rfl⟩
def eIs2 (n m : String) (f : EF) : EF := fun τ => (f τ).bnd fun d S => (kindD S d).bind fun k => (kitB k n).bind fun b => (kitB k m).bind fun b2 => some (.ok (.bl (b || b2)) S)
theorem d_is2 {n m : String} {y z : Str} {p p2 p3 p4 : Pos} {x1} (hg : Gl X "isinstance") (hm : X.mg "isinstance" = none) (hg2 : Gl X y) (hm2 : X.mg y = none) (hv2 : bootBuiltins y = some (.type n)) (hg3 : Gl X z) (hm3 : X.mg z = none) (hv3 : bootBuiltins z = some (.type m)) (he : PE X e (rdE T W fa))
    (hn : y ≠ "__name__" := by decide) (hd : (y == ("__debug__" : Str)) = false := by decide) (hn3 : z ≠ "__name__" := by decide) (hd3 : (z == ("__debug__" : Str)) = false := by decide)
    (hs : starEach [e, .Tuple [.Name y p2, .Name z p3] x1 p4] X.env = (false, eval e X.env) :: starEach [.Tuple [.Name y p2, .Name z p3] x1 p4] X.env := by rfl) (hpl : (backTo pos (starEach [.Tuple [.Name y p2, .Name z p3] x1 p4] X.env)).any (·.1) = false := by rfl) :
    PE X (.Call (.Name "isinstance" p) [e, .Tuple [.Name y p2, .Name z p3] x1 p4] [] pos) (rdE T W (eIs2 n m fa)) :=
  (pe_callB call_isiT hg hm (by decide +kernel) (pa_cons he (pa_cons (pe_tup (pa_cons (pe_bltn (v := .ty n) hg2 hm2 hv2 rfl hn hd) (pa_cons (pe_bltn (v := .ty m) hg3 hm3 hv3 rfl hn3 hd3) pa_nil))) pa_nil) hs) (by decide) (by decide) hs hpl).imp fun σ H Q h => by
    obtain ⟨φ, S, τ, o, R, r, e, q⟩ := h
    refine rdE_bnd R r e q fun d S1 v H1 φ1 ⟨E1, R1, r1⟩ e1 q1 => ?_
    simp only [Option.bind_eq_some_iff] at e1
    obtain ⟨k, e2, b, e3, b2, e4, e5⟩ := e1
    cases e5
    refine ⟨by show 2 ≤ sizeLine; rw [sizeLine_eq]; decide, fun t ht => ?_⟩
    obtain ⟨R2, E2⟩ := R1.garb (u := .tup [.ty n, .ty m]) ht
    refine ⟨v, t, [.ty n, .ty m], .type k, [.type n, .type m], b || b2, rfl, upd_same, .cons (.ty n) (.cons (.ty m) .nil), kind_ok R2 (r1.ext E2 _ _) (by exact e2), ?_, q1 φ1 _ _ E2 R2 rfl⟩
    refine kitAny_cons (kit_ty e3) (fun hb => ?_) fun hb => by rw [hb]; rfl
    refine kitAny_cons (kit_ty e4) (fun hb2 => ?_) fun hb2 => by rw [hb2]; simp
    rw [hb, hb2]; rfl

/-! ## a def called -/
/-- what a def promises: its meaning's outcome -/
def spM (T : Tb) (m : List D → M D) (n : Nat) : Sp := fun vs H Q E => ∃ φ S ds o, Rel T φ S H ∧ RDs T H φ ds vs ∧ ds.length = n ∧ m ds S = some o ∧ EndE T φ H o Q E
def eCl (m : List D → M D) (n : Nat) (r : AF) : EF := fun τ => (r τ).bnd fun ds S => if ds.length = n then m ds S else none
/-! ## statements -/
inductive Fl where
  | nx (τ : Sl) | rt (d : D) | bk (τ : Sl) | ct (τ : Sl) | xx (x : Exn) (τ : Sl)
abbrev SF := Sl → Sto → Option (Fl × Sto)
def EndS (T : Tb) (φ : List Addr) (H : Hp) (fl : Fl) (S' : Sto) (De : Ends) (W : WX) : Prop := match fl with
  | .nx τ' => ∀ φ' H' σ', Ext φ H φ' H' → Rel T φ' S' H' → RSl T H' φ' τ' σ' → De.nx σ' H'
  | .bk τ' => ∀ φ' H' σ', Ext φ H φ' H' → Rel T φ' S' H' → RSl T H' φ' τ' σ' → De.bk σ' H'
  | .ct τ' => ∀ φ' H' σ', Ext φ H φ' H' → Rel T φ' S' H' → RSl T H' φ' τ' σ' → De.ct σ' H'
  | .rt d => ∀ φ' H' v, Ext φ H φ' H' → Rel T φ' S' H' → RD T H' φ' d v → De.rt v H'
  | .xx x τ' => ∀ φ' H' σ' d, Ext φ H φ' H' → Rel T φ' S' H' → RSl T H' φ' τ' σ' → RX x d H' → W (.ref x.cls) d σ' H'
theorem EndS.mono {φ φ1 : List Addr} {H H1 : Hp} {fl : Fl} {S' : Sto} {De : Ends} (h : EndS T φ H fl S' De W) (e : Ext φ H φ1 H1) : EndS T φ1 H1 fl S' De W := by
  cases fl with
  | nx τ => exact fun φ' H' v e' => h φ' H' v (e.trans e')
  | bk τ => exact fun φ' H' v e' => h φ' H' v (e.trans e')
  | ct τ => exact fun φ' H' v e' => h φ' H' v (e.trans e')
  | rt τ => exact fun φ' H' v e' => h φ' H' v (e.trans e')
  | xx x τ => exact fun φ' H' v d e' => h φ' H' v d (e.trans e')
def rdS (T : Tb) (W : WX) (f : SF) : TS := fun De σ H => ∃ φ S τ fl S', Rel T φ S H ∧ RSl T H φ τ σ ∧ f τ S = some (fl, S') ∧ EndS T φ H fl S' De W
/-- an expression within a statement -/
def sx (m : M D) (τ : Sl) (k : D → Sto → Option (Fl × Sto)) : Sto → Option (Fl × Sto) := fun S => match m S with
  | none => none
  | some (.ex x S1) => some (.xx x τ, S1)
  | some (.ok d S1) => k d S1
def st' (m : M Bool) (τ : Sl) (k : Bool → Sto → Option (Fl × Sto)) : Sto → Option (Fl × Sto) := fun S => match m S with
  | none => none
  | some (.ex x S1) => some (.xx x τ, S1)
  | some (.ok d S1) => k d S1
theorem rdE_sx {φ : List Addr} {S S' : Sto} {τ : Sl} {fl : Fl} {k : D → Sto → Option (Fl × Sto)} {σ : L2.St} {H : Hp} {De : Ends} (R : Rel T φ S H) (r : RSl T H φ τ σ) (h : sx (fa τ) τ k S = some (fl, S')) (q : EndS T φ H fl S' De W) {Q' : VK}
    (n : ∀ d S1 v H1 φ1, At T φ H d S1 v H1 φ1 → k d S1 = some (fl, S') → EndS T φ1 H1 fl S' De W → Q' v H1) : rdE T W fa σ H Q' := by
  unfold sx at h
  cases e : fa τ S with
  | none => rw [e] at h; cases h
  | some x =>
    rw [e] at h
    refine ⟨φ, S, τ, x, R, r, e, ?_⟩
    cases x with
    | ok d S1 => exact fun φ' H' v e1 e2 e3 => n d S1 v H' φ' ⟨e1, e2, e3⟩ h (q.mono e1)
    | ex x S1 =>
      cases h
      exact fun φ' H' d E1 R1 hx => q φ' H' σ d E1 R1 (r.ext E1) hx
theorem rdT_st {φ : List Addr} {S S' : Sto} {τ : Sl} {fl : Fl} {k : Bool → Sto → Option (Fl × Sto)} {σ : L2.St} {H : Hp} {De : Ends} (R : Rel T φ S H) (r : RSl T H φ τ σ) (h : st' (ta τ) τ k S = some (fl, S')) (q : EndS T φ H fl S' De W) {Q' : Bool → Hp → Prop}
    (n : ∀ d S1 H1 φ1, Ext φ H φ1 H1 → Rel T φ1 S1 H1 → k d S1 = some (fl, S') → EndS T φ1 H1 fl S' De W → Q' d H1) : rdT T W ta σ H Q' := by
  unfold st' at h
  cases e : ta τ S with
  | none => rw [e] at h; cases h
  | some x =>
    rw [e] at h
    refine ⟨φ, S, τ, x, R, r, e, ?_⟩
    cases x with
    | ok d S1 => exact fun φ' H' e1 e2 => n d S1 H' φ' e1 e2 h (q.mono e1)
    | ex x S1 =>
      cases h
      exact fun φ' H' d E1 R1 hx => q φ' H' σ d E1 R1 (r.ext E1) hx
theorem rdS_at {f : SF} {φ : List Addr} {S S' : Sto} {τ : Sl} {fl : Fl} {σ : L2.St} {H : Hp} {De : Ends} (R : Rel T φ S H) (r : RSl T H φ τ σ) (h : f τ S = some (fl, S')) (q : EndS T φ H fl S' De W) : rdS T W f De σ H := ⟨φ, S, τ, fl, S', R, r, h, q⟩
variable {st : Stmt} {sts : List Stmt} {f g : SF}
def sNop : SF := fun τ S => some (.nx τ, S)
def sSeq (f g : SF) : SF := fun τ S => match f τ S with
  | some (.nx τ1, S1) => g τ1 S1
  | x => x
theorem b_nil : PSs X [] (rdS T W sNop) := pss_nil.imp fun De σ H h => by
  obtain ⟨φ, S, τ, fl, S', R, r, e, q⟩ := h
  cases e
  exact q φ H σ .refl R r
theorem b_one (h : PS X st (rdS T W f)) : PSs X [st] (rdS T W f) := pss_one h
theorem b_cons (h : PS X st (rdS T W f)) (h2 : PSs X sts (rdS T W g)) : PSs X (st :: sts) (rdS T W (sSeq f g)) := (pss_cons h h2).imp fun De σ H h => by
  obtain ⟨φ, S, τ, fl, S', R, r, e, q⟩ := h
  unfold sSeq at e
  cases e1 : f τ S with
  | none => rw [e1] at e; cases e
  | some p =>
    obtain ⟨fl1, S1⟩ := p
    rw [e1] at e
    refine ⟨φ, S, τ, fl1, S1, R, r, e1, ?_⟩
    cases fl1 with
    | nx τ1 => exact fun φ' H' σ' E1 R1 r1 => rdS_at R1 r1 e (q.mono E1)
    | bk τ1 => cases e; exact q
    | ct τ1 => cases e; exact q
    | rt τ1 => cases e; exact q
    | xx x τ1 => cases e; exact q
def sEx (fe : EF) : SF := fun τ => sx (fe τ) τ fun _ S => some (.nx τ, S)
theorem s_expr (he : PE X e (rdE T W fa)) (hs : swapsWith e none pos.line X.env = pure false := by rfl) : PS X (.Expr e pos) (rdS T W (sEx fa)) := (ps_expr he hs).imp fun De σ H h => by
  obtain ⟨φ, S, τ, fl, S', R, r, e, q⟩ := h
  refine rdE_sx R r e q fun d S1 v H1 φ1 ⟨E1, R1, r1⟩ e1 q1 => ?_
  cases e1
  exact q1 φ1 H1 σ .refl R1 (r.ext E1)
def sRt (fe : EF) : SF := fun τ => sx (fe τ) τ fun d S => some (.rt d, S)
theorem s_ret (he : PE X e (rdE T W fa)) : PS X (.Return (some e) pos) (rdS T W (sRt fa)) := (ps_ret he).imp fun De σ H h => by
  obtain ⟨φ, S, τ, fl, S', R, r, e, q⟩ := h
  refine rdE_sx R r e q fun d S1 v H1 φ1 ⟨E1, R1, r1⟩ e1 q1 => ?_
  cases e1
  exact q1 φ1 H1 v .refl R1 r1
def sIf (t : BF) (f g : SF) : SF := fun τ => st' (t τ) τ fun b S => if b = true then f τ S else g τ S
theorem s_if {as bs : List Stmt} (h : PT X c (rdT T W ta)) (h1 : PSs X as (rdS T W f)) (h2 : PSs X bs (rdS T W g)) : PS X (.If c as bs pos) (rdS T W (sIf ta f g)) := (ps_if h h1 h2).imp fun De σ H h => by
  obtain ⟨φ, S, τ, fl, S', R, r, e, q⟩ := h
  refine rdT_st R r e q fun b S1 H1 φ1 E1 R1 e1 q1 => ?_
  cases b with
  | true => exact rdS_at R1 (r.ext E1) e1 q1
  | false => exact rdS_at R1 (r.ext E1) e1 q1
def sSet (i : Nat) (fe : EF) : SF := fun τ => sx (fe τ) τ fun d S => some (.nx (τ.set i (some d)), S)
theorem s_set {i : Nat} {x : Str} {pos' : Pos} (hN : X.N.Nodup) (hi : X.N[i]? = some x) (hx : Loc X.env.scope x) (he : PE X e (rdE T W fa)) (hs : swapsWith e (some (.Name x pos')) pos.line X.env = pure false := by rfl)
    (hf : X.fn x = true ∨ X.env.scope.names.lookup x = some .local := by first | exact .inl rfl | exact .inr rfl | assumption) : PS X (.Assign [.Name x pos'] e pos) (rdS T W (sSet i fa)) := (ps_set hN hi hx he hs hf).imp fun De σ H h => by
  obtain ⟨φ, S, τ, fl, S', R, r, e, q⟩ := h
  refine rdE_sx R r e q fun d S1 v H1 φ1 ⟨E1, R1, r1⟩ e1 q1 => ?_
  cases e1
  exact q1 φ1 H1 _ .refl R1 ((r.ext E1).set i r1)
/-- xs[i] = e -/
def putD (x y d : D) (S : Sto) : Option Sto := match x, y with
  | .loc n, .int k => (listD S (.loc n)).bind fun es => (ixN es.length k).bind fun j => some (S.set n (.lst (es.set j d)))
  | _, _ => none
def sPut (fe fo fi : EF) : SF := fun τ => sx (fe τ) τ fun d => sx (fo τ) τ fun x => sx (fi τ) τ fun y S => (putD x y d S).bind fun S1 => some (.nx τ, S1)
theorem s_put {o i : Expr} {p : Pos} {fo fi : EF} (he : PE X e (rdE T W fa)) (ho : PE X o (rdE T W fo)) (hi : PE X i (rdE T W fi))
    (hs : swapsWithSole [.Subscript o i p] e pos.line X.env = pure false := by rfl) (hw : swappedStores [.Subscript o i p] e X.env = pure none := by rfl) (h1 : (assignEach [.Subscript o i p] X.env).map (·.2) = [assign (.Subscript o i p) X.env] := by rfl)
    (ha : ∀ v, assign (.Subscript o i p) X.env v = (do
      let ov ← holding [v] (eval o X.env)
      let iv ← holding [v, ov] (eval i X.env)
      standAt p
      holding [v, ov, iv] (setItem ov iv v)
      release [v, ov, iv] []) := by intro _; rfl) : PS X (.Assign [.Subscript o i p] e pos) (rdS T W (sPut fa fo fi)) := (ps_asg he (pg_sub ho hi set_list ha) hs hw h1).imp fun De σ H h => by
  obtain ⟨φ, S, τ, fl, S', R, r, e, q⟩ := h
  refine rdE_sx R r e q fun d S1 v H1 φ1 ⟨E1, R1, r1⟩ e1 q1 => ?_
  refine rdE_sx R1 (r.ext E1) e1 q1 fun x S2 v2 H2 φ2 ⟨E2, R2, r2⟩ e2 q2 => ?_
  refine rdE_sx R2 ((r.ext E1).ext E2) e2 q2 fun y S3 v3 H3 φ3 ⟨E3, R3, r3⟩ e3 q3 => ?_
  simp only [Option.bind_eq_some_iff] at e3
  obtain ⟨S4, e4, e5⟩ := e3
  cases e5
  unfold putD at e4
  split at e4
  · rename_i n kk _ _
    simp only [Option.bind_eq_some_iff] at e4
    obtain ⟨es, e6, j, e7, e8⟩ := e4
    cases e8
    obtain ⟨m, p, vs, ee, rfl, hS, hφ, hH, s⟩ := list_sq R3 (r2.ext E3 _ _) e6
    cases ee
    cases r3
    refine ⟨p, vs, kk, j, rfl, rfl, hH, by rw [← s.length]; exact e7, ?_⟩
    have rv : RD T H3 φ3 d v := (r1.ext E2 _ _).ext E3 _ _
    have E4 := Ext.put (φ := φ3) (u := .lst (vs.set j v)) (List.mem_of_getElem? hφ) hH
    obtain ⟨R4, _⟩ := R3.put (o := .lst (es.set j d)) (u := .lst (vs.set j v)) hφ (mem_lt hS) ⟨_, upd_same, (s.set j rv).ext E4 _ _⟩
    exact q3 φ3 _ σ E4 R4 ((((r.ext E1).ext E2).ext E3).ext E4)
  · cases e4
end
end Sb
end
section
set_option Elab.async false
set_option linter.all false
set_option maxRecDepth 100000
set_option maxHeartbeats 4000000
namespace Sb
open PySem PySem.Spec PyProof.Rows L2

/-! ## what is walked -/
structure Wk where
  bound : Nat
  nxt : Nat → Sto → Option (Option D)
abbrev IF := Sl → M Wk
def Serves (T : Tb) (φ0 : List Addr) (H0 : Hp) (wk : Wk) (J : It) : Prop := ∀ φ S H i, Ext φ0 H0 φ H → Rel T φ S H →
  (∀ d, wk.nxt i S = some (some d) → J.go i H ∧ ∀ x H', J.yld i H x H' → Ext φ H φ H' ∧ Rel T φ S H' ∧ RD T H' φ d x) ∧ (wk.nxt i S = some none → J.stop i H)
def EndI (T : Tb) (φ : List Addr) (H : Hp) (o : Rs Wk) (R : It → Hp → Prop) (W : XK) : Prop := match o with
  | .ok wk S' => ∀ φ' H' J, Ext φ H φ' H' → Rel T φ' S' H' → Serves T φ' H' wk J → R J H'
  | .ex x S' => ∀ φ' H' d, Ext φ H φ' H' → Rel T φ' S' H' → RX x d H' → W (.ref x.cls) d H'
theorem EndI.mono {T : Tb} {φ φ1 : List Addr} {H H1 : Hp} {o : Rs Wk} {R : It → Hp → Prop} {W : XK} (h : EndI T φ H o R W) (e : Ext φ H φ1 H1) : EndI T φ1 H1 o R W := by
  cases o with
  | ok d S => exact fun φ' H' v e' => h φ' H' v (e.trans e')
  | ex x S => exact fun φ' H' v e' => h φ' H' v (e.trans e')
def rdI (T : Tb) (W : WX) (f : IF) : TI := fun σ H R => ∃ φ S τ o, Rel T φ S H ∧ RSl T H φ τ σ ∧ f τ S = some o ∧ EndI T φ H o R fun c d H' => W c d σ H'
theorem _root_.L2.PI.imp {X : Cx} {tg e : Expr} {t t' : TI} (h : PI X tg e t) (i : ∀ σ H R, t' σ H R → t σ H R) : PI X tg e t' := ⟨fun pins s σ H R I hq => h.run pins s σ H R I (i σ H R hq)⟩
theorem _root_.L2.PI.or {X : Cx} {tg e : Expr} {t t' : TI} (h : PI X tg e t) (h' : PI X tg e t') : PI X tg e (fun σ H R => t σ H R ∨ t' σ H R) := ⟨fun pins s σ H R I hq => hq.elim (h.run pins s σ H R I) (h'.run pins s σ H R I)⟩
theorem _root_.L2.PG.imp {X : Cx} {e : Expr} {t t' : TG} (h : PG X e t) (i : ∀ v σ H Q, t' v σ H Q → t v σ H Q) : PG X e t' := ⟨fun pins s σ H v u Q I r hq => h.run pins s σ H v u Q I r (i v σ H Q hq)⟩
theorem _root_.L2.PG.or {X : Cx} {e : Expr} {t t' : TG} (h : PG X e t) (h' : PG X e t') : PG X e (fun v σ H Q => t v σ H Q ∨ t' v σ H Q) := ⟨fun pins s σ H v u Q I r hq => hq.elim (h.run pins s σ H v u Q I r) (h'.run pins s σ H v u Q I r)⟩

section
variable {X : Cx} {T : Tb} {W : WX} {pos : Pos}
variable {a b c e tg : Expr} {es rest : List Expr} {fa fb fc : EF} {ra : AF} {ta tb : BF}
theorem rdA_bndI {a : AF} {k : List D → M Wk} {φ : List Addr} {S : Sto} {τ : Sl} {o : Rs Wk} {σ : L2.St} {H : Hp} {Q : It → Hp → Prop} (R : Rel T φ S H) (r : RSl T H φ τ σ) (h : (a τ).bnd k S = some o) (q : EndI T φ H o Q fun c d H' => W c d σ H') {Q' : List V → Hp → Prop}
    (n : ∀ d S1 v H1 φ1, Ext φ H φ1 H1 → Rel T φ1 S1 H1 → RDs T H1 φ1 d v → k d S1 = some o → EndI T φ1 H1 o Q (fun c d H' => W c d σ H') → Q' v H1) : rdA T W a σ H Q' := by
  unfold M.bnd at h
  cases e : a τ S with
  | none => rw [e] at h; cases h
  | some x =>
    rw [e] at h
    refine ⟨φ, S, τ, x, R, r, e, ?_⟩
    cases x with
    | ok d S1 => exact fun φ' H' v e1 e2 e3 => n d S1 v H' φ' e1 e2 e3 h (q.mono e1)
    | ex x S1 => cases h; exact q
/-- a list, a tuple, a text -/
def wkD (S : Sto) : D → Option Wk
  | .tup ds => some ⟨ds.length, fun i _ => some ds[i]?⟩
  | .str x => some ⟨x.cps.size, fun i _ => some ((x.cps[i]?).map fun c => .str ⟨#[c]⟩)⟩
  | .loc n => (seqD S (.loc n)).map fun ds => ⟨ds.length, fun i S => (seqD S (.loc n)).map fun es => es[i]?⟩
  | .fl ds => some ⟨ds.length, fun i _ => some ds[i]?⟩
  | _ => none
def iSeq (fe : EF) : IF := fun τ => (fe τ).bnd fun d S => (wkD S d).bind fun wk => some (.ok wk S)
theorem rds_at {H : Hp} {φ : List Addr} {ds : List D} {vs : List V} {i : Nat} {x : V} (r : RDs T H φ ds vs) (h : vs[i]? = some x) {d : D} (hd : ds[i]? = some d) : RD T H φ d x := by
  obtain ⟨v, h1, h2⟩ := r.get hd
  rw [h] at h1; cases h1
  exact h2
theorem rds_none {H : Hp} {φ : List Addr} {ds : List D} {vs : List V} {i : Nat} (r : RDs T H φ ds vs) (h : ds[i]? = none) : vs.length ≤ i := by
  rw [← r.length]; exact List.getElem?_eq_none_iff.mp h
theorem sv_tup {φ0 : List Addr} {H0 : Hp} {ds : List D} {vs : List V} {p : Addr} {n : Nat} (h : Rd H0 p (.tup vs)) (r : RDs T H0 φ0 ds vs) : Serves T φ0 H0 ⟨n, fun i _ => some ds[i]?⟩ (Itt X.K p) := by
  intro φ S H i E R
  have h' := E.rdT h
  have r' := r.ext E _ _
  refine ⟨fun d hd => ?_, fun hn => ?_⟩
  · have hd' : ds[i]? = some d := Option.some.inj hd
    obtain ⟨v, h1, h2⟩ := r'.get hd'
    refine ⟨⟨vs, v, .inl h', h1⟩, fun x H' y => ?_⟩
    obtain ⟨rfl, y⟩ := y
    have := y vs (.inl h')
    exact ⟨.refl, R, rds_at r' this hd'⟩
  · have hn' : ds[i]? = none := Option.some.inj hn
    exact ⟨vs, .inl h', rds_none r' hn'⟩
theorem sv_fl {φ0 : List Addr} {H0 : Hp} {ds : List D} {vs : List V} {p : Addr} {n : Nat} (hp : p ∉ φ0) (h : H0 p = some (.lst vs)) (r : RDs T H0 φ0 ds vs) : Serves T φ0 H0 ⟨n, fun i _ => some ds[i]?⟩ (Itl X.K p) := by
  intro φ S H i E R
  have h' := E.lst _ _ hp h
  have r' := r.ext E _ _
  refine ⟨fun d hd => ?_, fun hn => ?_⟩
  · have hd' : ds[i]? = some d := Option.some.inj hd
    obtain ⟨v, h1, h2⟩ := r'.get hd'
    refine ⟨⟨vs, v, .of h', h1⟩, fun x H' y => ?_⟩
    obtain ⟨rfl, y⟩ := y
    have := y vs (.of h')
    exact ⟨.refl, R, rds_at r' this hd'⟩
  · have hn' : ds[i]? = none := Option.some.inj hn
    exact ⟨vs, .of h', rds_none r' hn'⟩
theorem sv_list {φ0 : List Addr} {H0 : Hp} {k n : Nat} {p : Addr} (hp : φ0[k]? = some p) : Serves T φ0 H0 ⟨n, fun i S => (seqD S (.loc k)).map fun es => es[i]?⟩ (Itl X.K p) := by
  intro φ S H i E R
  have hp' := E.get hp
  have key : ∀ ds, seqD S (.loc k) = some ds → ∃ vs, SqL X.K H p vs ∧ RDs T H φ ds vs := fun ds e => by
    simp only [seqD] at e
    split at e
    · rename_i q
      cases e
      obtain ⟨vs, k1, k2⟩ := R.obj k _ p q hp'
      exact ⟨vs, .of k1, k2⟩
    · cases e
  refine ⟨fun d hd => ?_, fun hn => ?_⟩
  · simp only [Option.map_eq_some_iff] at hd
    obtain ⟨ds, e1, e2⟩ := hd
    obtain ⟨vs, k1, k2⟩ := key ds e1
    obtain ⟨v, h1, h2⟩ := k2.get e2
    refine ⟨⟨vs, v, k1, h1⟩, fun x H' y => ?_⟩
    obtain ⟨rfl, y⟩ := y
    exact ⟨.refl, R, rds_at k2 (y vs k1) e2⟩
  · simp only [Option.map_eq_some_iff] at hn
    obtain ⟨ds, e1, e2⟩ := hn
    obtain ⟨vs, k1, k2⟩ := key ds e1
    exact ⟨vs, k1, rds_none k2 e2⟩
theorem sv_str {φ0 : List Addr} {H0 : Hp} {n : Nat} {x : Str} : Serves T φ0 H0 ⟨n, fun i _ => some ((x.cps[i]?).map fun c => .str ⟨#[c]⟩)⟩ (Its x) := by
  intro φ S H i E R
  refine ⟨fun d hd => ?_, fun hn => ?_⟩
  · have hd' : (x.cps[i]?).map (fun c => D.str ⟨#[c]⟩) = some d := Option.some.inj hd
    simp only [Option.map_eq_some_iff] at hd'
    obtain ⟨c, e1, rfl⟩ := hd'
    refine ⟨(Array.getElem?_eq_some_iff.mp e1).1, fun y H' z => ?_⟩
    obtain ⟨rfl, c', e2, rfl⟩ := z
    rw [e1] at e2; cases e2
    exact ⟨.refl, R, rfl⟩
  · have hn' : (x.cps[i]?).map (fun c => D.str ⟨#[c]⟩) = none := Option.some.inj hn
    simp only [Option.map_eq_none_iff] at hn'
    exact Array.getElem?_eq_none_iff.mp hn'
theorem i_seq (he : PE X e (rdE T W fa)) : PI X tg e (rdI T W (iSeq fa)) :=
  ((pi_list he).or ((pi_tup he).or (pi_str he))).imp fun σ H Rr h => by
    obtain ⟨φ, S, τ, o, R, r, e, q⟩ := h
    have e0 := e
    unfold iSeq M.bnd at e0
    cases e1 : fa τ S with
    | none => rw [e1] at e0; cases e0
    | some x =>
      rw [e1] at e0
      cases x with
      | ex x S1 =>
        cases e0
        exact .inl ⟨φ, S, τ, _, R, r, e1, q⟩
      | ok d S1 =>
        simp only [Option.bind_eq_some_iff] at e0
        obtain ⟨wk, e2, e3⟩ := e0
        cases e3
        cases d with
        | tup ds =>
          cases e2
          refine .inr (.inl ⟨φ, S, τ, _, R, r, e1, fun φ1 H1 v E1 R1 r1 => ?_⟩)
          obtain ⟨p, vs, rfl, k1, s⟩ := r1
          exact ⟨p, rfl, ⟨vs, .inl k1⟩, q φ1 H1 _ E1 R1 (sv_tup k1 s)⟩
        | str x =>
          cases e2
          refine .inr (.inr ⟨φ, S, τ, _, R, r, e1, fun φ1 H1 v E1 R1 r1 => ?_⟩)
          cases r1
          exact ⟨x, rfl, q φ1 H1 _ E1 R1 sv_str⟩
        | loc n =>
          simp only [wkD, Option.map_eq_some_iff] at e2
          obtain ⟨ds, e4, rfl⟩ := e2
          refine .inl ⟨φ, S, τ, _, R, r, e1, fun φ1 H1 v E1 R1 r1 => ?_⟩
          have r1' := r1
          obtain ⟨p, rfl, hp⟩ := r1
          have key : ∃ vs, SqL X.K H1 p vs := by
            simp only [seqD] at e4
            split at e4
            · rename_i q
              obtain ⟨vs, k1, k2⟩ := R1.obj n _ p q hp
              exact ⟨vs, .of k1⟩
            · cases e4
          exact ⟨p, rfl, key, q φ1 H1 _ E1 R1 (sv_list hp)⟩
        | fl ds =>
          cases e2
          refine .inl ⟨φ, S, τ, _, R, r, e1, fun φ1 H1 v E1 R1 r1 => ?_⟩
          obtain ⟨p, vs, rfl, hp, k1, s⟩ := r1
          exact ⟨p, rfl, ⟨vs, .of k1⟩, q φ1 H1 _ E1 R1 (sv_fl hp k1 s)⟩
        | _ => cases e2
/-- range(n), range(a, b) -/
def wkR (lo : Int) (n : Nat) : Wk := ⟨n, fun i _ => if i < n then some (some (.int (lo + (i : Nat)))) else some none⟩
def iRg1 (ra : AF) : IF := fun τ => (ra τ).bnd fun ds S => match ds with
  | [.int j] => if -(2 ^ 62) ≤ j ∧ j < 2 ^ 62 then some (.ok (wkR 0 j.toNat) S) else none
  | _ => none
theorem sv_rng {φ0 : List Addr} {H0 : Hp} {lo : Int} {n : Nat} : Serves T φ0 H0 (wkR lo n) (Itr lo n) := by
  intro φ S H i E R
  refine ⟨fun d hd => ?_, fun hn => ?_⟩
  · simp only [wkR] at hd
    split at hd
    · rename_i hi
      cases hd
      exact ⟨hi, fun x H' y => by obtain ⟨rfl, rfl⟩ := y; exact ⟨.refl, R, rfl⟩⟩
    · cases hd
  · simp only [wkR] at hn
    split at hn
    · cases hn
    · rename_i hi; exact Nat.le_of_not_lt hi
theorem i_rg1 {p pos : Pos} (hg : Gl X "range") (hm : X.mg "range" = none) (ha : PA X [a] (rdA T W ra)) (hs : starEach [a] X.env = [(false, eval a X.env)] := by rfl) : PI X tg (.Call (.Name "range" p) [a] [] pos) (rdI T W (iRg1 ra)) :=
  (pi_range1 hg hm ha hs).imp fun σ H Rr h => by
    obtain ⟨φ, S, τ, o, R, r, e, q⟩ := h
    refine rdA_bndI R r e q fun ds S1 vs H1 φ1 E1 R1 r1 e1 q1 => ?_
    split at e1
    · rename_i j
      split at e1
      · rename_i hj
        cases e1
        obtain ⟨v, l, rfl, r2, r3⟩ := r1
        cases r2; cases r3
        exact ⟨j, rfl, hj.1, hj.2, q1 φ1 H1 _ .refl R1 sv_rng⟩
      · cases e1
    · cases e1
/-! ## targets of names -/
abbrev TF := D → Sto → Sl → Option Sl
def rdG (T : Tb) (vs : List Nat) (f : TF) : TG := fun v σ H Q => ∃ φ S τ d τ', Rel T φ S H ∧ RSl T H φ τ σ ∧ RD T H φ d v ∧ f d S τ = some τ' ∧ ∀ σ', RSl T H φ τ' σ' → (∀ k, k ∉ vs → σ'[k]? = σ[k]?) → σ'.length = σ.length → Q σ' H
def tN (i : Nat) : TF := fun d _ τ => some (τ.set i (some d))
theorem g_name {i : Nat} {x : Str} (hN : X.N.Nodup) (hi : X.N[i]? = some x) (hx : Loc X.env.scope x) (hf : X.fn x = true ∨ X.env.scope.names.lookup x = some .local := by first | exact .inl rfl | exact .inr rfl | assumption) : PG X (.Name x pos) (rdG T [i] (tN i)) :=
  (pg_name hN hi hx hf).imp fun v σ H Q h => by
    obtain ⟨φ, S, τ, d, τ', R, r, rd, e, q⟩ := h
    cases e
    exact q _ (r.set i rd) (fun k hk => List.getElem?_set_ne (by simpa using fun z => hk (by simp [z]))) (by simp)
/-- a, b -/
def tN2 (i j : Nat) : TF := fun d S τ => match seqD S d with
  | some [x, y] => some ((τ.set i (some x)).set j (some y))
  | _ => none
theorem g_two (hK : T.K = X.K) {i j : Nat} {x y : Str} {p1 p2 : Pos} {k : Nat} (hc : X.calm = true) (hN : X.N.Nodup) (hi : X.N[i]? = some x) (hx : Loc X.env.scope x) (hj : X.N[j]? = some y) (hy : Loc X.env.scope y)
    (hf : X.fn x = true ∨ X.env.scope.names.lookup x = some .local := by first | exact .inl rfl | exact .inr rfl | assumption) (hf2 : X.fn y = true ∨ X.env.scope.names.lookup y = some .local := by first | exact .inl rfl | exact .inr rfl | assumption) :
    PG X (.Tuple [.Name x p1, .Name y p2] k pos) (rdG T [i, j] (tN2 i j)) :=
  ((pg_lst (n := 2) hc (pgs_cons (pg_name hN hi hx hf) (pgs_cons (pg_name hN hj hy hf2) pgs_nil))).or (pg_tup (n := 2) hc (pgs_cons (pg_name hN hi hx hf) (pgs_cons (pg_name hN hj hy hf2) pgs_nil)))).imp fun v σ H Q h => by
    obtain ⟨φ, S, τ, d, τ', R, r, rd, e, q⟩ := h
    unfold tN2 at e
    split at e
    · rename_i d1 d2 es
      cases e
      obtain ⟨p, vs, rfl, kk, s⟩ := seq_sq R rd es
      rw [hK] at kk
      obtain ⟨v1, l1, rfl, s1, v2, l2, rfl, s2, s3⟩ := s
      cases s3
      have fin : Q ((σ.set i (some v1)).set j (some v2)) H := q _ ((r.set i s1).set j s2) (fun k hk => by
        simp only [List.mem_cons, not_or] at hk
        rw [List.getElem?_set_ne (Ne.symm hk.2.1), List.getElem?_set_ne (Ne.symm hk.1)]) (by simp)
      rcases kk with kk | kk
      · exact .inl ⟨p, _, rfl, kk, rfl, v1, _, rfl, v2, _, rfl, rfl, fin⟩
      · exact .inr ⟨p, _, rfl, kk, rfl, v1, _, rfl, v2, _, rfl, rfl, fin⟩
    · cases e
/-- a, b = e -/
def sAs (g : TF) (fe : EF) : SF := fun τ => sx (fe τ) τ fun d S => (g d S τ).bind fun τ1 => some (.nx τ1, S)
theorem s_asg {g : TF} {vs : List Nat} (he : PE X e (rdE T W fa)) (hg : PG X tg (rdG T vs g)) (hs : swapsWithSole [tg] e pos.line X.env = pure false := by rfl) (hw : swappedStores [tg] e X.env = pure none := by rfl)
    (h1 : (assignEach [tg] X.env).map (·.2) = [assign tg X.env] := by rfl) : PS X (.Assign [tg] e pos) (rdS T W (sAs g fa)) := (ps_asg he hg hs hw h1).imp fun De σ H h => by
  obtain ⟨φ, S, τ, fl, S', R, r, e, q⟩ := h
  refine rdE_sx R r e q fun d S1 v H1 φ1 ⟨E1, R1, r1⟩ e1 q1 => ?_
  simp only [Option.bind_eq_some_iff] at e1
  obtain ⟨τ1, e2, e3⟩ := e1
  cases e3
  exact ⟨φ1, _, τ, d, τ1, R1, r.ext E1, r1, e2, fun σ' r' _ _ => q1 φ1 H1 σ' .refl R1 r'⟩

/-! ## for -/
def goF (nxt : Nat → Sto → Option (Option D)) (g : TF) (fb : SF) : Nat → Nat → SF
  | 0, _, _, _ => none
  | m + 1, i, τ, S => match nxt i S with
    | none => none
    | some none => some (.nx τ, S)
    | some (some d) => match g d S τ with
      | none => none
      | some τ1 => match fb τ1 S with
        | some (.nx τ2, S2) => goF nxt g fb m (i + 1) τ2 S2
        | some (.ct τ2, S2) => goF nxt g fb m (i + 1) τ2 S2
        | some (.bk τ2, S2) => some (.nx τ2, S2)
        | x => x
def sFor (fi : IF) (g : TF) (fb : SF) : SF := fun τ S => match fi τ S with
  | none => none
  | some (.ex x S1) => some (.xx x τ, S1)
  | some (.ok wk S1) => goF wk.nxt g fb (wk.bound + 1) 0 τ S1
variable {body : List Stmt} {fi : IF} {g : TF} {vs : List Nat} {fbd : SF}
theorem s_for (hp : PassesOwn (model X.prog X.w) X.A X.env X.xe) (hc : X.calm = true) (hi : PI X tg e (rdI T W fi)) (hg : PG X tg (rdG T vs g)) (hb : PSs X body (rdS T W fbd))
    (hs : ∀ x, foldedSetIterable e X.env x = pure x := by intro _; rfl) : PS X (.For tg e body [] pos) (rdS T W (sFor fi g fbd)) := (ps_for hp hc hi hg hb hs).imp fun De σ H h => by
  obtain ⟨φ, S, τ, fl, S', R, r, e, q⟩ := h
  unfold sFor at e
  cases e1 : fi τ S with
  | none => rw [e1] at e; cases e
  | some x =>
    rw [e1] at e
    refine ⟨φ, S, τ, x, R, r, e1, ?_⟩
    cases x with
    | ex x S1 =>
      cases e
      exact fun φ' H' d E1 R1 hx => q φ' H' σ d E1 R1 (r.ext E1) hx
    | ok wk S1 =>
      intro φ1 H1 J E1 R1 sv
      refine ⟨fun i m σ H => ∃ φ2 S2 τ2, Ext φ1 H1 φ2 H ∧ Rel T φ2 S2 H ∧ RSl T H φ2 τ2 σ ∧ goF wk.nxt g fbd m i τ2 S2 = some (fl, S') ∧ EndS T φ2 H fl S' De W, ⟨wk.bound + 1, φ1, S1, τ, .refl, R1, r.ext E1, e, q.mono E1⟩, ?_⟩
      rintro i m σ2 H2 ⟨φ2, S2, τ2, E2, R2, r2, e2, q2⟩
      cases m with
      | zero => cases e2
      | succ m =>
        unfold goF at e2
        obtain ⟨sgo, sst⟩ := sv φ2 S2 H2 i E2 R2
        cases hn : wk.nxt i S2 with
        | none => rw [hn] at e2; cases e2
        | some od =>
          rw [hn] at e2
          cases od with
          | none =>
            cases e2
            exact .inl ⟨sst hn, q2 φ2 H2 σ2 .refl R2 r2⟩
          | some d =>
            obtain ⟨go, yl⟩ := sgo d hn
            refine .inr ⟨go, fun σ' H' => ∃ φ3 S3 τ3, Ext φ1 H1 φ3 H' ∧ Rel T φ3 S3 H' ∧ RSl T H' φ3 τ3 σ' ∧ goF wk.nxt g fbd m (i + 1) τ3 S3 = some (fl, S') ∧ EndS T φ3 H' fl S' De W, fun σ' H' h => ⟨m, Nat.lt_succ_self m, h⟩, fun x H' y => ?_⟩
            obtain ⟨E3, R3, r3⟩ := yl x H' y
            simp only at e2
            cases hg1 : g d S2 τ2 with
            | none => rw [hg1] at e2; cases e2
            | some τ3 =>
              rw [hg1] at e2
              refine ⟨φ2, S2, τ2, d, τ3, R3, r2.ext E3, r3, hg1, fun σ' r' _ _ => ?_⟩
              simp only at e2
              cases hb1 : fbd τ3 S2 with
              | none => rw [hb1] at e2; cases e2
              | some p =>
                obtain ⟨fl1, S3⟩ := p
                rw [hb1] at e2
                refine ⟨φ2, S2, τ3, fl1, S3, R3, r', hb1, ?_⟩
                cases fl1 with
                | nx τ4 => exact fun φ' H'' σ'' E4 R4 r4 => ⟨φ', S3, τ4, (E2.trans E3).trans E4, R4, r4, e2, (q2.mono E3).mono E4⟩
                | ct τ4 => exact fun φ' H'' σ'' E4 R4 r4 => ⟨φ', S3, τ4, (E2.trans E3).trans E4, R4, r4, e2, (q2.mono E3).mono E4⟩
                | bk τ4 => cases e2; exact fun φ' H'' σ'' E4 R4 r4 => (q2.mono E3) φ' H'' σ'' E4 R4 r4
                | rt d4 => cases e2; exact fun φ' H'' v E4 R4 r4 => (q2.mono E3) φ' H'' v E4 R4 r4
                | xx x4 τ4 => cases e2; exact fun φ' H'' σ'' d4 E4 R4 r4 hx => (q2.mono E3) φ' H'' σ'' d4 E4 R4 r4 hx

/-! ## list comprehensions -/
def wipeD (τ : Sl) : List Nat → Sl
  | [] => τ
  | v :: vs => (wipeD τ vs).set v none
theorem RSl.wipe {φ : List Addr} {H : Hp} {τ : Sl} {σ : L2.St} (r : RSl T H φ τ σ) : ∀ vs, RSl T H φ (wipeD τ vs) (wipe σ vs)
  | [] => r
  | v :: vs => by
    have ih := RSl.wipe r vs
    refine ⟨by simp [wipeD, L2.wipe, ih.len], fun j d hj => ?_⟩
    unfold wipeD at hj
    unfold L2.wipe
    by_cases hv : v = j
    · subst hv
      have hl : v < (wipeD τ vs).length := by have := (List.getElem?_eq_some_iff.mp hj).1; simpa using this
      rw [List.getElem?_set_self hl] at hj; cases hj
    · rw [List.getElem?_set_ne hv] at hj
      rw [List.getElem?_set_ne hv]
      exact ih.at_ j d hj
theorem wipe_get {σ : L2.St} : ∀ {vs : List Nat} {i : Nat}, i ∈ vs → i < σ.length → (wipe σ vs)[i]? = some none
  | v :: vs, i, h, hl => by
    unfold L2.wipe
    by_cases hv : v = i
    · subst hv; rw [List.getElem?_set_self (by rw [wipe_length]; exact hl)]
    · rw [List.getElem?_set_ne hv]
      exact wipe_get ((List.mem_cons.mp h).resolve_left fun z => hv z.symm) hl
theorem wipe_eq {σ σ' : L2.St} {vs : List Nat} (h : ∀ k, k ∉ vs → σ'[k]? = σ[k]?) (hl : σ'.length = σ.length) : wipe σ' vs = wipe σ vs := by
  refine List.ext_getElem? fun i => ?_
  by_cases hi : i ∈ vs
  · by_cases hlt : i < σ.length
    · rw [wipe_get hi hlt, wipe_get hi (by omega)]
    · rw [List.getElem?_eq_none (by rw [wipe_length]; omega), List.getElem?_eq_none (by rw [wipe_length]; omega)]
  · rw [wipe_out hi, wipe_out hi]
    exact h i hi
theorem wipe_wipe {σ : L2.St} {vs : List Nat} : wipe (wipe σ vs) vs = wipe σ vs := wipe_eq (fun k hk => wipe_out hk) (wipe_length σ vs)
abbrev W0 : WX := fun _ _ _ _ => False
def goC (nxt : Nat → Sto → Option (Option D)) (g : TF) (t : BF) (fe : EF) (n : Nat) (τ0 : Sl) : Nat → Nat → Sto → Option Sto
  | 0, _, _ => none
  | m + 1, i, S => match nxt i S with
    | none => none
    | some none => some S
    | some (some d) => match g d S τ0 with
      | none => none
      | some τ1 => match t τ1 S with
        | some (.ok false S1) => goC nxt g t fe n τ0 m (i + 1) S1
        | some (.ok true S1) => match fe τ1 S1 with
          | some (.ok d S2) => match S2[n]? with
            | some (.lst acc) => if acc.length < sizeLine then goC nxt g t fe n τ0 m (i + 1) (S2.set n (.lst (acc ++ [d]))) else none
            | _ => none
          | _ => none
        | _ => none
def eLc (fi : IF) (g : TF) (t : BF) (fe : EF) (vs : List Nat) : EF := fun τ S => match fi τ S with
  | none => none
  | some (.ex x S1) => some (.ex x S1)
  | some (.ok wk S1) => (goC wk.nxt g t fe S1.length (wipeD τ vs) (wk.bound + 1) 0 (S1 ++ [.lst []])).bind fun S2 => some (.ok (.loc S1.length) S2)
def tAll : BF := fun _ S => some (.ok true S)
theorem ts_nil : PTs X [] (rdT T W0 tAll) := by
  refine ⟨fun pins s σ H Q I h => ?_⟩
  obtain ⟨φ, S, τ, o, R, r, e, q⟩ := h
  cases e
  exact pts_nil.run pins s σ H Q I (q φ H .refl R)
theorem ts_one (h : PT X c (rdT T W0 ta)) : PTs X [c] (rdT T W0 ta) := pts_one h
theorem lc_of {t : BF} {fe : EF} (hv : ∀ k ∈ vs, True) {us : List Nat} (hus : ∀ k ∈ us, k ∈ vs) {σ : L2.St} {H : Hp} {Q : VK} (h : rdE T W (eLc fi g t fe vs) σ H Q) : tLc (rdI T W fi) (rdG T us g) (rdT T W0 t) (rdE T W0 fe) vs σ H Q := by
  obtain ⟨φ, S, τ, o, R, r, e, q⟩ := h
  unfold eLc at e
  cases e1 : fi τ S with
  | none => rw [e1] at e; cases e
  | some x =>
    rw [e1] at e
    refine ⟨φ, S, τ, x, R, r, e1, ?_⟩
    cases x with
    | ex x S1 => cases e; exact q
    | ok wk S1 =>
      intro φ1 H1 J E1 R1 sv L hL
      simp only [Option.bind_eq_some_iff] at e
      obtain ⟨S9, e2, e3⟩ := e
      cases e3
      obtain ⟨R2, E2⟩ := R1.new (u := .lst []) (o := .lst []) hL ⟨[], upd_same, rfl⟩
      have hL2 : (φ1 ++ [L])[S1.length]? = some L := by rw [← R1.len]; simp
      have r0 := ((r.ext E1).ext E2).wipe vs
      refine ⟨fun i m H => ∃ φ3 S3, Ext (φ1 ++ [L]) (upd H1 L (.lst [])) φ3 H ∧ Rel T φ3 S3 H ∧ goC wk.nxt g t fe S1.length (wipeD τ vs) m i S3 = some S9, ⟨wk.bound + 1, _, _, .refl, R2, e2⟩, ?_⟩
      rintro i m H3 ⟨φ3, S3, E3, R3, e3⟩
      cases m with
      | zero => cases e3
      | succ m =>
        unfold goC at e3
        obtain ⟨sgo, sst⟩ := sv φ3 S3 H3 i (E2.trans E3) R3
        cases hn : wk.nxt i S3 with
        | none => rw [hn] at e3; cases e3
        | some od =>
          rw [hn] at e3
          cases od with
          | none =>
            cases e3
            exact .inl ⟨sst hn, q φ3 H3 _ ((E1.trans E2).trans E3) R3 ⟨L, rfl, E3.get hL2⟩⟩
          | some d =>
            obtain ⟨go, yl⟩ := sgo d hn
            refine .inr ⟨go, fun H' => ∃ φ4 S4, Ext (φ1 ++ [L]) (upd H1 L (.lst [])) φ4 H' ∧ Rel T φ4 S4 H' ∧ goC wk.nxt g t fe S1.length (wipeD τ vs) m (i + 1) S4 = some S9, fun H' h => ⟨m, Nat.lt_succ_self m, h⟩, fun x H' y => ?_⟩
            obtain ⟨E4, R4, r4⟩ := yl x H' y
            simp only at e3
            cases hg1 : g d S3 (wipeD τ vs) with
            | none => rw [hg1] at e3; cases e3
            | some τ4 =>
              rw [hg1] at e3
              refine ⟨φ3, S3, wipeD τ vs, d, τ4, R4, (r0.ext E3).ext E4, r4, hg1, fun σ' r' ks kl => ?_⟩
              refine ⟨(wipe_eq (fun k hk => ks k fun z => hk (hus k z)) kl).trans wipe_wipe, ?_⟩
              simp only at e3
              cases ht : t τ4 S3 with
              | none => rw [ht] at e3; cases e3
              | some ob =>
                rw [ht] at e3
                cases ob with
                | ex x S5 => cases e3
                | ok bb S5 =>
                  refine ⟨φ3, S3, τ4, _, R4, r', ht, fun φ5 H5 E5 R5 => ?_⟩
                  cases bb with
                  | false => exact ⟨φ5, S5, (E3.trans E4).trans E5, R5, e3⟩
                  | true =>
                    rw [if_pos rfl]
                    simp only at e3
                    cases hf : fe τ4 S5 with
                    | none => rw [hf] at e3; cases e3
                    | some od =>
                      rw [hf] at e3
                      cases od with
                      | ex x S6 => cases e3
                      | ok d6 S6 =>
                        refine ⟨φ5, S5, τ4, _, R5, r'.ext E5, hf, fun φ6 H6 v6 E6 R6 r6 => ?_⟩
                        simp only at e3
                        split at e3
                        · rename_i acc hacc
                          split at e3
                          · rename_i hl
                            have hL6 : φ6[S1.length]? = some L := E6.get (E5.get (E4.get (E3.get hL2)))
                            obtain ⟨vs6, k1, k2⟩ := R6.obj _ _ L hacc hL6
                            have E7 := Ext.put (φ := φ6) (u := .lst (vs6 ++ [v6])) (List.mem_of_getElem? hL6) k1
                            obtain ⟨R7, _⟩ := R6.put (o := .lst (acc ++ [d6])) (u := .lst (vs6 ++ [v6])) hL6 (mem_lt hacc) ⟨_, upd_same, (k2.app (RDs.one r6)).ext E7 _ _⟩
                            exact ⟨vs6, k1, by rw [← k2.length]; exact hl, φ6, _, (((E3.trans E4).trans E5).trans E6).trans E7, R7, e3⟩
                          · cases e3
                        · cases e3
variable {elt iter : Expr} {ifs : List Expr} {scope : Scope} {own : List (Str × Nat)} {us : List Nat} {t : BF} {fe : EF}
theorem d_lc (hc : X.calm = true) (hN : X.N.Nodup) (hi : PI X tg iter (rdI T W fi)) (ok : BlkOk X.N X.env.scope scope own)
    (hg : ∀ (s : Shared) (H : Hp) (C : Addr) (cl : List (Str × Addr)) (fp : List Addr), PG (X.blk s H scope (compEnvC scope cl C X.env) fp) tg (rdG T us g))
    (ht : ∀ (s : Shared) (H : Hp) (C : Addr) (cl : List (Str × Addr)) (fp : List Addr), PTs (X.blk s H scope (compEnvC scope cl C X.env) fp) ifs (rdT T W0 t))
    (he : ∀ (s : Shared) (H : Hp) (C : Addr) (cl : List (Str × Addr)) (fp : List Addr), PE (X.blk s H scope (compEnvC scope cl C X.env) fp) elt (rdE T W0 fe))
    (hus : ∀ k ∈ us, k ∈ own.map (·.2) := by decide) (hs : ∀ x, foldedSetIterable iter X.env x = pure x := by intro _; rfl) :
    PE X (.ListComp elt [⟨tg, iter, ifs, 0⟩] scope pos) (rdE T W (eLc fi g t fe (own.map (·.2)))) :=
  (pe_lc hc hN hi ok hg ht he hs).imp fun _ _ _ h => lc_of (fun _ _ => trivial) hus h
theorem s_setLc {i : Nat} {y : Str} {py spos : Pos} (hc : X.calm = true) (hN : X.N.Nodup) (hy : X.N[i]? = some y) (hyl : X.env.scope.names.lookup y = some .local)
    (hsw : swapsWith (.ListComp elt [⟨tg, iter, ifs, 0⟩] scope pos) (some (.Name y py)) spos.line X.env = pure true) (hi : PI X tg iter (rdI T W fi)) (ok : BlkOk X.N X.env.scope scope own)
    (hg : ∀ (s : Shared) (H : Hp) (C : Addr) (cl : List (Str × Addr)) (fp : List Addr), PG (X.blk s H scope (compEnvC scope cl C X.env) fp) tg (rdG T us g))
    (ht : ∀ (s : Shared) (H : Hp) (C : Addr) (cl : List (Str × Addr)) (fp : List Addr), PTs (X.blk s H scope (compEnvC scope cl C X.env) fp) ifs (rdT T W0 t))
    (he : ∀ (s : Shared) (H : Hp) (C : Addr) (cl : List (Str × Addr)) (fp : List Addr), PE (X.blk s H scope (compEnvC scope cl C X.env) fp) elt (rdE T W0 fe))
    (hus : ∀ k ∈ us, k ∈ own.map (·.2) := by decide) (hs : ∀ x, foldedSetIterable iter X.env x = pure x := by intro _; rfl) :
    PS X (.Assign [.Name y py] (.ListComp elt [⟨tg, iter, ifs, 0⟩] scope pos) spos) (rdS T W (sSet i (eLc fi g t fe (own.map (·.2))))) :=
  (ps_setLc hc hN hy hyl hsw hi ok hg ht he hs).imp fun De σ H h => by
    obtain ⟨φ, S, τ, fl, S', R, r, e, q⟩ := h
    have h2 : rdE T W (eLc fi g t fe (own.map (·.2))) σ H (fun v H1 => De.nx (σ.set i (some v)) H1) := by
      refine rdE_sx R r e q fun d S1 v H1 φ1 ⟨E1, R1, r1⟩ e1 q1 => ?_
      cases e1
      exact q1 φ1 H1 _ .refl R1 ((r.ext E1).set i r1)
    exact lc_of (fun _ _ => trivial) hus h2
end
end Sb
end
section
set_option Elab.async false
set_option linter.all false
set_option maxRecDepth 100000
set_option maxHeartbeats 4000000
namespace Sb
open PySem PySem.Spec PyProof.Rows L2

/-! ## all(e for x in xs): a generator over anything that is walked, its element any expression -/
/-- the generator's running code, walked as a body: its frame over the frames that run -/
def gcx (X : Cx) (s4 : Shared) (H4 : Hp) (cenv : Env) (fp : List Addr) (A3 : Around) (pn : List (Addr × Obj)) : Cx :=
  { X with A := A3, s_0 := s4, H_0 := H4, env := cenv, outer := X.stack, stack := cenv :: X.stack, ex := fp, fn := fun _ => true, calm := true, pn := pn, xe := fun _ _ => False }
def nones (n : Nat) : L2.St := List.replicate n none
def tGA (P : Addr) (n : Nat) (wi : TI) (g : TG) (te : TE) : TE := fun σ H Q => wi σ H fun J H1 => GxR.TabG H1 P ∧ ∀ H2, GxR.Tabbed P H1 H2 → ∃ W : Nat → Nat → Hp → Prop, (∃ m, W 0 m H2) ∧ ∀ i m H, W i m H →
  (J.stop i H ∧ Q (.bl true) H) ∨ (J.go i H ∧ ∃ Nx : Hp → Prop, (∀ H', Nx H' → ∃ m', m' < m ∧ W (i + 1) m' H') ∧ ∀ x H', J.yld i H x H' → g x (nones n) H' fun σ2 H2 => te σ2 H2 fun y H3 => ∃ b, y = .bl b ∧ if b = true then Nx H3 else Q (.bl false) H3)
/-- another state over the same heap -/
structure Sh (s s' : Shared) : Prop where
  heap : s'.heap = s.heap
  os : s'.os = s.os
  bare : AllBare s'.gens
theorem Sh.inv {X : Cx} {pins : List (Addr × Obj)} {σ : L2.St} {H : Hp} {s s' : Shared} (I : L2.Inv X pins σ H s) (h : Sh s s') : L2.Inv X pins σ H s' := by
  obtain ⟨hp, g, dr, tk, os⟩ := s'
  obtain ⟨e1, e2, e3⟩ := h
  have e1' : hp = s.heap := e1
  have e2' : os = s.os := e2
  subst e1' e2'
  exact ⟨I.ok, I.os, e3, I.base, I.loc, I.cell, I.free, I.freeC, I.pin, I.hok, I.len⟩
section
variable {X : Cx} {elt iter tg : Expr} {scope : Scope} {gpos : Pos}
abbrev GE (elt tg iter : Expr) (scope : Scope) (gpos : Pos) : Expr := .GeneratorExp elt [⟨tg, iter, [], 0⟩] scope gpos
/-- the end of the generator -/
def REx (Xg : Cx) (Q : VK) : GenEnd := fun _ _ r s1 => r = .ok .next ∧ ∃ σ H, L2.Inv Xg [] σ H s1 ∧ Q (.bl true) H
/-- a truth handed out -/
def YEx (Xg : Cx) (Q : VK) : Protocol := fun _ _ v s1 kap => ∃ b, v = Value.bool b ∧ ∃ σ H, L2.Inv Xg [] σ H s1 ∧ if b = true then ∀ s'', Sh s1 s'' → kap (.send .none) s'' else Q (.bl false) H
theorem seg_gen {A2 : Around} {Xg : Cx} {cenv : Env} {it : Addr} {fp : List Addr} {J : It} {tn : Nat → Heap → Prop} {g : TG} {te : TE} {Q : VK} {n0 : Nat} {W : Nat → Nat → Hp → Prop}
    (hA : Xg.A = A2.over (.compLoop (GE elt tg iter scope gpos) 0 (.ref it) .none cenv) []) (hE : Xg.env = cenv) (hcl : Xg.calm = true) (hxe : Xg.xe = fun _ _ => False) (hn0 : Xg.N.length = n0) (hco : cenv.scope.isCoroutine = false)
    (Tn : Turn Xg.prog Xg.w Xg.K tg J fp it tn) (hg : PG Xg tg g) (he : PE Xg elt te) (hfp : ∀ H, (∀ b ∈ fp, H b = none) → ∀ b ∈ fp, FpOk Xg [] H b)
    (turn : ∀ i m H, W i m H → (J.stop i H ∧ Q (.bl true) H) ∨ (J.go i H ∧ ∃ Nx : Hp → Prop, (∀ H', Nx H' → ∃ m', m' < m ∧ W (i + 1) m' H') ∧ ∀ x H', J.yld i H x H' → g x (nones n0) H' fun σ2 H2 => te σ2 H2 fun y H3 => ∃ b, y = .bl b ∧ if b = true then Nx H3 else Q (.bl false) H3)) :
    ∀ (n i m : Nat) (s₀ s : Shared) (σ : L2.St) (H : Hp), m < n → L2.Inv Xg [] σ H s → tn i s.heap → (∀ b ∈ fp, H b = none) → W i m H →
      Seg (model Xg.prog Xg.w) A2 (REx Xg Q) (YEx Xg Q) n s₀ (.compLoop (GE elt tg iter scope gpos) 0 (.ref it) .none cenv) ((model Xg.prog Xg.w).den (.compLoop (GE elt tg iter scope gpos) 0 (.ref it) .none cenv)) [] s := by
  intro n
  induction n with
  | zero => intro i m s₀ s σ H hm; exact absurd hm (Nat.not_lt_zero _)
  | succ n ih =>
    intro i m s₀ s σ H hm I st fr w
    show Seg _ A2 _ _ _ s₀ _ ((compTurn (GE elt tg iter scope gpos) 0 (.ref it) .none cenv).onRaise (leaving cenv)) [] s
    rw [compTurn_gen, Sem.onRaise_eq_wrap]
    refine seg_bind_wrap (wpAny_standAt ?_)
    rcases turn i m H w with ⟨stop, q⟩ | ⟨go, Nx, hN, step⟩
    · refine seg_bind_wrap ?_
      rw [← hA]
      refine thn (Tn.done Xg rfl rfl rfl hcl i [] s σ H _ I (hfp H fr) st stop) fun r s4 ⟨hr, I4⟩ => ?_
      subst hr
      exact seg_end (.ok .next) ⟨rfl, σ, H, I4, q⟩
    · refine seg_bind_wrap ?_
      rw [← hA]
      refine thn (Tn.item Xg rfl rfl rfl hcl i [] s σ H _ I (hfp H fr) st go) fun r s1 ⟨u, hr, h4⟩ => ?_
      subst hr
      refine seg_bind_wrap ?_
      rw [← hA]
      refine thn h4 fun _ s5 ⟨x, H5, I5, r5, y5, st5, fr5⟩ => ?_
      have I5' := (I5.pinned (hfp H5 fr5) (Tn.obj _ _ st5)).weak (σ' := nones n0) (by rw [I5.len, ← hn0]; simp [nones]) (fun j v hj => by
        unfold nones at hj
        rw [List.getElem?_replicate] at hj
        split at hj <;> cases hj)
      refine seg_bind_wrap ?_
      rw [← hA]
      have hgr := hg.run _ s5 (nones n0) H5 x u _ I5' r5 (step x H5 y5)
      rw [hE, hxe] at hgr
      refine wpAny_mono hgr (fun _ s6 ⟨σ6, H6, I6, q6⟩ => ?_) fun _ _ z => z.elim
      refine seg_bind_wrap (wpAny_tests_nil ?_)
      simp only [if_true]
      have hy : ∀ v, yieldOut cenv v = yieldValue v := fun v => by simp only [yieldOut, hco, Bool.false_eq_true, if_false]
      simp only [hy]
      rw [Sem.bind_eq_wrap', Sem.bind_eq_wrap', Sem.wrap_wrap, Sem.wrap_wrap]
      refine seg_wrap ?_
      rw [← hA]
      have her := he.run _ s6 σ6 H6 _ I6 q6
      rw [hE, hxe] at her
      refine wpAny_mono her (fun v s7 ⟨y, H7, I7, r7, b, hb, q7⟩ => ?_) fun _ _ z => z.elim
      subst hb
      obtain rfl : v = Value.bool b := r7
      refine seg_at (seg_yield rfl rfl rfl ⟨b, rfl, σ6, H7, I7.unpinned, ?_⟩)
      cases b with
      | false => exact q7
      | true =>
        intro s'' hs
        obtain ⟨m', hm', w'⟩ := hN H7 q7
        have keepIt : ∀ b ∈ fp, ∀ o, s5.heap.get? b = some o → s''.heap.get? b = some o := fun b hb o e => by
          rw [hs.heap]
          exact (I7.pin (b, o) (List.mem_append_right _ (List.mem_append_right _ (mem_pinsAt hb e)))).1
        refine seg_again rfl (ih (i + 1) m' _ s'' σ6 H7 (by omega) (hs.inv I7.unpinned) (Tn.keep _ _ _ st5 keepIt) (fun b hb => ?_) w')
        obtain ⟨o, e, d⟩ := Tn.obj _ _ st5 b hb
        exact (I7.pin (b, o) (List.mem_append_right _ (List.mem_append_right _ (mem_pinsAt hb e)))).2.1
theorem seg_gen0 {A2 : Around} {Xg : Cx} {cenv : Env} {it : Addr} {fp : List Addr} {J : It} {tn : Nat → Heap → Prop} {g : TG} {te : TE} {Q : VK} {n0 : Nat} {W : Nat → Nat → Hp → Prop}
    (hA : Xg.A = A2.over (.compLoop (GE elt tg iter scope gpos) 0 (.ref it) .none cenv) []) (hE : Xg.env = cenv) (hcl : Xg.calm = true) (hxe : Xg.xe = fun _ _ => False) (hn0 : Xg.N.length = n0) (hco : cenv.scope.isCoroutine = false)
    (Tn : Turn Xg.prog Xg.w Xg.K tg J fp it tn) (hg : PG Xg tg g) (he : PE Xg elt te) (hfp : ∀ H, (∀ b ∈ fp, H b = none) → ∀ b ∈ fp, FpOk Xg [] H b)
    (turn : ∀ i m H, W i m H → (J.stop i H ∧ Q (.bl true) H) ∨ (J.go i H ∧ ∃ Nx : Hp → Prop, (∀ H', Nx H' → ∃ m', m' < m ∧ W (i + 1) m' H') ∧ ∀ x H', J.yld i H x H' → g x (nones n0) H' fun σ2 H2 => te σ2 H2 fun y H3 => ∃ b, y = .bl b ∧ if b = true then Nx H3 else Q (.bl false) H3))
    {m : Nat} {s₀ s : Shared} {σ : L2.St} {H : Hp} (I : L2.Inv Xg [] σ H s) (st : tn 0 s.heap) (fr : ∀ b ∈ fp, H b = none) (w : W 0 m H) :
      Seg (model Xg.prog Xg.w) A2 (REx Xg Q) (YEx Xg Q) (m + 1) s₀ (.compStart (GE elt tg iter scope gpos) 0 (.ref it) .none cenv) ((model Xg.prog Xg.w).den (.compStart (GE elt tg iter scope gpos) 0 (.ref it) .none cenv)) [] s := by
  have loop := seg_gen hA hE hcl hxe hn0 hco Tn hg he hfp turn (m + 1) 0 m s₀ s σ H (Nat.lt_succ_self m) I st fr w
  show Seg _ A2 _ _ _ s₀ _ ((compStart (GE elt tg iter scope gpos) 0 (.ref it) .none cenv).onRaise (leaving cenv)) [] s
  unfold compStart
  rw [Sem.onRaise_eq_wrap]
  show Seg _ A2 _ _ _ s₀ _ ((ask >>= _).wrap _ _ _ _) [] s
  refine seg_bind_wrap (wpAny_askSetting ?_)
  split
  · exact seg_again rfl loop
  · refine seg_bind_wrap (wpAny_rule ?_)
    show Seg _ A2 _ _ _ s₀ _ ((standAt iter.pos >>= _).wrap _ _ _ _) [] s
    exact seg_bind_wrap (wpAny_standAt (seg_bind_wrap (Tn.self _ 0 s _ _ st (seg_again rfl loop))))

/-! ### the consumer -/
abbrev genObj (g : Nat) (nm qn : Str) (t1 t2 : Tok) : Obj := { cls := .type "generator", data := .fields #[.int g 0, .str nm t1, .str qn t2] }
theorem all_loop {P : Program} {w : World} {A : Around} {Xg : Cx} {a : Addr} {g : Nat} {nm qn : Str} {t1 t2 : Tok} {Q : VK} {Rz : Result → Shared → Prop} (hP : Xg.prog = P) (hw : Xg.w = w) (hh : A.handled = none) (hroom : A.depth < recursionLimit) (hpn : (a, genObj g nm qn t1 t2) ∈ Xg.pn)
    (hR : ∀ b σ H s' s'', L2.Inv Xg [] σ H s' → s''.os = s'.os → AllBare s''.gens → (∀ b o, s'.heap.get? b = some o → s''.heap.get? b = some o) → Q (.bl b) H → Rz (.ok (.ret (.bool b))) s'') :
    ∀ (n : Nat) (s : Shared) (gs : GenState), s.gens[g]? = some gs → (∃ σ H, L2.Inv Xg [] σ H s) → (∀ s'', Sh s s'' → gs.Goes (model P w) A.in1.in1 (REx Xg Q) (YEx Xg Q) n (.send .none) s'') →
      codeAny (model P w) A (.builtin "all.loop" ⟨[.ref a], []⟩) Rz s := by
  subst hP hw
  intro n
  induction n with
  | zero =>
    intro s gs hgs ⟨σ, H, I⟩ hgo
    have hlt : g < s.gens.size := by
      rcases Nat.lt_or_ge g s.gens.size with z | z
      · exact z
      · rw [Array.getElem?_eq_none z] at hgs; cases hgs
    have hpa := (I.pin _ (List.mem_append_left _ hpn)).1
    refine codeAny_builtin F.entry_all_loop ?_
    rw [Around.under_plainId F.plain_all_loop _]
    show wpAny _ A.in1 (pyNext (.ref a) >>= _) _ _ s
    refine wpAny_bind (wpAny_pyNext_genexpQ (A := A.in1) (P := fun _ s1 => fun s2 => ∃ σ H, L2.Inv Xg [] σ H s2 ∧ Q (.bl true) H) hh I.nolimit hroom ⟨_, _, _, hpa, rfl, rfl, rfl⟩ hgs
      (hgo _ ⟨rfl, rfl, allBare_setGen I.bare rfl⟩) (fun v s₁ gs' hb hy => ?_) fun s₁ ⟨σ1, H1, I1, q1⟩ h' kk => ?_)
    · obtain ⟨b, rfl, σ1, H1, I1, q1⟩ := hy
      refine wpAny_bind (wpAny_holding (wpAny_truthy_bool ?_))
      refine wpAny_bind (wpAny_letGo ?_)
      cases b with
      | true => exact (q1 s₁ ⟨rfl, rfl, I1.bare⟩).elim
      | false =>
        simp only [Bool.false_eq_true, if_false]
        exact wpAny_bind (wpAny_rule (wpAny_pure (hR false σ1 H1 s₁ _ I1 rfl (allBare_setGen I1.bare hb) (fun _ _ z => z) q1)))
    · exact wpAny_bind (wpAny_rule (wpAny_pure (hR true σ1 H1 s₁ _ I1 rfl (allBare_setGen I1.bare rfl) kk q1)))
  | succ n ih =>
    intro s gs hgs ⟨σ, H, I⟩ hgo
    have hlt : g < s.gens.size := by
      rcases Nat.lt_or_ge g s.gens.size with z | z
      · exact z
      · rw [Array.getElem?_eq_none z] at hgs; cases hgs
    have hpa := (I.pin _ (List.mem_append_left _ hpn)).1
    refine codeAny_builtin F.entry_all_loop ?_
    rw [Around.under_plainId F.plain_all_loop _]
    show wpAny _ A.in1 (pyNext (.ref a) >>= _) _ _ s
    refine wpAny_bind (GenW.wpAny_gsz (n := g + 1) hlt (wpAny_pyNext_genexpQ (A := A.in1) (P := fun _ s1 => fun s2 => ∃ σ H, L2.Inv Xg [] σ H s2 ∧ Q (.bl true) H) hh I.nolimit hroom ⟨_, _, _, hpa, rfl, rfl, rfl⟩ hgs
      (hgo _ ⟨rfl, rfl, allBare_setGen I.bare rfl⟩) (fun v s₁ gs' hb hy => ?_) fun s₁ ⟨σ1, H1, I1, q1⟩ h' kk => ?_))
    · intro hsz
      rw [GenW.setGen_size] at hsz
      obtain ⟨b, rfl, σ1, H1, I1, q1⟩ := hy
      refine wpAny_bind (wpAny_holding (wpAny_truthy_bool ?_))
      refine wpAny_bind (wpAny_letGo ?_)
      cases b with
      | true =>
        simp only [if_true] at q1 ⊢
        have sh : Sh s₁ (s₁.setGen g gs') := ⟨rfl, rfl, allBare_setGen I1.bare hb⟩
        refine wpAny_pure ⟨plainId_quiet F.plain_all_loop _, ih (s₁.setGen g gs') gs' (setGen_at hsz) ⟨σ1, H1, sh.inv I1⟩ fun s'' h2 => ?_⟩
        exact q1 s'' ⟨h2.heap, h2.os, h2.bare⟩
      | false =>
        simp only [Bool.false_eq_true, if_false] at q1 ⊢
        exact wpAny_bind (wpAny_rule (wpAny_pure (hR false σ1 H1 s₁ _ I1 rfl (allBare_setGen I1.bare hb) (fun _ _ z => z) q1)))
    · intro _
      exact wpAny_bind (wpAny_rule (wpAny_pure (hR true σ1 H1 s₁ _ I1 rfl (allBare_setGen I1.bare rfl) kk q1)))
end
end Sb
end
section
set_option Elab.async false
set_option linter.all false
set_option maxRecDepth 100000
set_option maxHeartbeats 4000000
namespace Sb
open PySem PySem.Spec PyProof.Rows L2

structure GenSc (scope : Scope) : Prop where
  kind : scope.kind = .function
  co : scope.isCoroutine = false
  cell : ∀ y ∈ scope.names, y.2 ≠ .cell
  free : ∀ y ∈ scope.names, y.2 ≠ .free
  dot : scope.names.lookup (".0" : Str) = some NameKind.local
theorem cloFrom_nil {cells : List (Str × Addr)} : ∀ {names : List (Str × NameKind)}, (∀ y ∈ names, y.2 ≠ .free) → cloFrom cells names [] = []
  | [], _ => rfl
  | (n, k) :: r, h => by
    unfold cloFrom
    have hk : (k == NameKind.free) = false := by
      have := h (n, k) List.mem_cons_self
      simpa using this
    rw [hk]
    exact cloFrom_nil fun y hy => h y (List.mem_cons_of_mem _ hy)
abbrev gEnv (scope : Scope) (C : Addr) (code : Value) (env : Env) : Env := genEnv scope [] C code builtinsNs env
section
variable {X : Cx} {elt iter tg : Expr} {scope : Scope} {gpos pos p : Pos} {k : Nat} {c P : Addr} {wi : TI} {g : TG} {te : TE}
/-- the contexts that the element may be asked in -/
def GenIn (X : Cx) (scope : Scope) (k : Nat) (Φ : Cx → Prop) : Prop := ∀ (s4 : Shared) (H4 : Hp) (C : Addr) (code : Value) (fp : List Addr) (A3 : Around) (pn : List (Addr × Obj)), Room k A3 → (X.A.guards = some [] → A3.guards = some []) → Φ (gcx X s4 H4 (gEnv scope C code X.env) fp A3 pn)
theorem lookup_kind {names : List (Str × NameKind)} {k : NameKind} (h : ∀ y ∈ names, y.2 ≠ k) (x : Str) : names.lookup x ≠ some k := fun e => h (x, k) (PySem.mem_of_lookup e) rfl

theorem gen_cont {pins : List (Addr × Obj)} {σ : L2.St} {H3 : Hp} {s3 : Shared} {Q : VK} {it : Addr} {fp : List Addr} {J : It} {tn : Nat → Heap → Prop} {code : Value} {W : Nat → Nat → Hp → Prop} (hcalm : X.calm = true) (hr : Room (k + 1) X.A) (S : GenSc scope)
    (hpg : GenIn X scope k fun Y => PG Y tg g) (hpe : GenIn X scope k fun Y => PE Y elt te) (I3 : L2.Inv X pins σ H3 s3) (Tn : Turn X.prog X.w X.K tg J fp it tn) (st3 : tn 0 s3.heap) (f3 : ∀ b ∈ fp, FpOk X pins H3 b) (hit : it ∈ fp)
    (hW : ∃ m, W 0 m H3)
    (turn : ∀ i m H, W i m H → (J.stop i H ∧ Q (.bl true) H) ∨ (J.go i H ∧ ∃ Nx : Hp → Prop, (∀ H', Nx H' → ∃ m', m' < m ∧ W (i + 1) m' H') ∧ ∀ x H', J.yld i H x H' → g x (nones X.N.length) H' fun σ2 H2 => te σ2 H2 fun y H3 => ∃ b, y = .bl b ∧ if b = true then Nx H3 else Q (.bl false) H3))
    {h' : Heap} (hn' : h'.Ns s3.heap.objs.size (fun y => if y = ".0" then some (.ref it) else none)) (hs' : Heap.SameBut s3.heap.objs.size (s3.heap.push { cls := .type "frame", data := .dict #[] }) h') {nm qn : Str} {t1 t2 : Tok} {tk : Nat} :
    wpAny (model X.prog X.w) X.A (call (.builtin "all") [.ref h'.objs.size]) (EP X pins σ Q) X.xe
      { s3 with gens := s3.gens.push (.fresh (.compStart (GE elt tg iter scope gpos) 0 (.ref it) .none (gEnv scope s3.heap.objs.size code X.env))), toks := tk, heap := h'.push (genObj s3.gens.size nm qn t1 t2) } := by
  obtain ⟨m, w0⟩ := hW
  have hsz : h'.objs.size = s3.heap.objs.size + 1 := by rw [hs'.1, Heap.size_push]
  have keep1 : ∀ b o, s3.heap.get? b = some o → h'.get? b = some o := fun b o e => hs'.extBut b o (Nat.ne_of_lt (Heap.lt_size e)) (Heap.get?_push_of_some _ e)
  have keep2 : ∀ b o, s3.heap.get? b = some o → (h'.push (genObj s3.gens.size nm qn t1 t2)).get? b = some o := fun b o e => Heap.get?_push_of_some _ (keep1 b o e)
  have hfpl : ∀ b ∈ fp, b < s3.heap.objs.size := fun b hb => by
    obtain ⟨o, e, _⟩ := Tn.obj _ _ st3 b hb
    exact Heap.lt_size e
  have hstk : ∀ b ∈ fp, b ∉ frs X.stack := fun b hb z => by
    rcases List.mem_cons.mp (I3.stkSub b z) with e | e
    · exact (f3 b hb).2.1 e
    · exact (f3 b hb).2.2.1 e
  let cenv : Env := gEnv scope s3.heap.objs.size code X.env
  let A3 : Around := X.A.in1.in1.over (.compLoop (GE elt tg iter scope gpos) 0 (.ref it) .none cenv) []
  have hA3 : Room k A3 := ⟨hr.hd, by
      have h1 := hr.dp
      have e : A3.depth = X.A.depth + 1 := rfl
      rw [e]; omega, by
      have h1 := hr.un
      have e : A3.units = X.A.units + 1 + 1 + 3 := rfl
      rw [e]; omega⟩
  have hgu : X.A.guards = some [] → A3.guards = some [] := fun z => by
    have e : A3.guards = pushGuards [] (pushGuards [] X.A.guards) := rfl
    rw [e, z]
    rfl
  have hfr : A3.frames = some (cenv :: X.stack) := by
    have e : A3.frames = pushEnvs [cenv] (pushEnvs [] X.A.frames) := rfl
    rw [e, I3.ok.frames]
    rfl
  let Xg : Cx := gcx X s3 H3 cenv fp A3 [(h'.objs.size, genObj s3.gens.size nm qn t1 t2)]
  have okG : Xg.Ok := by
    refine ⟨I3.ok.mod, S.kind, I3.ok.glob, rfl, Nat.le_refl _, fun x y c e => ?_, fun x hx => ?_, fun x c _ e => ?_, fun _ => hr.hd, hfr, .inr ⟨rfl, rfl⟩, fun b hb => ⟨Nat.ne_of_lt (hfpl b hb), fun x c e => ?_⟩, I3.bs, Nat.le_trans I3.ok.bsz I3.sz, fun b o e hb => ?_, hstk, I3.stack, I3.stkFree⟩
    · cases e
    · rcases hx with hx | hx
      · exact absurd hx (lookup_kind S.cell x)
      · exact absurd hx (lookup_kind S.free x)
    · cases e
    · cases e
    · rcases (f3 b hb).2.2.2.1 with z | z
      · exact I3.ok.noex b o e z
      · exact absurd (Nat.lt_of_lt_of_le (Heap.lt_size e) (Nat.le_trans I3.ok.bsz z)) (Nat.lt_irrefl _)
  have hCn : H3 s3.heap.objs.size = none := I3.hok.fresh (Nat.le_refl _)
  have han : H3 h'.objs.size = none := I3.hok.fresh (by rw [hsz]; exact Nat.le_succ _)
  have IG : L2.Inv Xg [] (nones X.N.length) H3 { s3 with gens := s3.gens.push (.fresh (.compStart (GE elt tg iter scope gpos) 0 (.ref it) .none cenv)), toks := tk, heap := h'.push (genObj s3.gens.size nm qn t1 t2) } := by
    refine ⟨okG, rfl, I3.bare.push rfl, Un.kept keep2, ⟨_, hn'.push _, fun i x v _ e _ => ?_⟩, fun x c e => ?_, hCn, fun x c e => ?_, fun q hq => ?_, I3.hok.kept keep2, ?_⟩
    · unfold nones at e
      rw [List.getElem?_replicate] at e
      split at e <;> cases e
    · cases e
    · cases e
    · have e : q = (h'.objs.size, genObj s3.gens.size nm qn t1 t2) := by simpa [Xg, gcx] using hq
      subst e
      refine ⟨Heap.get?_push_size _ rfl, han, ?_, fun z => ?_, fun v z => by cases z⟩
      · show h'.objs.size ≠ s3.heap.objs.size
        omega
      · have z' : h'.objs.size ∈ frs X.stack := z
        have h9 := I3.stkSub _ z'
        have h8 : h'.objs.size < s3.heap.objs.size := by
          rcases List.mem_cons.mp h9 with e | e
          · rw [e]; exact I3.lt
          · obtain ⟨_, o, ho, _⟩ := I3.ok.funs.mem e
            exact Nat.lt_of_lt_of_le (Heap.lt_size ho) I3.sz
        omega
    · show (nones X.N.length).length = X.N.length
      simp [nones]
  have hfpg : ∀ H, (∀ b ∈ fp, H b = none) → ∀ b ∈ fp, FpOk Xg [] H b := fun H hn b hb => by
    refine ⟨hn b hb, Nat.ne_of_lt (hfpl b hb), hstk b hb, .inl hb, fun x c e => ?_, fun q hq => ?_⟩
    · cases e
    · have e : q = (h'.objs.size, genObj s3.gens.size nm qn t1 t2) := by simpa [Xg, gcx] using hq
      subst e
      exact Nat.ne_of_gt (Nat.lt_of_lt_of_le (hfpl b hb) (by show s3.heap.objs.size ≤ h'.objs.size; rw [hsz]; exact Nat.le_succ _))
  have hpg' : PG Xg tg g := hpg s3 H3 _ code fp A3 _ hA3 hgu
  have hpe' : PE Xg elt te := hpe s3 H3 _ code fp A3 _ hA3 hgu
  refine call_function_tree F.kind_all F.plain_all F.entry_all (F.args_all1 _) ?_
  unfold Builtin.«all»
  refine wpAny_bind (m := oneArg "all" _) (wpAny_pure ?_)
  refine wpAny_bind (wpAny_pyIter_gen (g := s3.gens.size) ⟨_, _, _, Heap.get?_push_size _ rfl, rfl, rfl, rfl⟩ ?_)
  refine wpAny_pure ⟨plainId_quiet F.plain_all_loop _, ?_⟩
  refine all_loop (Xg := Xg) (g := s3.gens.size) (nm := nm) (qn := qn) (t1 := t1) (t2 := t2) (Q := Q) rfl rfl hr.hd (by have := hr.dp; show X.A.depth < _; omega) (by show _ ∈ [_]; exact List.mem_cons_self) (fun b σ' H' s' s'' J os bare kk q => ?_) (m + 1) _ _ (Array.getElem?_push_size ..) ⟨_, _, IG⟩ fun s'' sh => ?_
  · have U : Un (frs X.stack) fp H3 H' s3.heap s''.heap := Un.trans (show Un (frs X.stack) fp H3 H' s3.heap s'.heap from J.base) (Un.kept kk)
    have hc2 : ∀ b ∈ fp, (b ∈ X.ex ∨ X.s_0.heap.objs.size ≤ b) ∧ b ≠ X.env.locals ∧ (∀ x c, X.env.cells.lookup x = some c → c ≠ b) ∧ ∀ p ∈ X.pn ++ pins, p.1 ≠ b := fun b hb => by
      obtain ⟨_, f1, _, f4, f5, f6⟩ := f3 b hb
      exact ⟨f4, f1, f5, f6⟩
    exact ⟨.bl b, H', I3.call' (os.trans J.os) U (J.hok.kept kk) bare hc2, rfl, q⟩
  · exact ⟨rfl, seg_gen0 (Xg := Xg) (A2 := X.A.in1.in1) (cenv := cenv) rfl rfl rfl rfl rfl S.co Tn hpg' hpe' hfpg turn (sh.inv IG) (Tn.keep _ _ _ st3 fun b _ o e => by rw [sh.heap]; exact keep2 b o e) (fun b hb => (f3 b hb).1) w0⟩

theorem pe_allG (hcalm : X.calm = true) (hr : Room (k + 1) X.A) (hg : Gl X "all") (hm : X.mg "all" = none) (TB : GxR.TabB X.base X.mg c P) (hcode : X.env.code = .ref c) (S : GenSc scope) (hi : PI X tg iter wi)
    (hpg : GenIn X scope k fun Y => PG Y tg g) (hpe : GenIn X scope k fun Y => PE Y elt te) (hs : ∀ v, genFold iter X.env v = pure v)
    (he : starEach [GE elt tg iter scope gpos] X.env = (false, eval (GE elt tg iter scope gpos) X.env) :: starEach [] X.env := by rfl) :
    PE X (.Call (.Name "all" p) [GE elt tg iter scope gpos] [] pos) (tGA P X.N.length wi g te) := by
  refine ⟨fun pins s σ H Q I h => ?_⟩
  have hb : bootBuiltins "all" = some (.builtin "all") := by decide +kernel
  refine wpAny_Call_Name_kw (ld_blt I hg hm hb ?_)
  refine PyProof.Rows.callWith_builtin1 ?_ he (by rfl)
  rw [he]
  show wpAny _ _ (spliced ((false, eval (GE elt tg iter scope gpos) X.env) :: backTo pos (starEach [] X.env))) _ _ s
  refine Calls.spliced_cons ?_
  have hclo : closureFor scope X.env = pure [] := by
    rw [closure_ok fun y hy e => absurd e (S.free y hy), cloFrom_nil S.free]
  refine wpAny_GeneratorExp_make S.co hclo S.cell S.dot S.kind (by have := hr.dp; omega) ?_ hs
  refine thn (hi.run pins s σ H _ I h) fun xv s1 h1 => thn h1 fun itv s2 hp2 => ?_
  obtain ⟨it, fp, tn, J, H2, e2, I2, Tn, st2, f2, ⟨ps, hP, ht⟩, allT⟩ := hp2
  subst e2
  refine ⟨I2.nolimit, ?_⟩
  have hPs : s2.heap.get? P = some { cls := .none, data := .fields ps } := I2.hok P _ hP
  have cd : PySem.W.CodeHd s2.heap c P := TB.code.keeps fun b u e => I2.bk b u e
  have nfP : ∀ b ∈ fp, b ≠ P := fun b hb z => by
    have := (f2 b hb).1
    rw [z, hP] at this
    cases this
  have cont : ∀ (code : Value) (s3 : Shared) (H3 : Hp), L2.Inv X pins σ H3 s3 → GxR.Tabbed P H2 H3 → (∀ b o, b ≠ P → s2.heap.get? b = some o → s3.heap.get? b = some o) →
      wpAny (model X.prog X.w) X.A (builtinsFor X.env.globals X.env.builtins) (fun bi s₄ => ∀ h', h'.Ns s₄.heap.objs.size (fun y => if y = ".0" then some (.ref it) else none) → Heap.SameBut s₄.heap.objs.size (s₄.heap.push { cls := .type "frame", data := .dict #[] }) h' →
        wpAny (model X.prog X.w) X.A (spliced (backTo pos (starEach [] X.env))) (fun vs s' => wpAny (model X.prog X.w) X.A (call (.builtin "all") (.ref h'.objs.size :: vs)) (EP X pins σ Q) X.xe s') X.xe { s₄ with
            gens := s₄.gens.push (.fresh (.compStart (GE elt tg iter scope gpos) 0 (.ref it) .none (genEnv scope [] s₄.heap.objs.size code bi X.env))),
            toks := s₄.toks + 1 + 1 + 1,
            heap := h'.push { cls := .type "generator", data := .fields #[.int s₄.gens.size 0, .str "<genexpr>" (s₄.toks + 1), .str (X.env.qual ++ "<genexpr>") (s₄.toks + 1 + 1)] } }) X.xe s3 := by
    intro code s3 H3 I3 tb kp
    obtain ⟨bm, ob, e1, b2, b3, e4, e5, e6, e7, e8⟩ := TB.bm
    refine wpAny_builtinsFor (m := X.mg) (by rw [I3.ok.glob]; exact I3.mod.glob.keeps I3.bk) e1 b2 (I3.bk _ _ e5) e6 e7 e8 ?_
    intro h' hn' hs'
    refine Calls.spliced_nil ?_
    exact gen_cont hcalm hr S hpg hpe I3 Tn (Tn.keep _ _ _ st2 fun b hb o e => kp b o (nfP b hb) e) (fun b hb => by
      obtain ⟨f0, fr⟩ := f2 b hb
      exact ⟨by rw [tb.2 b (nfP b hb)]; exact f0, fr⟩) Tn.mem (allT H3 tb).choose_spec.1 (allT H3 tb).choose_spec.2 hn' hs'
  cases hf : codeAmong gpos ps.toList with
  | none =>
    refine wpAny_genexprCodeX hcode (cd.code hPs ht) (cd.tab hPs) hf fun c' h' tk hx hge hlt hco' _ htab' _ => ?_
    obtain ⟨o1, vs, f1, tf, fl, tgk, inF, tx, tt, op, _, _, _, _, _, _, _, _, _, htr, _⟩ := hco'
    have I3 := GxR.inv_tab (more := #[rawInt gpos.line, rawInt gpos.col, .ref c']) (h' := h') (g' := s2.gens) (d' := s2.drawn) (t' := tk) I2 hP (fun b o hb e => hx b o hb e) htab'.2 I2.bare
    exact cont _ _ _ I3 ⟨⟨_, upd_same, htr⟩, fun b hb => upd_ne hb⟩ fun b o hb e => hx b o hb e
  | some cv =>
    refine wpAny_genexprCode_hit hcode (cd.code hPs ht) hf ?_
    exact cont cv s2 H2 I2 ⟨⟨ps, hP, ht⟩, fun _ _ => rfl⟩ fun b o _ e => e
end
end Sb
end
section
set_option Elab.async false
set_option linter.all false
set_option maxRecDepth 100000
set_option maxHeartbeats 4000000
namespace Sb
open PySem PySem.Spec PyProof.Rows L2

/-! ## a def by its body -/
def ini (n : Nat) (ds : List D) : Sl := ds.map some ++ List.replicate (n - ds.length) none
def fnM (n : Nat) (f : SF) : List D → M D := fun ds S => match f (ini n ds) S with
  | some (.rt d, S1) => some (.ok d S1)
  | some (.nx _, S1) => some (.ok .non S1)
  | some (.xx x _, S1) => some (.ex x S1)
  | _ => none
theorem ini_rsl {T : Tb} {H : Hp} {φ : List Addr} {N : List Str} {ds : List D} {vs : List V} (r : RDs T H φ ds vs) : RSl T H φ (ini N.length ds) (L2.start N vs) := by
  have l := r.length
  refine ⟨by unfold ini L2.start; simp [l], fun i d h => ?_⟩
  unfold ini at h
  unfold L2.start
  by_cases hi : i < ds.length
  · rw [List.getElem?_append_left (by simpa using hi), List.getElem?_map] at h
    cases e : ds[i]? with
    | none => rw [e] at h; cases h
    | some d0 =>
      rw [e] at h
      cases h
      obtain ⟨v, h1, h2⟩ := r.get e
      exact ⟨v, by rw [List.getElem?_append_left (by simp; omega), List.getElem?_map, h1]; rfl, h2⟩
  · rw [List.getElem?_append_right (by simpa using hi), List.getElem?_replicate] at h
    split at h <;> cases h
section
variable {P : Program} {w : World} {mg : Str → Option Value} {base : Heap} {x qual : Str} {params : Arguments} {body : List Stmt} {scope : Scope} {f : Addr} {fd : FuncData} {T : Tb} {k : Nat}
/-- the wish of a def's body about what is raised -/
abbrev eW (E : XK) : WX := fun c d _ H => E c d H
abbrev bX (P : Program) (w : World) (K : PySem.W.Frag) (mg : Str → Option Value) (base : Heap) (N : List Str) (qual : Str) (scope : Scope) (f : Addr) (cdv : Value) (A : Around) (outer : List Env) (s : Shared) (H : Hp) (E : XK) : Cx := cxOf (L2.CX P w) P w K mg base N qual scope f cdv A outer s H E
theorem bX_takes {K : PySem.W.Frag} {N : List Str} {cdv : Value} {A : Around} {outer : List Env} {s : Shared} {H : Hp} {E : XK} : Takes (bX P w K mg base N qual scope f cdv A outer s H E) (eW E) := takes_of rfl rfl rfl rfl
theorem bX_passes {K : PySem.W.Frag} {N : List Str} {cdv : Value} {A : Around} {outer : List Env} {s : Shared} {H : Hp} {E : XK} : PassesOwn (model P w) (bX P w K mg base N qual scope f cdv A outer s H E).A (bX P w K mg base N qual scope f cdv A outer s H E).env (bX P w K mg base N qual scope f cdv A outer s H E).xe := passes_of rfl
end
section
variable {X : Cx} {T : Tb} {W : WX} {pos : Pos} {e : Expr} {es : List Expr} {ra : AF} {fa fb : EF}
/-! ## raise C('..') -/
def sRaise (C : Addr) : SF := fun τ S => some (.xx ⟨C, none⟩ τ, S)
theorem s_raise {C : Addr} {x m : Str} {j : Nat} {p p2 pos' : Pos} (hc : X.calm = true) (tk : Takes X W) (gC : X.mg x = some (.ref C)) (q : PySem.W.excIn X.K C He.veBase "ValueError.__new__" = true ∧ PySem.W.keepIn X.K (.ref C) = true ∧ PySem.W.subIn X.K (.ref C) (.type "BaseException") = some true ∧ PySem.W.typeIn X.K (.ref C) = some (.type "type"))
    (hg : Gl X x := by rfl) (hdb : (x == ("__debug__" : Str)) = false := by decide) : PS X (.Raise (some (.Call (.Name x p) [.Constant (.str m) j p2] [] pos')) none pos) (rdS T W (sRaise C)) :=
  (ps_raise hc tk (pmk_own PySem.F.excBase_ValueError q.1 gC q.2.1 (raises_own q.2.2.1 q.2.2.2) hg hdb)).imp fun De σ H h => by
    obtain ⟨φ, S, τ, fl, S', R, r, e, q⟩ := h
    cases e
    exact q φ H σ none .refl R r rfl
end
end Sb
end
section
set_option Elab.async false
set_option linter.all false
set_option maxRecDepth 100000
set_option maxHeartbeats 4000000
namespace Sb
open PySem PySem.Spec PyProof.Rows L2
section
variable {X : Cx} {T : Tb} {W : WX} {pos : Pos} {elt tg iter : Expr} {fi : IF} {g : TF} {fe : EF} {scope : Scope}
/-! ## all(..) over data -/
def goA (nxt : Nat → Sto → Option (Option D)) (g : TF) (fe : EF) (n : Nat) : Nat → Nat → Sto → Option (Bool × Sto)
  | 0, _, _ => none
  | m + 1, i, S => match nxt i S with
    | none => none
    | some none => some (true, S)
    | some (some d) => match g d S (List.replicate n none) with
      | none => none
      | some τ1 => match fe τ1 S with
        | some (.ok (.bl true) S1) => goA nxt g fe n m (i + 1) S1
        | some (.ok (.bl false) S1) => some (false, S1)
        | _ => none
def eAll (n : Nat) (fi : IF) (g : TF) (fe : EF) : EF := fun τ S => match fi τ S with
  | none => none
  | some (.ex x S1) => some (.ex x S1)
  | some (.ok wk S1) => (goA wk.nxt g fe n (wk.bound + 1) 0 S1).bind fun r => some (.ok (.bl r.1) r.2)
theorem tabbed_rel {φ : List Addr} {S : Sto} {H1 H2 : Hp} {P : Addr} (hP : P ∈ T.tabs) (R : Rel T φ S H1) (t : GxR.Tabbed P H1 H2) : Rel T φ S H2 ∧ Ext φ H1 φ H2 := by
  obtain ⟨tg2, keep⟩ := t
  obtain ⟨ps, h1, _⟩ := R.tab P hP
  have ne : ∀ {b : Addr} {u : HO}, H1 b = some u → (∀ qs, u ≠ .tbl qs) → b ≠ P := fun hb hu z => by
    rw [z, h1] at hb
    cases hb
    exact hu ps rfl
  have E : Ext φ H1 φ H2 := ⟨⟨[], by simp⟩, fun a vs h => by rw [keep a (ne h fun _ z => by cases z)]; exact h, fun a o u h => by rw [keep a (ne h fun _ z => by cases z)]; exact h, fun a vs _ h => by rw [keep a (ne h fun _ z => by cases z)]; exact h, fun a vs _ h => .inl (by rw [keep a (ne h fun _ z => by cases z)]; exact h), fun _ h => .inl h, fun a h => by
    by_cases q : a = P
    · subst q; obtain ⟨_, h2, _⟩ := tg2; rw [h2] at h; cases h
    · rw [keep a q] at h; exact h⟩
  refine ⟨⟨R.len, R.nd, fun n o a h2 h3 => ?_, fun p hp => ?_⟩, E⟩
  · have r := R.obj n o a h2 h3
    obtain ⟨u, hu, _, n2, _⟩ := r.some
    exact r.ext E (keep a (ne hu n2))
  · by_cases q : p = P
    · subst q; exact tg2
    · obtain ⟨qs, h4, h5⟩ := R.tab p hp
      exact ⟨qs, by rw [keep p q]; exact h4, h5⟩
theorem nones_rsl {H : Hp} {φ : List Addr} {n : Nat} : RSl T H φ (List.replicate n none) (nones n) := ⟨by simp [nones], fun i d h => by
  rw [List.getElem?_replicate] at h
  split at h <;> cases h⟩
theorem all_of {P : Addr} (hP : P ∈ T.tabs) {us : List Nat} {n : Nat} {σ : L2.St} {H : Hp} {Q : VK} (h : rdE T W (eAll n fi g fe) σ H Q) : tGA P n (rdI T W fi) (rdG T us g) (rdE T W0 fe) σ H Q := by
  obtain ⟨φ, S, τ, o, R, r, e, q⟩ := h
  unfold eAll at e
  cases e1 : fi τ S with
  | none => rw [e1] at e; cases e
  | some x =>
    rw [e1] at e
    refine ⟨φ, S, τ, x, R, r, e1, ?_⟩
    cases x with
    | ex x S1 => cases e; exact q
    | ok wk S1 =>
      intro φ1 H1 J E1 R1 sv
      refine ⟨R1.tab P hP, fun H2 t => ?_⟩
      obtain ⟨R2, E2⟩ := tabbed_rel hP R1 t
      simp only [Option.bind_eq_some_iff] at e
      obtain ⟨⟨rb, S9⟩, e2, e3⟩ := e
      cases e3
      refine ⟨fun i m H => ∃ φ3 S3, Ext φ1 H2 φ3 H ∧ Rel T φ3 S3 H ∧ goA wk.nxt g fe n m i S3 = some (rb, S9), ⟨wk.bound + 1, _, _, .refl, R2, e2⟩, ?_⟩
      rintro i m H3 ⟨φ3, S3, E3, R3, e3⟩
      cases m with
      | zero => cases e3
      | succ m =>
        unfold goA at e3
        obtain ⟨sgo, sst⟩ := sv φ3 S3 H3 i (E2.trans E3) R3
        cases hn : wk.nxt i S3 with
        | none => rw [hn] at e3; cases e3
        | some od =>
          rw [hn] at e3
          cases od with
          | none =>
            cases e3
            exact .inl ⟨sst hn, q φ3 H3 _ ((E1.trans E2).trans E3) R3 rfl⟩
          | some d =>
            obtain ⟨go, yl⟩ := sgo d hn
            refine .inr ⟨go, fun H' => ∃ φ4 S4, Ext φ1 H2 φ4 H' ∧ Rel T φ4 S4 H' ∧ goA wk.nxt g fe n m (i + 1) S4 = some (rb, S9), fun H' h => ⟨m, Nat.lt_succ_self m, h⟩, fun x H' y => ?_⟩
            obtain ⟨E4, R4, r4⟩ := yl x H' y
            simp only at e3
            cases hg1 : g d S3 (List.replicate n none) with
            | none => rw [hg1] at e3; cases e3
            | some τ4 =>
              rw [hg1] at e3
              refine ⟨φ3, S3, _, d, τ4, R4, nones_rsl, r4, hg1, fun σ' r' _ _ => ?_⟩
              simp only at e3
              split at e3
              · rename_i S5 hf
                refine ⟨φ3, S3, τ4, _, R4, r', hf, fun φ5 H5 v5 E5 R5 r5 => ?_⟩
                cases r5
                exact ⟨true, rfl, by rw [if_pos rfl]; exact ⟨φ5, S5, (E3.trans E4).trans E5, R5, e3⟩⟩
              · rename_i S5 hf
                cases e3
                refine ⟨φ3, S3, τ4, _, R4, r', hf, fun φ5 H5 v5 E5 R5 r5 => ?_⟩
                cases r5
                exact ⟨false, rfl, by rw [if_neg (by decide)]; exact q φ5 H5 _ ((((E1.trans E2).trans E3).trans E4).trans E5) R5 rfl⟩
              · cases e3
theorem d_all {k : Nat} {c P : Addr} {us : List Nat} {gpos p : Pos} (hcalm : X.calm = true) (hr : Room (k + 1) X.A) (hg : Gl X "all") (hm : X.mg "all" = none) (TB : GxR.TabB X.base X.mg c P) (hP : P ∈ T.tabs) (hcode : X.env.code = .ref c) (S : GenSc scope)
    (hi : PI X tg iter (rdI T W fi)) (hpg : GenIn X scope k fun Y => PG Y tg (rdG T us g)) (hpe : GenIn X scope k fun Y => PE Y elt (rdE T W0 fe)) (hs : ∀ v, genFold iter X.env v = pure v := by intro _; rfl)
    (he : starEach [GE elt tg iter scope gpos] X.env = (false, eval (GE elt tg iter scope gpos) X.env) :: starEach [] X.env := by rfl) :
    PE X (.Call (.Name "all" p) [GE elt tg iter scope gpos] [] pos) (rdE T W (eAll X.N.length fi g fe)) :=
  (pe_allG hcalm hr hg hm TB hcode S hi hpg hpe hs he).imp fun _ _ _ h => all_of hP h
end
end Sb
end
section
set_option Elab.async false
set_option linter.all false
set_option maxRecDepth 100000
set_option maxHeartbeats 4000000
namespace Sb
open PySem PySem.Spec PyProof.Rows L2 PpSet
section
variable {X : Cx} {T : Tb} {W : WX} {pos : Pos} {elt tg iter : Expr} {scope : Scope} {own : List (Str × Nat)}
/-! ## {e for x in xs}: texts and whole numbers -/
def tKs (P : Program) (w : World) (wi : TI) (g : TG) (te : TE) (vs : List Nat) : TE := fun σ H Q => wi σ H fun J H1 => ∀ B, H1 B = none → ∃ Z : Nat → Nat → Hp → Prop, (∃ m, Z 0 m (upd H1 B (SetK P w B (fun _ => false) 0))) ∧ ∀ i m H, Z i m H →
  (J.stop i H ∧ Q (.ref B) H) ∨ (J.go i H ∧ ∃ Nx : Hp → Prop, (∀ H', Nx H' → ∃ m', m' < m ∧ Z (i + 1) m' H') ∧ ∀ x H', J.yld i H x H' → g x (wipe σ vs) H' fun σ2 H2 => wipe σ2 vs = wipe σ vs ∧
    te σ2 H2 fun y H4 => ∃ (k : Key) (M : Key → Bool) (n : Nat), y = kV k ∧ H4 B = some (SetK P w B M n) ∧ n + 1 < scanBound ∧ Nx (upd H4 B (SetK P w B (fun j => M j || decide (j = k)) (if M k = true then n else n + 1))))
theorem pe_ks {wi : TI} {g : TG} {te : TE} (hcalm : X.calm = true) (hnd : X.N.Nodup) (hiter : PI X tg iter wi) (hblk : BlkOk X.N X.env.scope scope own)
    (htg : ∀ (s : Shared) (H : Hp) (C : Addr) (cl : List (Str × Addr)) (fp : List Addr), PG (X.blk s H scope (compEnvC scope cl C X.env) fp) tg g)
    (helt : ∀ (s : Shared) (H : Hp) (C : Addr) (cl : List (Str × Addr)) (fp : List Addr), PE (X.blk s H scope (compEnvC scope cl C X.env) fp) elt te)
    (hfold : ∀ x, foldedSetIterable iter X.env x = pure x := by intro _; rfl) : PE X (.SetComp elt [⟨tg, iter, [], 0⟩] scope pos) (tKs X.prog X.w wi g te (own.map (·.2))) := by
  refine ⟨fun pins s0 σ H0 Q I0 hq0 => ?_⟩
  rw [eval_SetComp]
  have cells : ∀ y ∈ scope.names, y.2 = .free → ∃ c, X.env.cells.lookup y.1 = some c := fun y hy e => (hblk.free y hy e).elim (fun k => I0.ok.has _ (.inl k)) fun k => I0.ok.has _ (.inr k)
  refine wpAny_comprehension_free (use := none) rfl hfold (closure_ok cells) hblk.kind (fun y hy e => by rw [hblk.uniq y hy, e]) ?_
  refine thn (hiter.run pins s0 σ H0 _ I0 hq0) fun xv sa hxa => thn hxa fun itv sb hsb => ?_
  obtain ⟨it, fp, tn, J, H2, eit, Ib, Tn, stb, fb, q⟩ := hsb
  subst eit
  refine newSet_ok (newEnv_comp ?_)
  generalize hB : sb.heap.objs.size = B
  have hBn : H2 B = none := Ib.hok.fresh (Nat.le_of_eq hB)
  obtain ⟨Z, ⟨mm, z0⟩, turn⟩ := q B hBn
  generalize hsc : ({ sb with heap := sb.heap.push { cls := .type "set", dict := none, data := .set #[] 0 (.fresh 0 0 (!X.w.params.followText "set-order")) } } : Shared) = sc
  have hpc : sc.heap = sb.heap.push { cls := .type "set", dict := none, data := .set #[] 0 (.fresh 0 0 (!X.w.params.followText "set-order")) } := by rw [← hsc]
  have isnew : sc.heap.SetOf (mixKind X.prog X.w) B (fun _ => false) 0 := by
    rw [hpc, ← hB]
    exact ⟨_, #[], 0, _, Heap.get?_push_size _ rfl, ⟨rfl, rfl, rfl⟩, rfl, (fun e he => by simp at he), (fun k => by simp), (by decide), (by rfl), rfl⟩
  have Ic : L2.Inv X pins σ (upd H2 B (SetK X.prog X.w B (fun _ => false) 0)) sc := by
    rw [← hsc]
    refine Ib.laid (t' := sb.toks) (fun b o e => Heap.get?_push_of_some _ e) (Nat.le_of_eq hB) ?_
    have z := setK_new (H := upd H2 B (SetK X.prog X.w B (fun _ => false) 0)) isnew
    rw [hpc] at z
    exact z
  have small : ∀ b ∈ fp, b < sb.heap.objs.size := fun b hb => by
    obtain ⟨o, e, _⟩ := Tn.obj _ _ stb b hb
    exact Heap.lt_size e
  have fc : ∀ b ∈ fp, FpOk X pins (upd H2 B (SetK X.prog X.w B (fun _ => false) 0)) b ∧ b < sc.heap.objs.size := fun b hb => by
    have lt := small b hb
    refine ⟨⟨?_, (fb b hb).2⟩, by rw [hpc, Heap.size_push]; exact Nat.lt_succ_of_lt lt⟩
    rw [upd_ne (by rw [← hB]; exact Nat.ne_of_lt lt)]
    exact (fb b hb).1
  have stc : tn 0 sc.heap := Tn.keep _ _ _ stb fun b _ o e => by
    rw [hpc]
    exact Heap.get?_push_of_some _ e
  have Id := block_start Ic hblk hnd fc
  generalize hHc : upd H2 B (SetK X.prog X.w B (fun _ => false) 0) = Hc at Ic Id fc z0
  have g1 := htg sc Hc sc.heap.objs.size (cellsFrom (sc.heap.objs.size + 1) scope.names (cloFrom X.env.cells scope.names [])) fp
  have g3 := helt sc Hc sc.heap.objs.size (cellsFrom (sc.heap.objs.size + 1) scope.names (cloFrom X.env.cells scope.names [])) fp
  show codeAny _ _ (.compStart (.SetComp elt [⟨tg, iter, [], 0⟩] scope pos) 0 (.ref it) (.ref B) (compEnvC scope (cellsFrom (sc.heap.objs.size + 1) scope.names (cloFrom X.env.cells scope.names [])) sc.heap.objs.size X.env)) (compPost (model X.prog X.w) X.A X.xe none _ (.ref B) sc.heap.objs.size) { sc with heap := pushCells (sc.heap.push { cls := .type "dict", data := .dict #[] }) scope.names }
  have free0 : ∀ b ∈ fp, Hc b = none := fun b hb => (fc b hb).1.1
  generalize hce : compEnvC scope (cellsFrom (sc.heap.objs.size + 1) scope.names (cloFrom X.env.cells scope.names [])) sc.heap.objs.size X.env = ce at Id g1 g3 ⊢
  have cL : ce.locals = sc.heap.objs.size := by subst hce; rfl
  generalize hsd : ({ sc with heap := pushCells (sc.heap.push { cls := .type "dict", data := .dict #[] }) scope.names } : Shared) = sd at Id ⊢
  have std : tn 0 sd.heap := Tn.keep _ _ _ stc fun b _ o e => by
    rw [← hsd]
    exact pushCells_keeps _ _ _ _ (Heap.get?_push_of_some _ e)
  have okfp : ∀ {σ' : L2.St} {H' : Hp} {s' : Shared}, L2.Inv (X.blk sc Hc scope ce fp) [] σ' H' s' → (∀ b ∈ fp, H' b = none) → ∀ b ∈ fp, FpOk (X.blk sc Hc scope ce fp) [] H' b := fun {σ' H' s'} I' hn b hb =>
    ⟨hn b hb, (I'.ok.exf b hb).1, I'.ok.exfs b hb, .inl hb, fun x c e => (I'.ok.exf b hb).2 x c e, fun p hp => absurd (show p ∈ ([] : List (Addr × Obj)) ++ [] from hp) (by simp)⟩
  let Stn : Nat → Shared → Prop := fun n s' => ∃ i H', L2.Inv (X.blk sc Hc scope ce fp) [] (wipe σ (own.map (·.2))) H' s' ∧ tn i s'.heap ∧ (∀ b ∈ fp, H' b = none) ∧ Z i n H'
  have loop : codeAny (model X.prog X.w) X.A (.compLoop (.SetComp elt [⟨tg, iter, [], 0⟩] scope pos) 0 (.ref it) (.ref B) ce) (compPost (model X.prog X.w) X.A X.xe none (fun v s' => ∃ (y : V) (H' : Hp), L2.Inv X pins σ H' s' ∧ RelV y v ∧ Q y H') (.ref B) sc.heap.objs.size) sd := by
    refine compLoopS_any Stn ?_ mm ⟨0, Hc, Id, std, free0, z0⟩
    rintro n s5 ⟨i, H5, I5, st5, n5, z5⟩
    rcases turn i n H5 z5 with ⟨stop, qq⟩ | ⟨go, Nx, hNx, step⟩
    · have fin := Tn.done (X.blk sc Hc scope ce fp) rfl rfl rfl hcalm i [] s5 _ H5 (fun _ _ => False) I5 (okfp I5 n5) st5 stop
      refine thnF fin fun r s6 ⟨hr, I6⟩ => ?_
      subst hr
      have I7 : L2.Inv X pins σ H5 s6 := Ic.call' (ch := fp) I6.os I6.base I6.hok I6.bare fun b hb => ⟨(fc b hb).1.2.2.2.1, (fc b hb).1.2.1, (fc b hb).1.2.2.2.2.1, (fc b hb).1.2.2.2.2.2⟩
      have nC : H5 sc.heap.objs.size = none := by
        have z : H5 ce.locals = none := I6.free
        rwa [cL] at z
      obtain ⟨m, hn, _⟩ := I6.loc
      have hn' : s6.heap.Ns ce.locals m := hn
      rw [cL] at hn'
      obtain ⟨f0, f1, f2, f3, f4, f5⟩ := Ic.fpOk (Nat.le_refl _) nC
      refine ⟨m, hn', fun h'' same => ?_⟩
      exact ⟨.ref B, H5, I7.turned (t' := s6.toks) (fun b o hb e => (same.2 b hb).trans e) f0 f1 f3 f4 f5, rfl, qq⟩
    · have nxt := Tn.item (X.blk sc Hc scope ce fp) rfl rfl rfl hcalm i [] s5 _ H5 (fun _ _ => False) I5 (okfp I5 n5) st5 go
      refine thnF nxt fun r s6 ⟨u, hr, h6⟩ => ?_
      subst hr
      refine thnF h6 fun _ s7 ⟨x, H7, I7, r7, y7, st7, n7⟩ => ?_
      have I7' := I7.pinned (okfp I7 n7) (Tn.obj _ _ st7)
      refine thnF (g1.run _ s7 _ H7 x u _ I7' r7 (step x H7 y7)) fun _ s8 ⟨σ8, H8, I8, hw8, q8⟩ => ?_
      refine wpAny_tests_nil ?_
      simp only [if_true]
      refine thnF (g3.run _ s8 σ8 H8 _ I8 q8) fun vv s9 ⟨yv, H9, I9, r9, k, M, num, ey, hB9, room, nx⟩ => ?_
      subst ey
      refine thnF (mt_saddK (X := X.blk sc Hc scope ce fp) _ s9 σ8 H9 (.ref B) [kV k] (.ref B) [vv] (fun _ H' => Nx H') I9 rfl (.cons r9 .nil) ⟨B, k, M, num, rfl, rfl, hB9, room, nx⟩) fun _ s10 ⟨_, H10, I10, _, nx10⟩ => ?_
      obtain ⟨m', hm', z'⟩ := hNx H10 nx10
      have kept : ∀ b ∈ fp, ∀ o, s7.heap.get? b = some o → s10.heap.get? b = some o ∧ H10 b = none := fun b hb o e => by
        have z := I10.pin (b, o) (List.mem_append_right _ (List.mem_append_right _ (mem_pinsAt hb e)))
        exact ⟨z.1, z.2.1⟩
      have len8 : (wipe σ (own.map (·.2))).length = σ8.length := by rw [← hw8, L2.wipe_length]
      refine ⟨m', hm', i + 1, H10, (I10.unpinned (pins := [])).weak len8 (fun j v e => ?_), Tn.keep _ _ _ st7 fun b hb o e => (kept b hb o e).1, fun b hb => ?_, z'⟩
      · rw [← hw8] at e
        exact (wipe_some e).1
      · obtain ⟨o, e, _⟩ := Tn.obj _ _ st7 b hb
        exact (kept b hb o e).2
  exact codeAny_compStart_set loop (Tn.self X.A 0 _ _ _ std loop)
end
end Sb
end
section
set_option Elab.async false
set_option linter.all false
set_option maxRecDepth 100000
set_option maxHeartbeats 4000000
namespace Sb
open PySem PySem.Spec PyProof.Rows L2 PpSet
section
variable {X : Cx} {T : Tb} {W : WX} {pos : Pos} {a b elt tg iter : Expr} {fi : IF} {g : TF} {fe fa fb : EF} {scope : Scope} {own : List (Str × Nat)}
def keyD : D → Option Key
  | .int i => some (.inl i)
  | .str x => some (.inr x)
  | _ => none
theorem keyD_ok {H : Hp} {φ : List Addr} {d : D} {v : V} {k : Key} (r : RD T H φ d v) (h : keyD d = some k) : v = kV k := by
  cases d with
  | int i => cases r; cases h; rfl
  | str x => cases r; cases h; rfl
  | _ => cases h
def goK (nxt : Nat → Sto → Option (Option D)) (g : TF) (fe : EF) (n : Nat) (τ0 : Sl) : Nat → Nat → Sto → Option Sto
  | 0, _, _ => none
  | m + 1, i, S => match nxt i S with
    | none => none
    | some none => some S
    | some (some d) => match g d S τ0 with
      | none => none
      | some τ1 => match fe τ1 S with
        | some (.ok y S2) => match keyD y, S2[n]? with
          | some k, some (.ks M num) => if num + 1 < scanBound then goK nxt g fe n τ0 m (i + 1) (S2.set n (.ks (fun j => M j || decide (j = k)) (if M k = true then num else num + 1))) else none
          | _, _ => none
        | _ => none
def eSc (fi : IF) (g : TF) (fe : EF) (vs : List Nat) : EF := fun τ S => match fi τ S with
  | none => none
  | some (.ex x S1) => some (.ex x S1)
  | some (.ok wk S1) => (goK wk.nxt g fe S1.length (wipeD τ vs) (wk.bound + 1) 0 (S1 ++ [.ks (fun _ => false) 0])).bind fun S2 => some (.ok (.loc S1.length) S2)
theorem Ext.putK {φ : List Addr} {H : Hp} {p : Addr} {u0 u : HO} (ha : H p = some u0) (h1 : ∀ vs, u0 ≠ .tup vs) (h2 : ∀ o w, u0 ≠ .frz o w) (h3 : ∀ vs, u0 ≠ .lst vs) (h4 : ∀ ws, u0 ≠ .dK ws) : Ext φ H φ (upd H p u) := ⟨⟨[], by simp⟩, fun c vs h => by
  by_cases hb : c = p
  · subst hb; rw [ha] at h; cases h; exact absurd rfl (h1 vs)
  · rw [upd_ne hb]; exact h, fun c o w h => by
  by_cases hb : c = p
  · subst hb; rw [ha] at h; cases h; exact absurd rfl (h2 o w)
  · rw [upd_ne hb]; exact h, fun c vs _ h => by
  by_cases hb : c = p
  · subst hb; rw [ha] at h; cases h; exact absurd rfl (h3 vs)
  · rw [upd_ne hb]; exact h, fun c vs _ h => .inl (by
  by_cases hb : c = p
  · subst hb; rw [ha] at h; cases h; exact absurd rfl (h4 vs)
  · rw [upd_ne hb]; exact h), fun _ h => .inl h, fun _ h => upd_dead h⟩
theorem sc_of {vs us : List Nat} (hus : ∀ k ∈ us, k ∈ vs) {σ : L2.St} {H : Hp} {Q : VK} (h : rdE T W (eSc fi g fe vs) σ H Q) : tKs T.P T.w (rdI T W fi) (rdG T us g) (rdE T W0 fe) vs σ H Q := by
  obtain ⟨φ, S, τ, o, R, r, e, q⟩ := h
  unfold eSc at e
  cases e1 : fi τ S with
  | none => rw [e1] at e; cases e
  | some x =>
    rw [e1] at e
    refine ⟨φ, S, τ, x, R, r, e1, ?_⟩
    cases x with
    | ex x S1 => cases e; exact q
    | ok wk S1 =>
      intro φ1 H1 J E1 R1 sv B hB
      simp only [Option.bind_eq_some_iff] at e
      obtain ⟨S9, e2, e3⟩ := e
      cases e3
      obtain ⟨R2, E2⟩ := R1.new (u := SetK T.P T.w B (fun _ => false) 0) (o := .ks (fun _ => false) 0) hB upd_same
      have hB2 : (φ1 ++ [B])[S1.length]? = some B := by rw [← R1.len]; simp
      have r0 := ((r.ext E1).ext E2).wipe vs
      refine ⟨fun i m H => ∃ φ3 S3, Ext (φ1 ++ [B]) (upd H1 B (SetK T.P T.w B (fun _ => false) 0)) φ3 H ∧ Rel T φ3 S3 H ∧ goK wk.nxt g fe S1.length (wipeD τ vs) m i S3 = some S9, ⟨wk.bound + 1, _, _, .refl, R2, e2⟩, ?_⟩
      rintro i m H3 ⟨φ3, S3, E3, R3, e3⟩
      cases m with
      | zero => cases e3
      | succ m =>
        unfold goK at e3
        obtain ⟨sgo, sst⟩ := sv φ3 S3 H3 i (E2.trans E3) R3
        cases hn : wk.nxt i S3 with
        | none => rw [hn] at e3; cases e3
        | some od =>
          rw [hn] at e3
          cases od with
          | none =>
            cases e3
            exact .inl ⟨sst hn, q φ3 H3 _ ((E1.trans E2).trans E3) R3 ⟨B, rfl, E3.get hB2⟩⟩
          | some d =>
            obtain ⟨go, yl⟩ := sgo d hn
            refine .inr ⟨go, fun H' => ∃ φ4 S4, Ext (φ1 ++ [B]) (upd H1 B (SetK T.P T.w B (fun _ => false) 0)) φ4 H' ∧ Rel T φ4 S4 H' ∧ goK wk.nxt g fe S1.length (wipeD τ vs) m (i + 1) S4 = some S9, fun H' h => ⟨m, Nat.lt_succ_self m, h⟩, fun x H' y => ?_⟩
            obtain ⟨E4, R4, r4⟩ := yl x H' y
            simp only at e3
            cases hg1 : g d S3 (wipeD τ vs) with
            | none => rw [hg1] at e3; cases e3
            | some τ4 =>
              rw [hg1] at e3
              refine ⟨φ3, S3, wipeD τ vs, d, τ4, R4, (r0.ext E3).ext E4, r4, hg1, fun σ' r' ks kl => ?_⟩
              refine ⟨(wipe_eq (fun k hk => ks k fun z => hk (hus k z)) kl).trans wipe_wipe, ?_⟩
              simp only at e3
              split at e3
              · rename_i y6 S6 hf
                refine ⟨φ3, S3, τ4, _, R4, r', hf, fun φ6 H6 v6 E6 R6 r6 => ?_⟩
                split at e3
                · rename_i k M num hk hacc
                  split at e3
                  · rename_i room
                    have hB6 : φ6[S1.length]? = some B := E6.get (E4.get (E3.get hB2))
                    have hH6 : H6 B = some (SetK T.P T.w B M num) := R6.obj _ _ B hacc hB6
                    have E7 := Ext.putK (φ := φ6) (u := SetK T.P T.w B (fun j => M j || decide (j = k)) (if M k = true then num else num + 1)) hH6 (fun _ z => by cases z) (fun _ _ z => by cases z) (fun _ z => by cases z) (fun _ z => by cases z)
                    obtain ⟨R7, _⟩ := R6.put (o := .ks (fun j => M j || decide (j = k)) (if M k = true then num else num + 1)) (u := SetK T.P T.w B (fun j => M j || decide (j = k)) (if M k = true then num else num + 1)) hB6 (mem_lt hacc) upd_same
                    exact ⟨k, M, num, keyD_ok r6 hk, hH6, room, φ6, _, ((E3.trans E4).trans E6).trans E7, R7, e3⟩
                  · cases e3
                · cases e3
              · cases e3
theorem d_sc {us : List Nat} (hP : T.P = X.prog) (hw : T.w = X.w) (hc : X.calm = true) (hN : X.N.Nodup) (hi : PI X tg iter (rdI T W fi)) (ok : BlkOk X.N X.env.scope scope own)
    (hg : ∀ (s : Shared) (H : Hp) (C : Addr) (cl : List (Str × Addr)) (fp : List Addr), PG (X.blk s H scope (compEnvC scope cl C X.env) fp) tg (rdG T us g))
    (he : ∀ (s : Shared) (H : Hp) (C : Addr) (cl : List (Str × Addr)) (fp : List Addr), PE (X.blk s H scope (compEnvC scope cl C X.env) fp) elt (rdE T W0 fe))
    (hus : ∀ k ∈ us, k ∈ own.map (·.2) := by decide) (hs : ∀ x, foldedSetIterable iter X.env x = pure x := by intro _; rfl) :
    PE X (.SetComp elt [⟨tg, iter, [], 0⟩] scope pos) (rdE T W (eSc fi g fe (own.map (·.2)))) :=
  (pe_ks hc hN hi ok hg he hs).imp fun _ _ _ h => by
    rw [← hP, ← hw]
    exact sc_of hus h
/-! ## len of a set too -/
def gLenX : GN := fun ds S => match ds with
  | [.loc n] => match S[n]? with
    | some (.ks _ m) => if (m : Int) < 2 ^ 63 then some (.int m, S) else none
    | _ => gLen ds S
  | _ => gLen ds S
theorem call_lenK : CallR X (.builtin "len") (fun xs H Q => ∃ p M n, xs = [.ref p] ∧ H p = some (SetK X.prog X.w p M n) ∧ (n : Int) < 2 ^ 63 ∧ Q (.int n) H) := by
  intro pins s σ H xs us Q I r ⟨p, M, n, ex, hp, hn, q⟩
  subst ex
  cases r with
  | cons r1 r2 =>
    cases r1; cases r2
    obtain ⟨o, es, ep, t, ho, hex, hd, _, _, _, hf, hl⟩ := setK_get I hp
    exact call_len_set ho hex hd hf (by rw [hl]; exact hn) ⟨.int n, H, I.tok _, ⟨_, by rw [← hl]⟩, q⟩
theorem c_lenX (hP : T.P = X.prog) (hw : T.w = X.w) (hK : T.K = X.K) : CallR X (.builtin "len") (rGN T gLenX) := CallR.imp (CallR.or (c_len (T := T) hK) call_lenK) fun xs H Q h => by
  obtain ⟨φ, S, ds, R, r, f⟩ := h
  unfold gLenX at f
  split at f
  · rename_i n
    split at f
    · rename_i M m hS
      split at f
      · rename_i hm
        obtain ⟨v, l, rfl, r1, r2⟩ := r
        cases r2
        obtain ⟨p, rfl, hφ⟩ := r1
        have := R.obj n _ p hS hφ
        exact .inr ⟨p, M, m, rfl, by rw [← hP, ← hw]; exact this, hm, f.val R rfl⟩
      · obtain ⟨_, _, z, _⟩ := f; cases z
    · exact .inl ⟨φ, S, _, R, r, f⟩
  · exact .inl ⟨φ, S, ds, R, r, f⟩
/-! ## dict(pairs), d[k] -/
def pairsD (S : Sto) : List D → Option (List (Key × D))
  | [] => some []
  | d :: ds => match d with
    | .tup [x, y] => (keyD x).bind fun k => (pairsD S ds).bind fun r => some ((k, y) :: r)
    | _ => none
def putD' (kvs : List (Key × D)) (k : Key) (v : D) : List (Key × D) := if (kvs.any fun kv => decide (kv.1 = k)) = true then kvs.map (fun kv => if kv.1 = k then (kv.1, v) else kv) else kvs ++ [(k, v)]
def mergeD (kvs more : List (Key × D)) : List (Key × D) := more.foldl (fun acc kv => putD' acc kv.1 kv.2) kvs
/-- the same keys, values that stand for them -/
def KVs (T : Tb) (H : Hp) (φ : List Addr) (kvs : List (Key × D)) (ws : List (Key × V)) : Prop := ws.map (·.1) = kvs.map (·.1) ∧ RDs T H φ (kvs.map (·.2)) (ws.map (·.2))
theorem KVs.cons {H : Hp} {φ : List Addr} {k : Key × D} {kvs : List (Key × D)} {w : List (Key × V)} : KVs T H φ (k :: kvs) w ↔ ∃ v r, w = (k.1, v) :: r ∧ RD T H φ k.2 v ∧ KVs T H φ kvs r := by
  constructor
  · rintro ⟨h1, h2⟩
    cases w with
    | nil => cases h1
    | cons p r =>
      obtain ⟨pk, pv⟩ := p
      simp only [List.map_cons, List.cons.injEq] at h1
      obtain ⟨v, l, h3, h4, h5⟩ := h2
      simp only [List.map_cons, List.cons.injEq] at h3
      obtain ⟨rfl, rfl⟩ := h3
      exact ⟨pv, r, by rw [← h1.1], h4, h1.2, h5⟩
  · rintro ⟨v, r, rfl, h1, h2, h3⟩
    exact ⟨by simp [h2], ⟨v, _, rfl, h1, h3⟩⟩
theorem KVs.any {H : Hp} {φ : List Addr} {k : Key} : ∀ {kvs : List (Key × D)} {w : List (Key × V)}, KVs T H φ kvs w → (w.any fun kv => decide (kv.1 = k)) = kvs.any fun kv => decide (kv.1 = k)
  | [], w, h => by
    obtain ⟨h1, _⟩ := h
    cases w with
    | nil => rfl
    | cons _ _ => cases h1
  | p :: kvs, w, h => by
    obtain ⟨v, r, rfl, h1, h2⟩ := KVs.cons.mp h
    simp only [List.any_cons, KVs.any h2]
theorem KVs.setv {H : Hp} {φ : List Addr} {k : Key} {d : D} {v : V} (rd : RD T H φ d v) : ∀ {kvs : List (Key × D)} {w : List (Key × V)}, KVs T H φ kvs w → KVs T H φ (kvs.map fun kv => if kv.1 = k then (kv.1, d) else kv) (w.map fun kv => if kv.1 = k then (kv.1, v) else kv)
  | [], w, h => by
    obtain ⟨h1, _⟩ := h
    cases w with
    | nil => exact ⟨rfl, rfl⟩
    | cons _ _ => cases h1
  | p :: kvs, w, h => by
    obtain ⟨v1, r, rfl, h1, h2⟩ := KVs.cons.mp h
    simp only [List.map_cons]
    by_cases e : p.1 = k
    · simp only [if_pos e]
      exact KVs.cons.mpr ⟨v, _, rfl, rd, KVs.setv rd h2⟩
    · simp only [if_neg e]
      exact KVs.cons.mpr ⟨v1, _, rfl, h1, KVs.setv rd h2⟩
theorem KVs.app {H : Hp} {φ : List Addr} {k : Key} {d : D} {v : V} (rd : RD T H φ d v) {kvs : List (Key × D)} {w : List (Key × V)} (h : KVs T H φ kvs w) : KVs T H φ (kvs ++ [(k, d)]) (w ++ [(k, v)]) := by
  obtain ⟨h1, h2⟩ := h
  exact ⟨by simp [h1], by simp only [List.map_append, List.map_cons, List.map_nil]; exact h2.app (RDs.one rd)⟩
theorem KVs.put {H : Hp} {φ : List Addr} {k : Key} {d : D} {v : V} (rd : RD T H φ d v) {kvs : List (Key × D)} {w : List (Key × V)} (h : KVs T H φ kvs w) : KVs T H φ (putD' kvs k d) (putK w k v) := by
  unfold putD' L2.putK
  rw [h.any]
  split
  · exact h.setv rd
  · exact h.app rd
theorem KVs.merge {H : Hp} {φ : List Addr} : ∀ {more : List (Key × D)} {ms : List (Key × V)} {kvs : List (Key × D)} {w : List (Key × V)}, KVs T H φ more ms → KVs T H φ kvs w → KVs T H φ (mergeD kvs more) (mergeK w ms)
  | [], ms, kvs, w, h, h0 => by
    obtain ⟨h1, _⟩ := h
    cases ms with
    | nil => exact h0
    | cons _ _ => cases h1
  | p :: more, ms, kvs, w, h, h0 => by
    obtain ⟨v, r, rfl, h1, h2⟩ := KVs.cons.mp h
    exact KVs.merge (ms := r) (kvs := putD' kvs p.1 p.2) (w := L2.putK w p.1 v) h2 (h0.put h1)
theorem pairs_ok {H : Hp} {φ : List Addr} {S : Sto} : ∀ {es : List D} {vs : List V} {ps : List (Key × D)}, RDs T H φ es vs → pairsD S es = some ps → ∃ (as : List Addr) (kvs : List (Key × V)), vs = as.map V.ref ∧ Paired (fun p kv => Rd H p (.tup [kV kv.1, kv.2])) as kvs ∧ KVs T H φ ps kvs
  | [], vs, ps, r, h => by
    cases r; cases h
    exact ⟨[], [], rfl, .nil, rfl, rfl⟩
  | d :: es, vs, ps, r, h => by
    obtain ⟨v, l, rfl, r1, r2⟩ := r
    unfold pairsD at h
    split at h
    · rename_i x y
      simp only [Option.bind_eq_some_iff] at h
      obtain ⟨k, hk, q, hq, e⟩ := h
      cases e
      obtain ⟨as, kvs, rfl, pp, kk⟩ := pairs_ok r2 hq
      obtain ⟨p, ws, rfl, hp, r3⟩ := r1
      obtain ⟨v1, l1, rfl, r4, v2, l2, rfl, r5, r6⟩ := r3
      cases r6
      cases keyD_ok r4 hk
      exact ⟨p :: as, (k, v2) :: kvs, rfl, .cons hp pp, KVs.cons.mpr ⟨v2, kvs, rfl, r5, kk⟩⟩
    · cases h
theorem paired_imp {α β : Type} {F G : α → β → Prop} (h : ∀ a b, F a b → G a b) : ∀ {l : List α} {m : List β}, Paired F l m → Paired G l m
  | _, _, .nil => .nil
  | _, _, .cons h1 h2 => .cons (h _ _ h1) (paired_imp h h2)
/-- d[k] -/
def valD (kvs : List (Key × D)) (k : Key) : Option D := (kvs.find? fun kv => decide (kv.1 = k)).map (·.2)
theorem KVs.val {H : Hp} {φ : List Addr} {k : Key} {d : D} : ∀ {kvs : List (Key × D)} {w : List (Key × V)}, KVs T H φ kvs w → valD kvs k = some d → ∃ v, valV w k = some v ∧ RD T H φ d v
  | [], w, h, e => by cases e
  | p :: kvs, w, h, e => by
    obtain ⟨v, r, rfl, h1, h2⟩ := KVs.cons.mp h
    by_cases q : p.1 = k
    · rw [valV_pos (p := (p.1, v)) q]
      simp only [valD, List.find?_cons, q, decide_true, Option.map_some] at e
      cases e
      exact ⟨v, rfl, h1⟩
    · rw [valV_neg (p := (p.1, v)) q]
      have e' : valD kvs k = some d := by
        simpa [valD, List.find?_cons, q] using e
      exact KVs.val h2 e'
end
end Sb
namespace Sb
open PySem PySem.Spec PyProof.Rows L2
theorem t_chain {X : Cx} {T : Tb} {W : WX} {pos : Pos} {a b c : Expr} {fa fb fc : EF} {op op' : CmpOp} {g g' : G2} (ho : OpR X (compareOp op) (rG2 T g)) (ho' : OpR X (compareOp op') (rG2 T g')) (ha : PE X a (rdE T W fa)) (hb : PE X b (rdE T W fb)) (hc : PE X c (rdE T W fc)) (hlm : lastMarks [op, op'] [b, c] = false := by with_unfolding_all rfl) :
    PT X (.Compare a [op, op'] [b, c] pos) (rdT T W (tB (eCh g g' fa fb fc))) := (pt_chain ho ho' ha hb hc hlm).imp fun σ H Q h0 => by
  have h := tB_of h0
  obtain ⟨φ, S, τ, o, R, r, e, q⟩ := h
  refine rdE_bnd R r e q fun d1 S1 v1 H1 φ1 ⟨E1, R1, r1⟩ e1 q1 => ?_
  refine rdE_bnd R1 (r.ext E1) e1 q1 fun d2 S2 v2 H2 φ2 ⟨E2, R2, r2⟩ e2 q2 => ?_
  split at e2
  · rename_i S3 eg
    refine ⟨φ2, S2, d1, d2, R2, r1.ext E2 _ _, r2, _, _, eg, fun φ3 H3 v3 E3 R3 r3 => ?_⟩
    cases r3
    refine ⟨true, rfl, ?_⟩
    rw [if_pos rfl]
    refine rdE_bnd R3 (((r.ext E1).ext E2).ext E3) e2 (q2.mono E3) fun d4 S4 v4 H4 φ4 ⟨E4, R4, r4⟩ e4 q4 => ?_
    exact ⟨φ4, S4, d2, d4, R4, (r2.ext E3 _ _).ext E4 _ _, r4, Fin.of e4 q4⟩
  · rename_i S3 eg
    cases e2
    refine ⟨φ2, S2, d1, d2, R2, r1.ext E2 _ _, r2, _, _, eg, fun φ3 H3 v3 E3 R3 r3 => ?_⟩
    cases r3
    refine ⟨false, rfl, ?_⟩
    rw [if_neg (by decide)]
    exact q2 φ3 H3 _ E3 R3 rfl
  · cases e2
theorem _root_.L2.Room.u64 {k : Nat} {A : Around} (r : Room k A) : A.units + 64 < cLine := by have := r.un; omega
theorem _root_.L2.Room.u65 {k : Nat} {A : Around} (r : Room k A) : A.units + 65 < cLine := by have := r.un; omega
theorem _root_.L2.Room.u1 {k : Nat} {A : Around} (r : Room k A) : A.units + 1 < cLine := by have := r.un; omega
theorem ptw {X : Cx} {e : Expr} {t : TT} (h : PW X e t) : PT X e t := h.pt
end Sb
end
section
set_option Elab.async false
set_option linter.all false
set_option maxRecDepth 100000
set_option maxHeartbeats 4000000
namespace Sb
open PySem PySem.Spec PyProof.Rows L2
/-! ## enumerate of a tuple -/
theorem enum_new_tup (q : Addr) (xs : Array Value) (dc : Option Addr) (cnt : Nat) (sl : Array (Option Value)) :
    Meets (Builtin.«enumerate.__new__» ⟨[.type "enumerate", .ref q], []⟩) (fun _ R s => s.heap.get? q = some { cls := .type "tuple", dict := dc, data := .seq xs cnt, slots := sl } ∧
      R (.ok (.ret (.ref (s.heap.push { cls := .type "tuple_iterator", data := .fields #[.ref q, .int 0 0] }).objs.size)))
        { s with heap := (s.heap.push { cls := .type "tuple_iterator", data := .fields #[.ref q, .int 0 0] }).push { cls := .type "enumerate", data := .fields #[.none, .bool false, .ref s.heap.objs.size, rawInt 0, .none, .none] } }) :=
  .of_wp fun prog w A R s h => by
    obtain ⟨hp, gs, dr, tk, os⟩ := s
    obtain ⟨at_q, fin⟩ := h
    have subs := sub_enumerate
    have isT : Heap.IsTuple (Shared.heap ⟨hp, gs, dr, tk, os⟩) q xs := ⟨_, at_q, rfl, cnt, rfl⟩
    wp_walk using AutoSeq1.wpAny_loadPart' at_q
    refine wpAny_stack_any fun st => wpAny_pure ?_
    split
    · rename_i c _ _ _ _ _
      cases (c == Value.type "enumerate")
      · wp_walk using AutoSeq1.wpAny_loadPart' at_q, wpAny_pyIter_tuple isT
        exact ⟨_, rfl, fin⟩
      · wp_walk using AutoSeq1.wpAny_loadPart' at_q, wpAny_pyIter_tuple isT
        exact ⟨_, rfl, fin⟩
    · wp_walk using AutoSeq1.wpAny_loadPart' at_q, wpAny_pyIter_tuple isT
      exact ⟨_, rfl, fin⟩
theorem call_enum_tup {prog : Program} {w : World} {A : Around} {E : Value → Shared → Prop} {s : Shared} {q : Addr} {xs : Array Value} {Q : Value → Shared → Prop} (isT : s.heap.IsTuple q xs)
    (h : ∀ h', IsEnum h' (s.heap.objs.size + 1) s.heap.objs.size 0 .none → h'.IsTupleIter s.heap.objs.size q 0 → (∀ b o, s.heap.get? b = some o → h'.get? b = some o) → Q (.ref (s.heap.objs.size + 1)) { s with heap := h' }) :
    wpAny (model prog w) A (call (.type "enumerate") [.ref q]) Q E s := by
  obtain ⟨⟨c, dct, dt, sl⟩, at_q, hc, cnt, hd⟩ := isT
  replace hc : c = .type "tuple" := hc
  replace hd : dt = .seq xs cnt := hd
  subst hc hd
  refine callType_new F.called_enumerate (by decide) (F.typeCall_enumerate_1 _) (F.newCall_enumerate_1 _) (fun obj => F.args_object_init_2 obj _) F.entry_enumerate_new (enum_new_tup q xs dct cnt sl) ⟨at_q, ?_⟩
  have size1 : (s.heap.push { cls := .type "tuple_iterator", data := .fields #[.ref q, .int 0 0] }).objs.size = s.heap.objs.size + 1 := Heap.size_push ..
  show _ ∧ _
  rw [size1]
  have isE : IsEnum ((s.heap.push { cls := .type "tuple_iterator", data := .fields #[.ref q, .int 0 0] }).push
      { cls := .type "enumerate", data := .fields #[.none, .bool false, .ref s.heap.objs.size, rawInt 0, .none, .none] }) (s.heap.objs.size + 1) s.heap.objs.size 0 .none := by
    have z := Heap.get?_push_size (s.heap.push { cls := .type "tuple_iterator", data := .fields #[.ref q, .int 0 0] })
      (o := { cls := .type "enumerate", data := .fields #[.none, .bool false, .ref s.heap.objs.size, rawInt 0, .none, .none] }) rfl
    rw [size1] at z; exact z
  exact ⟨⟨_, isE, rfl⟩, h _ isE ⟨_, Heap.get?_push_of_some _ (Heap.get?_push_size _ rfl), rfl, rfl⟩ fun b o x => Heap.get?_push_of_some _ (Heap.get?_push_of_some _ x)⟩
/-- the tuple at a, each item in a new pair -/
def IteT (K : PySem.W.Frag) (a : Addr) : It :=
  ⟨fun i H => ∃ (xs : List V) (x : V), SqT K H a xs ∧ xs[i]? = some x, fun i H v H' => ∃ P x, v = .ref P ∧ H P = none ∧ H' = upd H P (.tup [.int (i : Nat), x]) ∧ ∀ xs, SqT K H a xs → xs[i]? = some x, fun i H => ∃ xs : List V, SqT K H a xs ∧ xs.length ≤ i⟩
theorem turn_enumT {P : Program} {w : World} {K : PySem.W.Frag} {elts : List Expr} {kk : Nat} {tpos : Pos} (a e it : Addr) :
    Turn P w K (.Tuple elts kk tpos) (IteT K a) [e, it] e (fun i h => (∃ old, IsEnum h e it ((i : Nat) : Int) old) ∧ h.IsTupleIter it a i ∧ e ≠ it) where
  mem := by simp
  obj := fun i h st b hb => by
    obtain ⟨⟨old, isE⟩, ⟨o, ho, hc, hd⟩, _⟩ := st
    have cases2 : b = e ∨ b = it := by simpa using hb
    rcases cases2 with z | z
    · rw [z]; exact ⟨_, isE, fun v q => nomatch q⟩
    · rw [z]; exact ⟨o, ho, fun v q => by rw [hd] at q; cases q⟩
  keep := fun i h h' st k => let ⟨⟨old, isE⟩, isI, ne⟩ := st; ⟨⟨old, k e (by simp) _ isE⟩, isI.at fun o q => k it (by simp) o q, ne⟩
  item := by
    intro X hP hw hK hc i pins s σ H E I hf st hg
    subst hP hw hK
    obtain ⟨⟨old, isE⟩, isI, ne⟩ := st
    obtain ⟨xs, x, hq, hx⟩ := hg
    obtain ⟨its, rv, isT, hz⟩ := I.tuple hq
    obtain ⟨u, hu, ru⟩ := rv.get hx
    have ltE : e < s.heap.objs.size := Heap.lt_size isE
    have ltI : it < s.heap.objs.size := by obtain ⟨_, q, _⟩ := isI; exact Heap.lt_size q
    have neA : a ≠ it := by
      rintro rfl
      obtain ⟨o1, h1, h2, _⟩ := isI
      obtain ⟨o2, h3, h4, _⟩ := isT
      rw [h1] at h3
      cases h3
      rw [h2] at h4
      exact absurd h4 (by decide)
    have neEA : e ∉ [it, a] := by
      intro z
      rcases List.mem_cons.mp z with z | z
      · exact ne z
      · have z' : e = a := by simpa using z
        rw [← z'] at isT
        obtain ⟨o2, h3, h4, _⟩ := isT
        rw [isE] at h3
        have h5 := Option.some.inj h3
        rw [← h5] at h4
        have h6 : Value.type "enumerate" = Value.type "tuple" := h4
        injection h6 with h7
        exact absurd h7 (by decide)
    have ltn : i < its.toArray.size := by
      have := (List.getElem?_eq_some_iff.mp hu).1
      simpa using this
    refine wpAny_pyNext_enum_itemD (Draws.tuple (A := X.A.in1) (I.ok.hd hc) it a neA its.toArray) isE ⟨isI, isT⟩ ltn ne neEA fun y h' tk hy hout hst hnew hsz hk => ?_
    obtain ⟨hit', _⟩ := hst
    have ey : y = u := by
      have : its[i]? = some y := by simpa using hy
      rw [hu] at this
      exact (Option.some.inj this).symm
    subst ey
    refine ⟨_, rfl, wpAny_letOwnedTupleGo_enum (s := { s with heap := h', toks := tk + 1 }) hout fun h'' isE' sb => ?_⟩
    have hnew2 : h''.get? s.heap.objs.size = some { cls := .type "tuple", data := .seq #[.int i tk, y] } := (sb.2 _ (Nat.ne_of_gt ltE)).trans hnew
    have okN : ObjOk X.prog X.w (upd H s.heap.objs.size (.tup [.int (i : Nat), x])) h'' s.heap.objs.size (.tup [.int (i : Nat), x]) :=
      ⟨by show 2 ≤ sizeLine; decide, [.int i tk, y], .cons ⟨_, rfl⟩ (.cons ru .nil), ⟨_, hnew2, rfl, _, rfl⟩⟩
    have I1 : L2.Inv X pins σ (upd H s.heap.objs.size (.tup [.int (i : Nat), x])) { s with heap := h'', toks := tk + 1 } :=
      I.turnedNew (ch := [e, it]) (fun b ob hb q => (sb.2 b (fun z => hb (by simp [z]))).trans (hk b ob (fun z => hb (by simp [z])) (fun z => hb (by simp [z])) q)) hf (Nat.le_refl _) okN
    refine ⟨.ref s.heap.objs.size, _, I1, rfl, ⟨_, x, rfl, I.hok.fresh (Nat.le_refl _), rfl, fun ys hy => by rw [I.tuple_inj hy hq]; exact hx⟩, ⟨⟨y, ?_⟩, hit'.at fun o q => (sb.2 it (Ne.symm ne)).trans q, ne⟩, fun b hb => ?_⟩
    · rw [show ((i + 1 : Nat) : Int) = (i : Int) + 1 by omega]
      exact isE'
    · have ltb : b < s.heap.objs.size := by
        have cases2 : b = e ∨ b = it := by simpa using hb
        rcases cases2 with z | z
        · rw [z]; exact ltE
        · rw [z]; exact ltI
      rw [upd_ne (Nat.ne_of_lt ltb)]
      exact (hf b hb).1
  done := by
    intro X hP hw hK hc i pins s σ H E I hf st hg
    subst hP hw hK
    obtain ⟨⟨old, isE⟩, isI, ne⟩ := st
    obtain ⟨xs, hq, hx⟩ := hg
    obtain ⟨its, rv, isT, hz⟩ := I.tuple hq
    obtain ⟨f0, f1, f2, f3, f4, f5⟩ := hf it (by simp)
    have len := rv.length
    have neA : a ≠ it := by
      rintro rfl
      obtain ⟨o1, h1, h2, _⟩ := isI
      obtain ⟨o2, h3, h4, _⟩ := isT
      rw [h1] at h3
      cases h3
      rw [h2] at h4
      exact absurd h4 (by decide)
    unfold pyNext
    have tyE : s.TypeIs (.ref e) "enumerate" := ⟨_, isE, rfl⟩
    refine wpAny_bind (wpAny_attempt (wpAny_callSpecial?_slot (name := Str.ofString "__next__") tyE F.slot_enumerate_next
      (wpAny_call_entry F.slot_enumerate_next tyE F.entry_enumerate_next ?_ (F.args_enumerate_next_1 _))))
    show wpAny _ _ (field (.ref e) 2 >>= _) _ _ _
    refine wpAny_bind (wpAny_field isE rfl (x := .ref it) rfl ?_)
    refine wpAny_bind (wpAny_nextOf_tuple_end (I.ok.hd hc) isI isT (by simp; omega) fun h' xv eb hxv => ?_)
    obtain ⟨ob, hob, hcl⟩ := hxv
    refine wpAny_bind (wpAny_isInstance (T := "StopIteration") (b := true) ⟨ob, hob, hcl⟩ isSubtype_stop ?_)
    exact wpAny_pure ⟨rfl, I.turned (t' := s.toks) (fun b o hb q => eb b o hb q) f0 f1 f3 f4 f5⟩
  self := fun A i s Q E st h => let ⟨⟨_, isE⟩, _⟩ := st; wpAny_pyIter_enum isE h
def iEnumT (K : PySem.W.Frag) (ta : TA) : TI := fun σ H R => ta σ H fun vs H1 => ∃ a xs, vs = [.ref a] ∧ SqT K H1 a xs ∧ R (IteT K a) H1
theorem pi_enumT {X : Cx} {e : Expr} {ta : TA} {p pos tpos : Pos} {elts : List Expr} {kk : Nat} (hg : Gl X "enumerate") (hm : X.mg "enumerate" = none) (ha : PA X [e] ta) (hs : starEach [e] X.env = [(false, eval e X.env)] := by rfl) :
    PI X (.Tuple elts kk tpos) (.Call (.Name "enumerate" p) [e] [] pos) (iEnumT X.K ta) := by
  refine ⟨fun pins s σ H Rr I hh => ?_⟩
  refine Call_ (ld_blt I hg hm boot_enumerate (PyProof.Rows.callWith_type1 (thn (ha.run pos pins s σ H _ I hh) fun us s1 ⟨vs, H1, I1, r1, q1⟩ => ?_) hs rfl))
  obtain ⟨a, xs, ex, hq, q⟩ := q1
  subst ex
  cases r1 with
  | cons r rr =>
    cases rr
    cases r
    obtain ⟨its, rv, isT, hz⟩ := I1.tuple hq
    refine call_enum_tup isT fun h' isE isI hk => wpAny_pyIter_enum isE ?_
    have I2 : L2.Inv X pins σ H1 { s1 with heap := h' } := I1.kept (t' := s1.toks) hk
    refine ⟨s1.heap.objs.size + 1, [s1.heap.objs.size + 1, s1.heap.objs.size], _, _, H1, rfl, I2, turn_enumT a (s1.heap.objs.size + 1) s1.heap.objs.size, ⟨⟨.none, isE⟩, isI, Nat.succ_ne_self _⟩, fun b hb => ?_, q⟩
    have above : s1.heap.objs.size ≤ b := by
      rcases (show b = s1.heap.objs.size + 1 ∨ b = s1.heap.objs.size by simpa using hb) with z | z
      · rw [z]; exact Nat.le_add_right _ _
      · rw [z]; exact Nat.le_refl _
    exact I1.fpOk above (I1.hok.fresh above)
end Sb
end
section
set_option Elab.async false
set_option linter.all false
set_option maxRecDepth 100000
set_option maxHeartbeats 4000000
namespace Sb
open PySem PySem.Spec PyProof.Rows L2 PySem.W
end Sb
end
section
set_option Elab.async false
set_option linter.all false
set_option maxRecDepth 100000
set_option maxHeartbeats 4000000
namespace Sb
open PySem PySem.Spec PyProof.Rows L2 PySem.W
section
variable {X : Cx} {T : Tb} {W : WX} {pos : Pos} {e : Expr} {ra : AF}
/-! ## enumerate(tuple) -/
def wkE (es : List D) : Wk := ⟨es.length, fun i _ => some ((es[i]?).map fun d => .tup [.int (i : Nat), d])⟩
def iEn (ra : AF) : IF := fun τ => (ra τ).bnd fun ds S => match ds with
  | [.tup es] => some (.ok (wkE es) S)
  | _ => none
theorem i_enum {p tpos : Pos} {elts : List Expr} {kk : Nat} (hK : T.K = X.K) (hg : Gl X "enumerate") (hm : X.mg "enumerate" = none) (ha : PA X [e] (rdA T W ra)) (hs : starEach [e] X.env = [(false, eval e X.env)] := by rfl) :
    PI X (.Tuple elts kk tpos) (.Call (.Name "enumerate" p) [e] [] pos) (rdI T W (iEn ra)) :=
  (pi_enumT hg hm ha hs).imp fun σ H Rr h => by
    obtain ⟨φ, S, τ, o, R, r, e, q⟩ := h
    refine rdA_bndI R r e q fun ds S1 vs H1 φ1 E1 R1 r1 e1 q1 => ?_
    split at e1
    · rename_i es
      cases e1
      obtain ⟨v, l, rfl, r2, r3⟩ := r1
      cases r3
      obtain ⟨a, xs, rfl, hH, s⟩ := r2
      refine ⟨a, xs, rfl, .inl hH, q1 φ1 H1 _ .refl R1 ?_⟩
      intro φ S H i E2 R2
      have h' := E2.rdT hH
      have s' := s.ext E2 _ _
      refine ⟨fun d hd => ?_, fun hn => ?_⟩
      · have hd' : (es[i]?).map (fun d => D.tup [.int (i : Nat), d]) = some d := Option.some.inj hd
        simp only [Option.map_eq_some_iff] at hd'
        obtain ⟨y, hy, rfl⟩ := hd'
        obtain ⟨v, hv, rv⟩ := s'.get hy
        refine ⟨⟨xs, v, .inl h', hv⟩, fun x H' yl => ?_⟩
        obtain ⟨P, x2, rfl, hP, rfl, hx⟩ := yl
        have ev := hx xs (.inl h')
        rw [hv] at ev
        cases ev
        obtain ⟨R3, E3⟩ := R2.garb (u := .tup [.int (i : Nat), v]) hP
        exact ⟨E3, R3, P, _, rfl, (.inl upd_same), .int (i : Nat), _, rfl, rfl, v, _, rfl, rv.ext E3 _ _, rfl⟩
      · have hn' : (es[i]?).map (fun d => D.tup [.int (i : Nat), d]) = none := Option.some.inj hn
        simp only [Option.map_eq_none_iff] at hn'
        exact ⟨xs, .inl h', rds_none s' hn'⟩
    · cases e1
/-! ## sorted of data -/
end
end Sb
namespace Sb
open PySem PySem.Spec PyProof.Rows L2
def eNeg (fa : EF) : EF := fun τ => (fa τ).bnd fun d S => match d with | .int i => some (.ok (.int (-i)) S) | _ => none
theorem d_neg {X : Cx} {T : Tb} {W : WX} {pos : Pos} {a : Expr} {fa : EF} (ha : PE X a (rdE T W fa)) : PE X (.UnaryOp .USub a pos) (rdE T W (eNeg fa)) := (pe_un un_neg ha).imp fun σ H Q h => by
  obtain ⟨φ, S, τ, o, R, r, e, q⟩ := h
  refine rdE_bnd R r e q fun d S1 v H1 φ1 ⟨E1, R1, r1⟩ e1 q1 => ?_
  split at e1
  · cases e1
    cases r1
    exact ⟨_, rfl, q1 φ1 H1 _ .refl R1 rfl⟩
  · cases e1
end Sb
namespace Sb
open PySem PySem.Spec PyProof.Rows L2
end Sb
end
section
set_option Elab.async false
set_option linter.all false
set_option maxRecDepth 100000
namespace Sb
open PySem PySem.Spec PyProof.Rows L2
def m_is_whole : SF := sRt (eAnd (eIs "int" (eVar 0)) (eNot (eIs "bool" (eVar 0))))
abbrev M_is_whole : List D → M D := fnM 1 (m_is_whole)
def m_is_number : SF := sRt (eAnd (eCl (M_is_whole) 1 (aCons (eVar 0) (aNil))) (eCh gLe gLe (eC (.int 0)) (eVar 0) (eVar 1)))
abbrev M_is_number : List D → M D := fnM 2 (m_is_number)
def m_is_depth : SF := sRt (eAnd (eCl (M_is_whole) 1 (aCons (eVar 0) (aNil))) (eB gGeI (eVar 0) (eC (.int 0))))
abbrev M_is_depth : List D → M D := fnM 1 (m_is_depth)
def m_is_listed : SF := sRt (eIs2 "list" "tuple" (eVar 0))
abbrev M_is_listed : List D → M D := fnM 1 (m_is_listed)
def m_is_name : SF := sSeq (sIf (tOr' (tNt (tB (eIs "str" (eVar 0)))) (tNt (tB (eCh gLe gLe (eC (.int 1)) (eCB gLenX (aCons (eVar 0) (aNil))) (eC (.int 8)))))) (sRt (eC (.bl false))) (sNop)) (sRt (eAll 2 (iSeq (eVar 0)) (tN 1) (eCh gLe gLe (eC (.str "a")) (eVar 1) (eC (.str "z")))))
abbrev M_is_name : List D → M D := fnM 2 (m_is_name)
def m_is_card : SF := sSeq (sIf (tOr' (tNt (tB (eCl (M_is_listed) 1 (aCons (eVar 0) (aNil))))) (tB (eB (gEq true) (eCB gLenX (aCons (eVar 0) (aNil))) (eC (.int 2))))) (sRt (eC (.bl false))) (sNop)) (sRt (eAnd (eCl (M_is_name) 1 (aCons (eB gIx (eVar 0) (eC (.int 0))) (aNil))) (eCl (M_is_depth) 1 (aCons (eB gIx (eVar 0) (eC (.int 1))) (aNil)))))
abbrev M_is_card : List D → M D := fnM 1 (m_is_card)
def m_deck_of (K : PySem.W.Frag) : SF := sSeq (sIf (tOr' (tNt (tB (eCl (M_is_listed) 1 (aCons (eVar 0) (aNil))))) (tNt (tB (eCh gLe gLe (eC (.int 1)) (eCB gLenX (aCons (eVar 0) (aNil))) (eC (.int 40)))))) (sRaise (He.ga K "NoDeck")) (sNop)) (sSeq (sIf (tNt (tB (eAll 5 (iSeq (eVar 0)) (tN 1) (eCl (M_is_card) 1 (aCons (eVar 1) (aNil)))))) (sRaise (He.ga K "NoDeck")) (sNop)) (sSeq (sSet 2 (eCB gTuple (aCons (eLc (iSeq (eVar 0)) (tN2 3 4) (tAll) (eTup (aCons (eVar 3) (aCons (eVar 4) (aNil)))) [3, 4]) (aNil)))) (sSeq (sIf (tB (eB gLtI (eCB gLenX (aCons (eSc (iSeq (eVar 2)) (tN 1) (eB gIx (eVar 1) (eC (.int 0))) [1]) (aNil))) (eCB gLenX (aCons (eVar 2) (aNil))))) (sRaise (He.ga K "NoDeck")) (sNop)) (sRt (eVar 2)))))
abbrev M_deck_of (K : PySem.W.Frag) : List D → M D := fnM 5 (m_deck_of K)
def m_reach_of : SF := sRt (eCB gMin2 (aCons (eB gIx (eVar 0) (eC (.int 1))) (aCons (eB gSub (eVar 1) (eC (.int 1))) (aNil))))
abbrev M_reach_of : List D → M D := fnM 2 (m_reach_of)
def m_law_spring : SF := sSeq (sSet 1 (eC (.int 0))) (sSeq (sSet 2 (eC (.int 88651))) (sSeq (sFor (iSeq (eSl (eVar 0) (oNo) (oSo (eC (.int 63))))) (tN 3) (sSeq (sIf (tB (eB gGeI (eCB gAbs (aCons (eVar 3) (aNil))) (eB gPow (eC (.int 10)) (eC (.int 18))))) (sSet 1 (eB gAdd (eB gMul (eVar 1) (eB gPow (eC (.int 10)) (eC (.int 60)))) (eB gMod (eCB gAbs (aCons (eVar 3) (aNil))) (eB gPow (eC (.int 10)) (eC (.int 60)))))) (sNop)) (sSet 2 (eB gMod (eB gAdd (eB gAdd (eB gMul (eVar 2) (eC (.int 69069))) (eB gMod (eVar 3) (eC (.int 2305843009213693921)))) (eC (.int 7))) (eC (.int 2305843009213693951)))))) (sRt (eLst (aCons (eVar 1) (aCons (eVar 2) (aCons (eC (.int 0)) (aNil))))))))
abbrev M_law_spring : List D → M D := fnM 4 (m_law_spring)
def m_law_draw : SF := sSeq (sIf (tB (eB gGtI (eB gIx (eVar 0) (eC (.int 0))) (eC (.int 0)))) (sSeq (sSet 2 (eB gMod (eB gIx (eVar 0) (eC (.int 0))) (eVar 1))) (sSeq (sPut (eB gDiv (eB gIx (eVar 0) (eC (.int 0))) (eVar 1)) (eVar 0) (eC (.int 0))) (sRt (eVar 2)))) (sNop)) (sSeq (sPut (eB gAdd (eB gIx (eVar 0) (eC (.int 2))) (eC (.int 1))) (eVar 0) (eC (.int 2))) (sSeq (sSet 3 (eB gMod (eB gMul (eB gIx (eVar 0) (eC (.int 1))) (eB gIx (eVar 0) (eC (.int 1)))) (eC (.int 2305843009213693951)))) (sSeq (sPut (eB gMod (eB gAdd (eB gAdd (eVar 3) (eB gMul (eB gMul (eC (.int 7919)) (eB gIx (eVar 0) (eC (.int 2)))) (eB gIx (eVar 0) (eC (.int 1))))) (eC (.int 104729))) (eC (.int 2305843009213693951))) (eVar 0) (eC (.int 1))) (sRt (eB gMod (eB gDiv (eB gIx (eVar 0) (eC (.int 1))) (eC (.int 65537))) (eVar 1))))))
abbrev M_law_draw : List D → M D := fnM 4 (m_law_draw)
def m_law_names : SF := sSeq (sSet 2 (eLc (iRg1 (aCons (eC (.int 50)) (aNil))) (tN 3) (tAll) (eB gAdd (eB gAdd (eC (.str "q")) (eB gIx (eC (.str "abcdefghij")) (eB gDiv (eVar 3) (eC (.int 5))))) (eB gIx (eC (.str "vwxyz")) (eB gMod (eVar 3) (eC (.int 5))))) [3])) (sSeq (sSet 4 (eLst (aNil))) (sSeq (sFor (iRg1 (aCons (eVar 1) (aNil))) (tN 3) (sSeq (sSet 5 (eB gIx (eLst (aCons (eC (.str "ab")) (aCons (eC (.str "abcdefghijklmnopqrstuvwxyz")) (aNil)))) (eCl (M_law_draw) 2 (aCons (eVar 0) (aCons (eC (.int 2)) (aNil)))))) (sSeq (sSet 6 (eBM "str" gJoin (eC (.str "")) (aCons (eLc (iRg1 (aCons (eB gAdd (eC (.int 1)) (eCl (M_law_draw) 2 (aCons (eVar 0) (aCons (eC (.int 8)) (aNil))))) (aNil))) (tN 7) (tAll) (eB gIx (eVar 5) (eCl (M_law_draw) 2 (aCons (eVar 0) (aCons (eCB gLenX (aCons (eVar 5) (aNil))) (aNil))))) [7]) (aNil)))) (sEx (eBM "list" gAppend (eVar 4) (aCons (eB gIx (eLc (iSeq (eB gAdd (eLst (aCons (eVar 6) (aNil))) (eVar 2))) (tN 8) (tB (eB (gIn true) (eVar 8) (eVar 4))) (eVar 8) [8]) (eC (.int 0))) (aNil))))))) (sRt (eVar 4))))
abbrev M_law_names : List D → M D := fnM 9 (m_law_names)
def m_find_place (K : PySem.W.Frag) : SF := sSeq (sFor (iEn (aCons (eVar 0) (aNil))) (tN2 2 3) (sIf (tB (eB (gEq false) (eB gIx (eVar 3) (eC (.int 0))) (eVar 1))) (sRt (eVar 2)) (sNop))) (sRaise (He.ga K "NoName"))
abbrev M_find_place (K : PySem.W.Frag) : List D → M D := fnM 4 (m_find_place K)
end Sb
end
section
set_option Elab.async false
set_option linter.all false
set_option maxRecDepth 100000
set_option maxHeartbeats 4000000
namespace Sb
open PySem PySem.Spec PyProof.Rows L2
theorem kb_NoneType_int : kitB "NoneType" "int" = some false := by decide +kernel
theorem kb_NoneType_bool : kitB "NoneType" "bool" = some false := by decide +kernel
theorem kb_NoneType_str : kitB "NoneType" "str" = some false := by decide +kernel
theorem kb_NoneType_list : kitB "NoneType" "list" = some false := by decide +kernel
theorem kb_NoneType_tuple : kitB "NoneType" "tuple" = some false := by decide +kernel
theorem kb_bool_int : kitB "bool" "int" = some true := by decide +kernel
theorem kb_bool_bool : kitB "bool" "bool" = some true := by decide +kernel
theorem kb_bool_str : kitB "bool" "str" = some false := by decide +kernel
theorem kb_bool_list : kitB "bool" "list" = some false := by decide +kernel
theorem kb_bool_tuple : kitB "bool" "tuple" = some false := by decide +kernel
theorem kb_int_int : kitB "int" "int" = some true := by decide +kernel
theorem kb_int_bool : kitB "int" "bool" = some false := by decide +kernel
theorem kb_int_str : kitB "int" "str" = some false := by decide +kernel
theorem kb_int_list : kitB "int" "list" = some false := by decide +kernel
theorem kb_int_tuple : kitB "int" "tuple" = some false := by decide +kernel
theorem kb_str_int : kitB "str" "int" = some false := by decide +kernel
theorem kb_str_bool : kitB "str" "bool" = some false := by decide +kernel
theorem kb_str_str : kitB "str" "str" = some true := by decide +kernel
theorem kb_str_list : kitB "str" "list" = some false := by decide +kernel
theorem kb_str_tuple : kitB "str" "tuple" = some false := by decide +kernel
theorem kb_tuple_int : kitB "tuple" "int" = some false := by decide +kernel
theorem kb_tuple_bool : kitB "tuple" "bool" = some false := by decide +kernel
theorem kb_tuple_str : kitB "tuple" "str" = some false := by decide +kernel
theorem kb_tuple_list : kitB "tuple" "list" = some false := by decide +kernel
theorem kb_tuple_tuple : kitB "tuple" "tuple" = some true := by decide +kernel
theorem kb_list_int : kitB "list" "int" = some false := by decide +kernel
theorem kb_list_bool : kitB "list" "bool" = some false := by decide +kernel
theorem kb_list_str : kitB "list" "str" = some false := by decide +kernel
theorem kb_list_list : kitB "list" "list" = some true := by decide +kernel
theorem kb_list_tuple : kitB "list" "tuple" = some false := by decide +kernel
theorem kb_dict_int : kitB "dict" "int" = some false := by decide +kernel
theorem kb_dict_bool : kitB "dict" "bool" = some false := by decide +kernel
theorem kb_dict_str : kitB "dict" "str" = some false := by decide +kernel
theorem kb_dict_list : kitB "dict" "list" = some false := by decide +kernel
theorem kb_dict_tuple : kitB "dict" "tuple" = some false := by decide +kernel
theorem sSeq_nx {f g : SF} {τ τ1 : Sl} {S S1 : Sto} (h : f τ S = some (.nx τ1, S1)) : sSeq f g τ S = g τ1 S1 := by simp only [sSeq, h]
theorem sSeq_rt {f g : SF} {τ : Sl} {d : D} {S S1 : Sto} (h : f τ S = some (.rt d, S1)) : sSeq f g τ S = some (.rt d, S1) := by simp only [sSeq, h]
theorem sSet_ok {i : Nat} {fe : EF} {τ : Sl} {d : D} {S S1 : Sto} (h : fe τ S = some (.ok d S1)) : sSet i fe τ S = some (.nx (τ.set i (some d)), S1) := by simp only [sSet, sx, h]
theorem sEx_ok {fe : EF} {τ : Sl} {d : D} {S S1 : Sto} (h : fe τ S = some (.ok d S1)) : sEx fe τ S = some (.nx τ, S1) := by simp only [sEx, sx, h]
theorem sRt_ok {fe : EF} {τ : Sl} {d : D} {S S1 : Sto} (h : fe τ S = some (.ok d S1)) : sRt fe τ S = some (.rt d, S1) := by simp only [sRt, sx, h]
theorem sIf_t {t : BF} {f g : SF} {τ : Sl} {S S1 : Sto} (h : t τ S = some (.ok true S1)) : sIf t f g τ S = f τ S1 := by simp only [sIf, st', h, if_true]
theorem sIf_f {t : BF} {f g : SF} {τ : Sl} {S S1 : Sto} (h : t τ S = some (.ok false S1)) : sIf t f g τ S = g τ S1 := by simp [sIf, st', h]
theorem sFor_ok {fi : IF} {g : TF} {fb : SF} {τ : Sl} {S S1 : Sto} {wk : Wk} {r : Option (Fl × Sto)} (h : fi τ S = some (.ok wk S1)) (h2 : goF wk.nxt g fb (wk.bound + 1) 0 τ S1 = r) : sFor fi g fb τ S = r := by simp only [sFor, h, h2]
theorem eB_ok {g : G2} {fa fb : EF} {τ : Sl} {x y d : D} {S S1 S2 S3 : Sto} (h1 : fa τ S = some (.ok x S1)) (h2 : fb τ S1 = some (.ok y S2)) (h3 : g x y S2 = some (d, S3)) : eB g fa fb τ S = some (.ok d S3) := by simp only [eB, M.bnd, h1, h2, h3, lft]
theorem eCl_ok {m : List D → M D} {n : Nat} {r : AF} {τ : Sl} {ds : List D} {S S1 : Sto} {o : Option (Rs D)} (h1 : r τ S = some (.ok ds S1)) (hl : ds.length = n) (h2 : m ds S1 = o) : eCl m n r τ S = o := by simp only [eCl, M.bnd, h1, if_pos hl, h2]
theorem eCB_ok {g : GN} {r : AF} {τ : Sl} {ds : List D} {d : D} {S S1 S2 : Sto} (h1 : r τ S = some (.ok ds S1)) (h2 : g ds S1 = some (d, S2)) : eCB g r τ S = some (.ok d S2) := by simp only [eCB, M.bnd, h1, h2, lft]
theorem eBM_ok {ty : String} {g : GM} {fo : EF} {r : AF} {τ : Sl} {x : D} {ds : List D} {d : D} {S S1 S2 S3 : Sto} (h0 : fo τ S = some (.ok x S1)) (ht : tyD S1 ty x = true) (h1 : r τ S1 = some (.ok ds S2)) (h2 : g x ds S2 = some (d, S3)) : eBM ty g fo r τ S = some (.ok d S3) := by simp only [eBM, M.bnd, h0, ht, if_true, h1, h2, lft]
theorem aCons_ok {f : EF} {r : AF} {τ : Sl} {d : D} {ds : List D} {S S1 S2 : Sto} (h1 : f τ S = some (.ok d S1)) (h2 : r τ S1 = some (.ok ds S2)) : aCons f r τ S = some (.ok (d :: ds) S2) := by simp only [aCons, M.bnd, h1, h2]
theorem aNil_ok {τ : Sl} {S : Sto} : aNil τ S = some (.ok [] S) := rfl
theorem a1_ok {f : EF} {τ : Sl} {d : D} {S S1 : Sto} (h1 : f τ S = some (.ok d S1)) : aCons f aNil τ S = some (.ok [d] S1) := aCons_ok h1 aNil_ok
theorem a2_ok {f g : EF} {τ : Sl} {d e : D} {S S1 S2 : Sto} (h1 : f τ S = some (.ok d S1)) (h2 : g τ S1 = some (.ok e S2)) : aCons f (aCons g aNil) τ S = some (.ok [d, e] S2) := aCons_ok h1 (a1_ok h2)
theorem a3_ok {f g h : EF} {τ : Sl} {d e k : D} {S S1 S2 S3 : Sto} (h1 : f τ S = some (.ok d S1)) (h2 : g τ S1 = some (.ok e S2)) (h3 : h τ S2 = some (.ok k S3)) : aCons f (aCons g (aCons h aNil)) τ S = some (.ok [d, e, k] S3) := aCons_ok h1 (a2_ok h2 h3)
theorem eTup_ok {r : AF} {τ : Sl} {ds : List D} {S S1 : Sto} (h1 : r τ S = some (.ok ds S1)) (hl : ds.length ≤ 1000) : eTup r τ S = some (.ok (.tup ds) S1) := by
  have : ds.length ≤ sizeLine := by rw [sizeLine_eq]; omega
  simp only [eTup, M.bnd, h1, if_pos this]
theorem eLst_ok {r : AF} {τ : Sl} {ds : List D} {S S1 : Sto} (h1 : r τ S = some (.ok ds S1)) (hl : ds.length ≤ 1000) : eLst r τ S = some (.ok (.loc S1.length) (S1 ++ [.lst ds])) := by
  have : ds.length ≤ sizeLine := by rw [sizeLine_eq]; omega
  simp only [eLst, M.bnd, h1, if_pos this]
theorem iRg1_ok {r : AF} {τ : Sl} {n : Nat} {S S1 : Sto} (h1 : r τ S = some (.ok [.int n] S1)) (hn : n ≤ 1000000) : iRg1 r τ S = some (.ok (wkR 0 n) S1) := by
  have hr : -(2 ^ 62) ≤ (n : Int) ∧ (n : Int) < 2 ^ 62 := by constructor <;> omega
  simp only [iRg1, M.bnd, h1, if_pos hr, Int.toNat_natCast]
theorem iSeq_ok {fe : EF} {τ : Sl} {d : D} {S S1 : Sto} {wk : Wk} (h1 : fe τ S = some (.ok d S1)) (h2 : wkD S1 d = some wk) : iSeq fe τ S = some (.ok wk S1) := by
  simp only [iSeq, M.bnd, h1, h2, Option.bind_some]
theorem tB_ok {fe : EF} {τ : Sl} {b : Bool} {S S1 : Sto} (h1 : fe τ S = some (.ok (.bl b) S1)) : tB fe τ S = some (.ok b S1) := by simp only [tB, M.bnd, h1]
theorem tNt_ok {t : BF} {τ : Sl} {b : Bool} {S S1 : Sto} (h1 : t τ S = some (.ok b S1)) : tNt t τ S = some (.ok (!b) S1) := by simp only [tNt, M.bnd, h1]
theorem tOr_f {t u : BF} {τ : Sl} {S S1 : Sto} {o : Option (Rs Bool)} (h1 : t τ S = some (.ok false S1)) (h2 : u τ S1 = o) : tOr' t u τ S = o := by simp [tOr', M.bnd, h1, h2]
theorem eSl_ok {fe : EF} {lo hi : OF} {τ : Sl} {x d : D} {a b : Option Int} {S S1 S2 S3 S4 : Sto} (h1 : fe τ S = some (.ok x S1)) (h2 : lo τ S1 = some (.ok a S2)) (h3 : hi τ S2 = some (.ok b S3)) (h4 : gSl x a b S3 = some (d, S4)) : eSl fe lo hi τ S = some (.ok d S4) := by simp only [eSl, M.bnd, h1, h2, h3, h4, lft]
theorem oSo_ok {fe : EF} {τ : Sl} {i : Int} {S S1 : Sto} (h1 : fe τ S = some (.ok (.int i) S1)) : oSo fe τ S = some (.ok (some i) S1) := by simp only [oSo, M.bnd, h1]
theorem eIf_t {t : BF} {f g : EF} {τ : Sl} {S S1 : Sto} {o : Option (Rs D)} (h : t τ S = some (.ok true S1)) (h2 : f τ S1 = o) : eIf t f g τ S = o := by simp only [eIf, M.bnd, h, if_true, h2]
theorem eIf_f {t : BF} {f g : EF} {τ : Sl} {S S1 : Sto} {o : Option (Rs D)} (h : t τ S = some (.ok false S1)) (h2 : g τ S1 = o) : eIf t f g τ S = o := by simp [eIf, M.bnd, h, h2]
theorem fnM_rt {n : Nat} {f : SF} {ds : List D} {S S' : Sto} {d : D} (h : f (ini n ds) S = some (.rt d, S')) : fnM n f ds S = some (.ok d S') := by
  simp only [fnM, h]
theorem fnM_nx {n : Nat} {f : SF} {ds : List D} {S S' : Sto} {τ : Sl} (h : f (ini n ds) S = some (.nx τ, S')) : fnM n f ds S = some (.ok .non S') := by
  simp only [fnM, h]
/-! ## the spring -/
abbrev spr (a b c : Int) : Ob := .lst [.int a, .int b, .int c]
theorem draw_of {S : Sto} {n : Nat} {a b c m : Int} (h : S[n]? = some (spr a b c)) (ha : 0 < a) (hm : 0 < m) (hl : m.natAbs.log2 < 9000) : M_law_draw [.loc n, .int m] S = some (.ok (.int (a % m)) (S.set n (spr (a / m) b c))) := by
  simp [fnM, ini, sSeq, sNop, sEx, sRt, sIf, sSet, sPut, putD, sAs, sRaise, sx, st', tB, tAn, tOr', tNt, tAll, eB, eVar, eC, eTup, eLst, eCB, eCl, eBM, eIf, eAnd, eOr, eNot, eCh, eSl, oNo, oSo, aNil, aCons, M.bnd, lft, eIs, eIs2, kindD, kb_NoneType_int, kb_NoneType_bool, kb_NoneType_str, kb_NoneType_list, kb_NoneType_tuple, kb_bool_int, kb_bool_bool, kb_bool_str, kb_bool_list, kb_bool_tuple, kb_int_int, kb_int_bool, kb_int_str, kb_int_list, kb_int_tuple, kb_str_int, kb_str_bool, kb_str_str, kb_str_list, kb_str_tuple, kb_tuple_int, kb_tuple_bool, kb_tuple_str, kb_tuple_list, kb_tuple_tuple, kb_list_int, kb_list_bool, kb_list_str, kb_list_list, kb_list_tuple, kb_dict_int, kb_dict_bool, kb_dict_str, kb_dict_list, kb_dict_tuple, truD, gI, gAdd, gSub, gMul, gMod, gDiv, gPow, gLtI, gLe, gGtI, gGeI, gIx, gLen, gLenX, gAbs, gInt, gMax, gMax2, gMin2, gTuple, gList, seqD, listD, atI, ixN, tyD, gAppend, gPopAt, gInsert, m_law_draw, h, ha, hm, hl]

theorem draw_of0 {S : Sto} {n : Nat} {b c m : Int} (h : S[n]? = some (spr 0 b c)) (hm : 0 < m) (hl : m.natAbs.log2 < 9000) (hb : b.natAbs.log2 < 1000) (hc : (7919 * (c + 1)).natAbs.log2 < 300000) :
    ∃ v b', M_law_draw [.loc n, .int m] S = some (.ok (.int (v % m)) (S.set n (spr 0 b' (c + 1)))) ∧ 0 ≤ b' ∧ b' < 2305843009213693951 := by
  have hn : n < S.length := (List.getElem?_eq_some_iff.mp h).1
  have h1 : b.natAbs.log2 + b.natAbs.log2 < 1000000 := by omega
  have h3 : (7919 : Int).natAbs.log2 + (c + 1).natAbs.log2 < 1000000 := by
    have e : (7919 : Int).natAbs.log2 ≤ 20 := by decide +kernel
    have : (c + 1).natAbs.log2 ≤ (7919 * (c + 1)).natAbs.log2 := by
      by_cases z : (c + 1).natAbs = 0
      · rw [z]; simp
      · rw [Nat.le_log2 (by omega)]
        exact Nat.le_trans (Nat.log2_self_le z) (by omega)
    omega
  have h4 : (7919 * (c + 1)).natAbs.log2 + b.natAbs.log2 < 1000000 := by omega
  have h2 : (65537 : Int).natAbs.log2 < 9000 := by decide +kernel
  refine ⟨((b * b % 2305843009213693951 + 7919 * (c + 1) * b + 104729) % 2305843009213693951) / 65537, (b * b % 2305843009213693951 + 7919 * (c + 1) * b + 104729) % 2305843009213693951, ?_, Int.emod_nonneg _ (by decide), Int.emod_lt_of_pos _ (by decide)⟩
  have g : ∀ x, (S.set n x)[n]? = some x := fun x => List.getElem?_set_self hn
  clear hn
  have q1 : Nat.log2 7919 = 12 := by decide +kernel
  have q2 : Nat.log2 65537 = 16 := by decide +kernel
  have h5 : 12 + (c + 1).natAbs.log2 < 1000000 := by
    have e : (7919 : Int).natAbs.log2 = 12 := q1
    omega
  simp [fnM, ini, sSeq, sNop, sEx, sRt, sIf, sSet, sPut, putD, sAs, sRaise, sx, st', tB, tAn, tOr', tNt, tAll, eB, eVar, eC, eTup, eLst, eCB, eCl, eBM, eIf, eAnd, eOr, eNot, eCh, eSl, oNo, oSo, aNil, aCons, M.bnd, lft, eIs, eIs2, kindD, kb_NoneType_int, kb_NoneType_bool, kb_NoneType_str, kb_NoneType_list, kb_NoneType_tuple, kb_bool_int, kb_bool_bool, kb_bool_str, kb_bool_list, kb_bool_tuple, kb_int_int, kb_int_bool, kb_int_str, kb_int_list, kb_int_tuple, kb_str_int, kb_str_bool, kb_str_str, kb_str_list, kb_str_tuple, kb_tuple_int, kb_tuple_bool, kb_tuple_str, kb_tuple_list, kb_tuple_tuple, kb_list_int, kb_list_bool, kb_list_str, kb_list_list, kb_list_tuple, kb_dict_int, kb_dict_bool, kb_dict_str, kb_dict_list, kb_dict_tuple, truD, gI, gAdd, gSub, gMul, gMod, gDiv, gPow, gLtI, gLe, gGtI, gGeI, gIx, gLen, gLenX, gAbs, gInt, gMax, gMax2, gMin2, gTuple, gList, seqD, listD, atI, ixN, tyD, gAppend, gPopAt, gInsert, m_law_draw, h, g, hm, hl, h1, h5, h4, q1, q2]
/-- the spring at n, at most k draws behind -/
def Spr (n k : Nat) (S : Sto) : Prop := ∃ a b c : Int, S[n]? = some (spr a b c) ∧ 0 ≤ a ∧ 0 ≤ b ∧ b < 2305843009213693951 ∧ 0 ≤ c ∧ c ≤ k
/-- all but the object at n stands -/
structure Fr (n : Nat) (S S' : Sto) : Prop where
  le : S.length ≤ S'.length
  at_ : ∀ i, i ≠ n → i < S.length → S'[i]? = S[i]?
theorem Fr.refl {n : Nat} {S : Sto} : Fr n S S := ⟨Nat.le_refl _, fun _ _ _ => rfl⟩
theorem Fr.trans {n : Nat} {S S1 S2 : Sto} (a : Fr n S S1) (b : Fr n S1 S2) : Fr n S S2 := ⟨Nat.le_trans a.le b.le, fun i h1 h2 => (b.at_ i h1 (Nat.lt_of_lt_of_le h2 a.le)).trans (a.at_ i h1 h2)⟩
theorem Fr.get {n i : Nat} {S S' : Sto} {o : Ob} (f : Fr n S S') (h : S[i]? = some o) (hi : i ≠ n) : S'[i]? = some o := (f.at_ i hi (List.getElem?_eq_some_iff.mp h).1).trans h
theorem Fr.app {n : Nat} {S X : Sto} : Fr n S (S ++ X) := ⟨by simp, fun i _ h => List.getElem?_append_left h⟩
theorem Spr.app {n k : Nat} {S X : Sto} (h : Spr n k S) : Spr n k (S ++ X) := by
  obtain ⟨a, b, c, e, r⟩ := h
  exact ⟨a, b, c, by rw [List.getElem?_append_left (List.getElem?_eq_some_iff.mp e).1]; exact e, r⟩
theorem Spr.lt {n k : Nat} {S : Sto} (h : Spr n k S) : n < S.length := by
  obtain ⟨a, b, c, e, r⟩ := h
  exact (List.getElem?_eq_some_iff.mp e).1
theorem Spr.mono {n k k' : Nat} {S : Sto} (h : Spr n k S) (hk : k ≤ k') : Spr n k' S := by
  obtain ⟨a, b, c, e, h1, h2, h3, h4, h5⟩ := h
  exact ⟨a, b, c, e, h1, h2, h3, h4, by omega⟩
theorem log2_lt {x : Int} {j : Nat} (hj : 0 < j) (h : x.natAbs < 2 ^ j) : x.natAbs.log2 < j := by
  by_cases z : x.natAbs = 0
  · rw [z]; simpa using hj
  · exact (Nat.log2_lt z).mpr h
theorem draw_ok {S : Sto} {n k : Nat} {m : Int} (h : Spr n k S) (hk : k < 2 ^ 64) (hm : 0 < m) (hm2 : m < 2 ^ 64) :
    ∃ v S', M_law_draw [.loc n, .int m] S = some (.ok (.int v) S') ∧ 0 ≤ v ∧ v < m ∧ Spr n (k + 1) S' ∧ Fr n S S' ∧ S'.length = S.length := by
  obtain ⟨a, b, c, e, ha, hb, hb2, hc, hc2⟩ := h
  have hn : n < S.length := (List.getElem?_eq_some_iff.mp e).1
  have hl : m.natAbs.log2 < 9000 := log2_lt (by decide) (Nat.lt_of_lt_of_le (show m.natAbs < 2 ^ 64 by omega) (Nat.pow_le_pow_right (by decide) (by decide)))
  have fr : ∀ o, Fr n S (S.set n o) := fun o => ⟨by simp, fun i h1 h2 => List.getElem?_set_ne (Ne.symm h1)⟩
  rcases Int.lt_or_eq_of_le ha with p | p
  · exact ⟨_, _, draw_of e p hm hl, Int.emod_nonneg _ (by omega), Int.emod_lt_of_pos _ hm, ⟨a / m, b, c, by rw [List.getElem?_set_self hn], Int.ediv_nonneg ha (by omega), hb, hb2, hc, by omega⟩, fr _, by simp⟩
  · subst p
    have l1 : b.natAbs.log2 < 1000 := log2_lt (by decide) (Nat.lt_of_lt_of_le (show b.natAbs < 2 ^ 64 by omega) (Nat.pow_le_pow_right (by decide) (by decide)))
    have l2 : (7919 * (c + 1)).natAbs.log2 < 300000 := log2_lt (by decide) (Nat.lt_of_lt_of_le (show (7919 * (c + 1)).natAbs < 2 ^ 128 by omega) (Nat.pow_le_pow_right (by decide) (by decide)))
    obtain ⟨v, b', e1, h1, h2⟩ := draw_of0 e hm hl l1 l2
    exact ⟨_, _, e1, Int.emod_nonneg _ (by omega), Int.emod_lt_of_pos _ hm, ⟨0, b', c + 1, by rw [List.getElem?_set_self hn], Int.le_refl 0, h1, h2, by omega, by omega⟩, fr _, by simp⟩
end Sb
end
section
set_option Elab.async false
set_option linter.all false
set_option maxRecDepth 100000
set_option maxHeartbeats 4000000
set_option exponentiation.threshold 100000
namespace Sb
open PySem PySem.Spec PyProof.Rows L2
/-! ## loops by an invariant -/
theorem goF_inv {nxt : Nat → Sto → Option (Option D)} {g : TF} {fb : SF} {n : Nat} (I : Nat → Sl → Sto → Prop) (item : Nat → D)
    (h : ∀ i τ S, i < n → I i τ S → nxt i S = some (some (item i)) ∧ ∃ τ1 τ2 S2, g (item i) S τ = some τ1 ∧ fb τ1 S = some (.nx τ2, S2) ∧ I (i + 1) τ2 S2)
    (he : ∀ τ S, I n τ S → nxt n S = some none) : ∀ (m i : Nat) (τ : Sl) (S : Sto), i ≤ n → n - i < m → I i τ S → ∃ τ' S', goF nxt g fb m i τ S = some (.nx τ', S') ∧ I n τ' S'
  | 0, i, τ, S, _, hm, _ => absurd hm (Nat.not_lt_zero _)
  | m + 1, i, τ, S, hi, hm, hI => by
    unfold goF
    by_cases e : i = n
    · subst e
      rw [he τ S hI]
      exact ⟨τ, S, rfl, hI⟩
    · obtain ⟨h1, τ1, τ2, S2, h2, h3, h4⟩ := h i τ S (by omega) hI
      rw [h1]
      simp only [h2, h3]
      exact goF_inv I item h he m (i + 1) τ2 S2 (by omega) (by omega) h4
theorem goC_inv {nxt : Nat → Sto → Option (Option D)} {g : TF} {t : BF} {fe : EF} {l : Nat} {τ0 : Sl} {n : Nat} (I : Nat → Sto → Prop) (item : Nat → D)
    (h : ∀ i S, i < n → I i S → nxt i S = some (some (item i)) ∧ ∃ τ1, g (item i) S τ0 = some τ1 ∧ ((∃ S1, t τ1 S = some (.ok false S1) ∧ I (i + 1) S1) ∨
      ∃ S1 y S2 acc, t τ1 S = some (.ok true S1) ∧ fe τ1 S1 = some (.ok y S2) ∧ S2[l]? = some (.lst acc) ∧ acc.length < sizeLine ∧ I (i + 1) (S2.set l (.lst (acc ++ [y])))))
    (he : ∀ S, I n S → nxt n S = some none) : ∀ (m i : Nat) (S : Sto), i ≤ n → n - i < m → I i S → ∃ S', goC nxt g t fe l τ0 m i S = some S' ∧ I n S'
  | 0, i, S, _, hm, _ => absurd hm (Nat.not_lt_zero _)
  | m + 1, i, S, hi, hm, hI => by
    unfold goC
    by_cases e : i = n
    · subst e
      rw [he S hI]
      exact ⟨S, rfl, hI⟩
    · obtain ⟨h1, τ1, h2, h3⟩ := h i S (by omega) hI
      rw [h1]
      rcases h3 with ⟨S1, h3, h4⟩ | ⟨S1, y, S2, acc, h3, h4, h5, h6, h7⟩
      · simp only [h2, h3]
        exact goC_inv I item h he m (i + 1) S1 (by omega) (by omega) h4
      · simp only [h2, h3, h4, h5, if_pos h6]
        exact goC_inv I item h he m (i + 1) _ (by omega) (by omega) h7
theorem goA_inv {nxt : Nat → Sto → Option (Option D)} {g : TF} {fe : EF} {k n : Nat} (I : Nat → Sto → Prop) (item : Nat → D)
    (h : ∀ i S, i < n → I i S → nxt i S = some (some (item i)) ∧ ∃ τ1 S1, g (item i) S (List.replicate k none) = some τ1 ∧ fe τ1 S = some (.ok (.bl true) S1) ∧ I (i + 1) S1)
    (he : ∀ S, I n S → nxt n S = some none) : ∀ (m i : Nat) (S : Sto), i ≤ n → n - i < m → I i S → ∃ S', goA nxt g fe k m i S = some (true, S') ∧ I n S'
  | 0, i, S, _, hm, _ => absurd hm (Nat.not_lt_zero _)
  | m + 1, i, S, hi, hm, hI => by
    unfold goA
    by_cases e : i = n
    · subst e
      rw [he S hI]
      exact ⟨S, rfl, hI⟩
    · obtain ⟨h1, τ1, S1, h2, h3, h4⟩ := h i S (by omega) hI
      rw [h1]
      simp only [h2, h3]
      exact goA_inv I item h he m (i + 1) S1 (by omega) (by omega) h4
theorem goK_inv {nxt : Nat → Sto → Option (Option D)} {g : TF} {fe : EF} {l : Nat} {τ0 : Sl} {n : Nat} (I : Nat → Sto → Prop) (item : Nat → D)
    (h : ∀ i S, i < n → I i S → nxt i S = some (some (item i)) ∧ ∃ τ1 y S2 k M num, g (item i) S τ0 = some τ1 ∧ fe τ1 S = some (.ok y S2) ∧ keyD y = some k ∧ S2[l]? = some (.ks M num) ∧ num + 1 < scanBound ∧
      I (i + 1) (S2.set l (.ks (fun j => M j || decide (j = k)) (if M k = true then num else num + 1))))
    (he : ∀ S, I n S → nxt n S = some none) : ∀ (m i : Nat) (S : Sto), i ≤ n → n - i < m → I i S → ∃ S', goK nxt g fe l τ0 m i S = some S' ∧ I n S'
  | 0, i, S, _, hm, _ => absurd hm (Nat.not_lt_zero _)
  | m + 1, i, S, hi, hm, hI => by
    unfold goK
    by_cases e : i = n
    · subst e
      rw [he S hI]
      exact ⟨S, rfl, hI⟩
    · obtain ⟨h1, τ1, y, S2, k, M, num, h2, h3, h4, h5, h6, h7⟩ := h i S (by omega) hI
      rw [h1]
      simp only [h2, h3, h4, h5, if_pos h6]
      exact goK_inv I item h he m (i + 1) _ (by omega) (by omega) h7
end Sb
end
section
set_option Elab.async false
set_option linter.all false
set_option maxRecDepth 100000
set_option maxHeartbeats 4000000
set_option exponentiation.threshold 100000
namespace Sb
open PySem PySem.Spec PyProof.Rows L2
theorem pre_get {S X : Sto} {i : Nat} {o : Ob} (h : S[i]? = some o) : (S ++ X)[i]? = some o := by
  rw [List.getElem?_append_left (List.getElem?_eq_some_iff.mp h).1]; exact h
theorem pow_le2 {a b : Nat} (h : a ≤ b) : 2 ^ a ≤ 2 ^ b := Nat.pow_le_pow_right (by decide) h
theorem log2_of {x : Int} {j k : Nat} (hj : 0 < k) (h0 : 0 ≤ x) (h : x < 2 ^ j) (hk : j ≤ k) : x.natAbs.log2 < k := by
  refine log2_lt hj (Nat.lt_of_lt_of_le (show x.natAbs < 2 ^ j from ?_) (pow_le2 hk))
  have e : ((x.natAbs : Nat) : Int) < ((2 ^ j : Nat) : Int) := by
    rw [Int.natCast_pow, Int.natAbs_of_nonneg h0]
    exact h
  exact Int.ofNat_lt.mp e
theorem spring_of {S : Sto} {d : D} {ns : List Int} (hd : seqD S d = some (ns.map D.int)) (hs : ∀ X, seqD (S ++ X) d = some (ns.map D.int)) (ht : ∀ ds, d ≠ .tup ds ∧ d ≠ .fl ds) :
    ∃ n X, M_law_spring [d] S = some (.ok (.loc n) (S ++ X)) ∧ Spr n 0 (S ++ X) ∧ S.length ≤ n ∧ ∀ o ∈ X, ∃ is : List Int, o = .lst (is.map D.int) := by
  obtain ⟨cs, hcs, hlen⟩ : ∃ cs : List Int, cutD (ns.map D.int) none (some 63) = cs.map D.int ∧ cs.length ≤ 63 := by
    refine ⟨(ns.drop _).take _, by unfold cutD; rw [← List.map_drop, ← List.map_take], ?_⟩
    rw [List.length_take]
    refine Nat.le_trans (Nat.min_le_left _ _) ?_
    have e : HT.sIx (ns.map D.int).length (ns.map D.int).length (some 63) = min 63 (ns.map D.int).length := HT.sIx_nat _ _ 63
    rw [e]
    omega
  have hsl : gSl d none (some 63) S = some (.loc S.length, S ++ [.lst (cs.map D.int)]) := by
    cases d with
    | tup ds => exact absurd rfl (ht ds).1
    | fl ds => exact absurd rfl (ht ds).2
    | _ => simp only [gSl, hd, Option.bind_some, hcs]
  have q1 : (1000000000000000000 : Int) = 10 ^ 18 := by decide
  have p60 : (1000000000000000000000000000000000000000000000000000000000000 : Int) = 10 ^ 60 := by decide
  have l60 : (Int.natAbs 1000000000000000000000000000000000000000000000000000000000000).log2 = 199 := by decide +kernel
  have l60' : Nat.log2 1000000000000000000000000000000000000000000000000000000000000 = 199 := by decide +kernel
  have l69 : Nat.log2 69069 = 16 := by decide +kernel
  -- the loop
  let I : Nat → Sl → Sto → Prop := fun i τ S' => S' = S ++ [.lst (cs.map D.int)] ∧ ∃ f s x, τ = [some d, some (.int f), some (.int s), x] ∧ 0 ≤ f ∧ f < 2 ^ (200 * (i + 1)) ∧ 0 ≤ s ∧ s < 2305843009213693951
  have loop := goF_inv (g := tN 3) (fb := sSeq (sIf (tB (eB gGeI (eCB gAbs (aCons (eVar 3) (aNil))) (eB gPow (eC (.int 10)) (eC (.int 18))))) (sSet 1 (eB gAdd (eB gMul (eVar 1) (eB gPow (eC (.int 10)) (eC (.int 60)))) (eB gMod (eCB gAbs (aCons (eVar 3) (aNil))) (eB gPow (eC (.int 10)) (eC (.int 60)))))) (sNop)) (sSet 2 (eB gMod (eB gAdd (eB gAdd (eB gMul (eVar 2) (eC (.int 69069))) (eB gMod (eVar 3) (eC (.int 2305843009213693921)))) (eC (.int 7))) (eC (.int 2305843009213693951)))))
    (nxt := fun i S' => (seqD S' (.loc S.length)).map fun es => es[i]?) (n := cs.length) I (fun i => .int (cs.getD i 0)) (fun i τ S' hi => ?_) (fun τ S' => ?_) (cs.length + 1) 0 [some d, some (.int 0), some (.int 88651), none] (S ++ [.lst (cs.map D.int)]) (Nat.zero_le _) (by omega) ⟨rfl, 0, 88651, none, rfl, by decide, by decide, by decide, by decide⟩
  · obtain ⟨τ', S', e1, rfl, f, s, x, rfl, hf0, hf, hs0, hs1⟩ := loop
    refine ⟨S.length + 1, [.lst (cs.map D.int), spr f s 0], ?_, ⟨f, s, 0, by rw [List.getElem?_append_right (by omega)]; simp, hf0, hs0, hs1, Int.le_refl 0, Int.le_refl 0⟩, by omega, fun o ho => ?_⟩
    rotate_left
    · rcases List.mem_cons.mp ho with q | q
      · exact ⟨cs, q⟩
      · simp at q; exact ⟨[f, s, 0], by rw [q]; rfl⟩
    have e0 : (seqD (S ++ [.lst (cs.map D.int)]) (.loc S.length)) = some (cs.map D.int) := by simp [seqD]
    have hsz : 3 ≤ sizeLine := by rw [sizeLine_eq]; decide
    simp [fnM, ini, m_law_spring, sSeq, sSet, sx, eC, sFor, iSeq, eSl, oNo, oSo, M.bnd, eVar, hsl, lft, wkD, e0]
    have e1' := e1
    simp only [seqD, List.length_map] at e1' ⊢
    rw [e1']
    simp [sRt, sx, eLst, aCons, aNil, M.bnd, eVar, eC, hsz]
  · rintro ⟨rfl, f, s, x, rfl, hf0, hf, hs0, hs1⟩
    have e0 : (seqD (S ++ [.lst (cs.map D.int)]) (.loc S.length)) = some (cs.map D.int) := by simp [seqD]
    refine ⟨by simp only [e0, Option.map_some, List.getElem?_map, List.getD_eq_getElem?_getD, List.getElem?_eq_getElem hi, Option.getD_some], ?_⟩
    generalize cs.getD i 0 = c
    have b2 : 199 + s.natAbs.log2 < 1000000 := by
      have := log2_of (k := 64) (x := s) (j := 61) (by decide) hs0 (by omega) (by decide)
      omega
    have b3 : s.natAbs.log2 + 16 < 1000000 := by omega
    have b1 : f.natAbs.log2 + 199 < 1000000 := by
      have := log2_of (k := 200 * 65) (x := f) (by decide) hf0 hf (by omega)
      omega
    let f2 : Int := if 10 ^ 18 ≤ (if c < 0 then -c else c) then f * 10 ^ 60 + (if c < 0 then -c else c) % 10 ^ 60 else f
    have hf2 : 0 ≤ f2 ∧ f2 < 2 ^ (200 * (i + 1 + 1)) := by
      have hm := Int.emod_nonneg (if c < 0 then -c else c) (show (10 : Int) ^ 60 ≠ 0 by decide)
      have hm2 := Int.emod_lt_of_pos (if c < 0 then -c else c) (show (0 : Int) < 10 ^ 60 by decide)
      have e2 : (2 : Int) ^ (200 * (i + 1 + 1)) = 2 ^ (200 * (i + 1)) * 2 ^ 200 := by rw [← Int.pow_add]; rfl
      have e3 : (10 : Int) ^ 60 < 2 ^ 200 := by decide
      have e4 : (0 : Int) < 2 ^ (200 * (i + 1)) := Int.pow_pos (by decide)
      generalize (2 : Int) ^ (200 * (i + 1)) = Z at *
      rw [e2]
      by_cases hc : 10 ^ 18 ≤ (if c < 0 then -c else c)
      · rw [show f2 = f * 10 ^ 60 + (if c < 0 then -c else c) % 10 ^ 60 from if_pos hc]
        have h5 : (f + 1) * 10 ^ 60 ≤ Z * 10 ^ 60 := Int.mul_le_mul_of_nonneg_right (by omega) (by decide)
        have h6 : Z * 10 ^ 60 ≤ Z * 2 ^ 200 := Int.mul_le_mul_of_nonneg_left (by omega) (by omega)
        have h7 : 0 ≤ f * 10 ^ 60 := Int.mul_nonneg hf0 (by decide)
        have h8 : (f + 1) * (10 : Int) ^ 60 = f * 10 ^ 60 + 10 ^ 60 := by rw [Int.add_mul, Int.one_mul]
        constructor <;> omega
      · rw [show f2 = f from if_neg hc]
        have h6 : Z * 1 ≤ Z * 2 ^ 200 := Int.mul_le_mul_of_nonneg_left (by decide) (by omega)
        constructor <;> omega
    refine ⟨_, [some d, some (.int f2), some (.int ((s * 69069 + c % 2305843009213693921 + 7) % 2305843009213693951)), some (.int c)], S ++ [.lst (cs.map D.int)], rfl, ?_, rfl, f2, _, _, rfl, hf2.1, hf2.2, Int.emod_nonneg _ (by decide), Int.emod_lt_of_pos _ (by decide)⟩
    by_cases hc : 10 ^ 18 ≤ (if c < 0 then -c else c)
    · have hc' := hc
      rw [← q1] at hc'
      have e5 : f2 = f * 10 ^ 60 + (if c < 0 then -c else c) % 10 ^ 60 := if_pos hc
      rw [e5, ← p60]
      simp [fnM, ini, sSeq, sNop, sEx, sRt, sIf, sSet, sPut, putD, sAs, sRaise, sx, st', tB, tAn, tOr', tNt, tAll, eB, eVar, eC, eTup, eLst, eCB, eCl, eBM, eIf, eAnd, eOr, eNot, eCh, eSl, oNo, oSo, aNil, aCons, M.bnd, lft, eIs, eIs2, kindD, kb_NoneType_int, kb_NoneType_bool, kb_NoneType_str, kb_NoneType_list, kb_NoneType_tuple, kb_bool_int, kb_bool_bool, kb_bool_str, kb_bool_list, kb_bool_tuple, kb_int_int, kb_int_bool, kb_int_str, kb_int_list, kb_int_tuple, kb_str_int, kb_str_bool, kb_str_str, kb_str_list, kb_str_tuple, kb_tuple_int, kb_tuple_bool, kb_tuple_str, kb_tuple_list, kb_tuple_tuple, kb_list_int, kb_list_bool, kb_list_str, kb_list_list, kb_list_tuple, kb_dict_int, kb_dict_bool, kb_dict_str, kb_dict_list, kb_dict_tuple, truD, gI, gAdd, gSub, gMul, gMod, gDiv, gPow, gLtI, gLe, gGtI, gGeI, gIx, gLen, gLenX, gAbs, gInt, gMax, gMax2, gMin2, gTuple, gList, seqD, listD, atI, ixN, tyD, gAppend, gPopAt, gInsert, hc', b1, b3, l60, l60', l69]
    · have hc' := hc
      rw [← q1] at hc'
      have e5 : f2 = f := if_neg hc
      rw [e5]
      simp [fnM, ini, sSeq, sNop, sEx, sRt, sIf, sSet, sPut, putD, sAs, sRaise, sx, st', tB, tAn, tOr', tNt, tAll, eB, eVar, eC, eTup, eLst, eCB, eCl, eBM, eIf, eAnd, eOr, eNot, eCh, eSl, oNo, oSo, aNil, aCons, M.bnd, lft, eIs, eIs2, kindD, kb_NoneType_int, kb_NoneType_bool, kb_NoneType_str, kb_NoneType_list, kb_NoneType_tuple, kb_bool_int, kb_bool_bool, kb_bool_str, kb_bool_list, kb_bool_tuple, kb_int_int, kb_int_bool, kb_int_str, kb_int_list, kb_int_tuple, kb_str_int, kb_str_bool, kb_str_str, kb_str_list, kb_str_tuple, kb_tuple_int, kb_tuple_bool, kb_tuple_str, kb_tuple_list, kb_tuple_tuple, kb_list_int, kb_list_bool, kb_list_str, kb_list_list, kb_list_tuple, kb_dict_int, kb_dict_bool, kb_dict_str, kb_dict_list, kb_dict_tuple, truD, gI, gAdd, gSub, gMul, gMod, gDiv, gPow, gLtI, gLe, gGtI, gGeI, gIx, gLen, gLenX, gAbs, gInt, gMax, gMax2, gMin2, gTuple, gList, seqD, listD, atI, ixN, tyD, gAppend, gPopAt, gInsert, hc', b1, b3, l60, l60', l69]
  · rintro ⟨rfl, f, s, x, rfl, hf0, hf, hs0, hs1⟩
    have e0 : (seqD (S ++ [.lst (cs.map D.int)]) (.loc S.length)) = some (cs.map D.int) := by simp [seqD]
    simp [e0]
end Sb
end
section
set_option Elab.async false
set_option linter.all false
set_option maxRecDepth 100000
set_option maxHeartbeats 4000000
namespace Sb
open PySem PySem.Spec PyProof.Rows L2
/-- a name: one to eight small letters -/
structure Nm (x : Str) : Prop where
  lo : 1 ≤ x.cps.size
  hi : x.cps.size ≤ 8
  let_ : ∀ c ∈ x.cps.toList, 97 ≤ c ∧ c ≤ 122
abbrev Card := Str × Int
abbrev dC (c : Card) : D := .tup [.str c.1, .int c.2]
abbrev dK (l : List Card) : D := .tup (l.map dC)
abbrev pC (c : Card) : PyData := .tuple [.str c.1, .int c.2]
theorem toPy_str (n : Nat) (S : Sto) (x : Str) : toPy (n + 1) S (.str x) = some (.str x) := rfl
theorem toPy_int (n : Nat) (S : Sto) (x : Int) : toPy (n + 1) S (.int x) = some (.int x) := rfl
theorem mapM_some {α β : Type} {f : α → Option β} {g : α → β} : ∀ {l : List α}, (∀ x ∈ l, f x = some (g x)) → l.mapM f = some (l.map g)
  | [], _ => rfl
  | x :: l, h => by
    rw [List.mapM_cons, h x List.mem_cons_self, mapM_some fun y hy => h y (List.mem_cons_of_mem _ hy)]
    rfl
theorem toPy_names (n : Nat) (S : Sto) (k : Nat) (xs : List Str) (h : S[k]? = some (.lst (xs.map D.str))) : toPy (n + 2) S (.loc k) = some (.list (xs.map PyData.str)) := by
  show (match S[k]? with | some (.lst ds) => (ds.mapM (toPy (n + 1) S)).map PyData.list | _ => none) = _
  rw [h]
  show ((xs.map D.str).mapM (toPy (n + 1) S)).map PyData.list = _
  rw [List.mapM_map, mapM_some (f := toPy (n + 1) S ∘ D.str) (g := PyData.str) fun c _ => rfl]
  rfl
theorem eqv_str (a b : Str) : PyData.eqv (.str a) (.str b) = decide (a = b) := by
  show (a == b) = _
  by_cases h : a = b
  · simp [h]
  · simp [h]
theorem nm_ok {x : Str} (h : Nm x) : PyData.canLay0 (.str x) = true := by
  show x.cps.all (fun c => decide (c < 0x110000)) = true
  rw [Array.all_eq_true_iff_forall_mem]
  intro c hc
  have := h.let_ c (by simpa using hc)
  exact decide_eq_true (by omega)
theorem lay_all {α : Type} {f : α → PyData} : ∀ {l : List α}, (∀ x ∈ l, PyData.canLay0 (f x) = true) → PyData.canLayAll0 (l.map f) = true
  | [], _ => rfl
  | x :: l, h => by
    show (PyData.canLay0 (f x) && PyData.canLayAll0 (l.map f)) = true
    rw [h x List.mem_cons_self, lay_all fun y hy => h y (List.mem_cons_of_mem _ hy)]
    rfl
theorem depth_all {α : Type} {f : α → PyData} {k : Nat} : ∀ {l : List α}, (∀ x ∈ l, PyData.depth (f x) ≤ k) → PyData.depthAll (l.map f) ≤ k
  | [], _ => Nat.zero_le _
  | x :: l, h => by
    show max (PyData.depth (f x)) (PyData.depthAll (l.map f)) ≤ k
    exact Nat.max_le.mpr ⟨h x List.mem_cons_self, depth_all fun y hy => h y (List.mem_cons_of_mem _ hy)⟩
theorem shp_str {x : Str} (h : Nm x) : SeqAt.shaped (.str x) = true := by
  show (_ && decide ((0 : Nat) ≤ 64)) = true
  rw [nm_ok h]; rfl
theorem dep_card (c : Card) : PyData.depth (pC c) ≤ 1 := by
  show max 0 (max 0 0) + 1 ≤ 1
  decide
theorem shp_names {l : List Str} (h : ∀ c ∈ l, Nm c) : SeqAt.shaped (.list (l.map PyData.str)) = true := by
  unfold SeqAt.shaped
  have e1 : PyData.canLay0 (.list (l.map PyData.str)) = true := lay_all fun c hc => nm_ok (h c hc)
  have e2 : PyData.depth (.list (l.map PyData.str)) ≤ 1 := Nat.succ_le_succ (depth_all (k := 0) fun c _ => Nat.le_refl 0)
  rw [e1, Bool.true_and]
  exact decide_eq_true (Nat.le_trans e2 (by decide))
theorem any_str (x : Str) : ∀ r : List Str, (r.any fun y => PyData.eqv (.str y) (.str x)) = decide (x ∈ r)
  | [] => by simp
  | b :: q => by
    rw [List.any_cons, eqv_str, any_str x q]
    by_cases z : b = x
    · simp [z]
    · have z' : x ≠ b := fun q => z q.symm
      simp [z, z']
theorem gIn_names {neg : Bool} {S : Sto} {j : Nat} {x : Str} {m : List Str} (h2 : S[j]? = some (.lst (m.map D.str))) (hl : Nm x) (hm : ∀ c ∈ m, Nm c) : gIn neg (.str x) (.loc j) S = some (.bl (if neg then !decide (x ∈ m) else decide (x ∈ m)), S) := by
  unfold gIn
  rw [toPy_str 7, toPy_names 6 S j m h2]
  have e : ((m.map PyData.str).any fun z => PyData.eqv z (.str x)) = decide (x ∈ m) := by
    rw [List.any_map]
    exact any_str x m
  simp only [shp_str hl, shp_names hm, and_self, if_true, e]
end Sb
end
section
set_option Elab.async false
set_option linter.all false
set_option maxRecDepth 100000
set_option maxHeartbeats 4000000
namespace Sb
open PySem PySem.Spec PyProof.Rows L2
variable {K : PySem.W.Frag} {S : Sto}
/-! ## what the program's defs do -/
def isCard (S : Sto) (e : D) (c : Card) : Prop := e = dC c ∨ e = .fl [.str c.1, .int c.2] ∨ ∃ n, e = .loc n ∧ S[n]? = some (.lst [.str c.1, .int c.2])
def isDeck (S : Sto) (d : D) (l : List Card) : Prop := ∃ es : List D, (d = .tup es ∨ d = .fl es ∨ ∃ n, d = .loc n ∧ S[n]? = some (.lst es)) ∧ es.length = l.length ∧ ∀ (i : Nat) (e : D) (c : Card), es[i]? = some e → l[i]? = some c → isCard S e c
theorem isCard.app {e : D} {c : Card} {X : Sto} (h : isCard S e c) : isCard (S ++ X) e c := h.imp id fun h => h.imp id fun ⟨n, h1, h2⟩ => ⟨n, h1, pre_get h2⟩
theorem isDeck.app {d : D} {l : List Card} {X : Sto} (h : isDeck S d l) : isDeck (S ++ X) d l := by
  obtain ⟨es, h1, h2, h3⟩ := h
  exact ⟨es, h1.imp id fun h => h.imp id fun ⟨n, a, b⟩ => ⟨n, a, pre_get b⟩, h2, fun i e c a b => (h3 i e c a b).app⟩
theorem isDeck_dK (l : List Card) : isDeck S (dK l) l := ⟨l.map dC, .inl rfl, by simp, fun i e c h1 h2 => by
  rw [List.getElem?_map, h2] at h1
  cases h1
  exact .inl rfl⟩
theorem isCard.seq {e : D} {c : Card} (h : isCard S e c) : seqD S e = some [.str c.1, .int c.2] := by
  rcases h with rfl | rfl | ⟨n, rfl, h⟩
  · rfl
  · rfl
  · simp [seqD, h]
structure DeckOk (l : List Card) : Prop where
  lo : 1 ≤ l.length
  hi : l.length ≤ 40
  nm : ∀ c ∈ l, Nm c.1
  dep : ∀ c ∈ l, 0 ≤ c.2
  nd : (l.map (·.1)).Nodup
theorem is_whole_int {i : Int} : M_is_whole [.int i] S = some (.ok (.bl true) S) := by
  simp [fnM, ini, sSeq, sNop, sEx, sRt, sIf, sSet, sPut, putD, sAs, sRaise, sx, st', tB, tAn, tOr', tNt, tAll, eB, eVar, eC, eTup, eLst, eCB, eCl, eBM, eIf, eAnd, eOr, eNot, eCh, eSl, oNo, oSo, aNil, aCons, M.bnd, lft, eIs, eIs2, kindD, kb_NoneType_int, kb_NoneType_bool, kb_NoneType_str, kb_NoneType_list, kb_NoneType_tuple, kb_bool_int, kb_bool_bool, kb_bool_str, kb_bool_list, kb_bool_tuple, kb_int_int, kb_int_bool, kb_int_str, kb_int_list, kb_int_tuple, kb_str_int, kb_str_bool, kb_str_str, kb_str_list, kb_str_tuple, kb_tuple_int, kb_tuple_bool, kb_tuple_str, kb_tuple_list, kb_tuple_tuple, kb_list_int, kb_list_bool, kb_list_str, kb_list_list, kb_list_tuple, kb_dict_int, kb_dict_bool, kb_dict_str, kb_dict_list, kb_dict_tuple, truD, gI, gAdd, gSub, gMul, gMod, gDiv, gPow, gLtI, gLe, gGtI, gGeI, gIx, gLen, gLenX, gAbs, gInt, gMax, gMax2, gMin2, gTuple, gList, seqD, listD, atI, ixN, tyD, gAppend, gPopAt, gInsert, m_is_whole]
theorem is_depth_ok {i : Int} (h : 0 ≤ i) : M_is_depth [.int i] S = some (.ok (.bl true) S) := by
  simp [fnM, ini, sSeq, sNop, sEx, sRt, sIf, sSet, sPut, putD, sAs, sRaise, sx, st', tB, tAn, tOr', tNt, tAll, eB, eVar, eC, eTup, eLst, eCB, eCl, eBM, eIf, eAnd, eOr, eNot, eCh, eSl, oNo, oSo, aNil, aCons, M.bnd, lft, eIs, eIs2, kindD, kb_NoneType_int, kb_NoneType_bool, kb_NoneType_str, kb_NoneType_list, kb_NoneType_tuple, kb_bool_int, kb_bool_bool, kb_bool_str, kb_bool_list, kb_bool_tuple, kb_int_int, kb_int_bool, kb_int_str, kb_int_list, kb_int_tuple, kb_str_int, kb_str_bool, kb_str_str, kb_str_list, kb_str_tuple, kb_tuple_int, kb_tuple_bool, kb_tuple_str, kb_tuple_list, kb_tuple_tuple, kb_list_int, kb_list_bool, kb_list_str, kb_list_list, kb_list_tuple, kb_dict_int, kb_dict_bool, kb_dict_str, kb_dict_list, kb_dict_tuple, truD, gI, gAdd, gSub, gMul, gMod, gDiv, gPow, gLtI, gLe, gGtI, gGeI, gIx, gLen, gLenX, gAbs, gInt, gMax, gMax2, gMin2, gTuple, gList, seqD, listD, atI, ixN, tyD, gAppend, gPopAt, gInsert, m_is_depth, m_is_whole, h]
theorem is_listed_ok {e : D} {c : Card} (h : isCard S e c) : M_is_listed [e] S = some (.ok (.bl true) S) := by
  rcases h with rfl | rfl | ⟨n, rfl, h⟩
  · simp [fnM, ini, sSeq, sNop, sEx, sRt, sIf, sSet, sPut, putD, sAs, sRaise, sx, st', tB, tAn, tOr', tNt, tAll, eB, eVar, eC, eTup, eLst, eCB, eCl, eBM, eIf, eAnd, eOr, eNot, eCh, eSl, oNo, oSo, aNil, aCons, M.bnd, lft, eIs, eIs2, kindD, kb_NoneType_int, kb_NoneType_bool, kb_NoneType_str, kb_NoneType_list, kb_NoneType_tuple, kb_bool_int, kb_bool_bool, kb_bool_str, kb_bool_list, kb_bool_tuple, kb_int_int, kb_int_bool, kb_int_str, kb_int_list, kb_int_tuple, kb_str_int, kb_str_bool, kb_str_str, kb_str_list, kb_str_tuple, kb_tuple_int, kb_tuple_bool, kb_tuple_str, kb_tuple_list, kb_tuple_tuple, kb_list_int, kb_list_bool, kb_list_str, kb_list_list, kb_list_tuple, kb_dict_int, kb_dict_bool, kb_dict_str, kb_dict_list, kb_dict_tuple, truD, gI, gAdd, gSub, gMul, gMod, gDiv, gPow, gLtI, gLe, gGtI, gGeI, gIx, gLen, gLenX, gAbs, gInt, gMax, gMax2, gMin2, gTuple, gList, seqD, listD, atI, ixN, tyD, gAppend, gPopAt, gInsert, m_is_listed]
  · simp [fnM, ini, sSeq, sNop, sEx, sRt, sIf, sSet, sPut, putD, sAs, sRaise, sx, st', tB, tAn, tOr', tNt, tAll, eB, eVar, eC, eTup, eLst, eCB, eCl, eBM, eIf, eAnd, eOr, eNot, eCh, eSl, oNo, oSo, aNil, aCons, M.bnd, lft, eIs, eIs2, kindD, kb_NoneType_int, kb_NoneType_bool, kb_NoneType_str, kb_NoneType_list, kb_NoneType_tuple, kb_bool_int, kb_bool_bool, kb_bool_str, kb_bool_list, kb_bool_tuple, kb_int_int, kb_int_bool, kb_int_str, kb_int_list, kb_int_tuple, kb_str_int, kb_str_bool, kb_str_str, kb_str_list, kb_str_tuple, kb_tuple_int, kb_tuple_bool, kb_tuple_str, kb_tuple_list, kb_tuple_tuple, kb_list_int, kb_list_bool, kb_list_str, kb_list_list, kb_list_tuple, kb_dict_int, kb_dict_bool, kb_dict_str, kb_dict_list, kb_dict_tuple, truD, gI, gAdd, gSub, gMul, gMod, gDiv, gPow, gLtI, gLe, gGtI, gGeI, gIx, gLen, gLenX, gAbs, gInt, gMax, gMax2, gMin2, gTuple, gList, seqD, listD, atI, ixN, tyD, gAppend, gPopAt, gInsert, m_is_listed]
  · simp [fnM, ini, sSeq, sNop, sEx, sRt, sIf, sSet, sPut, putD, sAs, sRaise, sx, st', tB, tAn, tOr', tNt, tAll, eB, eVar, eC, eTup, eLst, eCB, eCl, eBM, eIf, eAnd, eOr, eNot, eCh, eSl, oNo, oSo, aNil, aCons, M.bnd, lft, eIs, eIs2, kindD, kb_NoneType_int, kb_NoneType_bool, kb_NoneType_str, kb_NoneType_list, kb_NoneType_tuple, kb_bool_int, kb_bool_bool, kb_bool_str, kb_bool_list, kb_bool_tuple, kb_int_int, kb_int_bool, kb_int_str, kb_int_list, kb_int_tuple, kb_str_int, kb_str_bool, kb_str_str, kb_str_list, kb_str_tuple, kb_tuple_int, kb_tuple_bool, kb_tuple_str, kb_tuple_list, kb_tuple_tuple, kb_list_int, kb_list_bool, kb_list_str, kb_list_list, kb_list_tuple, kb_dict_int, kb_dict_bool, kb_dict_str, kb_dict_list, kb_dict_tuple, truD, gI, gAdd, gSub, gMul, gMod, gDiv, gPow, gLtI, gLe, gGtI, gGeI, gIx, gLen, gLenX, gAbs, gInt, gMax, gMax2, gMin2, gTuple, gList, seqD, listD, atI, ixN, tyD, gAppend, gPopAt, gInsert, m_is_listed, h]
theorem is_listed_deck {d : D} {l : List Card} (h : isDeck S d l) : M_is_listed [d] S = some (.ok (.bl true) S) := by
  obtain ⟨es, h1 | h1 | ⟨n, h1, h2⟩, _⟩ := h
  · subst h1; simp [fnM, ini, sSeq, sNop, sEx, sRt, sIf, sSet, sPut, putD, sAs, sRaise, sx, st', tB, tAn, tOr', tNt, tAll, eB, eVar, eC, eTup, eLst, eCB, eCl, eBM, eIf, eAnd, eOr, eNot, eCh, eSl, oNo, oSo, aNil, aCons, M.bnd, lft, eIs, eIs2, kindD, kb_NoneType_int, kb_NoneType_bool, kb_NoneType_str, kb_NoneType_list, kb_NoneType_tuple, kb_bool_int, kb_bool_bool, kb_bool_str, kb_bool_list, kb_bool_tuple, kb_int_int, kb_int_bool, kb_int_str, kb_int_list, kb_int_tuple, kb_str_int, kb_str_bool, kb_str_str, kb_str_list, kb_str_tuple, kb_tuple_int, kb_tuple_bool, kb_tuple_str, kb_tuple_list, kb_tuple_tuple, kb_list_int, kb_list_bool, kb_list_str, kb_list_list, kb_list_tuple, kb_dict_int, kb_dict_bool, kb_dict_str, kb_dict_list, kb_dict_tuple, truD, gI, gAdd, gSub, gMul, gMod, gDiv, gPow, gLtI, gLe, gGtI, gGeI, gIx, gLen, gLenX, gAbs, gInt, gMax, gMax2, gMin2, gTuple, gList, seqD, listD, atI, ixN, tyD, gAppend, gPopAt, gInsert, m_is_listed]
  · subst h1; simp [fnM, ini, sSeq, sNop, sEx, sRt, sIf, sSet, sPut, putD, sAs, sRaise, sx, st', tB, tAn, tOr', tNt, tAll, eB, eVar, eC, eTup, eLst, eCB, eCl, eBM, eIf, eAnd, eOr, eNot, eCh, eSl, oNo, oSo, aNil, aCons, M.bnd, lft, eIs, eIs2, kindD, kb_NoneType_int, kb_NoneType_bool, kb_NoneType_str, kb_NoneType_list, kb_NoneType_tuple, kb_bool_int, kb_bool_bool, kb_bool_str, kb_bool_list, kb_bool_tuple, kb_int_int, kb_int_bool, kb_int_str, kb_int_list, kb_int_tuple, kb_str_int, kb_str_bool, kb_str_str, kb_str_list, kb_str_tuple, kb_tuple_int, kb_tuple_bool, kb_tuple_str, kb_tuple_list, kb_tuple_tuple, kb_list_int, kb_list_bool, kb_list_str, kb_list_list, kb_list_tuple, kb_dict_int, kb_dict_bool, kb_dict_str, kb_dict_list, kb_dict_tuple, truD, gI, gAdd, gSub, gMul, gMod, gDiv, gPow, gLtI, gLe, gGtI, gGeI, gIx, gLen, gLenX, gAbs, gInt, gMax, gMax2, gMin2, gTuple, gList, seqD, listD, atI, ixN, tyD, gAppend, gPopAt, gInsert, m_is_listed]
  · subst h1; simp [fnM, ini, sSeq, sNop, sEx, sRt, sIf, sSet, sPut, putD, sAs, sRaise, sx, st', tB, tAn, tOr', tNt, tAll, eB, eVar, eC, eTup, eLst, eCB, eCl, eBM, eIf, eAnd, eOr, eNot, eCh, eSl, oNo, oSo, aNil, aCons, M.bnd, lft, eIs, eIs2, kindD, kb_NoneType_int, kb_NoneType_bool, kb_NoneType_str, kb_NoneType_list, kb_NoneType_tuple, kb_bool_int, kb_bool_bool, kb_bool_str, kb_bool_list, kb_bool_tuple, kb_int_int, kb_int_bool, kb_int_str, kb_int_list, kb_int_tuple, kb_str_int, kb_str_bool, kb_str_str, kb_str_list, kb_str_tuple, kb_tuple_int, kb_tuple_bool, kb_tuple_str, kb_tuple_list, kb_tuple_tuple, kb_list_int, kb_list_bool, kb_list_str, kb_list_list, kb_list_tuple, kb_dict_int, kb_dict_bool, kb_dict_str, kb_dict_list, kb_dict_tuple, truD, gI, gAdd, gSub, gMul, gMod, gDiv, gPow, gLtI, gLe, gGtI, gGeI, gIx, gLen, gLenX, gAbs, gInt, gMax, gMax2, gMin2, gTuple, gList, seqD, listD, atI, ixN, tyD, gAppend, gPopAt, gInsert, m_is_listed, h2]
theorem letter_lt {c : Nat} (h1 : 97 ≤ c) (h2 : c ≤ 122) : gLe (.str "a") (.str ⟨#[c]⟩) S = some (.bl true, S) ∧ gLe (.str ⟨#[c]⟩) (.str "z") S = some (.bl true, S) := by
  have ea : (("a" : Str)).cps.toList = [97] := by decide +kernel
  have ez : (("z" : Str)).cps.toList = [122] := by decide +kernel
  constructor
  · simp only [gLe, ea]
    have : ¬ ([c] < [97]) := by
      intro h
      rcases List.cons_lt_cons_iff.mp h with h | ⟨_, h⟩
      · omega
      · exact absurd h (by simp)
    simp [this]
  · simp only [gLe, ez]
    have : ¬ ([122] < [c]) := by
      intro h
      rcases List.cons_lt_cons_iff.mp h with h | ⟨_, h⟩
      · omega
      · exact absurd h (by simp)
    simp [this]
theorem is_name_ok {x : Str} (h : Nm x) : M_is_name [.str x] S = some (.ok (.bl true) S) := by
  have h1 := h.lo
  have h2 := h.hi
  have hs : x.length ≤ sizeLine := by rw [sizeLine_eq]; show x.cps.size ≤ _; omega
  have hl1 : (1 : Int) ≤ (x.length : Int) := by show (1 : Int) ≤ (x.cps.size : Int); omega
  have hl2 : (x.length : Int) ≤ 8 := by show (x.cps.size : Int) ≤ 8; omega
  have loop := goA_inv (g := tN 1) (k := 2) (fe := eCh gLe gLe (eC (.str "a")) (eVar 1) (eC (.str "z"))) (nxt := fun i _ => some ((x.cps[i]?).map fun c => .str ⟨#[c]⟩)) (n := x.cps.size)
    (fun _ S' => S' = S) (fun i => .str ⟨#[x.cps.getD i 0]⟩) (fun i S' hi e => ?_) (fun S' e => by simp) (x.cps.size + 1) 0 S (Nat.zero_le _) (by omega) rfl
  · obtain ⟨S', e1, rfl⟩ := loop
    simp [fnM, ini, sSeq, sNop, sEx, sRt, sIf, sSet, sPut, putD, sAs, sRaise, sx, st', tB, tAn, tOr', tNt, tAll, eB, eVar, eC, eTup, eLst, eCB, eCl, eBM, eIf, eAnd, eOr, eNot, eCh, eSl, oNo, oSo, aNil, aCons, M.bnd, lft, eIs, eIs2, kindD, kb_NoneType_int, kb_NoneType_bool, kb_NoneType_str, kb_NoneType_list, kb_NoneType_tuple, kb_bool_int, kb_bool_bool, kb_bool_str, kb_bool_list, kb_bool_tuple, kb_int_int, kb_int_bool, kb_int_str, kb_int_list, kb_int_tuple, kb_str_int, kb_str_bool, kb_str_str, kb_str_list, kb_str_tuple, kb_tuple_int, kb_tuple_bool, kb_tuple_str, kb_tuple_list, kb_tuple_tuple, kb_list_int, kb_list_bool, kb_list_str, kb_list_list, kb_list_tuple, kb_dict_int, kb_dict_bool, kb_dict_str, kb_dict_list, kb_dict_tuple, truD, gI, gAdd, gSub, gMul, gMod, gDiv, gPow, gLtI, gLe, gGtI, gGeI, gIx, gLen, gLenX, gAbs, gInt, gMax, gMax2, gMin2, gTuple, gList, seqD, listD, atI, ixN, tyD, gAppend, gPopAt, gInsert, m_is_name, hs, hl1, hl2, eAll, iSeq, wkD, e1]
  · subst e
    refine ⟨by simp [hi, Array.getD], _, S', rfl, ?_, rfl⟩
    have hm : x.cps.getD i 0 ∈ x.cps.toList := by simp [Array.getD, hi]
    obtain ⟨a, b⟩ := letter_lt (S := S') (h.let_ _ hm).1 (h.let_ _ hm).2
    generalize x.cps.getD i 0 = c at a b ⊢
    simp [eCh, eC, eVar, M.bnd, a, b, lft]
theorem is_card_ok {e : D} {c : Card} (h : isCard S e c) (hn : Nm c.1) (hd : 0 ≤ c.2) : M_is_card [e] S = some (.ok (.bl true) S) := by
  have hq := h.seq
  have e1 := is_listed_ok h
  have e2 := is_name_ok (S := S) hn
  have e3 := is_depth_ok (S := S) hd
  have g0 : gLenX [e] S = some (.int 2, S) := by
    rcases h with rfl | rfl | ⟨n, rfl, h⟩
    · rfl
    · rfl
    · simp [gLenX, gLen, seqD, h]
  have g1 : gIx e (.int 0) S = some (.str c.1, S) := by
    rcases h with rfl | rfl | ⟨n, rfl, h⟩
    · rfl
    · rfl
    · simp [gIx, seqD, h, atI, ixN]
  have g2 : gIx e (.int 1) S = some (.int c.2, S) := by
    rcases h with rfl | rfl | ⟨n, rfl, h⟩
    · rfl
    · rfl
    · simp [gIx, seqD, h, atI, ixN]
  have g3 : gEq true (.int 2) (.int 2) S = some (.bl false, S) := by
    have z : SeqAt.shaped (.int 2) = true := by decide +kernel
    have z2 : PyData.eqv (.int 2) (.int 2) = true := by decide +kernel
    simp [gEq, toPy, z, z2]
  simp [fnM, ini, m_is_card, sSeq, sIf, st', tOr', tNt, tB, eCl, aCons, aNil, M.bnd, eVar, e1, eB, eCB, g0, g1, g2, g3, lft, eC, sNop, sRt, sx, eAnd, e2, e3, truD]
theorem seq_deck {d : D} {l : List Card} (h : isDeck S d l) : ∃ (es : List D) (nn : Nat → Sto → Option (Option D)), seqD S d = some es ∧ es.length = l.length ∧ (∀ (i : Nat) (e : D) (c : Card), es[i]? = some e → l[i]? = some c → isCard S e c) ∧ gLenX [d] S = some (.int l.length, S) ∧
    (∀ X, wkD (S ++ X) d = some ⟨es.length, nn⟩) ∧ ∀ X i, nn i (S ++ X) = some es[i]? := by
  obtain ⟨es, h1 | h1 | ⟨n, h1, h2⟩, h3, h4⟩ := h
  · subst h1
    exact ⟨es, fun i _ => some es[i]?, rfl, h3, h4, by rw [← h3]; rfl, fun X => rfl, fun _ _ => rfl⟩
  · subst h1
    exact ⟨es, fun i _ => some es[i]?, rfl, h3, h4, by rw [← h3]; rfl, fun X => rfl, fun _ _ => rfl⟩
  · subst h1
    refine ⟨es, fun i S => (seqD S (.loc n)).map fun es => es[i]?, by simp [seqD, h2], h3, h4, by simp [gLenX, gLen, seqD, h2, h3], fun X => ?_, fun X i => ?_⟩
    · simp [wkD, seqD, pre_get h2]
    · simp [seqD, pre_get h2]
theorem set_last (S : Sto) (o o' : Ob) : List.set (S ++ [o]) (List.length S) o' = S ++ [o'] := by
  induction S with
  | nil => rfl
  | cons a r ih => simpa using ih
theorem set_last2 (S : Sto) (o1 o o' : Ob) : List.set (S ++ [o1] ++ [o]) (List.length S + 1) o' = S ++ [o1] ++ [o'] := by
  have := set_last (S ++ [o1]) o o'
  simpa using this
theorem get_last (S : Sto) (a : Ob) : (S ++ [a] : Sto)[List.length S]? = some a := by
  induction S with
  | nil => rfl
  | cons x r ih => simpa using ih
theorem get_last2 (S : Sto) (a b : Ob) : (S ++ [a] ++ [b] : Sto)[List.length S + 1]? = some b := by
  induction S with
  | nil => rfl
  | cons x r ih => simpa using ih
theorem app2 (S : Sto) (a b : Ob) : (S ++ [a, b] : Sto) = S ++ [a] ++ [b] := by
  induction S with
  | nil => rfl
  | cons x r ih => simpa using ih
theorem getElem_lt {α : Type} [Inhabited α] {l : List α} {i : Nat} (h : i < l.length) : l[i]? = some (l.getD i default) := by
  rw [List.getD_eq_getElem?_getD, List.getElem?_eq_getElem h]; rfl
theorem deck_of_okB {d : D} {l : List Card} (h : isDeck S d l) (ok : DeckOk l) : ∃ X, M_deck_of K [d] S = some (.ok (dK l) (S ++ X)) ∧ ∀ o ∈ X, bdO 0 o = true := by
  obtain ⟨es, nn, hq, hlen, hc, hL, hw, hnx⟩ := seq_deck h
  have hL2 := is_listed_deck h
  have lo := ok.lo
  have hi := ok.hi
  have a1 : (1 : Int) ≤ (l.length : Int) := by omega
  have a2 : (l.length : Int) ≤ 40 := by omega
  have hw0 := hw []
  rw [List.append_nil] at hw0
  have hnx0 := hnx []
  rw [List.append_nil] at hnx0
  -- all are cards
  have L1 := goA_inv (g := tN 1) (k := 5) (fe := eCl M_is_card 1 (aCons (eVar 1) aNil)) (nxt := nn) (n := es.length) (fun _ S' => S' = S) (fun i => es.getD i default)
    (fun i S' hi' e => by
      subst e
      have e1 := getElem_lt hi'
      refine ⟨(hnx0 i).trans (by rw [e1]), _, S', rfl, ?_, rfl⟩
      have hi2 : i < l.length := by omega
      have e2 := List.getElem?_eq_getElem hi2
      have ic := hc i _ _ e1 e2
      have mem := List.getElem_mem hi2
      have := is_card_ok ic (ok.nm _ mem) (ok.dep _ mem)
      generalize es.getD i default = ee at this ⊢
      simp [eCl, aCons, aNil, M.bnd, eVar, this]) (fun S' e => by subst e; rw [hnx0]; simp) (es.length + 1) 0 S (Nat.zero_le _) (by omega) rfl
  obtain ⟨S1, L1, rfl⟩ := L1
  -- the cards
  have L2 := goC_inv (g := tN2 3 4) (t := tAll) (fe := eTup (aCons (eVar 3) (aCons (eVar 4) aNil))) (l := S1.length) (τ0 := [some d, none, none, none, none]) (nxt := nn) (n := es.length)
    (fun i S' => S' = S1 ++ [.lst ((l.take i).map dC)]) (fun i => es.getD i default)
    (fun i S' hi' e => by
      subst e
      have e1 := getElem_lt hi'
      have hi2 : i < l.length := by omega
      have e2 := List.getElem?_eq_getElem hi2
      have ic := hc i _ _ e1 e2
      have mem := List.getElem_mem hi2
      refine ⟨(hnx _ i).trans (by rw [e1]), [some d, none, none, some (.str (l[i]).1), some (.int (l[i]).2)], ?_, .inr ⟨S1 ++ [.lst ((l.take i).map dC)], dC l[i], S1 ++ [.lst ((l.take i).map dC)], (l.take i).map dC, rfl, ?_, ?_, ?_, ?_⟩⟩
      · have iq := (ic.app (X := [.lst ((l.take i).map dC)])).seq
        generalize es.getD i default = ee at iq ⊢
        simp only [tN2, iq]
        rfl
      · have hz : 2 ≤ sizeLine := by rw [sizeLine_eq]; decide
        simp [eTup, aCons, aNil, M.bnd, eVar, hz]
      · simp
      · have hz := sizeLine_eq
        simp only [List.length_map, List.length_take]; omega
      · rw [set_last]
        rw [show (l.take (i + 1)) = l.take i ++ [l[i]] from by rw [List.take_append_getElem hi2], List.map_append]
        rfl) (fun S' e => by subst e; rw [hnx]; simp) (es.length + 1) 0 (S1 ++ [.lst []]) (Nat.zero_le _) (by omega) (by simp)
  obtain ⟨S2, L2, rfl⟩ := L2
  have htk : l.take es.length = l := by rw [hlen]; exact List.take_length
  rw [htk] at L2
  -- unlike names
  have L3 := goK_inv (g := tN 1) (fe := eB gIx (eVar 1) (eC (.int 0))) (l := S1.length + 1) (τ0 := [some d, none, some (dK l), none, none]) (nxt := fun i _ => some (l.map dC)[i]?) (n := l.length)
    (fun i S' => ∃ ms, S' = S1 ++ [.lst (l.map dC)] ++ [.ks ms i] ∧ ∀ k, ms k = true → ∃ c ∈ l.take i, k = .inr c.1) (fun i => (l.map dC).getD i default)
    (fun i S' hi' ⟨ms, e, hM⟩ => by
      subst e
      have e2 := List.getElem?_eq_getElem hi'
      have e3 : (l.map dC).getD i default = dC l[i] := by rw [List.getD_eq_getElem?_getD, List.getElem?_map, e2]; rfl
      rw [e3]
      have nM : ms (.inr l[i].1) = false := by
        cases q : ms (.inr l[i].1) with
        | false => rfl
        | true =>
          obtain ⟨c, hc1, hc2⟩ := hM _ q
          have e4 : c.1 = l[i].1 := (Sum.inr.inj hc2).symm
          obtain ⟨j, hj, ej⟩ := List.getElem_of_mem hc1
          rw [List.length_take] at hj
          rw [List.getElem_take] at ej
          have nd := ok.nd
          have := (List.getElem_inj (xs := l.map (·.1)) (i := j) (j := i) (h₀ := by simp; omega) (h₁ := by simp; omega) nd).mp (by simp [ej, e4])
          omega
      refine ⟨by simp [e2], [some d, some (dC l[i]), some (dK l), none, none], .str l[i].1, S1 ++ [.lst (l.map dC)] ++ [.ks ms i], .inr l[i].1, ms, i, rfl, ?_, rfl, ?_, ?_, ?_⟩
      · simp [eB, eVar, eC, M.bnd, gIx, seqD, atI, ixN, lft]
      · rw [List.getElem?_append_right (by simp)]; simp
      · have : 41 < scanBound := by decide
        omega
      · refine ⟨fun j => ms j || decide (j = .inr l[i].1), ?_, fun k hk => ?_⟩
        · rw [set_last2, nM]
          rfl
        · rw [show (l.take (i + 1)) = l.take i ++ [l[i]] from by rw [List.take_append_getElem hi']]
          rw [Bool.or_eq_true, decide_eq_true_eq] at hk
          rcases hk with hk | hk
          · obtain ⟨c, h1, h2⟩ := hM k hk
            exact ⟨c, List.mem_append_left _ h1, h2⟩
          · exact ⟨l[i], List.mem_append_right _ (by simp), hk⟩) (fun S' _ => by simp) (l.length + 1) 0 (S1 ++ [.lst (l.map dC)] ++ [.ks (fun _ => false) 0]) (Nat.zero_le _) (by omega) ⟨_, rfl, fun k hk => by cases hk⟩
  obtain ⟨S3, L3, ms, rfl, _⟩ := L3
  refine ⟨[.lst (l.map dC), .ks ms l.length], ?_, fun o ho => ?_⟩
  rotate_left
  · rcases List.mem_cons.mp ho with q | q
    · subst q
      have : ∀ l : List Card, bds 0 (l.map dC) = true := fun l => by
        induction l with
        | nil => rfl
        | cons c r ih => simp only [List.map_cons, bds, ih, Bool.and_true]; rfl
      exact this l
    · simp at q; subst q; rfl
  have g1 : gTuple [.loc S1.length] (S1 ++ [.lst (l.map dC)]) = some (dK l, S1 ++ [.lst (l.map dC)]) := by simp [gTuple, seqD]
  have g2 : gLenX [.loc (S1.length + 1)] (S1 ++ [.lst (l.map dC)] ++ [.ks ms l.length]) = some (.int l.length, S1 ++ [.lst (l.map dC)] ++ [.ks ms l.length]) := by
    have : ((l.length : Nat) : Int) < 2 ^ 63 := by omega
    unfold gLenX
    simp only [get_last2]
    rw [if_pos this]
  rw [← app2, ← app2] at L3
  rw [← app2] at g2
  simp only [List.getElem?_map] at L3
  have g3 : ∀ S : Sto, gLenX [dK l] S = some (.int l.length, S) := fun S => by simp [gLenX, gLen, seqD]
  have gl : ∀ S : Sto, gLtI (.int l.length) (.int l.length) S = some (.bl false, S) := fun S => by simp [gLtI, gI]
  have gc1 : ∀ S : Sto, gLe (.int 1) (.int l.length) S = some (.bl true, S) := fun S => by simp [gLe, a1]
  have gc2 : ∀ S : Sto, gLe (.int l.length) (.int 40) S = some (.bl true, S) := fun S => by simp [gLe, a2]
  have w3 : ∀ S : Sto, wkD S (dK l) = some ⟨l.length, fun i _ => some (l.map dC)[i]?⟩ := fun S => by simp [wkD]
  simp [fnM, ini, m_deck_of, sSeq, sIf, st', tOr', tNt, tB, eCl, aCons, aNil, M.bnd, eVar, hL2, eCh, eC, eCB, hL, gc1, gc2, lft, sNop, eAll, iSeq, hw0, L1, sSet, sx, eLc, wipeD, L2, g1, eB, eSc, w3, L3, g2, g3, gl, sRt]
theorem deck_of_ok {d : D} {l : List Card} (h : isDeck S d l) (ok : DeckOk l) : ∃ X, M_deck_of K [d] S = some (.ok (dK l) (S ++ X)) := by
  obtain ⟨X, e, _⟩ := deck_of_okB (K := K) h ok
  exact ⟨X, e⟩
end Sb
end
section
set_option Elab.async false
set_option linter.all false
set_option maxRecDepth 100000
set_option maxHeartbeats 4000000
namespace Sb
open PySem PySem.Spec PyProof.Rows L2
variable {K : PySem.W.Frag} {S : Sto}
def stp : List Card → List Card
  | [] => []
  | c :: r => r.take (min c.2.toNat r.length) ++ c :: r.drop (min c.2.toNat r.length)
theorem stp_perm : ∀ l, (stp l).Perm l
  | [] => .refl _
  | c :: r => by
    unfold stp
    refine List.perm_middle.trans (List.Perm.cons c ?_)
    rw [List.take_append_drop]
def stps : Nat → List Card → List Card
  | 0, l => l
  | n + 1, l => stp (stps n l)
theorem DeckOk.cons {l : List Card} (h : DeckOk l) : ∃ c r, l = c :: r ∧ r.length ≤ 39 ∧ 0 ≤ c.2 ∧ Nm c.1 := by
  cases l with
  | nil => exact absurd h.lo (by simp)
  | cons c r => exact ⟨c, r, rfl, by have := h.hi; simp at this; omega, h.dep c (by simp), h.nm c (by simp)⟩
theorem cut_nat {l : List Card} {a b : Nat} : cutD (l.map dC) (some (a : Int)) (some (b : Int)) = ((l.drop (min a l.length)).take (min b l.length - min a l.length)).map dC := by
  unfold cutD
  rw [HT.sIx_nat, HT.sIx_nat, List.length_map, ← List.map_drop, ← List.map_take]
theorem cut_from {l : List Card} {a : Nat} : cutD (l.map dC) (some (a : Int)) none = (l.drop a).map dC := by
  unfold cutD
  rw [HT.sIx_nat, HT.sIx_none, List.length_map, ← List.map_drop, ← List.map_take]
  congr 1
  by_cases h : a ≤ l.length
  · rw [Nat.min_eq_left h, List.take_of_length_le (by simp)]
  · rw [Nat.min_eq_right (by omega), List.drop_of_length_le (by omega), List.drop_of_length_le (by omega)]; simp
theorem cut_to {l : List Card} {b : Nat} : cutD (l.map dC) none (some (b : Int)) = (l.take b).map dC := by
  unfold cutD
  rw [HT.sIx_nat, HT.sIx_none, List.length_map, List.drop_zero, Nat.sub_zero, ← List.map_take]
  congr 1
  by_cases h : b ≤ l.length
  · rw [Nat.min_eq_left h]
  · rw [Nat.min_eq_right (by omega), List.take_of_length_le (by omega), List.take_of_length_le (by omega)]
theorem reach_ok {c : Card} {n : Int} : M_reach_of [dC c, .int n] S = some (.ok (.int (if n - 1 < c.2 then n - 1 else c.2)) S) := by
  simp [fnM, ini, sSeq, sNop, sEx, sRt, sIf, sSet, sPut, putD, sAs, sRaise, sx, st', tB, tAn, tOr', tNt, tAll, eB, eVar, eC, eTup, eLst, eCB, eCl, eBM, eIf, eAnd, eOr, eNot, eCh, eSl, oNo, oSo, aNil, aCons, M.bnd, lft, eIs, eIs2, kindD, kb_NoneType_int, kb_NoneType_bool, kb_NoneType_str, kb_NoneType_list, kb_NoneType_tuple, kb_bool_int, kb_bool_bool, kb_bool_str, kb_bool_list, kb_bool_tuple, kb_int_int, kb_int_bool, kb_int_str, kb_int_list, kb_int_tuple, kb_str_int, kb_str_bool, kb_str_str, kb_str_list, kb_str_tuple, kb_tuple_int, kb_tuple_bool, kb_tuple_str, kb_tuple_list, kb_tuple_tuple, kb_list_int, kb_list_bool, kb_list_str, kb_list_list, kb_list_tuple, kb_dict_int, kb_dict_bool, kb_dict_str, kb_dict_list, kb_dict_tuple, truD, gI, gAdd, gSub, gMul, gMod, gDiv, gPow, gLtI, gLe, gGtI, gGeI, gIx, gLen, gLenX, gAbs, gInt, gMax, gMax2, gMin2, gTuple, gList, seqD, listD, atI, ixN, tyD, gAppend, gPopAt, gInsert, m_reach_of]
theorem len_deck {l : List Card} : gLenX [dK l] S = some (.int l.length, S) := by simp [gLenX, gLen, seqD]
theorem sl_deck {l : List Card} {lo hi : Option Int} {m : List Card} (h : cutD (l.map dC) lo hi = m.map dC) : gSl (dK l) lo hi S = some (dK m, S) := by
  simp only [gSl, h]
end Sb
end
section
set_option Elab.async false
set_option linter.all false
set_option maxRecDepth 100000
set_option maxHeartbeats 4000000
namespace Sb
open PySem PySem.Spec PyProof.Rows L2
variable {K : PySem.W.Frag} {S : Sto}
theorem is_number_ok {i m : Int} (h0 : 0 ≤ i) (h1 : i ≤ m) : M_is_number [.int i, .int m] S = some (.ok (.bl true) S) := by
  simp [fnM, ini, sSeq, sNop, sEx, sRt, sIf, sSet, sPut, putD, sAs, sRaise, sx, st', tB, tAn, tOr', tNt, tAll, eB, eVar, eC, eTup, eLst, eCB, eCl, eBM, eIf, eAnd, eOr, eNot, eCh, eSl, oNo, oSo, aNil, aCons, M.bnd, lft, eIs, eIs2, kindD, kb_NoneType_int, kb_NoneType_bool, kb_NoneType_str, kb_NoneType_list, kb_NoneType_tuple, kb_bool_int, kb_bool_bool, kb_bool_str, kb_bool_list, kb_bool_tuple, kb_int_int, kb_int_bool, kb_int_str, kb_int_list, kb_int_tuple, kb_str_int, kb_str_bool, kb_str_str, kb_str_list, kb_str_tuple, kb_tuple_int, kb_tuple_bool, kb_tuple_str, kb_tuple_list, kb_tuple_tuple, kb_list_int, kb_list_bool, kb_list_str, kb_list_list, kb_list_tuple, kb_dict_int, kb_dict_bool, kb_dict_str, kb_dict_list, kb_dict_tuple, truD, gI, gAdd, gSub, gMul, gMod, gDiv, gPow, gLtI, gLe, gGtI, gGeI, gIx, gLen, gLenX, gAbs, gInt, gMax, gMax2, gMin2, gTuple, gList, seqD, listD, atI, ixN, tyD, gAppend, gPopAt, gInsert, m_is_number, m_is_whole, h0, h1]
theorem rg_nxt {n i : Nat} {S : Sto} (h : i < n) : (wkR 0 n).nxt i S = some (some (.int (i : Nat))) := by
  simp only [wkR, if_pos h, Int.zero_add]
theorem rg_end {n : Nat} {S : Sto} : (wkR 0 n).nxt n S = some none := by simp [wkR]
end Sb
end
section
set_option Elab.async false
set_option linter.all false
set_option maxRecDepth 100000
set_option maxHeartbeats 4000000
namespace Sb
open PySem PySem.Spec PyProof.Rows L2
variable {K : PySem.W.Frag} {S : Sto}
end Sb
end
section
set_option Elab.async false
set_option linter.all false
set_option maxRecDepth 100000
set_option maxHeartbeats 4000000
namespace Sb
open PySem PySem.Spec PyProof.Rows L2
variable {K : PySem.W.Frag} {S : Sto}
theorem eLc_ok {fi : IF} {g : TF} {t : BF} {fe : EF} {vs : List Nat} {τ : Sl} {S S1 S2 : Sto} {wk : Wk} (h : fi τ S = some (.ok wk S1)) (h2 : goC wk.nxt g t fe S1.length (wipeD τ vs) (wk.bound + 1) 0 (S1 ++ [.lst []]) = some S2) : eLc fi g t fe vs τ S = some (.ok (.loc S1.length) S2) := by
  simp only [eLc, h, h2, Option.bind_some]
/-! ### letters, words -/
def nmB (x : Str) : Bool := decide (1 ≤ x.cps.size) && decide (x.cps.size ≤ 8) && x.cps.toList.all fun c => decide (97 ≤ c) && decide (c ≤ 122)
theorem nm_of {x : Str} (h : nmB x = true) : Nm x := by
  simp only [nmB, Bool.and_eq_true, decide_eq_true_eq, List.all_eq_true] at h
  exact ⟨h.1.1, h.1.2, h.2⟩
structure Lts (x : Str) : Prop where
  lo : 1 ≤ x.cps.size
  hi : x.cps.size ≤ 26
  let_ : ∀ c ∈ x.cps.toList, 97 ≤ c ∧ c ≤ 122
theorem lts_ab : Lts "ab" := ⟨by decide +kernel, by decide +kernel, by decide +kernel⟩
theorem lts_all : Lts "abcdefghijklmnopqrstuvwxyz" := ⟨by decide +kernel, by decide +kernel, by decide +kernel⟩
abbrev one (c : Nat) : Str := ⟨#[c]⟩
theorem join_ones : ∀ cs : List Nat, Str.join ("" : Str) (cs.map one) = ⟨cs.toArray⟩
  | [] => rfl
  | [c] => rfl
  | c :: c2 :: r => by
    have ih := join_ones (c2 :: r)
    have e0 : ("" : Str) = ⟨#[]⟩ := by decide +kernel
    show one c ++ ("" : Str) ++ Str.join ("" : Str) ((c2 :: r).map one) = _
    rw [ih, e0]
    show (⟨(#[c] ++ #[]) ++ (c2 :: r).toArray⟩ : Str) = _
    simp
theorem strs_ones : ∀ cs : List Nat, strsD (cs.map fun c => D.str (one c)) = some (cs.map one)
  | [] => rfl
  | c :: r => by
    show (strsD (r.map fun c => D.str (one c))).map (one c :: ·) = _
    rw [strs_ones r]; rfl
theorem sum_ones : ∀ cs : List Nat, ((cs.map one).map (·.length)).sum = cs.length
  | [] => rfl
  | c :: r => by
    simp only [List.map_cons, List.sum_cons, sum_ones r, List.length_cons]
    show 1 + _ = _
    omega
theorem ix_lts {x : Str} (h : Lts x) {v : Int} (h0 : 0 ≤ v) (h1 : v < x.cps.size) : ∃ c, gIx (.str x) (.int v) S = some (.str (one c), S) ∧ 97 ≤ c ∧ c ≤ 122 := by
  have hv : v.toNat < x.cps.toList.length := by simp; omega
  refine ⟨x.cps.toList[v.toNat], ?_, h.let_ _ (List.getElem_mem hv)⟩
  have hz : x.length ≤ sizeLine := by
    have := h.hi
    rw [sizeLine_eq]; show x.cps.size ≤ _; omega
  have e : atI x.cps.toList v = some x.cps.toList[v.toNat] := by
    have h1' : v < (x.cps.toList.length : Int) := by simpa using h1
    simp only [atI, ixN, if_pos h0, if_pos h1', Option.bind_some]
    exact List.getElem?_eq_getElem hv
  simp only [gIx, if_pos hz, e, Option.bind_some]
theorem len_lts {x : Str} (h : Lts x) : gLenX [.str x] S = some (.int x.cps.size, S) := by
  have hz : x.length ≤ sizeLine := by
    have := h.hi
    rw [sizeLine_eq]; show x.cps.size ≤ _; omega
  show gLen [.str x] S = _
  simp only [gLen, if_pos hz]
  rfl
/-- the state that a list is being filled in at l, draws of the spring at n -/
structure Fil (n k : Nat) (S1 S' : Sto) (l : Nat) (acc : List D) : Prop where
  fr : Fr n S1 S'
  sp : Spr n k S'
  at_ : S'[l]? = some (.lst acc)
theorem Fil.put {n k l : Nat} {S1 S2 S' : Sto} {acc : List D} {d : D} (f : Fil n k S1 S2 l acc) (hl : S1.length ≤ l) (hn : n ≠ l) : Fil n k S1 (S2.set l (.lst (acc ++ [d]))) l (acc ++ [d]) := by
  obtain ⟨fr, sp, a⟩ := f
  have hl2 := (List.getElem?_eq_some_iff.mp a).1
  refine ⟨⟨by simpa using fr.le, fun i h1 h2 => ?_⟩, ?_, List.getElem?_set_self hl2⟩
  · rw [List.getElem?_set_ne (by omega)]; exact fr.at_ i h1 h2
  · obtain ⟨x, y, z, e, r⟩ := sp
    exact ⟨x, y, z, by rw [List.getElem?_set_ne (Ne.symm hn)]; exact e, r⟩
theorem Spr.fr {n k : Nat} {S S' : Sto} (h : Spr n k S) (e : S'[n]? = S[n]?) : Spr n k S' := by
  obtain ⟨a, b, c, q, r⟩ := h
  exact ⟨a, b, c, e.trans q, r⟩
abbrev fLetter : EF := eB gIx (eVar 5) (eCl (M_law_draw) 2 (aCons (eVar 0) (aCons (eCB gLenX (aCons (eVar 5) (aNil))) (aNil))))
theorem word_ok {n k : Nat} {x : Str} {x1 x2 x3 x4 x6 x7 x8 : Option D} (hx : Lts x) (h : Spr n k S) (hk : k < 2 ^ 40) :
    ∃ w S', eBM "str" gJoin (eC (.str "")) (aCons (eLc (iRg1 (aCons (eB gAdd (eC (.int 1)) (eCl (M_law_draw) 2 (aCons (eVar 0) (aCons (eC (.int 8)) (aNil))))) (aNil))) (tN 7) (tAll) fLetter [7]) (aNil)) [some (.loc n), x1, x2, x3, x4, some (.str x), x6, x7, x8] S = some (.ok (.str w) S') ∧ Nm w ∧ Spr n (k + 9) S' ∧ Fr n S S' := by
  obtain ⟨v, S1, e1, v0, v1, sp1, fr1, len1⟩ := draw_ok (m := 8) h (by omega) (by decide) (by decide)
  obtain ⟨m, rfl⟩ := Int.eq_ofNat_of_zero_le v0
  have hm : m < 8 := by omega
  have hn1 : n < S1.length := sp1.lt
  have hz := sizeLine_eq
  obtain ⟨S2, L, cs, lcs, gcs, fl⟩ := goC_inv (nxt := (wkR 0 (1 + m)).nxt) (g := tN 7) (t := tAll) (fe := fLetter) (l := S1.length) (τ0 := [some (.loc n), x1, x2, x3, x4, some (.str x), x6, none, x8]) (n := 1 + m)
    (fun i S' => ∃ cs : List Nat, cs.length = i ∧ (∀ c ∈ cs, 97 ≤ c ∧ c ≤ 122) ∧ Fil n (k + 1 + i) S1 S' S1.length (cs.map fun c => D.str (one c))) (fun i => .int (i : Nat))
    (fun i S' hi ⟨cs, lcs, gcs, fl⟩ => by
      have hd := draw_ok (S := S') (m := x.cps.size) fl.sp (by omega) (by have := hx.lo; omega) (by have := hx.hi; omega)
      obtain ⟨u, S3, e3, u0, u1, sp3, fr3, len3⟩ := hd
      obtain ⟨c, e4, gc⟩ := ix_lts (S := S3) hx u0 u1
      have f3 : Fil n (k + 1 + (i + 1)) S1 S3 S1.length (cs.map fun c => D.str (one c)) := ⟨fl.fr.trans fr3, sp3, fr3.get fl.at_ (by omega)⟩
      refine ⟨rg_nxt hi, _, rfl, .inr ⟨S', .str (one c), S3, cs.map (fun c => D.str (one c)), rfl, eB_ok rfl (eCl_ok (a2_ok rfl (eCB_ok (a1_ok rfl) (len_lts hx))) rfl e3) e4, f3.at_, by simp; omega, cs ++ [c], by simp [lcs], ?_, ?_⟩⟩
      · intro c' hc'
        rcases List.mem_append.mp hc' with q | q
        · exact gcs c' q
        · simp at q; subst q; exact gc
      · have := f3.put (S' := S3) (d := .str (one c)) (Nat.le_refl _) (by omega)
        simpa using this) (fun S' _ => rg_end) (1 + m + 1) 0 (S1 ++ [.lst []]) (Nat.zero_le _) (by omega) ⟨[], rfl, (fun c hc => by cases hc), Fr.app, sp1.app, get_last _ _⟩
  have hw : Nm ⟨cs.toArray⟩ := ⟨by simp; omega, by simp; omega, fun c hc => gcs c (by simpa using hc)⟩
  refine ⟨⟨cs.toArray⟩, S2, eBM_ok rfl rfl (a1_ok (eLc_ok (wk := wkR 0 (1 + m)) (S1 := S1) (iRg1_ok (a1_ok (eB_ok rfl (eCl_ok (a2_ok rfl rfl) rfl e1) ?_)) (by omega)) L)) ?_, hw, fl.sp.mono (by omega), fr1.trans fl.fr⟩
  · simp [gAdd]
  · have e5 : seqD S2 (.loc S1.length) = some (cs.map fun c => D.str (one c)) := by simp [seqD, fl.at_]
    have e6 := strs_ones cs
    have e7 : ((cs.map one).map (·.length)).sum + (cs.map one).length * ("" : Str).length ≤ 16777216 := by
      have e8 : ("" : Str).length = 0 := by decide +kernel
      rw [sum_ones, e8]; omega
    simp only [gJoin, e5, Option.bind_some, e6, if_pos e7]
    have e9 : Txt.join ("" : Str) (cs.map one) = ⟨cs.toArray⟩ := by
      unfold Txt.join
      rw [StrLaws.glued_eq_join]; exact join_ones cs
    rw [e9]
end Sb
end
section
set_option Elab.async false
set_option linter.all false
set_option maxRecDepth 100000
set_option maxHeartbeats 4000000
namespace Sb
open PySem PySem.Spec PyProof.Rows L2
variable {K : PySem.W.Frag} {S : Sto}
/-! ### the spare names -/
def abc1 : List Nat := [97, 98, 99, 100, 101, 102, 103, 104, 105, 106]
def abc2 : List Nat := [118, 119, 120, 121, 122]
def spN (k : Nat) : Str := ("q" : Str) ++ one (abc1.getD (k / 5) 0) ++ one (abc2.getD (k % 5) 0)
def spare : List Str := (List.range 50).map spN
theorem spare_nm : ∀ x ∈ spare, Nm x := by
  have : (spare.all nmB) = true := by decide +kernel
  intro x hx
  exact nm_of (List.all_eq_true.mp this x hx)
theorem spare_nd : spare.Nodup := by decide +kernel
abbrev fSpare : EF := eB gAdd (eB gAdd (eC (.str "q")) (eB gIx (eC (.str "abcdefghij")) (eB gDiv (eVar 3) (eC (.int 5))))) (eB gIx (eC (.str "vwxyz")) (eB gMod (eVar 3) (eC (.int 5))))
theorem sp_el {x0 x1 x2 : Option D} {xs : List (Option D)} {k : Nat} (hk : k < 50) : fSpare (x0 :: x1 :: x2 :: some (.int (k : Nat)) :: xs) S = some (.ok (.str (spN k)) S) := by
  have hz := sizeLine_eq
  have q1 : ("abcdefghij" : Str).cps.toList = abc1 := by decide +kernel
  have q2 : ("vwxyz" : Str).cps.toList = abc2 := by decide +kernel
  have z1 : ("abcdefghij" : Str).length ≤ sizeLine := by rw [hz]; decide +kernel
  have z2 : ("vwxyz" : Str).length ≤ sizeLine := by rw [hz]; decide +kernel
  have zq : ("q" : Str).length = 1 := by decide +kernel
  have l5 : (5 : Int).natAbs.log2 < 9000 := by decide +kernel
  have a1 : atI abc1 ((k : Int) / 5) = some (abc1.getD (k / 5) 0) := by
    have h1 : (0 : Int) ≤ (k : Int) / 5 := by omega
    have h2 : (k : Int) / 5 < (abc1.length : Int) := by show _ < (10 : Int); omega
    have h3 : ((k : Int) / 5).toNat = k / 5 := by omega
    have h4 : k / 5 < abc1.length := by show _ < 10; omega
    simp only [atI, ixN, if_pos h1, if_pos h2, Option.bind_some, h3, List.getD_eq_getElem?_getD, List.getElem?_eq_getElem h4, Option.getD_some]
  have a2 : atI abc2 ((k : Int) % 5) = some (abc2.getD (k % 5) 0) := by
    have h1 : (0 : Int) ≤ (k : Int) % 5 := by omega
    have h2 : (k : Int) % 5 < (abc2.length : Int) := by show _ < (5 : Int); omega
    have h3 : ((k : Int) % 5).toNat = k % 5 := by omega
    have h4 : k % 5 < abc2.length := by show _ < 5; omega
    simp only [atI, ixN, if_pos h1, if_pos h2, Option.bind_some, h3, List.getD_eq_getElem?_getD, List.getElem?_eq_getElem h4, Option.getD_some]
  have h5 : (0 : Int) < 5 ∧ (5 : Int).natAbs.log2 < 9000 := ⟨by decide, l5⟩
  have h6 : (0 : Int) < 5 := by decide
  refine eB_ok (eB_ok rfl (eB_ok rfl (eB_ok (d := .int ((k : Int) / 5)) (S3 := S) rfl rfl ?_) (d := .str (one (abc1.getD (k / 5) 0))) (S3 := S) ?_) (d := .str (("q" : Str) ++ one (abc1.getD (k / 5) 0))) (S3 := S) ?_) (eB_ok rfl (eB_ok (d := .int ((k : Int) % 5)) (S3 := S) rfl rfl ?_) (d := .str (one (abc2.getD (k % 5) 0))) (S3 := S) ?_) ?_
  · simp only [gDiv, gI, decide_eq_true h5, if_true]
  · simp only [gIx, if_pos z1, q1, a1, Option.bind_some]
  · have : ("q" : Str).length + (one (abc1.getD (k / 5) 0)).length ≤ sizeLine := by rw [zq, hz]; show (1 + 1 : Nat) ≤ 16777216; decide
    simp only [gAdd, if_pos this]
  · simp only [gMod, gI, decide_eq_true h6, if_true]
  · simp only [gIx, if_pos z2, q2, a2, Option.bind_some]
  · have : (("q" : Str) ++ one (abc1.getD (k / 5) 0)).length + (one (abc2.getD (k % 5) 0)).length ≤ sizeLine := by
      rw [Str.length_append, zq, hz]; show (1 + 1 + 1 : Nat) ≤ 16777216; decide
    simp only [gAdd, if_pos this]
    rfl
theorem spare_ok {τ : Sl} {x0 x1 x2 x3 : Option D} {xs : List (Option D)} (hτ : τ = x0 :: x1 :: x2 :: x3 :: xs) : eLc (iRg1 (aCons (eC (.int 50)) (aNil))) (tN 3) (tAll) fSpare [3] τ S = some (.ok (.loc S.length) (S ++ [.lst (spare.map D.str)])) := by
  subst hτ
  have hz := sizeLine_eq
  obtain ⟨S', L, rfl⟩ := goC_inv (nxt := (wkR 0 50).nxt) (g := tN 3) (t := tAll) (fe := fSpare) (l := S.length) (τ0 := x0 :: x1 :: x2 :: none :: xs) (n := 50)
    (fun i S' => S' = S ++ [.lst (((List.range i).map spN).map D.str)]) (fun i => .int (i : Nat))
    (fun i S' hi e => by
      subst e
      refine ⟨rg_nxt hi, _, rfl, .inr ⟨_, .str (spN i), _, ((List.range i).map spN).map D.str, rfl, sp_el hi, get_last _ _, by simp; omega, ?_⟩⟩
      rw [set_last, List.range_succ, List.map_append, List.map_append]
      rfl) (fun S' _ => rg_end) 51 0 (S ++ [.lst []]) (by omega) (by omega) rfl
  exact eLc_ok (iRg1_ok (n := 50) (a1_ok rfl) (by omega)) L
/-! ### a name that is not there yet -/
theorem nodup_le {α : Type} [DecidableEq α] : ∀ {l m : List α}, l.Nodup → (∀ x ∈ l, x ∈ m) → l.length ≤ m.length
  | [], _, _, _ => Nat.zero_le _
  | x :: l, m, nd, h => by
    obtain ⟨h1, h2⟩ := List.nodup_cons.mp nd
    have hx := h x List.mem_cons_self
    have ih := nodup_le (l := l) (m := m.erase x) h2 fun y hy => (List.mem_erase_of_ne (fun e => h1 (by rw [← e]; exact hy))).mpr (h y (List.mem_cons_of_mem _ hy))
    rw [List.length_erase_of_mem hx] at ih
    have := List.length_pos_of_mem hx
    rw [List.length_cons]; omega
theorem first_new {w : Str} {xs : List Str} (hw : Nm w) (hx : xs.length < 50) : ∃ y r, ((w :: spare).filter fun z => !decide (z ∈ xs)) = y :: r ∧ y ∉ xs ∧ Nm y := by
  have hne : ((w :: spare).filter fun z => !decide (z ∈ xs)) ≠ [] := by
    intro e
    have hall : ∀ z ∈ spare, z ∈ xs := fun z hz => by
      have := List.filter_eq_nil_iff.mp e z (List.mem_cons_of_mem _ hz)
      simpa using this
    have h1 : spare.length ≤ xs.length := nodup_le spare_nd hall
    have h2 : spare.length = 50 := by decide +kernel
    omega
  cases q : ((w :: spare).filter fun z => !decide (z ∈ xs)) with
  | nil => exact absurd q hne
  | cons y r =>
    have hm : y ∈ ((w :: spare).filter fun z => !decide (z ∈ xs)) := by rw [q]; exact List.mem_cons_self
    obtain ⟨h1, h2⟩ := List.mem_filter.mp hm
    refine ⟨y, r, rfl, by simpa using h2, ?_⟩
    rcases List.mem_cons.mp h1 with rfl | h1
    · exact hw
    · exact spare_nm y h1
theorem new_ok {f p : Nat} {xs : List Str} {w : Str} {x0 x1 x3 x5 x7 x8 : Option D} (hf : S[f]? = some (.lst (xs.map D.str))) (hp : S[p]? = some (.lst (spare.map D.str))) (hxs : ∀ x ∈ xs, Nm x) (hw : Nm w) (hx : xs.length < 50) :
    ∃ y X, eB gIx (eLc (iSeq (eB gAdd (eLst (aCons (eVar 6) (aNil))) (eVar 2))) (tN 8) (tB (eB (gIn true) (eVar 8) (eVar 4))) (eVar 8) [8]) (eC (.int 0)) [x0, x1, some (.loc p), x3, some (.loc f), x5, some (.str w), x7, x8] S = some (.ok (.str y) (S ++ X)) ∧ y ∉ xs ∧ Nm y := by
  obtain ⟨y, r, e, hy, hny⟩ := first_new hw hx
  have hz := sizeLine_eq
  have hsl : spare.length = 50 := by decide +kernel
  let l : List Str := w :: spare
  have hnm : ∀ z ∈ l, Nm z := fun z hzz => by
    rcases List.mem_cons.mp hzz with rfl | q
    · exact hw
    · exact spare_nm z q
  have hll : l.length = 51 := by show spare.length + 1 = 51; omega
  let S1 : Sto := S ++ [.lst [.str w]] ++ [.lst (l.map D.str)]
  have eA : gAdd (.loc S.length) (.loc p) (S ++ [.lst [.str w]]) = some (.loc (S ++ [.lst [.str w]] : Sto).length, S1) := by
    have e1 : (S ++ [.lst [.str w]] : Sto)[S.length]? = some (.lst [.str w]) := get_last _ _
    have e2 : (S ++ [.lst [.str w]] : Sto)[p]? = some (.lst (spare.map D.str)) := pre_get hp
    have e3 : ([D.str w] : List D).length + (spare.map D.str).length ≤ sizeLine := by simp; omega
    simp only [gAdd, e1, e2, if_pos e3]
    rfl
  have e1 : S1[(S ++ [.lst [.str w]] : Sto).length]? = some (.lst (l.map D.str)) := get_last _ _
  have hf1 : S1[f]? = some (.lst (xs.map D.str)) := pre_get (pre_get hf)
  have eW : wkD S1 (.loc (S ++ [.lst [.str w]] : Sto).length) = some ⟨l.length, fun i S' => (seqD S' (.loc (S ++ [.lst [.str w]] : Sto).length)).map fun es => es[i]?⟩ := by
    simp only [wkD, seqD, e1, Option.map_some, List.length_map]
  obtain ⟨S2, L, rfl⟩ := goC_inv (nxt := fun i S' => (seqD S' (.loc (S ++ [.lst [.str w]] : Sto).length)).map fun es => es[i]?) (g := tN 8) (t := tB (eB (gIn true) (eVar 8) (eVar 4))) (fe := eVar 8) (l := S1.length) (τ0 := [x0, x1, some (.loc p), x3, some (.loc f), x5, some (.str w), x7, none]) (n := l.length)
    (fun i S' => S' = S1 ++ [.lst (((l.take i).filter fun z => !decide (z ∈ xs)).map D.str)]) (fun i => .str (l.getD i default))
    (fun i S' hi e => by
      subst e
      have e3 := List.getElem?_eq_getElem hi
      have e4 : l.getD i default = l[i] := by rw [List.getD_eq_getElem?_getD, e3]; rfl
      have e5 : (S1 ++ [.lst (((l.take i).filter fun z => !decide (z ∈ xs)).map D.str)] : Sto)[(S ++ [.lst [.str w]] : Sto).length]? = some (.lst (l.map D.str)) := pre_get e1
      rw [e4]
      refine ⟨by simp only [seqD, e5, Option.map_some, List.getElem?_map, e3], [x0, x1, some (.loc p), x3, some (.loc f), x5, some (.str w), x7, some (.str l[i])], rfl, ?_⟩
      have e6 := gIn_names (neg := true) (S := (S1 ++ [.lst (((l.take i).filter fun z => !decide (z ∈ xs)).map D.str)] : Sto)) (pre_get hf1) (hnm _ (List.getElem_mem hi)) hxs
      have e7 : l.take (i + 1) = l.take i ++ [l[i]] := by rw [List.take_append_getElem hi]
      by_cases q : l[i] ∈ xs
      · refine .inl ⟨(S1 ++ [.lst (((l.take i).filter fun z => !decide (z ∈ xs)).map D.str)] : Sto), tB_ok (eB_ok rfl rfl (e6.trans ?_)), ?_⟩
        · simp only [q, decide_true, Bool.not_true, if_true]
        · rw [e7, List.filter_append]
          simp [q]
      · refine .inr ⟨(S1 ++ [.lst (((l.take i).filter fun z => !decide (z ∈ xs)).map D.str)] : Sto), .str l[i], (S1 ++ [.lst (((l.take i).filter fun z => !decide (z ∈ xs)).map D.str)] : Sto), ((l.take i).filter fun z => !decide (z ∈ xs)).map D.str, tB_ok (eB_ok rfl rfl (e6.trans ?_)), rfl, get_last _ _, ?_, ?_⟩
        · simp only [q, decide_false, Bool.not_false, if_true]
        · have := List.length_filter_le (fun z => !decide (z ∈ xs)) (l.take i)
          rw [List.length_take] at this
          rw [List.length_map]; omega
        · rw [set_last, e7, List.filter_append, List.map_append]
          simp [q]) (fun S' e => by
            subst e
            have e5 : (S1 ++ [.lst (((l.take l.length).filter fun z => !decide (z ∈ xs)).map D.str)] : Sto)[(S ++ [.lst [.str w]] : Sto).length]? = some (.lst (l.map D.str)) := pre_get e1
            simp only [seqD, e5, Option.map_some]
            rw [List.getElem?_eq_none (by simp)]) (l.length + 1) 0 (S1 ++ [.lst []]) (Nat.zero_le _) (by omega) rfl
  rw [List.take_length, show (l.filter fun z => !decide (z ∈ xs)) = y :: r from e] at L
  refine ⟨y, [.lst [.str w], .lst (l.map D.str), .lst ((y :: r).map D.str)], ?_, hy, hny⟩
  have eX : S ++ [.lst [.str w], .lst (l.map D.str), .lst ((y :: r).map D.str)] = S1 ++ [.lst ((y :: r).map D.str)] := by
    show _ = S ++ [Ob.lst [.str w]] ++ [.lst (l.map D.str)] ++ [.lst ((y :: r).map D.str)]
    rw [← app2]
    simp
  rw [eX]
  refine eB_ok (eLc_ok (iSeq_ok (eB_ok (eLst_ok (a1_ok rfl) (by simp)) rfl eA) eW) L) rfl ?_
  have e8 : (S1 ++ [.lst ((y :: r).map D.str)] : Sto)[S1.length]? = some (.lst ((y :: r).map D.str)) := get_last _ _
  simp [gIx, seqD, e8, atI, ixN]
end Sb
end
section
set_option Elab.async false
set_option linter.all false
set_option maxRecDepth 100000
set_option maxHeartbeats 4000000
namespace Sb
open PySem PySem.Spec PyProof.Rows L2
variable {K : PySem.W.Frag} {S : Sto}
theorem Fr.set {n f : Nat} {S S' : Sto} {o : Ob} (h : Fr n S S') (hf : S.length ≤ f) : Fr n S (S'.set f o) := ⟨by simpa using h.le, fun i h1 h2 => by
  rw [List.getElem?_set_ne (by omega)]; exact h.at_ i h1 h2⟩
theorem Spr.set {n k f : Nat} {S : Sto} {o : Ob} (h : Spr n k S) (hf : f ≠ n) : Spr n k (S.set f o) := h.fr (List.getElem?_set_ne hf)
theorem append_ok {f : Nat} {acc : List D} {d : D} (hf : S[f]? = some (.lst acc)) (hl : acc.length ≤ 100000) : gAppend (.loc f) [d] S = some (.non, S.set f (.lst (acc ++ [d]))) := by
  have hz : acc.length < sizeLine := by rw [sizeLine_eq]; omega
  simp only [gAppend, listD, hf, Option.bind_some, if_pos hz]
theorem ty_list {f : Nat} {acc : List D} (hf : S[f]? = some (.lst acc)) : tyD S "list" (.loc f) = true := by simp [tyD, hf]
theorem Fr.lst {n f : Nat} {S S' : Sto} {acc : List D} (h : Fr n S S') (hf : S[f]? = some (.lst acc)) (hn : f ≠ n) : S'[f]? = some (.lst acc) := h.get hf hn
theorem names_ok {n k m : Nat} (h : Spr n k S) (hk : k < 2 ^ 32) (hm : m ≤ 40) :
    ∃ (f : Nat) (S' : Sto) (xs : List Str), M_law_names [.loc n, .int m] S = some (.ok (.loc f) S') ∧ S'[f]? = some (.lst (xs.map D.str)) ∧ xs.length = m ∧ xs.Nodup ∧ (∀ x ∈ xs, Nm x) ∧ Spr n (k + 10 * m) S' ∧ Fr n S S' ∧ S.length ≤ f := by
  have hn := h.lt
  let S1 : Sto := S ++ [.lst (spare.map D.str)]
  let S2 : Sto := S1 ++ [.lst []]
  have hl1 : S1.length = S.length + 1 := by show (S ++ _).length = _; simp
  obtain ⟨τ', S', L, xs, x3, x5, x6, x7, x8, rfl, lx, ndx, nmx, fl, hp⟩ := goF_inv (nxt := (wkR 0 m).nxt) (g := tN 3) (n := m)
    (fb := (sSeq (sSet 5 (eB gIx (eLst (aCons (eC (.str "ab")) (aCons (eC (.str "abcdefghijklmnopqrstuvwxyz")) (aNil)))) (eCl (M_law_draw) 2 (aCons (eVar 0) (aCons (eC (.int 2)) (aNil)))))) (sSeq (sSet 6 (eBM "str" gJoin (eC (.str "")) (aCons (eLc (iRg1 (aCons (eB gAdd (eC (.int 1)) (eCl (M_law_draw) 2 (aCons (eVar 0) (aCons (eC (.int 8)) (aNil))))) (aNil))) (tN 7) (tAll) (eB gIx (eVar 5) (eCl (M_law_draw) 2 (aCons (eVar 0) (aCons (eCB gLenX (aCons (eVar 5) (aNil))) (aNil))))) [7]) (aNil)))) (sEx (eBM "list" gAppend (eVar 4) (aCons (eB gIx (eLc (iSeq (eB gAdd (eLst (aCons (eVar 6) (aNil))) (eVar 2))) (tN 8) (tB (eB (gIn true) (eVar 8) (eVar 4))) (eVar 8) [8]) (eC (.int 0))) (aNil)))))))
    (fun i τ S' => ∃ (xs : List Str) (x3 x5 x6 x7 x8 : Option D), τ = [some (.loc n), some (.int m), some (.loc S.length), x3, some (.loc S1.length), x5, x6, x7, x8] ∧ xs.length = i ∧ xs.Nodup ∧ (∀ x ∈ xs, Nm x) ∧ Fil n (k + 10 * i) S S' S1.length (xs.map D.str) ∧ S'[S.length]? = some (.lst (spare.map D.str))) (fun i => .int (i : Nat))
    (fun i τ S' hi ⟨xs, x3, x5, x6, x7, x8, e, lx, ndx, nmx, fl, hp⟩ => by
      subst e
      have hpl := (List.getElem?_eq_some_iff.mp hp).1
      have hfl := (List.getElem?_eq_some_iff.mp fl.at_).1
      -- letters
      let S3 : Sto := S' ++ [.lst [.str "ab", .str "abcdefghijklmnopqrstuvwxyz"]]
      obtain ⟨v, S4, e4, v0, v1, sp4, fr4, len4⟩ := draw_ok (S := S3) (m := 2) (fl.sp.app) (by omega) (by decide) (by decide)
      have hs3 : S3[S'.length]? = some (.lst [.str "ab", .str "abcdefghijklmnopqrstuvwxyz"]) := get_last _ _
      have hs4 : S4[S'.length]? = some (.lst [.str "ab", .str "abcdefghijklmnopqrstuvwxyz"]) := fr4.get hs3 (by have := fl.sp.lt; omega)
      have eLt : ∃ x : Str, Lts x ∧ gIx (.loc S'.length) (.int v) S4 = some (.str x, S4) := by
        rcases (show v = 0 ∨ v = 1 by omega) with rfl | rfl
        · exact ⟨"ab", lts_ab, by simp [gIx, seqD, hs4, atI, ixN]⟩
        · exact ⟨"abcdefghijklmnopqrstuvwxyz", lts_all, by simp [gIx, seqD, hs4, atI, ixN]⟩
      obtain ⟨x, hx, e5⟩ := eLt
      have fA : Fr n S' S4 := Fr.app.trans fr4
      -- the word
      obtain ⟨w, S5, e6, nw, sp5, fr5⟩ := word_ok (x1 := some (.int m)) (x2 := some (.loc S.length)) (x3 := some (.int (i : Nat))) (x4 := some (.loc S1.length)) (x6 := x6) (x7 := x7) (x8 := x8) hx sp4 (by omega)
      have fB : Fr n S' S5 := fA.trans fr5
      have hp5 := fB.lst hp (by omega)
      have hf5 := fB.lst fl.at_ (by omega)
      -- the new name
      obtain ⟨y, X, e7, ny, nmy⟩ := new_ok (x0 := some (.loc n)) (x1 := some (.int m)) (x3 := some (.int (i : Nat))) (x5 := some (.str x)) (x7 := x7) (x8 := x8) hf5 hp5 nmx nw (by omega)
      refine ⟨rg_nxt hi, [some (.loc n), some (.int m), some (.loc S.length), some (.int (i : Nat)), some (.loc S1.length), x5, x6, x7, x8], _, _, rfl, (sSeq_nx (sSet_ok (eB_ok (eLst_ok (a2_ok rfl rfl) (by simp)) (eCl_ok (a2_ok rfl rfl) rfl e4) e5))).trans ((sSeq_nx (sSet_ok e6)).trans (sEx_ok (eBM_ok rfl (ty_list hf5) (a1_ok e7) (append_ok (S := S5 ++ X) (pre_get hf5) (by simp; omega))))), ?_⟩
      refine ⟨xs ++ [y], some (.int (i : Nat)), some (.str x), some (.str w), x7, x8, rfl, by simp [lx], ?_, ?_, ?_, ?_⟩
      · rw [List.nodup_append]
        exact ⟨ndx, by simp, fun a ha b hb => by simp at hb; subst hb; exact fun z => ny (z ▸ ha)⟩
      · intro z hz
        rcases List.mem_append.mp hz with q | q
        · exact nmx z q
        · simp at q; subst q; exact nmy
      · have fC : Fil n (k + 10 * (i + 1)) S (S5 ++ X) S1.length (xs.map D.str) := ⟨(fl.fr.trans fB).trans Fr.app, sp5.app.mono (by omega), pre_get hf5⟩
        have := fC.put (S' := S) (d := .str y) (by omega) (by omega)
        simpa using this
      · rw [List.getElem?_set_ne (by omega)]
        exact pre_get hp5) (fun τ S' _ => rg_end) (m + 1) 0 [some (.loc n), some (.int m), some (.loc S.length), none, some (.loc S1.length), none, none, none, none] S2 (Nat.zero_le _) (by omega)
    ⟨[], none, none, none, none, none, rfl, rfl, List.nodup_nil, (fun x hx => by cases hx), ⟨Fr.app.trans Fr.app, h.app.app, get_last _ _⟩, pre_get (get_last _ _)⟩
  refine ⟨S1.length, S', xs, ?_, fl.at_, lx, ndx, nmx, fl.sp, fl.fr, by omega⟩
  refine fnM_rt ?_
  refine (sSeq_nx (sSet_ok (spare_ok rfl))).trans ?_
  refine (sSeq_nx (sSet_ok (eLst_ok aNil_ok (by simp)))).trans ?_
  exact (sSeq_nx (sFor_ok (iRg1_ok (a1_ok rfl) (by omega)) L)).trans (sRt_ok rfl)
end Sb
end
section
set_option Elab.async false
set_option linter.all false
set_option maxRecDepth 100000
set_option maxHeartbeats 4000000
namespace Sb
open PySem PySem.Spec PyProof.Rows L2
variable {K : PySem.W.Frag} {S : Sto}
theorem dr {n k : Nat} {τ : Sl} {fm : EF} {m : Int} (h0 : τ[0]? = some (some (.loc n))) (hm : fm τ S = some (.ok (.int m) S)) (h : Spr n k S) (hk : k < 2 ^ 40) (hm0 : 0 < m) (hm1 : m < 2 ^ 64) :
    ∃ v S', eCl M_law_draw 2 (aCons (eVar 0) (aCons fm aNil)) τ S = some (.ok (.int v) S') ∧ 0 ≤ v ∧ v < m ∧ Spr n (k + 1) S' ∧ Fr n S S' ∧ S'.length = S.length := by
  obtain ⟨v, S', e, r⟩ := draw_ok (m := m) h (by omega) hm0 hm1
  refine ⟨v, S', eCl_ok (a2_ok ?_ hm) rfl e, r⟩
  simp only [eVar, h0]
theorem ix_ints {p : Nat} {is : List Int} (h : S[p]? = some (.lst (is.map D.int))) {v : Int} (h0 : 0 ≤ v) (h1 : v < is.length) : ∃ a ∈ is, gIx (.loc p) (.int v) S = some (.int a, S) := by
  have hv : v.toNat < is.length := by omega
  refine ⟨is[v.toNat], List.getElem_mem hv, ?_⟩
  have h1' : v < ((is.map D.int).length : Int) := by simpa using h1
  have e : seqD S (.loc p) = some (is.map D.int) := by simp [seqD, h]
  simp only [gIx, e, Option.bind_some, atI, ixN, if_pos h0, if_pos h1', List.getElem?_map, List.getElem?_eq_getElem hv, Option.map_some]
theorem gAdd_i {i j : Int} : gAdd (.int i) (.int j) S = some (.int (i + j), S) := rfl
theorem gSub_i {i j : Int} : gSub (.int i) (.int j) S = some (.int (i - j), S) := by simp [gSub, gI]
end Sb
end
section
set_option Elab.async false
set_option linter.all false
set_option maxRecDepth 100000
set_option maxHeartbeats 4000000
namespace Sb
open PySem PySem.Spec PyProof.Rows L2
variable {K : PySem.W.Frag} {S : Sto}
theorem drj {n k j : Nat} {τ : Sl} {fm : EF} {m : Int} (h0 : τ[j]? = some (some (.loc n))) (hm : fm τ S = some (.ok (.int m) S)) (h : Spr n k S) (hk : k < 2 ^ 40) (hm0 : 0 < m) (hm1 : m < 2 ^ 64) :
    ∃ v S', eCl M_law_draw 2 (aCons (eVar j) (aCons fm aNil)) τ S = some (.ok (.int v) S') ∧ 0 ≤ v ∧ v < m ∧ Spr n (k + 1) S' ∧ Fr n S S' ∧ S'.length = S.length := by
  obtain ⟨v, S', e, r⟩ := draw_ok (m := m) h (by omega) hm0 hm1
  refine ⟨v, S', eCl_ok (a2_ok ?_ hm) rfl e, r⟩
  simp only [eVar, h0]
/-! ### decks alike but for what no step sees -/
theorem stp_len (l : List Card) : (stp l).length = l.length := (stp_perm l).length_eq
/-! ### other names -/
/-! ### calls: a dict of names -/
/-! ### the card laid in -/
theorem ix_deck {l : List Card} {i : Nat} {c : Card} (h : l[i]? = some c) : gIx (dK l) (.int i) S = some (dC c, S) := by
  have hi := (List.getElem?_eq_some_iff.mp h).1
  have h1 : (0 : Int) ≤ (i : Int) := by omega
  have h2 : (i : Int) < ((l.map dC).length : Int) := by simp; omega
  simp only [gIx, seqD, Option.bind_some, atI, ixN, if_pos h1, if_pos h2, Int.toNat_natCast, List.getElem?_map, h, Option.map_some]
theorem ix_name {c : Card} : gIx (dC c) (.int 0) S = some (.str c.1, S) := by simp [gIx, seqD, atI, ixN]
end Sb
namespace Sb
open PySem PySem.Spec PyProof.Rows L2
variable {K : PySem.W.Frag} {S : Sto}
end Sb
end
section
set_option Elab.async false
set_option linter.all false
set_option maxRecDepth 100000
set_option maxHeartbeats 4000000
namespace Sb
open PySem PySem.Spec PyProof.Rows L2 PySem.W
variable {K : PySem.W.Frag} {S : Sto}
/-! ### rows put together -/
/-! ### a card beneath that nothing reaches -/
/-! ### sorted -/
/-! ### the greatest of a list -/
/-! ### find_place -/
theorem gEq_str {neg : Bool} {a b : Str} (ha : Nm a) (hb : Nm b) : gEq neg (.str a) (.str b) S = some (.bl (if neg then !decide (a = b) else decide (a = b)), S) := by
  unfold gEq
  rw [toPy_str 7, toPy_str 7]
  simp only [shp_str ha, shp_str hb, and_self, if_true, eqv_str]
theorem gEq_int {neg : Bool} {a b : Int} : gEq neg (.int a) (.int b) S = some (.bl (if neg then !decide (a = b) else decide (a = b)), S) := by
  unfold gEq
  rw [toPy_int 7, toPy_int 7]
  have s1 : ∀ a : Int, SeqAt.shaped (.int a) = true := fun _ => rfl
  have s3 : PyData.eqv (.int a) (.int b) = decide (a = b) := by
    show (a == b) = _
    rfl
  simp only [s1, and_self, if_true, s3]
theorem place_go {l : List Card} {x : Str} {d : D} (nm : ∀ c ∈ l, Nm c.1) (hx : Nm x) {i : Nat} (hi : i < l.length) (ex : l[i].1 = x) (hno : ∀ (j : Nat) (h : j < i), l[j].1 ≠ x) : ∀ (m j : Nat) (y2 y3 : Option D), j ≤ i → i - j < m →
    goF (wkE (l.map dC)).nxt (tN2 2 3) (sIf (tB (eB (gEq false) (eB gIx (eVar 3) (eC (.int 0))) (eVar 1))) (sRt (eVar 2)) (sNop)) m j [some d, some (.str x), y2, y3] S = some (.rt (.int (i : Nat)), S)
  | 0, _, _, _, _, h => absurd h (Nat.not_lt_zero _)
  | m + 1, j, y2, y3, hj, hm => by
    have hjl : j < l.length := by omega
    have e1 : (wkE (l.map dC)).nxt j S = some (some (.tup [.int (j : Nat), dC l[j]])) := by
      simp only [wkE, List.getElem?_map, List.getElem?_eq_getElem hjl, Option.map_some]
    have g1 : (tN2 2 3) (.tup [.int (j : Nat), dC l[j]]) S [some d, some (.str x), y2, y3] = some [some d, some (.str x), some (.int (j : Nat)), some (dC l[j])] := rfl
    have t1 := gEq_str (neg := false) (S := S) (nm _ (List.getElem_mem hjl)) hx
    unfold goF
    rw [e1]
    simp only [g1]
    by_cases q : j = i
    · subst q
      rw [ex] at t1
      rw [sIf_t (S1 := S) (tB_ok (eB_ok (eB_ok rfl rfl ix_name) rfl (by rw [ex]; simpa using t1)))]
      rw [sRt_ok (d := .int (j : Nat)) rfl]
    · have hne := hno j (by omega)
      have t2 : gEq false (.str l[j].1) (.str x) S = some (.bl false, S) := by rw [t1]; simp [hne]
      rw [sIf_f (S1 := S) (tB_ok (eB_ok (eB_ok rfl rfl ix_name) rfl t2))]
      simp only [sNop]
      exact place_go nm hx hi ex hno m (j + 1) _ _ (by omega) (by omega)
theorem find_place_ok {l : List Card} (ok : DeckOk l) {i : Nat} (hi : i < l.length) : M_find_place K [dK l, .str l[i].1] S = some (.ok (.int (i : Nat)) S) := by
  refine fnM_rt ?_
  have hw : iEn (aCons (eVar 0) aNil) (ini 4 [dK l, .str l[i].1]) S = some (.ok (wkE (l.map dC)) S) := rfl
  have go := place_go (S := S) (d := dK l) ok.nm (ok.nm _ (List.getElem_mem hi)) hi rfl (fun j hj e => by
    have := (List.getElem_inj (xs := l.map (·.1)) (i := j) (j := i) (h₀ := by simp; omega) (h₁ := by simp; omega) ok.nd).mp (by simp [e])
    omega) ((l.map dC).length + 1) 0 none none (Nat.zero_le _) (by simp; omega)
  have e := sFor_ok (g := tN2 2 3) hw go
  exact (sSeq_rt e)
end Sb
end
section
set_option Elab.async false
set_option linter.all false
set_option maxRecDepth 100000
set_option maxHeartbeats 4000000
namespace Sb
open PySem PySem.Spec PyProof.Rows L2
/-! ## stores whose places stand -/
abbrev Wf (S : Sto) : Prop := wfk S.length S = true
mutual
theorem bd_mono {j k : Nat} (h : j ≤ k) : ∀ d : D, bd j d = true → bd k d = true
  | .non, _ => rfl
  | .bl _, _ => rfl
  | .int _, _ => rfl
  | .str _, _ => rfl
  | .scr _, _ => rfl
  | .tup ds, b => by simp only [bd] at b ⊢; exact bds_mono h ds b
  | .fl ds, b => by simp only [bd] at b ⊢; exact bds_mono h ds b
  | .exn _, b => b
  | .rgo _ _, b => b
  | .ntu ds, b => by simp only [bd] at b ⊢; exact bds_mono h ds b
  | .fd _ ds, b => by simp only [bd] at b ⊢; exact bds_mono h ds b
  | .loc n, b => by simp only [bd, decide_eq_true_eq] at b ⊢; omega
theorem bds_mono {j k : Nat} (h : j ≤ k) : ∀ ds : List D, bds j ds = true → bds k ds = true
  | [], _ => rfl
  | d :: ds, b => by
    simp only [bds, Bool.and_eq_true] at b ⊢
    exact ⟨bd_mono h d b.1, bds_mono h ds b.2⟩
end
theorem bds_all {k : Nat} : ∀ {ds : List D}, bds k ds = true ↔ ∀ d ∈ ds, bd k d = true
  | [] => by simp [bds]
  | d :: ds => by simp only [bds, Bool.and_eq_true, List.mem_cons, forall_eq_or_imp, bds_all]
theorem bds_map {α : Type} {k : Nat} {f : α → D} {l : List α} (h : ∀ x ∈ l, bd k (f x) = true) : bds k (l.map f) = true := bds_all.mpr fun d hd => by
  obtain ⟨x, hx, rfl⟩ := List.mem_map.mp hd
  exact h x hx
theorem bdO_mono {j k : Nat} (h : j ≤ k) : ∀ o : Ob, bdO j o = true → bdO k o = true
  | .lst ds, b => bds_mono h ds b
  | .dct kvs, b => bds_mono h _ b
  | .ks _ _, _ => rfl
@[simp] theorem bd_dC {k : Nat} {c : Card} : bd k (dC c) = true := rfl
@[simp] theorem bds_dC {k : Nat} {l : List Card} : bds k (l.map dC) = true := bds_map fun _ _ => rfl
@[simp] theorem bd_dK {k : Nat} {l : List Card} : bd k (dK l) = true := by simp only [dK, bd, bds_dC]
@[simp] theorem bds_str {k : Nat} {l : List Str} : bds k (l.map D.str) = true := bds_map fun _ _ => rfl
@[simp] theorem bds_int {k : Nat} {l : List Int} : bds k (l.map D.int) = true := bds_map fun _ _ => rfl
theorem wf_get {S : Sto} {n : Nat} {o : Ob} (w : Wf S) (h : S[n]? = some o) : bdO S.length o = true := List.all_eq_true.mp w o (List.mem_of_getElem? h)
theorem wf_app {S : Sto} {o : Ob} (w : Wf S) (h : bdO (S.length + 1) o = true) : Wf (S ++ [o]) := by
  unfold Wf wfk
  rw [List.length_append, List.all_append, Bool.and_eq_true]
  refine ⟨List.all_eq_true.mpr fun x hx => bdO_mono (Nat.le_add_right _ _) x (List.all_eq_true.mp w x hx), ?_⟩
  simpa using h
/-- all but the spring at n stands; nothing new -/
structure Sm (n : Nat) (S S' : Sto) : Prop where
  len : S'.length = S.length
  at_ : ∀ i, i ≠ n → S'[i]? = S[i]?
theorem Sm.refl {n : Nat} {S : Sto} : Sm n S S := ⟨rfl, fun _ _ => rfl⟩
theorem Sm.trans {n : Nat} {S S1 S2 : Sto} (a : Sm n S S1) (b : Sm n S1 S2) : Sm n S S2 := ⟨b.len.trans a.len, fun i h => (b.at_ i h).trans (a.at_ i h)⟩
theorem Sm.wf {n k : Nat} {S S' : Sto} (a : Sm n S S') (w : Wf S) (h : Spr n k S') : Wf S' := by
  unfold Wf wfk
  rw [List.all_eq_true]
  intro x hx
  obtain ⟨i, hi, rfl⟩ := List.getElem_of_mem hx
  rw [a.len]
  by_cases q : i = n
  · subst q
    obtain ⟨u, v, y, e, _⟩ := h
    have : S'[i] = spr u v y := by
      have := List.getElem?_eq_getElem hi
      rw [e] at this; exact (Option.some.inj this).symm
    rw [this]; rfl
  · have e := a.at_ i q
    rw [List.getElem?_eq_getElem hi] at e
    exact wf_get w e.symm
/-! ## fz read -/
def fzR (k : Nat) (o : Option (Rs D)) : Option (Rs D) := match o with
  | none => none
  | some (.ok d S1) => if wfk k (S1.take k) = true then (rb S1 k 8 d).map fun d' => .ok d' (S1.take k) else none
  | some (.ex x S1) => if wfk k (S1.take k) = true then some (.ex x (S1.take k)) else none
theorem fz_eq {f : EF} {τ : Sl} {S : Sto} : fz f τ S = fzR S.length (f τ S) := rfl
theorem rb_bd {S : Sto} {k m : Nat} {d : D} (h : bd k d = true) : rb S k m d = some d := by
  cases m <;> simp only [rb, if_pos h]
theorem fzR_app {S X : Sto} {d : D} (w : Wf S) (h : bd S.length d = true) : fzR S.length (some (.ok d (S ++ X))) = some (.ok d S) := by
  simp only [fzR, List.take_left, if_pos w, rb_bd h, Option.map_some]
theorem rb_loc {S : Sto} {k m n : Nat} {ds : List D} (h : ¬ (bd k (.loc n) = true)) (e : S[n]? = some (.lst ds)) : rb S k (m + 1) (.loc n) = (ds.mapM (rb S k m)).map .fl := by
  conv => lhs; unfold rb
  simp only [if_neg h, e]
theorem fzR_lst {S X : Sto} {n : Nat} {ds : List D} (w : Wf S) (e : (S ++ X)[n]? = some (.lst ds)) (hn : S.length ≤ n) (h : bds S.length ds = true) : fzR S.length (some (.ok (.loc n) (S ++ X))) = some (.ok (.fl ds) S) := by
  have nb : ¬ (bd S.length (.loc n) = true) := by simp only [bd, decide_eq_true_eq]; omega
  have hm : ds.mapM (rb (S ++ X) S.length 7) = some ds := by
    have := mapM_some (f := rb (S ++ X) S.length 7) (g := fun d => d) (l := ds) fun d hd => rb_bd (bds_all.mp h d hd)
    rwa [List.map_id'] at this
  simp only [fzR, List.take_left, if_pos w, rb_loc nb e, hm, Option.map_some]
theorem fz_app {f : EF} {τ : Sl} {S X : Sto} {d : D} (w : Wf S) (e : f τ S = some (.ok d (S ++ X))) (h : bd S.length d = true) : fz f τ S = some (.ok d S) := by
  rw [fz_eq, e, fzR_app w h]
theorem fz_lst {f : EF} {τ : Sl} {S X : Sto} {n : Nat} {ds : List D} (w : Wf S) (e : f τ S = some (.ok (.loc n) (S ++ X))) (e2 : (S ++ X)[n]? = some (.lst ds)) (hn : S.length ≤ n) (h : bds S.length ds = true) : fz f τ S = some (.ok (.fl ds) S) := by
  rw [fz_eq, e, fzR_lst w e2 hn h]
/-- a list that is told -/
theorem fz_list {r : AF} {τ : Sl} {S S1 : Sto} {ds : List D} (h1 : r τ S = some (.ok ds S1)) (l : S1.length = S.length) (w : Wf S1) (hl : ds.length ≤ 1000) (h : bds S.length ds = true) : fz (eLst r) τ S = some (.ok (.fl ds) S1) := by
  rw [fz_eq, eLst_ok h1 hl, ← l]
  exact fzR_lst w (get_last _ _) (Nat.le_refl _) (by rw [l]; exact h)
/-! ## the spring, all else the same -/
theorem take_app {S X : Sto} : (S ++ X).take S.length = S := List.take_left
/-- what draws and leaves things behind -/
theorem fz_fr {f : EF} {τ : Sl} {S S' : Sto} {n k : Nat} {d : D} (w : Wf S) (e : f τ S = some (.ok d S')) (fr : Fr n S S') (sp : Spr n k S') (hn : n < S.length) (h : bd S.length d = true) :
    ∃ S1, fz f τ S = some (.ok d S1) ∧ Sm n S S1 ∧ Spr n k S1 ∧ Wf S1 := by
  have sm : Sm n S (S'.take S.length) := ⟨by rw [List.length_take]; have := fr.le; omega, fun i hi => by
    by_cases q : i < S.length
    · rw [List.getElem?_take_of_lt q]; exact fr.at_ i hi q
    · rw [List.getElem?_eq_none (by rw [List.length_take]; omega), List.getElem?_eq_none (by omega)]⟩
  have sp' : Spr n k (S'.take S.length) := by
    obtain ⟨a, b, c, e, r⟩ := sp
    exact ⟨a, b, c, by rw [List.getElem?_take_of_lt hn]; exact e, r⟩
  have w' := sm.wf w sp'
  refine ⟨_, ?_, sm, sp', w'⟩
  have w2 : wfk S.length (S'.take S.length) = true := by
    have := w'
    unfold Wf at this
    rwa [sm.len] at this
  rw [fz_eq, e]
  simp only [fzR, if_pos w2, rb_bd h, Option.map_some]
/-! ## comprehensions over told things -/
/-- what walks over ds -/
structure Wks (wk : Wk) (ds : List D) (P : Sto → Prop) : Prop where
  nxt : ∀ i S, P S → wk.nxt i S = some ds[i]?
  bound : ds.length ≤ wk.bound
theorem lc_pu {fi : IF} {g : TF} {t : BF} {fe : EF} {vs : List Nat} {τ : Sl} {S : Sto} {wk : Wk} {ds : List D} (p : D → Bool) (q : D → D) (w : Wf S) (hi : fi τ S = some (.ok wk S)) (hw : Wks wk ds fun S' => ∃ X, S' = S ++ X)
    (hl : ds.length ≤ 100000) (hb : ∀ d ∈ ds, p d = true → bd S.length (q d) = true)
    (h : ∀ d ∈ ds, ∀ S', Wf S' → (∃ X, S' = S ++ X) → ∃ τ1, g d S' (wipeD τ vs) = some τ1 ∧ t τ1 S' = some (.ok (p d) S') ∧ (p d = true → fe τ1 S' = some (.ok (q d) S'))) :
    fz (eLc fi g t fe vs) τ S = some (.ok (.fl ((ds.filter p).map q)) S) := by
  have bdq : ∀ i, bds S.length (((ds.take i).filter p).map q) = true := fun i => bds_map fun x hx => by
    obtain ⟨h1, h2⟩ := List.mem_filter.mp hx
    exact hb x (List.mem_of_mem_take h1) h2
  obtain ⟨S', L, rfl⟩ := goC_inv (nxt := wk.nxt) (g := g) (t := t) (fe := fe) (l := S.length) (τ0 := wipeD τ vs) (n := ds.length)
    (fun i S' => S' = S ++ [.lst (((ds.take i).filter p).map q)]) (fun i => ds.getD i default)
    (fun i S' hi e => by
      subst e
      have e3 := List.getElem?_eq_getElem hi
      have e4 : ds.getD i default = ds[i] := by rw [List.getD_eq_getElem?_getD, e3]; rfl
      have hw' : Wf (S ++ [.lst (((ds.take i).filter p).map q)]) := wf_app w (bds_mono (Nat.le_add_right _ _) _ (bdq i))
      obtain ⟨τ1, h1, h2, h3⟩ := h ds[i] (List.getElem_mem hi) _ hw' ⟨_, rfl⟩
      refine ⟨by rw [hw.nxt i _ ⟨_, rfl⟩, e4, e3], τ1, by rw [e4]; exact h1, ?_⟩
      have et : ds.take (i + 1) = ds.take i ++ [ds[i]] := by rw [List.take_append_getElem hi]
      cases hp : p ds[i] with
      | false =>
        refine .inl ⟨_, by rw [h2, hp], ?_⟩
        rw [et, List.filter_append]; simp [hp]
      | true =>
        refine .inr ⟨_, q ds[i], _, _, by rw [h2, hp], h3 hp, get_last _ _, ?_, ?_⟩
        · have : (((ds.take i).filter p).map q).length ≤ i := by
            rw [List.length_map]; exact Nat.le_trans (List.length_filter_le _ _) (by rw [List.length_take]; omega)
          have := sizeLine_eq
          omega
        · rw [set_last, et, List.filter_append]; simp [hp])
    (fun S' e => by subst e; rw [hw.nxt _ _ ⟨_, rfl⟩, List.getElem?_eq_none (Nat.le_refl _)]) (wk.bound + 1) 0 (S ++ [.lst []]) (Nat.zero_le _) (by have := hw.bound; omega) (by simp)
  rw [List.take_length] at L
  refine fz_lst (n := S.length) (X := [.lst ((ds.filter p).map q)]) w ?_ (get_last _ _) (Nat.le_refl _) (by have := bdq ds.length; rwa [List.take_length] at this)
  simp only [eLc, hi, L, Option.bind_some]
theorem wk_tup {S : Sto} {ds : List D} : wkD S (.tup ds) = some ⟨ds.length, fun i _ => some ds[i]?⟩ := rfl
theorem wk_fl {S : Sto} {ds : List D} : wkD S (.fl ds) = some ⟨ds.length, fun i _ => some ds[i]?⟩ := rfl
theorem wks_ds {ds : List D} {P : Sto → Prop} : Wks ⟨ds.length, fun i _ => some ds[i]?⟩ ds P := ⟨fun _ _ _ => rfl, Nat.le_refl _⟩
theorem wks_rg {n : Nat} {P : Sto → Prop} : Wks (wkR 0 n) ((List.range n).map fun i : Nat => D.int i) P := ⟨fun i S _ => by
  by_cases h : i < n
  · rw [rg_nxt h, List.getElem?_map, List.getElem?_range h]; rfl
  · rw [List.getElem?_eq_none (by simp; omega)]; simp [wkR, h], by simp [wkR]⟩
/-! ## loops that may end by a return -/
theorem goF_ret {nxt : Nat → Sto → Option (Option D)} {g : TF} {fb : SF} {n : Nat} (I : Nat → Sl → Sto → Prop) (P : D → Sto → Prop) (item : Nat → D)
    (h : ∀ i τ S, i < n → I i τ S → nxt i S = some (some (item i)) ∧ ∃ τ1, g (item i) S τ = some τ1 ∧ ((∃ τ2 S2, fb τ1 S = some (.nx τ2, S2) ∧ I (i + 1) τ2 S2) ∨ ∃ d S2, fb τ1 S = some (.rt d, S2) ∧ P d S2))
    (he : ∀ τ S, I n τ S → nxt n S = some none) : ∀ (m i : Nat) (τ : Sl) (S : Sto), i ≤ n → n - i < m → I i τ S →
    (∃ τ' S', goF nxt g fb m i τ S = some (.nx τ', S') ∧ I n τ' S') ∨ ∃ d S', goF nxt g fb m i τ S = some (.rt d, S') ∧ P d S'
  | 0, i, τ, S, _, hm, _ => absurd hm (Nat.not_lt_zero _)
  | m + 1, i, τ, S, hi, hm, hI => by
    unfold goF
    by_cases e : i = n
    · subst e
      rw [he τ S hI]
      exact .inl ⟨τ, S, rfl, hI⟩
    · obtain ⟨h1, τ1, h2, h3⟩ := h i τ S (by omega) hI
      rw [h1]
      rcases h3 with ⟨τ2, S2, h3, h4⟩ | ⟨d, S2, h3, h4⟩
      · simp only [h2, h3]
        exact goF_ret I P item h he m (i + 1) τ2 S2 (by omega) (by omega) h4
      · simp only [h2, h3]
        exact .inr ⟨d, S2, rfl, h4⟩
/-! ## equality of told lists -/
theorem toPy_fnames (n : Nat) (S : Sto) (xs : List Str) : toPy (n + 2) S (.fl (xs.map D.str)) = some (.list (xs.map PyData.str)) := by
  show ((xs.map D.str).mapM (toPy (n + 1) S)).map PyData.list = _
  rw [List.mapM_map, mapM_some (f := toPy (n + 1) S ∘ D.str) (g := PyData.str) fun x _ => rfl]
  rfl
theorem gIn_fl {neg : Bool} {S : Sto} {x : Str} {m : List Str} (hl : Nm x) (hm : ∀ c ∈ m, Nm c) : gIn neg (.str x) (.fl (m.map D.str)) S = some (.bl (if neg then !decide (x ∈ m) else decide (x ∈ m)), S) := by
  have e := any_str x m
  simp only [gIn, toPy_fnames, shp_names hm, shp_str hl, and_self, if_true, toPy_str, List.any_map]
  have e2 : (m.any ((fun z => PyData.eqv z (.str x)) ∘ PyData.str)) = decide (x ∈ m) := e
  rw [e2]
end Sb
end
section
set_option Elab.async false
set_option linter.all false
set_option maxRecDepth 100000
set_option maxHeartbeats 4000000
namespace Sb
open PySem PySem.Spec PyProof.Rows L2
/-! ## defs that may print: the same promise where no print is under way -/
structure FnOkG (P : Program) (w : World) (K : PySem.W.Frag) (mg : Str → Option Value) (base : Heap) (CX : CXT) (k : Nat) (f : Addr) (fd : FuncData) (ps : List Str) (sp : Sp) : Prop where
  len : ∀ vs H Q E, sp vs H Q E → vs.length = ps.length
  run : ∀ (A : Around) (outer : List Env) (s : Shared) (H : Hp) (args : Args) (us : List Value) (vs : List V) (Q : VK) (E : XK), Room k A → A.guards = some [] → Env0 P w K mg base A outer s H → BindsTo s fd args (ps.zip us) → Vals vs us → sp vs H Q E →
    codeAny (model P w) A (.call (.ref f) args) (CR CX outer P w H s Q E) s
section
variable {P : Program} {w : World} {mg : Str → Option Value} {base : Heap} {x qual : Str} {params : Arguments} {body : List Stmt} {scope : Scope} {f : Addr} {fd : FuncData} {T : Tb} {k : Nat}
theorem fn_sbG {p : He.Defn} {N ps : List Str} {g : SF} (F : FunD T.K x qual params body scope [] [] (He.fAd T.K p) fd) (S : FnScope N ps scope)
    (hb : ∀ (A : Around) (outer : List Env) (s : Shared) (H : Hp) (E : XK), Room k (A.deeper (envOfC qual scope s.heap.objs.size (He.fAd T.K p) (.ref (He.codeOf T.K p)))) → (A.deeper (envOfC qual scope s.heap.objs.size (He.fAd T.K p) (.ref (He.codeOf T.K p)))).guards = some [] →
      PSs (bX P w T.K mg base N qual scope (He.fAd T.K p) (.ref (He.codeOf T.K p)) A outer s H E) body (rdS T (eW E) g)) :
    FnOkG P w T.K mg base (L2.CX P w) (k + 1) (He.fAd T.K p) fd ps (spM T (fnM N.length g) ps.length) := by
  obtain ⟨oc, od, dV, kV, doc, pm, an, cdv, ct, osl, rfl, lk, hcd, _, _⟩ := F.ex
  obtain ⟨c, rfl⟩ := He.codeIn_ref hcd
  have ec := He.codeOf_eq (p := p) lk rfl
  refine ⟨fun vs H Q E ⟨φ, S0, ds, o, _, r, l, _⟩ => by rw [← r.length, l], fun A outer s H args us vs Q E room quiet e0 bind rel wish => ?_⟩
  obtain ⟨φ, S0, ds, o, R, r, l, eM, q⟩ := wish
  have many : vs.length = ps.length := by rw [← r.length, l]
  have inK : T.K.In s.heap := e0.mod.kin.keeps fun b o e => (e0.bs b o e).1
  have noLim : s.heap.NoLimit := e0.mod.nolimit.keeps fun b o e => (e0.bs b o e).1
  have kinds : ∀ y ∈ ps.zip us, scope.names.lookup y.1 = some .local ∨ (scope.names.lookup y.1 = some .cell ∧ ((cellsFrom (s.heap.objs.size + 1) scope.names []).lookup y.1).isSome = true) := fun ⟨n, v⟩ hy =>
    (S.par n (List.of_mem_zip hy).1).imp id fun z => ⟨z, PySem.W.cellsFrom_some _ _ _ (.inl z)⟩
  subst ec
  refine codeAny_call_function room.depth (inK _ _ lk) rfl S.co S.gen rfl (PySem.W.codeRec_of inK hcd) (bind _ _ _ _ ?_)
  refine wpAny_newFunctionEnv_cells S.kind kinds fun env he s1 started => ?_
  subst he
  refine ⟨noLim.keeps started.toInCall.keep, codeAny_func ?_⟩
  have start1 : L2.Inv (bX P w T.K mg base N qual scope (He.fAd T.K p) (.ref (He.codeOf T.K p)) A outer s H E) [] (L2.start N vs) H s1 := inv_start S room.hd e0 many rel started
  have wish1 : rdS T (eW E) g { nx := fun _ H' => Q .non H', rt := Q } (L2.start N vs) H := by
    unfold fnM at eM
    cases e1 : g (ini N.length ds) S0 with
    | none => rw [e1] at eM; cases eM
    | some z =>
      obtain ⟨fl, S1⟩ := z
      rw [e1] at eM
      refine ⟨φ, S0, ini N.length ds, fl, S1, R, ini_rsl r, e1, ?_⟩
      cases fl with
      | rt d => cases eM; exact q
      | nx τ => cases eM; exact fun φ' H' σ' E1 R1 _ => q φ' H' .non E1 R1 rfl
      | xx xn τ => cases eM; exact fun φ' H' σ' d E1 R1 _ hx => q φ' H' d E1 R1 hx
      | bk τ => cases eM
      | ct τ => cases eM
  refine wpAny_mono ((hb A outer s H E (room.deeper _) quiet).run [] s1 (L2.start N vs) H _ start1 wish1) (fun fl s' done => ?_) fun e s' done => done
  have close : ∀ {σ' : L2.St} {H' : Hp} {v : V} {u : Value}, L2.Inv (bX P w T.K mg base N qual scope (He.fAd T.K p) (.ref (He.codeOf T.K p)) A outer s H E) [] σ' H' s' → RelV v u → Q v H' → CE outer P w H s Q u s' := fun {σ' H' v u} J rv qv => ⟨v, H', J.os, J.bare, J.base, J.hok, rv, qv⟩
  cases fl with
  | ret u =>
    obtain ⟨v, σ', H', J, rv, qv⟩ := done
    exact close J rv qv
  | next =>
    obtain ⟨σ', H', J, qv⟩ := done
    exact close (v := V.non) (u := Value.none) J rfl qv
  | brk =>
    obtain ⟨_, _, _, qv⟩ := done
    exact False.elim qv
  | cont =>
    obtain ⟨_, _, _, qv⟩ := done
    exact False.elim qv
end
section
variable {X : Cx} {T : Tb} {W : WX} {pos : Pos} {e : Expr} {es : List Expr} {ra : AF}
theorem d_callG {k n : Nat} {f : Addr} {fd : FuncData} {ps : List Str} {m : List D → M D} {x : Str} {p : Pos} (F : FnOkG X.prog X.w X.K X.mg X.base (L2.CX X.prog X.w) k f fd ps (spM T m n)) (hr : Room k X.A) (quiet : X.A.guards = some []) (hm : X.mg x = some (.ref f)) (hk : PySem.W.keepIn X.K (.ref f) = true) (hb : Binds X.K fd ps [])
    (tk : Takes X W) (ha : PA X (e :: es) (rdA T W ra)) (hg : Gl X x := by rfl) (hdb : (x == ("__debug__" : Str)) = false := by decide) (he : starEach (e :: es) X.env = (false, eval e X.env) :: starEach es X.env := by rfl) (hpl : (backTo pos (starEach es X.env)).any (·.1) = false := by rfl) :
    PE X (.Call (.Name x p) (e :: es) [] pos) (rdE T W (eCl m n ra)) := by
  refine ⟨fun pins s σ H Q I h => ?_⟩
  obtain ⟨φ, S, τ, o, R, r, eq, q⟩ := h
  have args : rdA T W ra σ H fun vs H1 => spM T m n vs H1 Q (fun c d H' => W c d σ H') := by
    refine rdA_bnd R r eq q fun ds S1 vs H1 φ1 E1 R1 r1 e1 q1 => ?_
    split at e1
    · rename_i hl
      exact ⟨φ1, S1, ds, o, R1, r1, hl, e1, q1⟩
    · cases e1
  refine wpAny_Call_Name_kw (ld_glob I hg hm ?_ hdb)
  refine PySem.W.callWith_K (h₀ := X.base) I.ok.mod.kin hk (thn (ha.run pos pins s σ H _ I args) fun us s1 ⟨vs, H1, I1, rv, wish⟩ => ⟨I1.kIn, ?_⟩) he hpl
  have hl : us.length = ps.length := by rw [← rv.length]; exact F.len _ _ _ _ wish
  have b := hb s1 us I1.kIn (by rw [List.append_nil]; exact hl)
  rw [List.append_nil] at b
  refine wpAny_call (codeAny_mono (F.run X.A X.stack s1 H1 ⟨us, []⟩ us vs Q _ hr quiet I1.env0 b rv wish) fun r2 s' hq => ?_)
  cases r2 with
  | error e2 => exact passAt tk σ pins H1 s1 e2 s' I1 hq
  | ok fl =>
    cases fl with
    | ret u => exact I1.after hq
    | next => exact False.elim hq
    | brk => exact False.elim hq
    | cont => exact False.elim hq
end
/-- a def that may be called by its name where no print is under way -/
def CalG (P : Program) (w : World) (mg : Str → Option Value) (base : Heap) (T : Tb) (k n : Nat) (x : Str) (m : List D → M D) : Prop :=
  ∃ f fd ps, mg x = some (.ref f) ∧ PySem.W.keepIn T.K (.ref f) = true ∧ Binds T.K fd ps [] ∧ FnOkG P w T.K mg base (L2.CX P w) k f fd ps (spM T m n)
theorem cal_ofG {P : Program} {w : World} {mg : Str → Option Value} {base : Heap} {x qual : Str} {params : Arguments} {body : List Stmt} {scope : Scope} {fd : FuncData} {T : Tb} {k : Nat} {p : He.Defn} {N ps : List Str} {g : SF}
    (F : FunD T.K x qual params body scope [] [] (He.fAd T.K p) fd) (S : FnScope N ps scope) {y : Str} (hm : mg y = some (.ref (He.fAd T.K p)))
    (bnd : ∀ (kV doc pm : Value) (an : Option Addr) (cdv ct : Value) (us : List Value), us.length = ps.length → bindArgs (PySem.W.fnOf x qual params body scope .none kV doc pm an cdv ct) ⟨us, []⟩ = pure (ps.zip us))
    (hb : ∀ (A : Around) (outer : List Env) (s : Shared) (H : Hp) (E : XK), Room k (A.deeper (envOfC qual scope s.heap.objs.size (He.fAd T.K p) (.ref (He.codeOf T.K p)))) → (A.deeper (envOfC qual scope s.heap.objs.size (He.fAd T.K p) (.ref (He.codeOf T.K p)))).guards = some [] →
      PSs (bX P w T.K mg base N qual scope (He.fAd T.K p) (.ref (He.codeOf T.K p)) A outer s H E) body (rdS T (eW E) g)) : CalG P w mg base T (k + 1) ps.length y (fnM N.length g) :=
  ⟨_, fd, ps, hm, F.kp, F.bindsN bnd, fn_sbG F S hb⟩
theorem d_callCG {X : Cx} {T : Tb} {W : WX} {pos : Pos} {e : Expr} {es : List Expr} {ra : AF} {k n : Nat} {m : List D → M D} {x : Str} {p : Pos} (C : CalG X.prog X.w X.mg X.base T k n x m) (hK : T.K = X.K) (hr : Room k X.A) (quiet : X.A.guards = some []) (tk : Takes X W) (ha : PA X (e :: es) (rdA T W ra)) (hg : Gl X x := by rfl)
    (hdb : (x == ("__debug__" : Str)) = false := by decide) (he : starEach (e :: es) X.env = (false, eval e X.env) :: starEach es X.env := by rfl) (hpl : (backTo pos (starEach es X.env)).any (·.1) = false := by rfl) :
    PE X (.Call (.Name x p) (e :: es) [] pos) (rdE T W (eCl m n ra)) := by
  obtain ⟨f, fd, ps, hm, hk, hb, F⟩ := C
  rw [hK] at hk hb F
  exact d_callG F hr quiet hm hk hb tk ha hg hdb he hpl
end Sb
end
section
set_option Elab.async false
set_option linter.all false
set_option maxRecDepth 100000
set_option maxHeartbeats 4000000
namespace Sb
open PySem PySem.Spec PyProof.Rows L2
/-- repr of a list or a tuple of data -/
def gRepr : GN := fun ds S => match ds with
  | [d] => match d with
    | .tup _ | .loc _ | .fl _ => (toPy 8 S d).bind fun p => if p.showable = true ∧ p.hasDict = false ∧ p.depth ≤ 8 ∧ p.shown.length ≤ sizeLine then some (.str p.shown, S) else none
    | _ => none
  | _ => none
end Sb
end
section
set_option Elab.async false
set_option linter.all false
set_option maxRecDepth 100000
set_option maxHeartbeats 4000000
namespace Sb
open PySem PySem.Spec PyProof.Rows L2
section
variable {X : Cx} {T : Tb}
/-! ## all(a list of truths) -/
/-! ## clear, reverse, extend -/
end
end Sb
end
section
set_option Elab.async false
set_option linter.all false
set_option maxRecDepth 100000
set_option maxHeartbeats 4000000
namespace Sb
open PySem PySem.Spec PyProof.Rows L2
/-! ## l.count(x) of data -/
theorem mt_countD {X : Cx} (hu : X.A.units + 65 < cLine) : MtR X "list.count" (fun x xs H Q => ∃ (a : Addr) (y : V) (d : PyData) (ds : List PyData), x = V.ref a ∧ xs = [y] ∧ Dp X.K H (V.ref a) (.list ds) ∧ Dp X.K H y d ∧ SeqAt.shaped (.list ds) = true ∧ SeqAt.shaped d = true ∧ Q (.int (ds.countP fun z => PyData.eqv z d : Nat)) H) := by
  intro pins s σ H x xs v us Q I rx rxs h
  obtain ⟨a, y, d, ds, rfl, rfl, hl, hy, sl, sd, q⟩ := h
  cases rx
  cases rxs with
  | cons ry rt =>
    rename_i uy ut
    cases rt
    obtain ⟨bs, r1⟩ := Dp.reads I d y uy hy ry
    have hxs : PyData.canLayAll0 ds = true := SeqAt.canLay_of_shaped sl
    have hroom : X.A.units + 1 + min (PyData.depthAll ds) d.depth < cLine := room_in_shaped sd hu
    cases hl with
    | lst hs ha =>
      obtain ⟨its, rv, ⟨⟨cls, dd, data, sls⟩, n, ho, hc, hdn, hdt⟩, hlen⟩ := I.list hs
      simp only at hc hdt
      subst hc hdt
      obtain ⟨as, h4⟩ := Dp.readsAll I ds _ its ha rv
      have hmap : its.map (SeqAt.readOf s.heap) = ds := SeqAt.readsAll_map ds its as hxs h4
      refine call_meets PySem.F.slot_list_count ⟨_, ho, rfl⟩ PySem.F.entry_list_count (PySem.F.args_list_count_2 _ _)
        (SeqAt.list_countAt a its.toArray n dd sls uy (fun u => PyData.eqv (SeqAt.readOf s.heap u) d)) ⟨ho, SeqAt.items_eqAt (vs := its.toArray) (show ReadsAll s.heap its.toArray.toList ds as from h4) r1 hxs (SeqAt.canLay_of_shaped sd) hroom, ?_⟩
      refine ⟨.int (ds.countP fun z => PyData.eqv z d : Nat), H, I.tok _, ⟨s.toks, ?_⟩, q⟩
      have e : its.toArray.toList.countP (fun u => PyData.eqv (SeqAt.readOf s.heap u) d) = ds.countP fun z => PyData.eqv z d := by
        rw [← hmap, List.countP_map]; rfl
      rw [e]
def gCount : GM := fun x ds S => match ds with
  | [y] => match toPy 8 S x, toPy 8 S y with
    | some (.list es), some d => if SeqAt.shaped (.list es) = true ∧ SeqAt.shaped d = true then some (.int (es.countP fun z => PyData.eqv z d : Nat), S) else none
    | _, _ => none
  | _ => none
theorem m_count {X : Cx} {T : Tb} (hu : X.A.units + 65 < cLine) : MtR X "list.count" (rGM T gCount) := MtR.imp (mt_countD hu) fun x xs H Q h => by
  obtain ⟨φ, S, d, ds, R, r, rs, f⟩ := h
  unfold gCount at f
  split at f
  · rename_i y
    split at f
    · rename_i es p h1 h2
      split at f
      · rename_i hs
        obtain ⟨v, l, rfl, r1, r2⟩ := rs
        cases r2
        have dx := py_dp (K := X.K) R 8 d x _ r h1
        have dy := py_dp (K := X.K) R 8 y v _ r1 h2
        obtain ⟨a, rfl⟩ : ∃ a, x = .ref a := by cases dx; exact ⟨_, rfl⟩
        exact ⟨a, v, p, es, rfl, rfl, dx, dy, hs.1, hs.2, f.val R rfl⟩
      · obtain ⟨_, _, z, _⟩ := f; cases z
    · obtain ⟨_, _, z, _⟩ := f; cases z
  · obtain ⟨_, _, z, _⟩ := f; cases z
end Sb
end
section
set_option Elab.async false
set_option linter.all false
set_option maxRecDepth 100000
namespace Sb
open PySem PySem.Spec PyProof.Rows L2
def m_names_of : SF := sRt (fz (eLc (iSeq (eVar 0)) (tN 1) (tAll) (eB gIx (eVar 1) (eC (.int 0))) [1]))
abbrev M_names_of : List D → M D := fnM 2 (m_names_of)
def m_closed_of : SF := sSeq (sSet 1 (eC (.int 0))) (sSeq (sFor (iEn (aCons (eVar 0) (aNil))) (tN2 2 3) (sSeq (sIf (tB (eB gLtI (eVar 1) (eVar 2))) (sRt (eVar 2)) (sNop)) (sSet 1 (eCB gMax (aCons (eVar 1) (aCons (eCl (M_reach_of) 2 (aCons (eVar 3) (aCons (eCB gLenX (aCons (eVar 0) (aNil))) (aNil)))) (aNil))))))) (sRt (eCB gLenX (aCons (eVar 0) (aNil)))))
abbrev M_closed_of : List D → M D := fnM 4 (m_closed_of)
def m_is_home_at : SF := sRt (eB gLe (eVar 1) (eCl (M_reach_of) 2 (aCons (eB gIx (eVar 0) (eVar 1)) (aCons (eCB gLenX (aCons (eVar 0) (aNil))) (aNil)))))
abbrev M_is_home_at : List D → M D := fnM 2 (m_is_home_at)
def m_away_places : SF := sRt (fz (eLc (iRg1 (aCons (eCl (M_closed_of) 1 (aCons (eVar 0) (aNil))) (aNil))) (tN 1) (tNt (tB (eCl (M_is_home_at) 2 (aCons (eVar 0) (aCons (eVar 1) (aNil)))))) (eVar 1) [1]))
abbrev M_away_places : List D → M D := fnM 2 (m_away_places)
def m_hand_of : SF := sRt (fz (eLc (iSeq (eSl (eVar 0) (oNo) (oSo (eVar 1)))) (tN 2) (tB (eB gGeI (eCl (M_reach_of) 2 (aCons (eVar 2) (aCons (eCB gLenX (aCons (eVar 0) (aNil))) (aNil)))) (eVar 1))) (eVar 2) [2]))
abbrev M_hand_of : List D → M D := fnM 3 (m_hand_of)
def m_require_level (K : PySem.W.Frag) : SF := sIf (tNt (tB (eCl (M_is_number) 2 (aCons (eVar 1) (aCons (eB gSub (eCl (M_closed_of) 1 (aCons (eVar 0) (aNil))) (eC (.int 1))) (aNil)))))) (sRaise (He.ga K "NoLevel")) (sNop)
abbrev M_require_level (K : PySem.W.Frag) : List D → M D := fnM 2 (m_require_level K)
def m_closed_place (K : PySem.W.Frag) : SF := sRt (eCl (M_closed_of) 1 (aCons (fz (eCl (M_deck_of K) 1 (aCons (eVar 0) (aNil)))) (aNil)))
abbrev M_closed_place (K : PySem.W.Frag) : List D → M D := fnM 1 (m_closed_place K)
def m_away (K : PySem.W.Frag) : SF := sSeq (sSet 1 (fz (eCl (M_deck_of K) 1 (aCons (eVar 0) (aNil))))) (sRt (fz (eLc (iSeq (eCl (M_away_places) 1 (aCons (eVar 1) (aNil)))) (tN 2) (tAll) (eB gIx (eB gIx (eVar 1) (eVar 2)) (eC (.int 0))) [2])))
abbrev M_away (K : PySem.W.Frag) : List D → M D := fnM 3 (m_away K)
def m_hand_at (K : PySem.W.Frag) : SF := sSeq (sSet 2 (fz (eCl (M_deck_of K) 1 (aCons (eVar 0) (aNil))))) (sSeq (sEx (eCl (M_require_level K) 2 (aCons (eVar 2) (aCons (eVar 1) (aNil))))) (sRt (eCl (M_names_of) 1 (aCons (eCl (M_hand_of) 2 (aCons (eVar 2) (aCons (eVar 1) (aNil)))) (aNil)))))
abbrev M_hand_at (K : PySem.W.Frag) : List D → M D := fnM 3 (m_hand_at K)
def m_ring_of : SF := sRt (eB gAdd (eCl (M_hand_of) 2 (aCons (eVar 0) (aCons (eVar 1) (aNil)))) (fz (eLst (aCons (eB gIx (eVar 0) (eVar 1)) (aNil)))))
abbrev M_ring_of : List D → M D := fnM 2 (m_ring_of)
def m_ring_at (K : PySem.W.Frag) : SF := sSeq (sSet 2 (fz (eCl (M_deck_of K) 1 (aCons (eVar 0) (aNil))))) (sSeq (sEx (eCl (M_require_level K) 2 (aCons (eVar 2) (aCons (eVar 1) (aNil))))) (sRt (eCl (M_names_of) 1 (aCons (eCl (M_ring_of) 2 (aCons (eVar 2) (aCons (eVar 1) (aNil)))) (aNil)))))
abbrev M_ring_at (K : PySem.W.Frag) : List D → M D := fnM 3 (m_ring_at K)
end Sb
end
section
set_option Elab.async false
set_option linter.all false
set_option maxRecDepth 100000
set_option maxHeartbeats 4000000
namespace Sb
open PySem PySem.Spec PyProof.Rows L2
section
variable {X : Cx} {T : Tb} {W : WX} {pos : Pos} {e : Expr} {fa : EF}
/-! ## xs[i], ys[j] = a, b -/
end
end Sb
end
section
set_option Elab.async false
set_option linter.all false
set_option maxRecDepth 100000
set_option maxHeartbeats 4000000
namespace Sb
open PySem PySem.Spec PyProof.Rows L2
/-! ## texts alike, whatever signs they have -/
def gEqS (neg : Bool) : G2 := fun x y S => match x, y with
  | .str a, .str b => some (.bl (if neg then !decide (a = b) else decide (a = b)), S)
  | _, _ => none
theorem o_neS {X : Cx} {T : Tb} : OpR X (compareOp .NotEq) (rG2 T (gEqS true)) := OpR.imp op_ne fun x y H Q h => by
  obtain ⟨φ, S, d1, d2, R, r1, r2, f⟩ := h
  cases d1 with
  | str a =>
    cases d2 with
    | str b =>
      cases r1; cases r2
      refine ⟨rfl, ?_⟩
      have : decide ((V.str a) = V.str b) = decide (a = b) := by simp
      rw [this]
      exact f.val R rfl
    | _ => obtain ⟨_, _, e, _⟩ := f; cases e
  | _ => obtain ⟨_, _, e, _⟩ := f; cases e
end Sb
end
section
set_option Elab.async false
set_option linter.all false
set_option maxRecDepth 100000
namespace Sb
open PySem PySem.Spec PyProof.Rows L2
end Sb
end
section
set_option Elab.async false
set_option linter.all false
set_option maxRecDepth 100000
namespace Sb
open PySem PySem.Spec PyProof.Rows L2
end Sb
end
section
set_option Elab.async false
set_option linter.all false
set_option maxRecDepth 100000
set_option maxHeartbeats 4000000
namespace Sb
open PySem PySem.Spec PyProof.Rows L2
/-! ## a def with a keyword-only parameter that has a default: def f(a, *, b=c) -/
section
variable {P : Program} {w : World} {mg : Str → Option Value} {base : Heap} {x qual : Str} {params : Arguments} {body : List Stmt} {scope : Scope} {f : Addr} {fd : FuncData} {T : Tb} {k : Nat} {dvs : List V} {kwv : List (Str × V)}
end
section
variable {X : Cx} {T : Tb} {W : WX} {pos : Pos} {e e2 : Expr} {ra rb : AF}
end
end Sb
end
section
set_option Elab.async false
set_option linter.all false
set_option maxRecDepth 100000
set_option maxHeartbeats 4000000
namespace Sb
open PySem PySem.Spec PyProof.Rows L2
/-! ## list comprehensions of two clauses -/
section
variable {X : Cx} {T : Tb} {W : WX} {pos : Pos} {fi fi1 : IF} {g g1 : TF} {t t1 : BF} {fe : EF} {vs vs1 us us1 : List Nat}
variable {elt tg iter tg1 iter1 : Expr} {ifs ifs1 : List Expr} {scope : Scope} {own : List (Str × Nat)}
end
end Sb
end
section
set_option Elab.async false
set_option linter.all false
set_option maxRecDepth 100000
set_option maxHeartbeats 4000000
namespace Sb
open PySem PySem.Spec PyProof.Rows L2
/-! ## an exception that is caught and kept -/
/-- the object of a caught exception -/
abbrev kept (a : Addr) (oe : Obj) : HO := .frz oe (.own a)
theorem inv_note {X : Cx} {pins : List (Addr × Obj)} {σ : L2.St} {H : Hp} {s : Shared} {a : Addr} {oe : Obj} {vs : Array Value} (I : Inv X ((a, oe) :: pins) σ H s) (hd : oe.data = .fields vs) (h0 : X.s_0.heap.get? a = none) (hp : ∀ p ∈ X.pn ++ pins, p.1 ≠ a) :
    Inv X pins σ (upd H a (kept a oe)) s := by
  have hpin := I.pin (a, oe) (List.mem_append_right _ List.mem_cons_self)
  obtain ⟨hg, hn, hL, hF, hc⟩ := hpin
  have hg : s.heap.get? a = some oe := hg
  have hn : H a = none := hn
  refine ⟨I.ok, I.os, I.bare, ⟨I.base.keep, I.base.slot, fun b o e n hx => ?_, I.base.there, fun b xs e => ?_, fun b o u e => ?_, fun b ps e => ?_⟩, I.loc, I.cell, ?_, fun x c e => ?_, fun p q => ?_, fun b u e => ?_, I.len⟩
  · have : b ≠ a := fun z => by subst z; rw [h0] at e; cases e
    rw [upd_ne this]; exact I.base.free b o e n hx
  · have := I.base.tups b xs e
    rw [upd_ne (ne_of_none this hn)]; exact this
  · have := I.base.frzs b o u e
    rw [upd_ne (ne_of_none this hn)]; exact this
  · obtain ⟨more, this⟩ := I.base.tbls b ps e
    exact ⟨more, by rw [upd_ne (ne_of_none this hn)]; exact this⟩
  · rw [upd_ne (Ne.symm hL)]; exact I.free
  · have : c ≠ a := fun z => by
      subst z
      obtain ⟨v, o, ho, hv⟩ := I.cell x c e
      rw [hg] at ho; cases ho
      exact hc v hv
    rw [upd_ne this]; exact I.freeC x c e
  · have hpp : p ∈ X.pn ++ (a, oe) :: pins := by
      rcases List.mem_append.mp q with z | z
      · exact List.mem_append_left _ z
      · exact List.mem_append_right _ (List.mem_cons_of_mem _ z)
    obtain ⟨p1, p2, p3⟩ := I.pin p hpp
    exact ⟨p1, by rw [upd_ne (hp p q)]; exact p2, p3⟩
  · by_cases hb : b = a
    · subst hb
      rw [upd_same] at e; cases e
      exact ⟨hg, ⟨_, hg⟩⟩
    · rw [upd_ne hb] at e
      exact (I.hok b u e).stay (fun c v _ q => q) (fun c q => by rw [upd_ne (ne_of_none q hn)]; exact q) fun c xs q => by rw [upd_ne (ne_of_none q hn)]; exact q
/-- what the clause 'except x as n: y = n' wishes of an exception of the body: slot i is n's, slot j is y's -/
def wKeep (K : PySem.W.Frag) (c : Value) (i j : Nat) (Wout : WX) (D : Ends) : WX := fun cls d σ H =>
  ∃ b, PySem.W.exmOne K cls c = some b ∧ (b = true → ∀ a oe, H a = none → Zc cls d oe → (∃ vs, oe.data = .fields vs) → D.nx ((((σ.set i (some (.ref a))).set j (some (.ref a)))).set i none) (upd H a (kept a oe))) ∧
    (b = false → Wout cls d σ H)
section
variable {X : Cx} {x n y : Str} {c : Value} {i j : Nat} {body : List Stmt} {np pos pos' p1 p2 p3 : Pos} {tb : WX → TS} {Wout : WX}
theorem ps_try_keep (hs : X.stack = X.env :: X.outer) (hf : X.env.frame = some X.env.locals) (hex : X.ex = []) (hN : X.N.Nodup) (hi : X.N[i]? = some n) (hj : X.N[j]? = some y) (hln : X.env.kindOf n = some .local) (hly : X.env.kindOf y = some .local) (hc : Names X x c) (tk : Takes X Wout)
    (hb : ∀ (W : WX) (pn : List (Addr × Obj)) (xe : Value → Shared → Prop), Takes (X.tr pn xe) W → PassesOwn (model X.prog X.w) X.A X.env xe → PSs (X.tr pn xe) body (tb W))
    (hsw : swapsWith (.Name n p2) (some (.Name y p1)) p3.line X.env = pure false := by rfl) (hd1 : (n == ("__debug__" : Str)) = false := by decide) (hd2 : (n == ("__classdict__" : Str)) = false := by decide) :
    PS X (.Try body [.ExceptHandler (some (.Name x np)) (some n) [.Assign [.Name y p1] (.Name n p2) p3] pos'] [] [] pos) (fun D σ H => tb (wKeep X.K c i j Wout D) D σ H) := by
  refine ⟨fun pins s σ H D I h => ?_⟩
  have ok := I.ok
  have hfr : X.A.frames = some (X.env :: X.outer) := by rw [ok.frames, hs]
  have hloc : Loc X.env.scope n := .inl hln
  refine wpAny_Try_except ?_
  refine wpAny_mono ((hb (wKeep X.K c i j Wout D) (X.pn ++ pins) (fun e s₁ => wpAny (model X.prog X.w) X.A (noteFrame e X.env) (fun _ s₂ => wpAny (model X.prog X.w) X.A (setFlight e none) (fun _ s₃ =>
    wpAny (model X.prog X.w) X.A (handleBy e X.env [.ExceptHandler (some (.Name x np)) (some n) [.Assign [.Name y p1] (.Name n p2) p3] pos']) (SP X pins D) X.xe s₃) X.xe s₂) X.xe s₁) (fun u s' xx => ?_) PassesOwn.looking).run [] s σ H D (I.toTry _) h) (fun f s1 hsp => ?_) (fun e s1 he => he)
  · -- the catch
    obtain ⟨a, B, sI, pins', σ', H', cls, d, rfl, J', nb, up, sky, na, os, ag, b, hb1, hyes, hno⟩ := xx
    have J : Inv X pins σ' H' sI := J'.ofTry ok
    have sky' : Sky B (X.env :: X.outer) a (Zc cls d) X.env.locals s'.heap := by rw [← hs]; exact sky
    show wpAny (model X.prog X.w) X.A (noteFrame (.ref a) X.env) _ _ _
    refine Sky.land Zc.steady hfr hf sky' fun h3 fl3 up3 => ?_
    have J3 : Inv X pins σ' H' { s' with heap := h3 } := J.landed nb fl3.1 (up.trans up3) os ag
    obtain ⟨oe3, vs3, he3, hz3, hd3⟩ := fl3.there
    have notFr : ∀ {h : Heap} {o : Obj} {vs : Array Value}, h.FunFrames B (X.env :: X.outer) → h.get? a = some o → o.data = .fields vs → a ∉ frs (X.env :: X.outer) := fun {h o vs} ff e dd hm => by
      obtain ⟨_, o', e', hnf⟩ := ff.mem hm
      rw [e] at e'; cases e'
      exact hnf _ dd
    have nfr := notFr fl3.2.2.1 he3 hd3
    have nL : a ≠ X.env.locals := fun z => nfr (List.mem_filterMap.mpr ⟨X.env, List.mem_cons_self, by rw [hf, z]⟩)
    have nF : a ∉ X.fs := fun hm => by
      obtain ⟨e, he, q⟩ := List.mem_filterMap.mp hm
      exact nfr (List.mem_filterMap.mpr ⟨e, List.mem_cons_of_mem _ he, q⟩)
    -- it is new
    have nI : sI.heap.get? a = none := by
      cases q : sI.heap.get? a with
      | none => rfl
      | some o =>
        have := nb a o q (by rw [hs]; exact nfr)
        rw [fl3.2.1] at this; cases this
    have n0 : X.s_0.heap.get? a = none := by
      cases q : X.s_0.heap.get? a with
      | none => rfl
      | some o =>
        obtain ⟨o', e'⟩ := J.base.there a o q (by rw [hex]; simp)
        rw [nI] at e'; cases e'
    have npin : ∀ p ∈ X.pn ++ pins, p.1 ≠ a := fun p hp z => by
      obtain ⟨e, _⟩ := J.pin p hp
      rw [z, nI] at e; cases e
    have S3 := J3.suite he3 hd3 na nL nF
    refine wpAny_handleBy_cons (codeAny_handlers_test ?_) (by intro q; cases q)
    have LT : PySem.W.Looks (model X.prog X.w) h3 (typeOf (.ref a)) cls := fun A Q E s k q => wpAny_typeOf_ref (k _ _ he3) (by rw [hz3.1]; exact q)
    have LM := PySem.W.exm_one (M := model X.prog X.w) (J3.kIn) LT hb1
    have test : ∀ {Q : Value → Shared → Prop} {E : Value → Shared → Prop}, Q c { s' with heap := h3 } → wpAny (model X.prog X.w) (X.A.mark (some (.ref a))) (eval (.Name x np) X.env) Q E { s' with heap := h3 } := fun {Q E} q => by
      obtain ⟨hg, hdbg, hm | ⟨hm, hv, hnn⟩⟩ := hc
      · exact ld_glob (X := X.suite a ((a, oe3) :: (X.pn ++ pins))) S3 hg hm q hdbg
      · exact ld_blt (X := X.suite a ((a, oe3) :: (X.pn ++ pins))) S3 hg hm hv q hnn hdbg
    refine test (LM.here ?_)
    cases b with
    | true =>
      refine codeAny_handlers_suite_as ?_
      refine HandSPX.lands_againZ fl3 fun h4 fl4 up4 => ?_
      have J4 : Inv X pins σ' H' { s' with heap := h4 } := J.landed nb fl4.1 ((up.trans up3).trans up4) os ag
      obtain ⟨oe4, vs4, he4, hz4, hd4⟩ := fl4.there
      have S4 := J4.suite he4 hd4 na nL nF
      have XS := X.suite a ((a, oe4) :: (X.pn ++ pins))
      refine store_ok (X := X.suite a ((a, oe4) :: (X.pn ++ pins))) (v := .ref a) S4 hN hi hloc rfl (fun s5 S5 => ?_) (.inr hln)
      have il : i < σ'.length := by rw [J.len]; exact (List.getElem?_eq_some_iff.mp hi).1
      have suiteR : PSs (X.suite a ((a, oe4) :: (X.pn ++ pins))) [.Assign [.Name y p1] (.Name n p2) p3] _ := pss_one (ps_set (X := X.suite a ((a, oe4) :: (X.pn ++ pins))) (i := j) hN hj (.inl hly) (pe_var (i := i) hi (.inl hln) hd1 hd2) hsw (.inr hly))
      refine wpAny_mono (suiteR.run [] s5 _ H' { nx := fun σ6 H6 => D.nx (σ6.set i none) (upd H6 a (kept a oe4)), rt := fun _ _ => False, bk := fun _ _ => False, ct := fun _ _ => False } S5 ?_) (fun f s6 hsp => ?_) (fun _ _ z => False.elim z)
      · refine ⟨_, List.getElem?_set_self il, ?_⟩
        exact hyes rfl a oe4 na hz4 ⟨_, hd4⟩
      cases f with
      | next =>
        obtain ⟨σ6, H6, S6, q6⟩ := hsp
        have S6' : Inv X ((a, oe4) :: pins) σ6 H6 s6 := ⟨ok, S6.os, S6.bare, S6.base, S6.loc, S6.cell, S6.free, S6.freeC, fun p hp => S6.pin p (by
          rcases List.mem_append.mp hp with z | z
          · exact List.mem_append_left _ (List.mem_cons_of_mem _ (List.mem_append_left _ z))
          · rcases List.mem_cons.mp z with z | z
            · exact List.mem_append_left _ (z ▸ List.mem_cons_self)
            · exact List.mem_append_left _ (List.mem_cons_of_mem _ (List.mem_append_right _ z))), S6.hok, S6.len⟩
        exact gone_ok S6' hN hi hln fun s7 J7 => ⟨_, _, inv_note J7 hd4 n0 npin, q6⟩
      | brk =>
        obtain ⟨_, _, _, q6⟩ := hsp
        exact q6.elim
      | cont =>
        obtain ⟨_, _, _, q6⟩ := hsp
        exact q6.elim
      | ret u =>
        obtain ⟨_, _, _, _, _, q6⟩ := hsp
        exact q6.elim
    | false =>
      show wpAny _ X.A (handleBy (.ref a) X.env []) _ _ _
      refine wpAny_handleBy_nil ?_
      obtain ⟨k1, k2, k3, oe, vs, T, oT, ts', he, hz, hd, h1, hr⟩ := id fl3
      unfold PySem.passOn
      refine wpAny_bind (wpAny_field he hd h1 ?_)
      rw [if_neg (show ¬ ((Value.ref T == Value.none) = true) from by simp)]
      have fin : wpAny (model X.prog X.w) X.A (setFlight (.ref a) X.env.frame) (fun _ s4 => wpAny (model X.prog X.w) X.A (throw (.ref a) : Sem Flow) (SP X pins D) X.xe s4) X.xe { s' with heap := h3 } := by
        rw [hf]
        refine HandSPX.setFlight_upZ fl3 fun h4 hh4 up4 => wpAny_throw (tk _ _ ?_)
        exact ⟨a, B, sI, pins, σ', H', cls, d, rfl, J, nb, (up.trans up3).trans up4, .inr (.inr (by rw [hs]; exact hh4)), na, os, ag, hno rfl⟩
      first
        | exact wpAny_bind (wpAny_pure (wpAny_bind fin))
        | exact wpAny_bind fin
  · cases f with
    | next =>
      obtain ⟨σ', H', J', q⟩ := hsp
      exact wpAny_execs_nil ⟨σ', H', J'.ofTry ok, q⟩
    | brk =>
      obtain ⟨σ', H', J', q⟩ := hsp
      exact ⟨σ', H', J'.ofTry ok, q⟩
    | cont =>
      obtain ⟨σ', H', J', q⟩ := hsp
      exact ⟨σ', H', J'.ofTry ok, q⟩
    | ret u =>
      obtain ⟨v, σ', H', J', r, q⟩ := hsp
      exact ⟨v, σ', H', J'.ofTry ok, r, q⟩
end
end Sb
end
section
set_option Elab.async false
set_option linter.all false
set_option maxRecDepth 100000
set_option maxHeartbeats 4000000
namespace Sb
open PySem PySem.Spec PyProof.Rows L2
/-! ## the kept exception as a value -/
def excB (K : PySem.W.Frag) (D : Addr) : Bool := decide (PySem.W.findIn K (.ref D) "__getattribute__" = some (some (.builtin "BaseException.__getattribute__"))) && (decide (PySem.W.findIn K (.ref D) "__getattr__" = some none) && (decide (PySem.W.subIn K (.ref D) (.type "BaseException") = some true) && (PySem.W.hasDictIn K D &&
  (decide (PySem.W.findIn K (.ref D) "__class__" = some (some (.builtin "object.__class__"))) && (decide (PySem.W.specialIn K (.builtin "object.__class__") "__get__" = some (some (.builtin "getset_descriptor.__get__"))) && (decide (PySem.W.takesIn K (.builtin "object.__class__") = some true) && decide (PySem.W.mroIn K D (.type "object") = some true)))))))
theorem excB_ok {K : PySem.W.Frag} {D : Addr} (h : excB K D = true) : ExcC K D := by
  simp only [excB, Bool.and_eq_true, decide_eq_true_eq] at h
  obtain ⟨h1, h2, h3, h4, h5, h6, h7, h8⟩ := h
  exact ⟨h1, h2, h3, h4, h5, h6, h7, h8⟩
/-- isinstance(e, c), e a kept exception -/
def rIsX (K : PySem.W.Frag) : List V → Hp → VK → Prop := fun xs H Q => ∃ (a : Addr) (oe : Obj) (vs : Array Value) (D : Addr) (c : V) (cv : Value) (b : Bool), xs = [.ref a, c] ∧ H a = some (.frz oe (.own a)) ∧ oe.cls = .ref D ∧ oe.dict = none ∧ oe.data = .fields vs ∧ ExcC K D ∧ ClsV c cv ∧ PySem.W.kitOne K (.ref D) cv = some b ∧ Q (.bl b) H
def rIsXT (K : PySem.W.Frag) : List V → Hp → VK → Prop := fun xs H Q => ∃ (a : Addr) (oe : Obj) (vs : Array Value) (D : Addr) (tp : Addr) (cs : List V) (us : List Value) (b : Bool), xs = [.ref a, .ref tp] ∧ H a = some (.frz oe (.own a)) ∧ oe.cls = .ref D ∧ oe.dict = none ∧ oe.data = .fields vs ∧ ExcC K D ∧ H tp = some (.tup cs) ∧ Paired ClsV cs us ∧ PySem.W.kitAny K (.ref D) us = some b ∧ Q (.bl b) H
section
variable {X : Cx}
theorem call_isX : CallR X (.builtin "isinstance") (rIsX X.K) := by
  intro pins s σ H xs us Q I r h
  obtain ⟨a, oe, vs, D, c, cv, b, rfl, ha, h1, h2, h3, C, k, e, q⟩ := h
  obtain ⟨u1, u2, rfl, r1, r2⟩ := vals2 r
  have e2 := k.eq r2
  subst e2
  cases (show u1 = Value.ref a from r1)
  obtain ⟨hget, _⟩ := (show ObjOk X.prog X.w H s.heap a (.frz oe (.own a)) from I.hok a _ ha)
  have J : PySem.W.InstAt s.heap a oe D none := by
    obtain ⟨oc, od, oda, osl⟩ := oe
    dsimp only at h1 h2 h3
    subst h1 h2 h3
    exact ⟨hget, rfl, rfl, trivial⟩
  exact PySem.W.kia_one (PySem.W.handS_kitx_exc C.hg C.hk C.hs C.hd C.ha C.hn C.ht C.hm) I.kIn J e (fun z => nomatch z) fun tk => ⟨.bl b, H, I.tok tk, rfl, q⟩
theorem call_isXT : CallR X (.builtin "isinstance") (rIsXT X.K) := by
  intro pins s σ H xs us Q I r h
  obtain ⟨a, oe, vs, D, tp, cs, ws, b, rfl, ha, h1, h2, h3, C, hT, k, e, q⟩ := h
  obtain ⟨u1, u2, rfl, r1, r2⟩ := vals2 r
  cases (show u2 = Value.ref tp from r2)
  cases (show u1 = Value.ref a from r1)
  obtain ⟨hget, _⟩ := (show ObjOk X.prog X.w H s.heap a (.frz oe (.own a)) from I.hok a _ ha)
  have J : PySem.W.InstAt s.heap a oe D none := by
    obtain ⟨oc, od, oda, osl⟩ := oe
    dsimp only at h1 h2 h3
    subst h1 h2 h3
    exact ⟨hget, rfl, rfl, trivial⟩
  obtain ⟨_, its, rv, o, g1, g2, n, g3⟩ := (show ObjOk X.prog X.w H s.heap tp (.tup cs) from I.hok tp _ hT)
  have e3 := ClsV.all k rv
  subst e3
  obtain ⟨oc, od, dt, sl⟩ := o
  simp only at g2 g3
  subst g2 g3
  exact PySem.W.kia_tup (PySem.W.handS_kitx_exc C.hg C.hk C.hs C.hd C.ha C.hn C.ht C.hm) I.kIn J g1 e (fun z => nomatch z) fun tk => ⟨.bl b, H, I.tok tk, rfl, q⟩
end
section
variable {X : Cx} {T : Tb} {W : WX} {pos : Pos} {e : Expr} {fa : EF}
/-- isinstance of a kept exception, one class: own (a global's) or built in -/
def eIsX (K : PySem.W.Frag) (cv : Value) (f : EF) : EF := fun τ => (f τ).bnd fun d S => match d with
  | .exn c => if excB K c = true then (PySem.W.kitOne K (.ref c) cv).bind fun b => some (.ok (.bl b) S) else none
  | _ => none
theorem isX_imp {K : PySem.W.Frag} {c : V} {cv : Value} (kc : ClsV c cv) {σ : L2.St} {H : Hp} {Q : VK} (h : rdE T W (eIsX K cv fa) σ H Q) : rdE T W fa σ H (fun v H1 => rIsX K [v, c] H1 Q) := by
  obtain ⟨φ, S, τ, o, R, r, e, q⟩ := h
  refine rdE_bnd R r e q fun d S1 v H1 φ1 ⟨E1, R1, r1⟩ e1 q1 => ?_
  cases d with
  | exn c0 =>
    simp only at e1
    split at e1
    · rename_i hx
      simp only [Option.bind_eq_some_iff] at e1
      obtain ⟨b, e2, e3⟩ := e1
      cases e3
      obtain ⟨a, oe, vs, rfl, ha, h1, h2, h3⟩ := r1
      exact ⟨a, oe, vs, c0, c, cv, b, rfl, ha, h1, h2, h3, excB_ok hx, kc, e2, q1 φ1 H1 _ .refl R1 rfl⟩
    · cases e1
  | _ => cases e1
theorem d_isX {y : Str} {C : Addr} {p p2 : Pos} (hg : Gl X "isinstance") (hm : X.mg "isinstance" = none) (hg2 : Gl X y) (hm2 : X.mg y = some (.ref C)) (he : PE X e (rdE T W fa))
    (hd : (y == ("__debug__" : Str)) = false := by decide)
    (hs : starEach [e, .Name y p2] X.env = (false, eval e X.env) :: starEach [.Name y p2] X.env := by rfl) (hpl : (backTo pos (starEach [.Name y p2] X.env)).any (·.1) = false := by rfl) :
    PE X (.Call (.Name "isinstance" p) [e, .Name y p2] [] pos) (rdE T W (eIsX X.K (.ref C) fa)) :=
  (pe_callB call_isX hg hm (by decide +kernel) (pa_cons he (pa_cons (pe_glob (v := .ref C) hg2 hm2 rfl hd) pa_nil) hs) (by decide) (by decide) hs hpl).imp fun σ H Q h => isX_imp (.own C) h
theorem d_isXB {n : String} {y : Str} {p p2 : Pos} (hg : Gl X "isinstance") (hm : X.mg "isinstance" = none) (hg2 : Gl X y) (hm2 : X.mg y = none) (hv2 : bootBuiltins y = some (.type n)) (he : PE X e (rdE T W fa))
    (hn : y ≠ "__name__" := by decide) (hd : (y == ("__debug__" : Str)) = false := by decide)
    (hs : starEach [e, .Name y p2] X.env = (false, eval e X.env) :: starEach [.Name y p2] X.env := by rfl) (hpl : (backTo pos (starEach [.Name y p2] X.env)).any (·.1) = false := by rfl) :
    PE X (.Call (.Name "isinstance" p) [e, .Name y p2] [] pos) (rdE T W (eIsX X.K (.type n) fa)) :=
  (pe_callB call_isX hg hm (by decide +kernel) (pa_cons he (pa_cons (pe_bltn (v := .ty n) hg2 hm2 hv2 rfl hn hd) pa_nil) hs) (by decide) (by decide) hs hpl).imp fun σ H Q h => isX_imp (.ty n) h
/-! ### a tuple of classes -/
def tCs (vs : List V) : TA := fun σ H Q => Q vs H
theorem pa_cls0 : PA X [] (tCs []) := pa_nil
theorem pa_cls {es : List Expr} {vs : List V} {y : Str} {C : Addr} {p : Pos} (hg : Gl X y) (hm : X.mg y = some (.ref C)) (h : PA X es (tCs vs)) (hd : (y == ("__debug__" : Str)) = false := by decide) (hs : starEach (.Name y p :: es) X.env = (false, eval (.Name y p) X.env) :: starEach es X.env := by rfl) : PA X (.Name y p :: es) (tCs (.ref C :: vs)) :=
  pa_cons (pe_glob (v := .ref C) hg hm rfl hd) h hs
def eIsXT (K : PySem.W.Frag) (cs : List Addr) (f : EF) : EF := fun τ => (f τ).bnd fun d S => match d with
  | .exn c => if excB K c = true ∧ cs.length ≤ sizeLine then (PySem.W.kitAny K (.ref c) (cs.map Value.ref)).bind fun b => some (.ok (.bl b) S) else none
  | _ => none
theorem cls_all : ∀ cs : List Addr, Paired ClsV (cs.map V.ref) (cs.map Value.ref)
  | [] => .nil
  | c :: cs => .cons (.own c) (cls_all cs)
theorem d_isXT {es : List Expr} {cs : List Addr} {p p4 : Pos} {x1} (hg : Gl X "isinstance") (hm : X.mg "isinstance" = none) (he : PE X e (rdE T W fa)) (hc : PA X es (tCs (cs.map V.ref)))
    (hs : starEach [e, .Tuple es x1 p4] X.env = (false, eval e X.env) :: starEach [.Tuple es x1 p4] X.env := by rfl) (hpl : (backTo pos (starEach [.Tuple es x1 p4] X.env)).any (·.1) = false := by rfl) :
    PE X (.Call (.Name "isinstance" p) [e, .Tuple es x1 p4] [] pos) (rdE T W (eIsXT X.K cs fa)) :=
  (pe_callB call_isXT hg hm (by decide +kernel) (pa_cons he (pa_cons (pe_tup hc) pa_nil) hs) (by decide) (by decide) hs hpl).imp fun σ H Q h => by
    obtain ⟨φ, S, τ, o, R, r, e, q⟩ := h
    refine rdE_bnd R r e q fun d S1 v H1 φ1 ⟨E1, R1, r1⟩ e1 q1 => ?_
    cases d with
    | exn c0 =>
      simp only at e1
      split at e1
      · rename_i hx
        simp only [Option.bind_eq_some_iff] at e1
        obtain ⟨b, e2, e3⟩ := e1
        cases e3
        refine ⟨by rw [List.length_map]; exact hx.2, fun t ht => ?_⟩
        obtain ⟨R2, E2⟩ := R1.garb (u := .tup (cs.map V.ref)) ht
        obtain ⟨a, oe, vs, rfl, ha, h1, h2, h3⟩ := r1
        exact ⟨a, oe, vs, c0, t, cs.map V.ref, cs.map Value.ref, b, rfl, E2.frz _ _ _ ha, h1, h2, h3, excB_ok hx.1, upd_same, cls_all cs, e2, q1 φ1 _ _ E2 R2 rfl⟩
      · cases e1
    | _ => cases e1
/-! ### try: .. except C as e: caught = e -/
def sTryK (mt : Addr → Option Bool) (i j : Nat) (f : SF) : SF := fun τ S => match f τ S with
  | some (.xx x τ1, S1) => match x.fs with
    | some _ => none
    | none => match mt x.cls with
      | some true => some (.nx (((τ1.set i (some (.exn x.cls))).set j (some (.exn x.cls))).set i none), S1)
      | some false => some (.xx x τ1, S1)
      | none => none
  | r => r
theorem RSl.wipe1 {φ : List Addr} {H : Hp} {τ : Sl} {σ : L2.St} (r : RSl T H φ τ σ) (i : Nat) : RSl T H φ (τ.set i none) (σ.set i none) := r.wipe [i]
theorem s_tryK {x n y : Str} {c : Value} {i j : Nat} {body : List Stmt} {np pos pos' p1 p2 p3 : Pos} {f : SF} (hs : X.stack = X.env :: X.outer) (hf : X.env.frame = some X.env.locals) (hex : X.ex = []) (hN : X.N.Nodup) (hi : X.N[i]? = some n) (hj : X.N[j]? = some y) (hln : X.env.kindOf n = some .local) (hly : X.env.kindOf y = some .local) (hc : Names X x c) (tk : Takes X W)
    (hb : ∀ (W' : WX) (pn : List (Addr × Obj)) (xe : Value → Shared → Prop), Takes (X.tr pn xe) W' → PassesOwn (model X.prog X.w) X.A X.env xe → PSs (X.tr pn xe) body (rdS T W' f))
    (hsw : swapsWith (.Name n p2) (some (.Name y p1)) p3.line X.env = pure false := by rfl) (hd1 : (n == ("__debug__" : Str)) = false := by decide) (hd2 : (n == ("__classdict__" : Str)) = false := by decide) :
    PS X (.Try body [.ExceptHandler (some (.Name x np)) (some n) [.Assign [.Name y p1] (.Name n p2) p3] pos'] [] [] pos) (rdS T W (sTryK (fun k => PySem.W.exmOne X.K (.ref k) c) i j f)) :=
  (ps_try_keep (tb := fun W' => rdS T W' f) hs hf hex hN hi hj hln hly hc tk hb hsw hd1 hd2).imp fun De σ H h => by
    obtain ⟨φ, S, τ, fl, S', R, r, e, q⟩ := h
    unfold sTryK at e
    cases e1 : f τ S with
    | none => rw [e1] at e; cases e
    | some p =>
      obtain ⟨fl1, S1⟩ := p
      rw [e1] at e
      refine ⟨φ, S, τ, fl1, S1, R, r, e1, ?_⟩
      cases fl1 with
      | nx τ1 => cases e; exact q
      | bk τ1 => cases e; exact q
      | ct τ1 => cases e; exact q
      | rt d => cases e; exact q
      | xx xn τ1 =>
        intro φ1 H1 σ1 d E1 R1 r1 hx
        simp only at e
        cases efs : xn.fs with
        | some l => rw [efs] at e; cases e
        | none =>
          rw [efs] at e
          have hd : d = none := by unfold RX at hx; rw [efs] at hx; exact hx
          subst hd
          simp only at e
          cases em : PySem.W.exmOne X.K (.ref xn.cls) c with
          | none => rw [em] at e; cases e
          | some b =>
            rw [em] at e
            refine ⟨b, em, fun hb => ?_, fun hb => ?_⟩
            · subst hb
              simp only at e
              cases e
              rintro a oe ha ⟨hz1, hz2⟩ ⟨vs, hv⟩
              obtain ⟨R2, E2⟩ := R1.garb (u := kept a oe) ha
              have rd : RD T (upd H1 a (kept a oe)) φ1 (.exn xn.cls) (.ref a) := ⟨a, oe, vs, rfl, upd_same, hz1, hz2, hv⟩
              exact q φ1 _ _ (E1.trans E2) R2 ((((r1.ext E2).set i rd).set j rd).wipe1 i)
            · subst hb
              cases e
              exact q φ1 H1 σ1 none E1 R1 r1 hx
end
end Sb
end
section
set_option Elab.async false
set_option linter.all false
set_option maxRecDepth 100000
set_option maxHeartbeats 4000000
namespace Sb
open PySem PySem.Spec PyProof.Rows L2
/-! ## l.index(x) of data, where x is there -/
def gIndex : GM := fun x ds S => match ds with
  | [y] => match toPy 8 S x, toPy 8 S y with
    | some (.list es), some d => if SeqAt.shaped (.list es) = true ∧ SeqAt.shaped d = true ∧ es.findIdx (fun z => PyData.eqv z d) < es.length then some (.int (es.findIdx (fun z => PyData.eqv z d) : Nat), S) else none
    | _, _ => none
  | _ => none
theorem m_index {X : Cx} {T : Tb} (hu : X.A.units + 65 < cLine) : MtR X "list.index" (rGM T gIndex) := MtR.imp (mt_indexD hu) fun x xs H Q h => by
  obtain ⟨φ, S, d, ds, R, r, rs, f⟩ := h
  unfold gIndex at f
  split at f
  · rename_i y
    split at f
    · rename_i es p h1 h2
      split at f
      · rename_i hs
        obtain ⟨h3, h4, h5⟩ := hs
        obtain ⟨v, l, rfl, r1, r2⟩ := rs
        cases r2
        have dx := py_dp (K := X.K) R 8 d x _ r h1
        have dy := py_dp (K := X.K) R 8 y v _ r1 h2
        obtain ⟨a, rfl⟩ : ∃ a, x = .ref a := by cases dx; exact ⟨_, rfl⟩
        have hat := List.findIdx_getElem (w := h5)
        refine ⟨a, v, p, es, _, _, rfl, rfl, dx, dy, h3, h4, List.getElem?_eq_getElem h5, hat, fun m z' hm hz => ?_, f.val R rfl⟩
        have hml : m < es.length := by omega
        rw [List.getElem?_eq_getElem hml] at hz
        cases hz
        have := List.not_of_lt_findIdx hm
        simpa using this
      · obtain ⟨_, _, z, _⟩ := f; cases z
    · obtain ⟨_, _, z, _⟩ := f; cases z
  · obtain ⟨_, _, z, _⟩ := f; cases z
end Sb
end
section
set_option Elab.async false
set_option linter.all false
set_option maxRecDepth 100000
namespace Sb
open PySem PySem.Spec PyProof.Rows L2
def m_law_word (K : PySem.W.Frag) : SF := sSeq (sIf (tOr' (tNt (tB (eIsX K (.ref (He.ga K "DeckError")) (eVar 0)))) (tNt (tB (eIsX K (.type "ValueError") (eVar 0))))) (sRt (eC (.str "odd"))) (sNop)) (sSeq (sSet 1 (fz (eLst (aCons (eIsX K (.ref (He.ga K "NoDeck")) (eVar 0)) (aCons (eIsX K (.ref (He.ga K "NoCard")) (eVar 0)) (aCons (eIsX K (.ref (He.ga K "NoName")) (eVar 0)) (aNil))))))) (sSeq (sSet 1 (eB gAdd (eVar 1) (fz (eLst (aCons (eIsX K (.ref (He.ga K "NoDepth")) (eVar 0)) (aCons (eIsX K (.ref (He.ga K "NoPlace")) (eVar 0)) (aCons (eIsX K (.ref (He.ga K "Twice")) (eVar 0)) (aNil)))))))) (sSeq (sSet 1 (eB gAdd (eVar 1) (fz (eLst (aCons (eIsX K (.ref (He.ga K "Full")) (eVar 0)) (aCons (eIsX K (.ref (He.ga K "Last")) (eVar 0)) (aCons (eIsX K (.ref (He.ga K "NoNumber")) (eVar 0)) (aNil)))))))) (sSeq (sSet 1 (eB gAdd (eVar 1) (fz (eLst (aCons (eIsX K (.ref (He.ga K "NoLevel")) (eVar 0)) (aCons (eIsX K (.ref (He.ga K "NotSettled")) (eVar 0)) (aCons (eIsX K (.ref (He.ga K "NotLasting")) (eVar 0)) (aNil)))))))) (sSeq (sSet 1 (eB gAdd (eVar 1) (fz (eLst (aCons (eIsX K (.ref (He.ga K "TooMany")) (eVar 0)) (aNil)))))) (sSeq (sIf (tB (eIsXT K [He.ga K "NoDepths", He.ga K "NoForm", He.ga K "NoNames", He.ga K "NoOrder", He.ga K "NoRow", He.ga K "NoStep", He.ga K "NoText", He.ga K "NoneYet"] (eVar 0))) (sRt (eC (.str "odd"))) (sNop)) (sSeq (sSet 2 (fz (eLst (aCons (eC (.str "NoDeck")) (aCons (eC (.str "NoCard")) (aCons (eC (.str "NoName")) (aCons (eC (.str "NoDepth")) (aCons (eC (.str "NoPlace")) (aCons (eC (.str "Twice")) (aCons (eC (.str "Full")) (aCons (eC (.str "Last")) (aCons (eC (.str "NoNumber")) (aCons (eC (.str "NoLevel")) (aNil)))))))))))))) (sSeq (sSet 2 (eB gAdd (eVar 2) (fz (eLst (aCons (eC (.str "NotSettled")) (aCons (eC (.str "NotLasting")) (aCons (eC (.str "TooMany")) (aNil)))))))) (sRt (eIf (tB (eB (gEq false) (eBM "list" gCount (eVar 1) (aCons (eC (.bl true)) (aNil))) (eC (.int 1)))) (eB gIx (eVar 2) (eBM "list" gIndex (eVar 1) (aCons (eC (.bl true)) (aNil)))) (eC (.str "odd"))))))))))))
abbrev M_law_word (K : PySem.W.Frag) : List D → M D := fnM 3 (m_law_word K)
end Sb
end
section
set_option Elab.async false
set_option linter.all false
set_option maxRecDepth 100000
set_option maxHeartbeats 4000000
namespace Sb
open PySem PySem.Spec PyProof.Rows L2
/-! ## dicts as values: {}, dict(pairs); what repr shows of them -/
section
variable {X : Cx} {T : Tb} {W : WX} {pos : Pos}
def eDct0 : EF := fun _ S => some (.ok (.loc S.length) (S ++ [.dct []]))
theorem d_dct0 : PE X (.Dict [] [] pos) (rdE T W eDct0) := pe_dnewK.imp fun σ H Q h => by
  obtain ⟨φ, S, τ, o, R, r, e, q⟩ := h
  cases e
  intro p hp
  obtain ⟨R2, E2⟩ := R.new (o := .dct []) (u := .dK []) hp ⟨[], upd_same, rfl, rfl⟩
  exact q _ _ _ E2 R2 ⟨p, rfl, by rw [← R.len]; simp⟩
end
def kP : Key → PyData
  | .inl i => .int i
  | .inr x => .str x
def toPyR : Nat → Sto → D → Option PyData
  | 0, _, _ => none
  | n + 1, S, d => match d with
    | .non => some .none
    | .bl b => some (.bool b)
    | .int i => some (.int i)
    | .str x => some (.str x)
    | .tup ds => (ds.mapM (toPyR n S)).map .tuple
    | .loc k => match S[k]? with
      | some (.lst ds) => (ds.mapM (toPyR n S)).map .list
      | some (.dct kvs) => ((kvs.map (·.2)).mapM (toPyR n S)).map fun ps => .dict ((kvs.map fun kv => kP kv.1).zip ps)
      | _ => none
    | .scr _ => none
    | .fl ds => (ds.mapM (toPyR n S)).map .list
    | .exn _ => none
    | .rgo _ _ => none
    | .ntu _ => none
    | .fd ks ds => if ks.length = ds.length then (ds.mapM (toPyR n S)).map fun ps => .dict ((ks.map kP).zip ps) else none
section
variable {X : Cx} {T : Tb} {pins : List (Addr × Obj)} {σ : L2.St} {H : Hp} {s : Shared} {φ : List Addr} {S : Sto}
theorem key_reads {ks : List Key} : ∀ {h : Heap} {es : List DictEntry} {vs : List (Key × Value)}, PySem.Pairs (mixKind X.prog X.w) es vs → ReadsAll h (es.map (·.key)) (vs.map fun kv => kP kv.1) ((es.map fun _ => ([] : List Addr)).flatten)
  | _, [], _, h => by
    cases h
    exact .nil
  | hh, e :: es, _, h => by
    cases h with
    | cons h1 h2 h3 =>
      rename_i kv kvs
      refine .cons ?_ (key_reads (ks := ks) h3)
      show Reads hh e.key (kP kv.1) []
      have h1' : keyIs kv.1 e.key = true := h1
      rcases keyIs_shape h1' with ⟨i, t, e1, e2⟩ | ⟨x, t, e1, e2⟩
      · rw [e1, e2]; exact .int i t
      · rw [e1, e2]; exact .str x t
theorem pairs_vals : ∀ {es : List DictEntry} {vs : List (Key × Value)}, PySem.Pairs (mixKind X.prog X.w) es vs → es.map (·.val) = vs.map (·.2)
  | [], _, h => by cases h; rfl
  | e :: es, _, h => by
    cases h with
    | cons h1 h2 h3 =>
      rename_i kv kvs
      show e.val :: es.map (·.val) = kv.2 :: kvs.map (·.2)
      rw [h2, pairs_vals h3]
theorem kv_vals : ∀ {ws : List (Key × V)} {vs : List (Key × Value)}, KV ws vs → Vals (ws.map (·.2)) (vs.map (·.2)) ∧ ws.map (·.1) = vs.map (·.1)
  | [], _, h => by cases h; exact ⟨.nil, rfl⟩
  | w :: ws, _, h => by
    cases h with
    | cons h1 h2 =>
      obtain ⟨a, b⟩ := kv_vals h2
      exact ⟨.cons h1.2 a, by simp only [List.map_cons, h1.1, b]⟩
theorem flat_nil {α β : Type} : ∀ l : List α, ((l.map fun _ => ([] : List β)).flatten) = []
  | [] => rfl
  | _ :: l => by show [] ++ _ = _; rw [flat_nil l]; rfl
theorem zip_fst {α β : Type} : ∀ {l : List α} {m : List β}, l.length = m.length → (l.zip m).map (·.1) = l
  | [], [], _ => rfl
  | a :: l, b :: m, h => by
    show a :: (l.zip m).map (·.1) = _
    rw [zip_fst (by simpa using h)]
theorem zip_snd {α β : Type} : ∀ {l : List α} {m : List β}, l.length = m.length → (l.zip m).map (·.2) = m
  | [], [], _ => rfl
  | a :: l, b :: m, h => by
    show b :: (l.zip m).map (·.2) = _
    rw [zip_snd (by simpa using h)]
/-- what data are read as in the heap; no address of it is that of sys.modules -/
def RdP (s : Shared) (u : Value) (p : PyData) : Prop := ∃ as, Reads s.heap u p as ∧ sysModules ∉ as
theorem reads_all {n : Nat} (ih : ∀ d v p u, RD T H φ d v → RelV v u → toPyR n S d = some p → RdP s u p) : ∀ (ds : List D) (vs : List V) (us : List Value) (ps : List PyData), RDs T H φ ds vs → Vals vs us → ds.mapM (toPyR n S) = some ps → ∃ as, ReadsAll s.heap us ps as ∧ sysModules ∉ as
  | [], vs, us, ps, h, r, e => by
    cases h
    cases r
    simp at e
    subst e
    exact ⟨[], .nil, by simp⟩
  | d :: ds, vs, us, ps, h, r, e => by
    obtain ⟨v, r', rfl, h1, h2⟩ := h
    cases r with
    | cons r1 r2 =>
      rw [List.mapM_cons] at e
      simp only [Option.bind_eq_bind, Option.bind_eq_some_iff, Option.pure_def, Option.some.injEq] at e
      obtain ⟨p, e1, qs, e2, rfl⟩ := e
      obtain ⟨as, a1, a2⟩ := ih d v p _ h1 r1 e1
      obtain ⟨bs, b1, b2⟩ := reads_all ih ds r' _ qs h2 r2 e2
      exact ⟨as ++ bs, .cons a1 b1, fun z => (List.mem_append.mp z).elim a2 b2⟩
theorem mapM_len {α β : Type} {f : α → Option β} : ∀ {l : List α} {m : List β}, l.mapM f = some m → m.length = l.length
  | [], m, h => by simp at h; subst h; rfl
  | a :: l, m, h => by
    rw [List.mapM_cons] at h
    simp only [Option.bind_eq_bind, Option.bind_eq_some_iff, Option.pure_def, Option.some.injEq] at h
    obtain ⟨p, e1, qs, e2, rfl⟩ := h
    simp [mapM_len e2]
theorem dict_reads (I : Inv X pins σ H s) (hs : H sysModules = none) {a : Addr} {ws : List (Key × V)} {ds : List D} {ps : List PyData} {n : Nat} (ih : ∀ d v p u, RD T H φ d v → RelV v u → toPyR n S d = some p → RdP s u p)
    (ha : Rd H a (.dK ws)) (r : RDs T H φ ds (ws.map (·.2))) (e : ds.mapM (toPyR n S) = some ps) : RdP s (.ref a) (.dict ((ws.map fun w => kP w.1).zip ps)) := by
  obtain ⟨hl, hsm, vs, hkv, o, es, ep, h1, h2, h3, h4, h5, h6⟩ := dk_rd I.hok ha
  obtain ⟨v1, v2⟩ := kv_vals hkv
  obtain ⟨as, a1, a2⟩ := reads_all ih ds _ _ ps r v1 e
  have l1 : ps.length = ws.length := by
    have := mapM_len e
    have := r.length
    simp at this
    omega
  have lz : (ws.map fun w => kP w.1).length = ps.length := by simp [l1]
  have k1 := key_reads (X := X) (ks := []) (h := s.heap) h5
  rw [flat_nil] at k1
  refine ⟨_, Reads.dict (as := []) (bs := as) h1 h2.1 h3 ?_ ?_, ?_⟩
  · rw [zip_fst lz]
    have : (ws.map fun w => kP w.1) = vs.map fun kv => kP kv.1 := by
      have := congrArg (List.map kP) v2
      rw [List.map_map, List.map_map] at this
      exact this
    rw [this]
    exact k1
  · rw [zip_snd lz, pairs_vals h5]
    exact a1
  · intro z
    rcases List.mem_append.mp z with z | z
    · rcases List.mem_cons.mp z with z | z
      · rw [← z] at hsm
        simp at hsm
      · simp at z
    · exact a2 z
theorem py_reads (I : Inv X pins σ H s) (hK : T.K = X.K) (hs : H sysModules = none) (R : Rel T φ S H) : ∀ (n : Nat) (d : D) (v : V) (p : PyData) (u : Value), RD T H φ d v → RelV v u → toPyR n S d = some p → RdP s u p
  | 0, d, v, p, u, _, _, e => by cases e
  | n + 1, d, v, p, u, r, rv, e => by
    have lst : ∀ {a : Addr} {vs : List V} {ds : List D} {ps : List PyData}, H a = some (.lst vs) → RDs T H φ ds vs → ds.mapM (toPyR n S) = some ps → RdP s (.ref a) (.list ps) := fun {a vs ds ps} ha rs em => by
      obtain ⟨its, rvs, ⟨o, c, ho, hc, _, hd⟩, _⟩ := I.list (.inl (.inl ha))
      obtain ⟨as, a1, a2⟩ := reads_all (py_reads I hK hs R n) ds vs _ ps rs rvs em
      refine ⟨_, Reads.list ho hc hd a1, fun z => ?_⟩
      rcases List.mem_cons.mp z with z | z
      · rw [z, ha] at hs; cases hs
      · exact a2 z
    cases d with
    | non => cases r; cases e; cases rv; exact ⟨_, Reads.none, by simp⟩
    | bl b => cases r; cases e; cases rv; exact ⟨_, Reads.bool b, by simp⟩
    | int i => cases r; cases e; obtain ⟨t, rfl⟩ := rv; exact ⟨_, Reads.int i t, by simp⟩
    | str x => cases r; cases e; obtain ⟨t, rfl⟩ := rv; exact ⟨_, Reads.str x t, by simp⟩
    | tup ds =>
      obtain ⟨a, vs, rfl, h1, h2⟩ := r
      simp only [toPyR, Option.map_eq_some_iff] at e
      obtain ⟨ps, e1, rfl⟩ := e
      cases rv
      obtain ⟨its, rvs, ⟨o, ho, hc, c, hd⟩, _⟩ := I.tuple (.inl h1)
      obtain ⟨as, a1, a2⟩ := reads_all (py_reads I hK hs R n) ds vs _ ps h2 rvs e1
      exact ⟨_, Reads.tuple ho hc hd a1, a2⟩
    | loc k =>
      obtain ⟨a, rfl, h1⟩ := r
      cases rv
      simp only [toPyR] at e
      split at e
      · rename_i ds q
        simp only [Option.map_eq_some_iff] at e
        obtain ⟨ps, e1, rfl⟩ := e
        obtain ⟨vs, h3, h4⟩ := R.obj k _ a q h1
        exact lst h3 h4 e1
      · rename_i kvs q
        simp only [Option.map_eq_some_iff] at e
        obtain ⟨ps, e1, rfl⟩ := e
        obtain ⟨ws, h3, h4, h5⟩ := R.obj k _ a q h1
        have := dict_reads I hs (py_reads I hK hs R n) (.inl h3) h5 e1
        have hh : (ws.map fun w => kP w.1) = kvs.map fun kv => kP kv.1 := by
          have := congrArg (List.map kP) h4
          rw [List.map_map, List.map_map] at this
          exact this
        rw [hh] at this
        exact this
      · cases e
    | scr ns => cases e
    | exn c => cases e
    | rgo lo hi => cases e
    | ntu ds => cases e
    | fl ds =>
      obtain ⟨a, vs, rfl, _, h1, h2⟩ := r
      simp only [toPyR, Option.map_eq_some_iff] at e
      obtain ⟨ps, e1, rfl⟩ := e
      cases rv
      exact lst h1 h2 e1
    | fd ks ds =>
      obtain ⟨a, ws, rfl, _, h1, h2, h3⟩ := r
      simp only [toPyR] at e
      split at e
      · simp only [Option.map_eq_some_iff] at e
        obtain ⟨ps, e1, rfl⟩ := e
        cases rv
        have := dict_reads I hs (py_reads I hK hs R n) h1 h3 e1
        have hh : (ws.map fun w => kP w.1) = ks.map kP := by
          rw [← h2, List.map_map]; rfl
        rw [hh] at this
        exact this
      · cases e
end
/-- repr of data that lie at an address, dicts too; of none, truths, texts, numbers -/
def gReprX : GN := fun ds S => match ds with
  | [d] => (toPyR 8 S d).bind fun p => if p.showable = true ∧ p.depth ≤ 8 ∧ p.shown.length ≤ sizeLine then match d with
    | .tup _ | .loc _ | .fl _ | .fd _ _ => some (.str p.shown, S)
    | .non => some (.str p.shown, S)
    | .bl _ => some (.str p.shown, S)
    | .str _ => some (.str p.shown, S)
    | .int i => if i.natAbs.log2 < 1920 then some (.str p.shown, S) else none
    | _ => none else none
  | _ => none
section
variable {X : Cx} {T : Tb}
theorem sys_none {pins : List (Addr × Obj)} {σ : L2.St} {H : Hp} {s : Shared} (I : Inv X pins σ H s) (hb : ∃ o, X.base.get? sysModules = some o) : H sysModules = none := by
  obtain ⟨o, ho⟩ := hb
  exact (I.bs sysModules o ho).2
theorem call_reprX (hK : T.K = X.K) (hb : ∃ o, X.base.get? sysModules = some o) (quiet : X.A.guards = some []) (hu : X.A.units + 64 < cLine) : CallR X (.builtin "repr") (rGN T gReprX) := by
  intro pins s σ H xs us Q I rv h
  obtain ⟨φ, S, ds, R, r, d', S', ef, q⟩ := h
  obtain ⟨d, rfl⟩ : ∃ d, ds = [d] := by
    match ds, ef with
    | [], ef => cases ef
    | [d], _ => exact ⟨d, rfl⟩
    | _ :: _ :: _, ef => cases ef
  obtain ⟨v, l, rfl, r1, r2⟩ := r
  cases r2
  obtain ⟨u, rfl, ru⟩ := vals1 rv
  simp only [gReprX, Option.bind_eq_some_iff] at ef
  obtain ⟨p, ep, ef⟩ := ef
  split at ef
  · rename_i hp
    obtain ⟨hs1, hs2, hs3⟩ := hp
    obtain ⟨as, hr, hsm⟩ := py_reads I hK (sys_none I hb) R 8 d v p u r1 ru ep
    have fin : ∀ (s' : Shared) (u' : Value) (H' : Hp), Inv X pins σ H s' → RelV (.str p.shown) u' → d' = .str p.shown → S' = S → ∃ x H2, Inv X pins σ H2 s' ∧ RelV x u' ∧ Q x H2 := fun s' u' H' I' ru' e1 e2 => by
      subst e1 e2
      exact ⟨_, H, I', ru', q φ H _ .refl R rfl⟩
    have byRef : ∀ a : Addr, u = .ref a → d' = .str p.shown → S' = S → wpAny (model X.prog X.w) X.A (call (.builtin "repr") [u]) (fun v s' => ∃ x H2, Inv X pins σ H2 s' ∧ RelV x v ∧ Q x H2) X.xe s := fun a ea e1 e2 => by
      subst ea
      exact PySem.repr_of_reads' hr hs1 (fun _ => hsm) quiet (by omega) (fun _ _ e => e) (fun h' u tk keep => fin _ _ H (I.kept (t' := tk) keep) ⟨_, rfl⟩ e1 e2) hs3
    have g0 : ∀ {tk : Nat} {x : Str}, d' = .str p.shown → S' = S → x = p.shown → ∃ y H2, Inv X pins σ H2 { s with toks := s.toks + 1 } ∧ RelV y (.str x s.toks) ∧ Q y H2 := fun {tk x} e1 e2 e3 => by
      subst e3
      exact fin _ _ H (I.tok _) ⟨_, rfl⟩ e1 e2
    cases d with
    | tup ds => obtain ⟨a, _, rfl, _⟩ := r1; cases ru; cases ef; exact byRef a rfl rfl rfl
    | loc n => obtain ⟨a, rfl, _⟩ := r1; cases ru; cases ef; exact byRef a rfl rfl rfl
    | fl ds => obtain ⟨a, _, rfl, _⟩ := r1; cases ru; cases ef; exact byRef a rfl rfl rfl
    | fd ks ds => obtain ⟨a, _, rfl, _⟩ := r1; cases ru; cases ef; exact byRef a rfl rfl rfl
    | non =>
      cases r1; cases ru; cases ef
      cases ep
      exact call_repr_gives (typeIs_none s) F.slot_NoneType_repr F.entry_NoneType_repr (F.args_NoneType_repr_1 _) gives_none_repr (g0 (tk := 0) rfl rfl rfl) (hx := by decide)
    | bl b =>
      cases r1; cases ru; cases ef
      cases ep
      exact call_repr_gives (PySem.typeIs_bool s b) F.slot_bool_repr F.entry_bool_repr (F.args_bool_repr_1 _) (gives_bool_repr b) (g0 (tk := 0) rfl rfl (by cases b <;> rfl)) (hx := by cases b <;> decide)
    | str x =>
      cases r1
      obtain ⟨t, rfl⟩ := ru
      cases ef
      cases ep
      exact call_repr_gives (typeIs_str s x t) F.slot_str_repr F.entry_str_repr (F.args_str_repr_1 _) (gives_str_repr x t) (g0 (tk := 0) rfl rfl rfl) (hx := hs3)
    | int i =>
      cases r1
      obtain ⟨t, rfl⟩ := ru
      simp only at ef
      split at ef
      · rename_i hz
        cases ef
        cases ep
        exact PySem.P.repr_of_int hz (g0 (tk := 0) rfl rfl rfl)
      · cases ef
    | scr ns => cases ef
    | exn c => cases ef
    | rgo lo hi => cases ef
    | ntu ds => cases ef
  · cases ef
end
end Sb
end
section
set_option Elab.async false
set_option linter.all false
set_option maxRecDepth 100000
namespace Sb
open PySem PySem.Spec PyProof.Rows L2
end Sb
end
section
set_option Elab.async false
set_option linter.all false
set_option maxRecDepth 100000
set_option maxHeartbeats 4000000
namespace Sb
open PySem PySem.Spec PyProof.Rows L2
section
variable {X : Cx} {T : Tb} {W : WX} {pos : Pos}
variable {a b c e : Expr} {es : List Expr} {fa fb : EF} {ra : AF}
/-! ## products: numbers, a text so many times -/
/-! ## divmod -/
/-! ## is True, is not True -/
/-! ## slices of texts too -/
end
section
variable {X : Cx} {T : Tb} {W : WX} {pos : Pos}
/-! ## break, continue -/
end
/-! ## a walk over the script -/
section
variable {X : Cx} {T : Tb} {W : WX} {pos : Pos} {e tg : Expr} {fa : EF}
end
/-! ## str of a whole number -/
section
variable {X : Cx} {T : Tb}
end
end Sb
end
section
set_option Elab.async false
set_option linter.all false
set_option maxRecDepth 100000
set_option maxHeartbeats 4000000
namespace Sb
open PySem PySem.Spec PyProof.Rows L2
/-! ## enumerate of a list -/
end Sb
end
section
set_option Elab.async false
set_option linter.all false
set_option maxRecDepth 100000
set_option maxHeartbeats 4000000
namespace Sb
open PySem PySem.Spec PyProof.Rows L2 PySem.W
section
variable {X : Cx} {T : Tb} {W : WX} {pos : Pos} {e : Expr} {ra : AF}
/-! ## enumerate of a tuple or of a told list -/
end
end Sb
end
section
set_option Elab.async false
set_option linter.all false
set_option maxRecDepth 100000
namespace Sb
open PySem PySem.Spec PyProof.Rows L2
end Sb
end
section
set_option Elab.async false
set_option linter.all false
set_option maxRecDepth 100000
set_option maxHeartbeats 4000000
namespace Sb
open PySem PySem.Spec PyProof.Rows L2 LamX
end Sb
end
section
set_option Elab.async false
set_option linter.all false
set_option maxRecDepth 100000
set_option maxHeartbeats 4000000
namespace Sb
open PySem PySem.Spec PyProof.Rows L2 LamX
/-! ## what the head tells besides: where sys.modules stands, how the classes of errors lie -/
def sysB (g : Addr → Option Obj) : Bool := match g sysModules with
  | some ⟨_, _, .dict _ _, _⟩ => true
  | _ => false
theorem sysB_of {g : Addr → Option Obj} (h : sysB g = true) : ∃ o es ep, g sysModules = some o ∧ o.data = .dict es ep := by
  unfold sysB at h
  split at h
  · rename_i es ep sl q
    exact ⟨_, es, ep, q, rfl⟩
  · cases h
def hookS (n : Nat) (fa : List He.Fa) (fn : List He.DefD) (tf : List He.Defn) (ex : PySem.W.Frag → Bool) : PySem.W.Hook where
  α := He.AlX × Bool
  obs := fun s => ((He.hookX n fa fn [] tf ex).obs s, sysB s.heap.get?)
  val := fun w => ((He.hookX n fa fn [] tf ex).val w, true)
  says := fun w h => (He.hookX n fa fn [] tf ex).says w h ∧ ∃ o es ep, h.get? sysModules = some o ∧ o.data = .dict es ep
  of := fun w s e => ⟨(He.hookX n fa fn [] tf ex).of w s (congrArg Prod.fst e), sysB_of (congrArg Prod.snd e)⟩
  keeps := fun w h h' ⟨a, o, es, ep, b, c⟩ k => ⟨(He.hookX n fa fn [] tf ex).keeps w h h' a k, o, es, ep, k _ _ b, c⟩
def obsS (n : Nat) (fa : List He.Fa) (fn : List He.DefD) (tf : List He.Defn) (ex : PySem.W.Frag → Bool) (g : Addr → Option Obj) : He.AlX × Bool := (He.obsX n fa fn [] tf ex g, sysB g)
theorem obsS_eq {n : Nat} {fa : List He.Fa} {fn : List He.DefD} {tf : List He.Defn} {ex : PySem.W.Frag → Bool} {g : Addr → Option Obj} {s : Shared} (h : ∀ a, g a = s.heap.get? a) : obsS n fa fn tf ex g = (hookS n fa fn tf ex).obs s := by
  have e : g = s.heap.get? := funext h
  rw [e] <;> rfl
/-! ### the classes of errors -/
def errN : List Str := ["NoDeck", "NoCard", "NoName", "NoDepth", "NoPlace", "Twice", "Full", "Last", "NoNumber", "NoStep", "NoLevel", "NotSettled", "NotLasting", "NoOrder", "NoNames", "NoRow", "NoDepths", "TooMany", "NoText", "NoForm", "NoneYet"]
/-- of the classes xs: each is an exception under DeckError and ValueError, and under no other one -/
def clsB (xs : List Str) (K : PySem.W.Frag) : Bool := xs.all fun x => excB K (He.ga K x) && (decide (PySem.W.kitOne K (.ref (He.ga K x)) (.ref (He.ga K "DeckError")) = some true) && (decide (PySem.W.kitOne K (.ref (He.ga K x)) (.type "ValueError") = some true) &&
  (decide (PySem.W.exmOne K (.ref (He.ga K x)) (.ref (He.ga K "DeckError")) = some true) && errN.all fun y => decide (PySem.W.kitOne K (.ref (He.ga K x)) (.ref (He.ga K y)) = some (decide (y = x))))))
structure Cls (K : PySem.W.Frag) (x : Str) : Prop where
  exc : excB K (He.ga K x) = true
  deck : PySem.W.kitOne K (.ref (He.ga K x)) (.ref (He.ga K "DeckError")) = some true
  val : PySem.W.kitOne K (.ref (He.ga K x)) (.type "ValueError") = some true
  exm : PySem.W.exmOne K (.ref (He.ga K x)) (.ref (He.ga K "DeckError")) = some true
  one : ∀ y ∈ errN, PySem.W.kitOne K (.ref (He.ga K x)) (.ref (He.ga K y)) = some (decide (y = x))
theorem cls_of {xs : List Str} {K : PySem.W.Frag} (h : clsB xs K = true) {x : Str} (hx : x ∈ xs) : Cls K x := by
  have z := List.all_eq_true.mp h x hx
  simp only [Bool.and_eq_true, decide_eq_true_eq, List.all_eq_true] at z
  exact ⟨z.1, z.2.1, z.2.2.1, z.2.2.2.1, z.2.2.2.2⟩
end Sb
end
section
set_option Elab.async false
set_option linter.all false
set_option maxRecDepth 100000
set_option maxHeartbeats 4000000
namespace Sb
open PySem PySem.Spec PyProof.Rows L2
/-! ## in, not in: over a tuple of data -/
section
variable {X : Cx} {T : Tb} {W : WX} {pos : Pos}
/-! ## xs.extend of a told list -/
end
end Sb
end
section
set_option Elab.async false
set_option linter.all false
set_option maxRecDepth 100000
set_option maxHeartbeats 4000000
namespace Sb
open PySem PySem.Spec PyProof.Rows L2
/-! ## reversed(range(n)) -/
end Sb
end
section
set_option Elab.async false
set_option linter.all false
set_option maxRecDepth 100000
set_option maxHeartbeats 4000000
namespace Sb
open PySem PySem.Spec PyProof.Rows L2
/-! ### data -/
section
variable {X : Cx} {T : Tb} {W : WX} {ra : AF}
end
end Sb
end
section
set_option Elab.async false
set_option linter.all false
set_option maxRecDepth 100000
set_option maxHeartbeats 4000000
namespace Sb
open PySem PySem.Spec PyProof.Rows L2 RT
section
variable {X : Cx} {T : Tb} {W : WX} {tg e : Expr} {fa : EF}
/-! ## for x in reversed(xs): a list or a tuple -/
end
end Sb
end
section
set_option Elab.async false
set_option linter.all false
set_option maxRecDepth 100000
set_option maxHeartbeats 4000000
namespace Sb
open PySem PySem.Spec PyProof.Rows L2
section
variable {X : Cx} {T : Tb} {W : WX} {pos : Pos}
/-! ## a, b, c and a, b, c, d as targets -/
end
end Sb
end
section
set_option Elab.async false
set_option linter.all false
set_option maxRecDepth 100000
set_option maxHeartbeats 4000000
namespace Sb
open PySem PySem.Spec PyProof.Rows L2
section
variable {X : Cx} {T : Tb} {W : WX} {pos : Pos} {kx vx tg iter : Expr} {fi : IF} {g : TF} {t : BF} {fk fv : EF} {scope : Scope} {own : List (Str × Nat)} {ifs : List Expr}
/-! ## {k: v for x in xs} -/
theorem KVs.ext {φ φ1 : List Addr} {H H1 : Hp} (e : Ext φ H φ1 H1) {kvs : List (Key × D)} {w : List (Key × V)} (h : KVs T H φ kvs w) : KVs T H1 φ1 kvs w := ⟨h.1, h.2.ext e _ _⟩
theorem KVs.len {φ : List Addr} {H : Hp} {kvs : List (Key × D)} {w : List (Key × V)} (h : KVs T H φ kvs w) : w.length = kvs.length := by
  have := congrArg List.length h.1
  simpa using this
variable {us : List Nat}
end
end Sb
end
section
set_option Elab.async false
set_option linter.all false
set_option maxRecDepth 100000
set_option maxHeartbeats 4000000
namespace Sb
open PySem PySem.Spec PyProof.Rows L2
section
variable {X : Cx} {T : Tb} {W : WX} {pos : Pos} {e : Expr} {fa : EF}
/-! ## x op= e at a name: x = x op e, read first -/
end
end Sb
end
section
set_option Elab.async false
set_option linter.all false
set_option maxRecDepth 100000
set_option maxHeartbeats 4000000
namespace Sb
open PySem PySem.Spec PyProof.Rows L2
section
variable {X : Cx} {T : Tb} {W : WX}
/-! ## sorted of a list of whole numbers -/
end
end Sb
end
section
set_option Elab.async false
set_option linter.all false
set_option maxRecDepth 100000
set_option maxHeartbeats 4000000
namespace Sb
open PySem PySem.Spec PyProof.Rows L2
/-! ## list(zip(xs, ys)) -/
/-- where a zip stands behind k pairs, all of them kept -/
structure ZSt (h0 h : Heap) (z TI TO i1 i2 l1 l2 S : Addr) (xs ys : Array Value) (k : Nat) (acc : Array Value) : Prop where
  le : h0.objs.size ≤ h.objs.size
  fr : ∀ c o, c ≠ S → c ≠ z → c ≠ TO → c ≠ i1 → c ≠ i2 → h0.get? c = some o → h.get? c = some o
  zip : (k = 0 ∧ IsZip h z TI TO .none ∧ ∃ a b, IsPair h TO a b) ∨ (∃ T f oT, h0.objs.size ≤ T ∧ IsZipHeld h z TI TO T f ∧ h.get? T = some oT)
  ti : IsPair h TI (.ref i1) (.ref i2)
  p1 : h.IsListIter i1 l1 k
  p2 : h.IsListIter i2 l2 k
  q1 : h.IsList l1 xs
  q2 : h.IsList l2 ys
  lst : ∃ ep, h.get? S = some { cls := .type "list", data := .seq acc ep }
  len : acc.size = k
  els : ∀ j, j < k → ∃ T x y, acc[j]? = some (.ref T) ∧ h0.objs.size ≤ T ∧ xs[j]? = some x ∧ ys[j]? = some y ∧ IsPair h T x y
  dis : ∀ i j T, i < j → j < k → acc[i]? = some (.ref T) → acc[j]? = some (.ref T) → False
/-- the start of a zip, an empty list beside it -/
structure Z0 (h : Heap) (z TI TO i1 i2 l1 l2 S : Addr) (xs ys : Array Value) : Prop where
  zip : IsZip h z TI TO .none
  to_ : ∃ a b, IsPair h TO a b
  ti : IsPair h TI (.ref i1) (.ref i2)
  p1 : h.IsListIter i1 l1 0
  p2 : h.IsListIter i2 l2 0
  q1 : h.IsList l1 xs
  q2 : h.IsList l2 ys
  lst : ∃ ep, h.get? S = some { cls := .type "list", data := .seq #[] ep }
theorem Z0.st {h0 h : Heap} {z TI TO i1 i2 l1 l2 S : Addr} {xs ys : Array Value} (st : Z0 h0 z TI TO i1 i2 l1 l2 S xs ys) (hS : S ≠ z ∧ S ≠ TI ∧ S ≠ TO ∧ S ≠ i1 ∧ S ≠ i2 ∧ S ≠ l1 ∧ S ≠ l2) (sz : h.objs.size = h0.objs.size) (oth : ∀ c, c ≠ S → h.get? c = h0.get? c) (at_ : ∃ ep, h.get? S = some { cls := .type "list", data := .seq #[] ep }) : ZSt h0 h z TI TO i1 i2 l1 l2 S xs ys 0 #[] := by
  obtain ⟨a, b, hto⟩ := st.to_
  refine ⟨by omega, fun c o c0 _ _ _ _ e => by rw [oth c c0]; exact e, .inl ⟨rfl, ?_, a, b, ?_⟩, ?_, ?_, ?_, ?_, ?_, at_, rfl, fun j hj => absurd hj (Nat.not_lt_zero _), fun _ j _ _ hj => absurd hj (Nat.not_lt_zero _)⟩
  · unfold IsZip; rw [oth z (Ne.symm hS.1)]; exact st.zip
  · unfold IsPair; rw [oth TO (Ne.symm hS.2.2.1)]; exact hto
  · unfold IsPair; rw [oth TI (Ne.symm hS.2.1)]; exact st.ti
  · obtain ⟨o, a, b, c⟩ := st.p1
    exact ⟨o, by rw [oth i1 (Ne.symm hS.2.2.2.1)]; exact a, b, c⟩
  · obtain ⟨o, a, b, c⟩ := st.p2
    exact ⟨o, by rw [oth i2 (Ne.symm hS.2.2.2.2.1)]; exact a, b, c⟩
  · obtain ⟨o, a, b, c⟩ := st.q1
    exact ⟨o, by rw [oth l1 (Ne.symm hS.2.2.2.2.2.1)]; exact a, b, c⟩
  · obtain ⟨o, a, b, c⟩ := st.q2
    exact ⟨o, by rw [oth l2 (Ne.symm hS.2.2.2.2.2.2)]; exact a, b, c⟩
end Sb
end
section
set_option Elab.async false
set_option linter.all false
set_option maxRecDepth 100000
set_option maxHeartbeats 4000000
namespace Sb
open PySem PySem.Spec PyProof.Rows L2
/-! ## list(zip(xs, ys)): data -/
section
variable {X : Cx} {T : Tb} {W : WX} {pos : Pos} {ra : AF}
end
end Sb
end
section
set_option Elab.async false
set_option linter.all false
set_option maxRecDepth 100000
set_option maxHeartbeats 4000000
namespace Sb
open PySem PySem.Spec PyProof.Rows L2
/-! ## tuple(zip(xs, ys)) of two lists -/
section
variable {prog : Program} {w : World} {A : Around} {E : Value → Shared → Prop} {s : Shared} {z TI TO i1 i2 l1 l2 : Addr} {xs ys : Array Value}
end
section
variable {X : Cx} {T : Tb} {W : WX} {pos : Pos} {ra : AF}
end
end Sb
end
section
set_option Elab.async false
set_option linter.all false
set_option maxRecDepth 100000
set_option maxHeartbeats 4000000
namespace Sb
open PySem PySem.Spec PyProof.Rows L2
section
variable {X : Cx} {T : Tb}
/-! ## xs.pop() -/
end
end Sb
end
section
set_option Elab.async false
set_option linter.all false
set_option maxRecDepth 100000
set_option maxHeartbeats 4000000
namespace Sb
open PySem PySem.Spec PyProof.Rows L2 PySem.W
section
variable {X : Cx} {T : Tb} {W : WX} {pos : Pos} {e e2 : Expr} {ra : AF}
/-! ## for x, y in zip(xs, ys): two told lists, or two tuples -/
/-! ## a target of two targets -/
end
end Sb
end
section
set_option Elab.async false
set_option linter.all false
set_option maxRecDepth 100000
set_option maxHeartbeats 4000000
namespace Sb
open PySem PySem.Spec PyProof.Rows L2
/-! ## enumerate(zip(xs, ys)) of two lists -/
section
variable {prog : Program} {w : World} {A : Around} {E : Value → Shared → Prop} {s : Shared}
end
open AutoSeq1 (wpAny_loadPart') in
/-! ## over data -/
section
variable {X : Cx} {T : Tb} {W : WX} {pos : Pos} {ra : AF}
end
end Sb
end
section
set_option Elab.async false
set_option linter.all false
set_option maxRecDepth 100000
set_option maxHeartbeats 4000000
namespace Sb
open PySem PySem.Spec PyProof.Rows L2
/-! ## range kept under a name -/
section
variable {X : Cx} {T : Tb} {W : WX} {pos : Pos} {fe : EF} {tg e : Expr}
end
end Sb
end
section
set_option Elab.async false
set_option linter.all false
set_option maxRecDepth 100000
set_option maxHeartbeats 4000000
namespace Sb
open PySem PySem.Spec PyProof.Rows L2
/-! ## tuples that are known to have no names of their own -/
def rTupN (K : PySem.W.Frag) : List V → Hp → VK → Prop := fun xs H Q => ∃ p ys, xs = [V.ref p] ∧ SqL K H p ys ∧ ∀ l o, o.dict = none → H l = none → Q (.ref l) (upd H l (.frz o (.tup ys)))
theorem cr_tupN {X : Cx} : CallR X (.type "tuple") (rTupN X.K) := by
  intro pins s σ H xs us Q I r h
  obtain ⟨p, ys, rfl, hq, q⟩ := h
  obtain ⟨u, eu, rx⟩ := vals1 r
  subst eu
  cases rx
  obtain ⟨its, r', pl, hz⟩ := I.list hq
  have hlen := r'.length
  refine call_tuple_list pl.isList (fun h' kp => ?_) (by simp only [List.size_toArray] <;> omega)
  have I1 : L2.Inv X pins σ H { s with heap := h' } := I.kept (t' := s.toks) kp
  have I2 : L2.Inv X pins σ (upd H h'.objs.size (.frz { cls := .type "tuple", data := .seq its.toArray } (.tup ys))) { s with heap := h'.push { cls := .type "tuple", data := .seq its.toArray } } :=
    I1.laid (t' := s.toks) (fun b o e => Heap.get?_push_of_some _ e) (Nat.le_refl _) ⟨Heap.get?_push_size _ rfl, show ObjOk X.prog X.w _ _ _ (.tup ys) from ⟨hz, its, r', IsTup.new _ _⟩⟩
  exact ⟨.ref h'.objs.size, _, I2, rfl, q _ _ rfl (I1.hok.fresh (Nat.le_refl _))⟩
/-- dict(xs) of such a tuple of pairs -/
def rDictN (K : PySem.W.Frag) : List V → Hp → VK → Prop := fun xs H Q => ∃ (a : Addr) (ps : List Addr) (kvs : List (Key × V)) (o : Obj), xs = [V.ref a] ∧ H a = some (.frz o (.tup (ps.map V.ref))) ∧ o.dict = none ∧ Paired (fun p kv => SqT K H p [kV kv.1, kv.2]) ps kvs ∧
  ∀ p, H p = none → Q (.ref p) (upd H p (.dK (mergeK [] kvs)))
theorem cr_dictN {X : Cx} (hcalm : X.calm = true) : CallR X (.type "dict") (rDictN X.K) := by
  intro pins s σ H xs us Q I r h
  obtain ⟨a, ps, kvs, o, rfl, ha, hd, hp, q⟩ := h
  obtain ⟨u, eu, rx⟩ := vals1 r
  subst eu
  cases rx
  obtain ⟨ho, hz, its, rv, o2, ho2, hc, n, hdat⟩ := I.hok a _ ha
  rw [ho] at ho2
  cases ho2
  have ei := refs_at rv
  subst ei
  rw [List.length_map] at hz
  obtain ⟨prs, rel, hl, hpr⟩ := pairs_of I hp
  let Ts : Nat → Addr := fun j => ps.getD j 0
  have hTs : ∀ j b, ps[j]? = some b → Ts j = b := fun j b e => by show ps.getD j 0 = b; rw [List.getD_eq_getElem?_getD, e]; rfl
  -- the key and the value that stand
  have hat : ∀ j, (hj : j < prs.length) → ∃ v : Value, IsTup s.heap (Ts j) #[v, prs[j].2] ∧ keyIs prs[j].1 v = true ∧ ps[j]? = some (Ts j) := fun j hj => by
    obtain ⟨b, v, e1, e2, e3⟩ := hpr j prs[j] (List.getElem?_eq_getElem hj)
    have := hTs j b e1
    exact ⟨v, by rw [this]; exact e2, e3, by rw [this]; exact e1⟩
  have hch : ∃ vs : List (Value × Value), vs.length = prs.length ∧ ∀ j, (hj : j < prs.length) → ∃ v, vs[j]? = some (v, prs[j].2) ∧ IsTup s.heap (Ts j) #[v, prs[j].2] ∧ keyIs prs[j].1 v = true := by
    refine ⟨(List.range prs.length).attach.map fun j => (Classical.choose (hat j.1 (List.mem_range.mp j.2)), (prs[j.1]'(List.mem_range.mp j.2)).2), by simp, fun j hj => ?_⟩
    obtain ⟨h1, h2, _⟩ := Classical.choose_spec (hat j hj)
    exact ⟨_, by simp [hj], h1, h2⟩
  obtain ⟨vs, hvl, hvs⟩ := hch
  have pit : PySem.PairItems s.heap (ps.map Value.ref).toArray Ts vs := by
    refine ⟨by simp [hvl, hl], fun j k v hj => ?_⟩
    have hj' : j < prs.length := by rw [← hvl]; exact (List.getElem?_eq_some_iff.mp hj).1
    obtain ⟨v', e1, e2, e3⟩ := hvs j hj'
    rw [hj] at e1
    cases e1
    obtain ⟨_, _, _, e4⟩ := hat j hj'
    exact ⟨by simp [e4], .inl e2⟩
  refine PySem.call_dict_pairs (knd := mixKind X.prog X.w) (kvs := prs) (PySem.PairArg.tuple (prog := X.prog) (w := X.w) a (ps.map Value.ref).toArray Ts vs) (I.ok.hd hcalm) ⟨⟨o, n, ho, hc, hd, hdat⟩, pit⟩ ⟨hvl.symm, fun i key v hr => ?_⟩ (by rw [hvl, hl]; exact hz) fun h' tk hd' k => ?_
  · have hi : i < prs.length := by rw [← hvl]; exact (List.getElem?_eq_some_iff.mp hr).1
    obtain ⟨v', e1, e2, e3⟩ := hvs i hi
    have e0 : vs[i]? = some (key, v) := hr
    rw [e0] at e1
    cases e1
    exact ⟨prs[i].1, by rw [List.getElem?_eq_getElem hi], e3⟩
  · have hm : (s.heap.objs.size == sysModules) = false := beq_eq_false_iff_ne.mpr (Nat.ne_of_gt I.big)
    have hlen : (mergeK [] kvs).length ≤ sizeLine := by
      refine Nat.le_trans (length_mergeK kvs []) ?_
      rw [List.length_nil, Nat.zero_add, rel.length, hl]
      exact hz
    exact ⟨.ref s.heap.objs.size, upd H s.heap.objs.size (.dK (mergeK [] kvs)), I.laid (t' := tk) (fun b o e => k b o (by simp) e) (Nat.le_refl _) (show ObjOk X.prog X.w _ _ _ (.dK (mergeK [] kvs)) from ⟨hlen, hm, merged [] prs, KV.merge rel .nil, hd'⟩), rfl, q _ (I.hok.fresh (Nat.le_refl _))⟩
/-! ## over data -/
section
variable {X : Cx} {T : Tb} {W : WX} {pos : Pos} {fe : EF} {e : Expr}
def gTupleN : GN := fun ds S => match ds with
  | [.loc n] => (seqD S (.loc n)).bind fun es => some (.ntu es, S)
  | [.fl es] => some (.ntu es, S)
  | _ => none
theorem fin_ntu {φ : List Addr} {S : Sto} {H : Hp} {es : List D} {vs : List V} {Q : VK} (R : Rel T φ S H) (f : Fin T φ H (some (.ntu es, S)) Q) (s : RDs T H φ es vs) (p : Addr) (o : Obj) (ho : o.dict = none) (hp : H p = none) : Q (.ref p) (upd H p (.frz o (.tup vs))) := by
  obtain ⟨d', S', e, q⟩ := f
  cases e
  obtain ⟨R1, E1⟩ := R.garb (u := .frz o (.tup vs)) hp
  exact q φ _ _ E1 R1 ⟨p, vs, o, rfl, upd_same, ho, s.ext E1 _ _⟩
theorem c_tupleN (hK : T.K = X.K) : CallR X (.type "tuple") (rGN T gTupleN) := CallR.imp cr_tupN fun xs H Q h => by
  obtain ⟨φ, S, ds, R, r, f⟩ := h
  unfold gTupleN at f
  split at f
  · rename_i n
    cases e : seqD S (.loc n) with
    | none => rw [e] at f; obtain ⟨_, _, z, _⟩ := f; cases z
    | some es =>
      rw [e] at f
      simp only [seqD] at e
      obtain ⟨v, l, rfl, r1, r2⟩ := r
      cases r2
      obtain ⟨a, rfl, h1⟩ := r1
      split at e
      · rename_i q
        cases e
        obtain ⟨vs, k1, k2⟩ := R.obj n _ a q h1
        exact ⟨a, vs, rfl, .of k1, fun p o ho hp => fin_ntu R f k2 p o ho hp⟩
      · cases e
  · obtain ⟨v, l, rfl, r1, r2⟩ := r
    cases r2
    obtain ⟨a, vs, rfl, _, k, s⟩ := r1
    exact ⟨a, vs, rfl, .of k, fun p o ho hp => fin_ntu R f s p o ho hp⟩
  · obtain ⟨_, _, z, _⟩ := f; cases z
def gDictN : GN := fun ds S => match ds with
  | [.ntu es] => (pairsD S es).bind fun ps => some (.loc S.length, S ++ [.dct (mergeD [] ps)])
  | _ => none
theorem c_dictN (hK : T.K = X.K) (hc : X.calm = true) : CallR X (.type "dict") (rGN T gDictN) := CallR.imp (cr_dictN hc) fun xs H Q h => by
  obtain ⟨φ, S, ds, R, r, f⟩ := h
  unfold gDictN at f
  split at f
  · rename_i es
    cases e : pairsD S es with
    | none => rw [e] at f; obtain ⟨_, _, z, _⟩ := f; cases z
    | some ps =>
      rw [e] at f
      obtain ⟨v, l, rfl, r1, r2⟩ := r
      cases r2
      obtain ⟨p, vs, o, rfl, hH, ho, rv⟩ := r1
      obtain ⟨as, kvs, rfl, pp, kk⟩ := pairs_ok rv e
      refine ⟨p, as, kvs, o, rfl, hH, ho, paired_imp (fun _ _ h => .inl h) pp, fun t ht => ?_⟩
      obtain ⟨d, S', ed, q⟩ := f
      cases ed
      have kn : KVs T H φ (mergeD [] ps) (mergeK [] kvs) := KVs.merge kk ⟨rfl, rfl⟩
      have E0 := (R.garb (u := .dK (mergeK [] kvs)) ht).2
      obtain ⟨R2, E2⟩ := R.new (u := .dK (mergeK [] kvs)) (o := .dct (mergeD [] ps)) ht ⟨_, upd_same, kn.1, kn.2.ext (Ext.freshL ht) _ _⟩
      exact q _ _ _ E2 R2 ⟨t, rfl, by rw [← R.len]; simp⟩
  · obtain ⟨_, _, z, _⟩ := f; cases z
/-- what is known of it, forgotten -/
def fgD : D → D
  | .ntu ds => .tup ds
  | d => d
def fg (f : EF) : EF := fun τ S => match f τ S with
  | some (.ok d S1) => some (.ok (fgD d) S1)
  | o => o
theorem rd_fg {φ : List Addr} {H : Hp} {d : D} {v : V} (r : RD T H φ d v) : RD T H φ (fgD d) v := by
  cases d with
  | ntu ds =>
    obtain ⟨a, vs, o, rfl, h1, _, h2⟩ := r
    exact ⟨a, vs, rfl, .inr ⟨o, h1⟩, h2⟩
  | _ => exact r
theorem d_fg (h : PE X e (rdE T W fe)) : PE X e (rdE T W (fg fe)) := h.imp fun σ H Q hq => by
  obtain ⟨φ, S, τ, o, R, r, e, q⟩ := hq
  unfold fg at e
  cases e1 : fe τ S with
  | none => rw [e1] at e; cases e
  | some x =>
    rw [e1] at e
    refine ⟨φ, S, τ, x, R, r, e1, ?_⟩
    cases x with
    | ok d S1 =>
      cases e
      intro φ' H' v E R' r'
      exact q φ' H' v E R' (rd_fg r')
    | ex x S1 => cases e; exact q
end
end Sb
end
section
set_option Elab.async false
set_option linter.all false
set_option maxRecDepth 100000
set_option maxHeartbeats 4000000
/-! A text beside a dict: never equal. -/
namespace Sb
open PySem PySem.Spec PySem.MeetsSeq PySem.SeqAt PyProof.Rows L2
theorem str_eq_declines_dict (b : Str) (u : Tok) (l : Addr) (o : Obj) (es : Array DictEntry) (n : Nat) (hd : o.data = .dict es n) :
    Meets (Builtin.«str.__eq__» ⟨[.str b u, .ref l], []⟩) (fun _ R s => s.heap.get? l = some o ∧ R (.ok (.ret .notImplemented)) s) :=
  .of_wp fun prog w A R s h => by
    obtain ⟨cls, dd, data, sl⟩ := o
    simp only at hd
    subst hd
    obtain ⟨hp, g, d, tk, os⟩ := s; obtain ⟨hl, h⟩ := h; wp_walk using wpAny_loadPart' hl, wpAny_load hl; exact ⟨_, rfl, h⟩
theorem dict_eq_declines_str (l : Addr) (o : Obj) (es : Array DictEntry) (n : Nat) (hc : o.cls = .type "dict") (hd : o.data = .dict es n) (b : Str) (u : Tok) :
    Meets (Builtin.«dict.__eq__» ⟨[.ref l, .str b u], []⟩) (fun _ R s => s.heap.get? l = some o ∧ R (.ok (.ret .notImplemented)) s) :=
  .of_wp fun prog w A R s h => by
    obtain ⟨cls, dd, data, sl⟩ := o
    simp only at hd hc
    subst hd hc
    obtain ⟨hp, g, d, tk, os⟩ := s; obtain ⟨hl, h⟩ := h; have f1 := F.sub_str_dict; wp_walk using wpAny_loadPart' hl; exact ⟨_, rfl, h⟩
variable {X : Cx} {T : Tb}
theorem op_strD (hu : X.A.units + 64 < cLine) : OpR X (compareOp .Eq) (fun x y H Q => ∃ b a ws, x = .str b ∧ y = .ref a ∧ Rd H a (.dK ws) ∧ Q (.bl false) H) := by
  intro pins s σ H x y v u Q I rx ry h
  obtain ⟨b, a, ws, rfl, rfl, hr, q⟩ := h
  obtain ⟨t, rfl⟩ := rx
  cases ry
  obtain ⟨_, _, vs, _, ob, es, ep, h1, h2, h3, _⟩ := dk_rd I.hok hr
  have hc : ob.cls = .type "dict" := h2.1
  refine rc_eq_decline_or (k := false) (typeIs_str s b t) ⟨_, h1, by rw [hc]⟩ (by decide) F.sub_dict_str F.slot_str_eq F.slot_dict_eq_refl
    (fun _ hq => call_meets F.slot_str_eq (typeIs_str s b t) F.entry_str_eq (F.args_str_eq_2 _ _) (str_eq_declines_dict b t a ob es ep h3) ⟨h1, hq⟩)
    (fun _ hq => call_meets F.slot_dict_eq_refl ⟨_, h1, by rw [hc]⟩ F.entry_dict_eq (F.args_dict_eq_2 _ _) (dict_eq_declines_str a ob es ep hc h3 b t) ⟨h1, hq⟩)
    (fun _ hq => wpAny_of_eq (rfl : isSame (.str b t) (.ref a) = pure false) hq) (.inr (by omega)) ⟨.bl _, H, I, rfl, q⟩
def gEqW : G2 := fun x y S => match x, y with
  | .str _, .fd _ _ => some (.bl false, S)
  | x, y => gEq false x y S
theorem o_eqW (hu : X.A.units + 64 < cLine) : OpR X (compareOp .Eq) (rG2 T gEqW) := OpR.imp (OpR.or (o_eq (T := T) hu) (op_strD hu)) fun x y H Q h => by
  obtain ⟨φ, S, d1, d2, R, r1, r2, f⟩ := h
  unfold gEqW at f
  split at f
  · right
    rename_i b ks ds
    cases r1
    obtain ⟨a, ws, rfl, _, hr, _⟩ := r2
    exact ⟨b, a, ws, rfl, rfl, hr, f.val R rfl⟩
  · left
    exact ⟨φ, S, d1, d2, R, r1, r2, f⟩
theorem gEqW_str {x : Str} {d : D} {S : Sto} (h : ∀ ks ds, d ≠ .fd ks ds) : gEqW (.str x) d S = gEq false (.str x) d S := by
  cases d with
  | fd ks ds => exact absurd rfl (h ks ds)
  | _ => rfl
end Sb
end
section
set_option Elab.async false
set_option linter.all false
set_option maxRecDepth 100000
namespace Sb
open PySem PySem.Spec PyProof.Rows L2
/-! meanings of the decks that are known to be new, and of what is none (prefix n_) -/
def m_n_law_deck : SF := sSeq (sSet 2 (eB gAdd (eC (.int 1)) (eCl (M_law_draw) 2 (aCons (eVar 0) (aCons (eB gIx (eLst (aCons (eC (.int 3)) (aCons (eC (.int 7)) (aCons (eVar 1) (aNil))))) (eCl (M_law_draw) 2 (aCons (eVar 0) (aCons (eC (.int 3)) (aNil))))) (aNil)))))) (sSeq (sSet 3 (eCl (M_law_draw) 2 (aCons (eVar 0) (aCons (eC (.int 7)) (aNil))))) (sSeq (sSet 4 (eCl (M_law_draw) 2 (aCons (eVar 0) (aCons (eVar 2) (aNil))))) (sSeq (sSet 5 (eLst (aNil))) (sSeq (sFor (iSeq (eCl (M_law_names) 2 (aCons (eVar 0) (aCons (eVar 2) (aNil))))) (tN 6) (sSeq (sSet 7 (eCB gLenX (aCons (eVar 5) (aNil)))) (sSeq (sSet 8 (eLst (aCons (eCl (M_law_draw) 2 (aCons (eVar 0) (aCons (eC (.int 3)) (aNil)))) (aCons (eCl (M_law_draw) 2 (aCons (eVar 0) (aCons (eVar 2) (aNil)))) (aCons (eCB gMax (aCons (eC (.int 0)) (aCons (eB gSub (eB gAdd (eVar 7) (eCl (M_law_draw) 2 (aCons (eVar 0) (aCons (eC (.int 5)) (aNil))))) (eC (.int 3))) (aNil)))) (aCons (eVar 4) (aNil))))))) (sSeq (sSet 8 (eB gAdd (eVar 8) (eLst (aCons (eB gAdd (eVar 2) (eCl (M_law_draw) 2 (aCons (eVar 0) (aCons (eC (.int 3)) (aNil))))) (aCons (eB gSub (eB gSub (eB gPow (eC (.int 10)) (eC (.int 30))) (eC (.int 1))) (eCl (M_law_draw) 2 (aCons (eVar 0) (aCons (eC (.int 9)) (aNil))))) (aCons (eB gSub (eB gSub (eVar 2) (eC (.int 1))) (eVar 7)) (aNil))))))) (sEx (eBM "list" gAppend (eVar 5) (aCons (eTup (aCons (eVar 6) (aCons (eB gIx (eVar 8) (eB gIx (eLst (aCons (eVar 3) (aCons (eCl (M_law_draw) 2 (aCons (eVar 0) (aCons (eC (.int 7)) (aNil)))) (aNil)))) (eCB gInt (aCons (eB (gEq false) (eCl (M_law_draw) 2 (aCons (eVar 0) (aCons (eC (.int 4)) (aNil)))) (eC (.int 0))) (aNil))))) (aNil)))) (aNil)))))))) (sRt (eCB gTupleN (aCons (eVar 5) (aNil))))))))
abbrev M_n_law_deck : List D → M D := fnM 9 (m_n_law_deck)
def m_n_law_no_deck : SF := sSeq (sSet 2 (eCl (M_law_draw) 2 (aCons (eVar 0) (aCons (eCB gLenX (aCons (fg (eVar 1)) (aNil))) (aNil))))) (sSeq (sAs (tN2 3 4) (eB gIx (fg (eVar 1)) (eVar 2))) (sSeq (sSet 5 (fz (eLst (aCons (eTup (aCons (eVar 3) (aCons (eNeg (eC (.int 1))) (aNil)))) (aCons (eTup (aCons (eVar 3) (aCons (eC (.bl true)) (aNil)))) (aCons (eTup (aCons (eVar 3) (aCons (eC .non) (aNil)))) (aCons (eTup (aCons (eVar 3) (aCons (eC (.str "1")) (aNil)))) (aCons (eTup (aCons (eVar 3) (aNil))) (aCons (eTup (aCons (eVar 3) (aCons (eVar 4) (aCons (eC (.int 0)) (aNil))))) (aCons (eTup (aCons (eC (.str "")) (aCons (eC (.int 1)) (aNil)))) (aCons (eTup (aCons (eC (.str "A")) (aCons (eC (.int 1)) (aNil)))) (aCons (eC .non) (aNil))))))))))))) (sSeq (sSet 5 (eB gAdd (eVar 5) (fz (eLst (aCons (eTup (aCons (eC (.str "abcdefghi")) (aCons (eC (.int 0)) (aNil)))) (aCons (eTup (aCons (eC (.str "a b")) (aCons (eC (.int 0)) (aNil)))) (aCons (eTup (aCons (eC (.int 7)) (aCons (eC (.int 0)) (aNil)))) (aCons (eTup (aCons (eC .non) (aCons (eC (.int 0)) (aNil)))) (aCons (eTup (aCons (eC (.str "a")) (aCons (fz (eLst (aCons (eC (.int 1)) (aNil)))) (aNil)))) (aCons (eVar 3) (aCons (fz (eLst (aNil))) (aCons (eTup (aCons (eVar 4) (aCons (eVar 3) (aNil)))) (aCons (eTup (aCons (eC (.str "a-")) (aCons (eC (.int 1)) (aNil)))) (aNil)))))))))))))) (sSeq (sSet 6 (eLst (aCons (eC .non) (aCons (eC (.int 5)) (aCons (eC (.bl true)) (aCons (eC (.str "a:1")) (aCons (eTup (aNil)) (aCons (fz (eLst (aNil))) (aCons (fz (eDct0)) (aCons (eB gIx (fg (eVar 1)) (eC (.int 0))) (aCons (fz (eCB gDictN (aCons (eVar 1) (aNil)))) (aCons (eB gAdd (fg (eVar 1)) (eSl (fg (eVar 1)) (oSo (eVar 2)) (oSo (eB gAdd (eVar 2) (eC (.int 1)))))) (aCons (eB gAdd (fg (eVar 1)) (eTup (aCons (eTup (aCons (eVar 3) (aCons (eC (.int 0)) (aNil)))) (aNil)))) (aNil)))))))))))))) (sSeq (sEx (eBM "list" gAppend (eVar 6) (aCons (eCB gTuple (aCons (fz (eLc (iRg1 (aCons (eC (.int 41)) (aNil))) (tN 7) (tAll) (eTup (aCons (eB gAdd (eB gAdd (eC (.str "w")) (eB gIx (eC (.str "abcdefg")) (eB gDiv (eVar 7) (eC (.int 6))))) (eB gIx (eC (.str "abcdef")) (eB gMod (eVar 7) (eC (.int 6))))) (aCons (eVar 7) (aNil)))) [7])) (aNil))) (aNil)))) (sSeq (sEx (eBM "list" gAppend (eVar 6) (aCons (eB gAdd (eB gAdd (eSl (fg (eVar 1)) (oNo) (oSo (eVar 2))) (eTup (aCons (eB gIx (fg (eVar 1)) (eCl (M_law_draw) 2 (aCons (eVar 0) (aCons (eCB gLenX (aCons (fg (eVar 1)) (aNil))) (aNil))))) (aNil)))) (eSl (fg (eVar 1)) (oSo (eVar 2)) (oNo))) (aNil)))) (sSeq (sIf (tB (eB (gEq false) (eCl (M_law_draw) 2 (aCons (eVar 0) (aCons (eC (.int 2)) (aNil)))) (eC (.int 0)))) (sRt (eB gIx (eVar 6) (eCl (M_law_draw) 2 (aCons (eVar 0) (aCons (eC (.int 13)) (aNil)))))) (sNop)) (sRt (eB gAdd (eB gAdd (eSl (fg (eVar 1)) (oNo) (oSo (eVar 2))) (eTup (aCons (eB gIx (eVar 5) (eCl (M_law_draw) 2 (aCons (eVar 0) (aCons (eC (.int 18)) (aNil))))) (aNil)))) (eSl (fg (eVar 1)) (oSo (eB gAdd (eVar 2) (eC (.int 1)))) (oNo)))))))))))
abbrev M_n_law_no_deck : List D → M D := fnM 8 (m_n_law_no_deck)
end Sb
end
section
set_option Elab.async false
set_option linter.all false
set_option maxRecDepth 100000
set_option maxHeartbeats 4000000
namespace Sb
open PySem PySem.Spec PyProof.Rows L2
section
variable {X : Cx} {T : Tb} {W : WX} {pos : Pos} {e : Expr} {fa : EF}
/-! ## xs[::-1] of a list -/
end
end Sb
end
section
set_option Elab.async false
set_option linter.all false
set_option maxRecDepth 100000
set_option maxHeartbeats 4000000
namespace Sb
open PySem PySem.Spec PyProof.Rows L2 GenW
open Sem (wp)

/-! ## generators that sleep stay as they are: what was shown of a state where none of them can be woken holds of the state itself -/
def poi : GenState → GenState
  | .suspended _ l c p fs cl => .suspended (fun _ => .unsupported "asleep") l c p fs cl
  | gs => gs
def slp : GenState → Bool
  | .suspended .. => true
  | _ => false
def plainG : GenState → Prop
  | .suspended _ _ _ _ fs _ => splitAtGen fs = none
  | _ => True
/-- s: the sleepers (B) cannot be woken; s₁: as it is -/
structure Asl (B : Nat → Option GenState) (s s₁ : Shared) : Prop where
  heap : s₁.heap = s.heap
  drawn : s₁.drawn = s.drawn
  toks : s₁.toks = s.toks
  os : s₁.os = s.os
  size : s₁.gens.size = s.gens.size
  at_ : ∀ i, i < s.gens.size → (∃ st, B i = some st ∧ slp st = true ∧ s₁.gens[i]? = some st ∧ s.gens[i]? = some (poi st)) ∨ (B i = none ∧ ∃ st, s₁.gens[i]? = some st ∧ s.gens[i]? = some st ∧ plainG st)
  out : ∀ i, s.gens.size ≤ i → B i = none
theorem bare_poi (st : GenState) : (poi st).bare = st.bare := by cases st <;> rfl
section
variable {B : Nat → Option GenState} {s s₁ : Shared}
theorem Asl.lt (a : Asl B s s₁) {i : Nat} {st : GenState} (h : s.gens[i]? = some st) : i < s.gens.size := (Array.getElem?_eq_some_iff.mp h).1
/-- a state that is not asleep is the same in both -/
theorem Asl.get (a : Asl B s s₁) {i : Nat} {st : GenState} (h : s.gens[i]? = some st) (n : B i = none) : s₁.gens[i]? = some st ∧ plainG st := by
  rcases a.at_ i (a.lt h) with ⟨st', e, _⟩ | ⟨_, st', e1, e2, e3⟩
  · rw [n] at e; cases e
  · rw [h] at e2; cases e2; exact ⟨e1, e3⟩
end
/-- all that sleep -/
def sleepers (s : Shared) : Nat → Option GenState := fun i => match s.gens[i]? with
  | some st => if slp st = true then some st else none
  | none => none
theorem Asl.bare {B : Nat → Option GenState} {s s₁ : Shared} (a : Asl B s s₁) : AllBare s.gens ↔ AllBare s₁.gens := by
  constructor
  · intro h y hy
    obtain ⟨i, hi, rfl⟩ := Array.mem_iff_getElem.mp hy
    have e := Array.getElem?_eq_getElem hi
    rcases a.at_ i (by rw [← a.size]; exact hi) with ⟨st', _, e1, e2, e3⟩ | ⟨_, st', e1, e2, e3⟩
    · rw [e] at e2; cases e2
      rw [← bare_poi]; exact h _ (Array.mem_of_getElem? e3)
    · rw [e] at e1; cases e1
      exact h _ (Array.mem_of_getElem? e2)
  · intro h y hy
    obtain ⟨i, hi, rfl⟩ := Array.mem_iff_getElem.mp hy
    have e := Array.getElem?_eq_getElem hi
    rcases a.at_ i hi with ⟨st', _, e1, e2, e3⟩ | ⟨_, st', e1, e2, e3⟩
    · rw [e] at e3; injection e3 with e3
      rw [e3, bare_poi]; exact h _ (Array.mem_of_getElem? e2)
    · rw [e] at e2; cases e2
      exact h _ (Array.mem_of_getElem? e1)
theorem Asl.kept {s s₁ s' : Shared} {g : Nat} {st : GenState} (a : Asl (sleepers s) s' s₁) (h : s.gens[g]? = some st) (q : slp st = true) : s₁.gens[g]? = some st := by
  have e : sleepers s g = some st := by unfold sleepers; rw [h]; simp only [q, if_true]
  have hl : g < s'.gens.size := by
    rcases Nat.lt_or_ge g s'.gens.size with z | z
    · exact z
    · have := a.out g z; rw [e] at this; cases this
  rcases a.at_ g hl with ⟨st', e1, _, e2, _⟩ | ⟨n, _⟩
  · rw [e] at e1; cases e1; exact e2
  · rw [e] at n; cases n
end Sb
end
section
set_option Elab.async false
set_option linter.all false
set_option maxRecDepth 100000
set_option maxHeartbeats 4000000
namespace Sb
open PySem PySem.Spec PyProof.Rows L2 GenW
open Sem (wp)

/-! ## one stretch of a generator's code: up to its next yield, or its end -/
abbrev EndP := End → Shared → Prop
section
variable {M : Model} {A : Around} {F : EndP} {c : Code} {fs : List Frame} {s : Shared}
variable {env : Env} {K : Flow → Sem PySem.Fin} {J : Value → Sem PySem.Fin} {gd : Bool → Bool} {lv : List Value → List Value}
end
section
variable {prog : Program} {w : World} {A : Around} {F : EndP} {fs : List Frame} {s : Shared} {env : Env} {c : Code}
  {K : Flow → Sem PySem.Fin} {J : Value → Sem PySem.Fin} {gd : Bool → Bool} {lv : List Value → List Value}
end
/-! ### woken by next -/
end Sb
end
section
set_option Elab.async false
set_option linter.all false
set_option maxRecDepth 100000
set_option maxHeartbeats 4000000
namespace Sb
open PySem PySem.Spec PyProof.Rows L2 GenW
open Sem (wp)

/-! ## the heap below an address -/
def cut (h : Heap) (n : Nat) : Heap := { h with objs := h.objs.extract 0 n }
/-! ## the context in which a stretch of a generator's code runs -/
section
variable {X : Cx} {T : Tb} {pins : List (Addr × Obj)} {a : Addr} {go : Obj} {env : Env} {N : List Str}
/-! ## how a stretch ends: the data that are still to come -/
end
/-! ## a generator's data are determined -/
end Sb
end
section
set_option Elab.async false
set_option linter.all false
set_option maxRecDepth 100000
set_option maxHeartbeats 4000000
namespace Sb
open PySem PySem.Spec PyProof.Rows L2 GenW
open Sem (wp)

/-! ## a generator def: what its calls hand out -/
section
variable {P : Program} {w : World} {mg : Str → Option Value} {base : Heap} {x qual : Str} {params : Arguments} {body : List Stmt} {scope : Scope} {fd : FuncData} {T : Tb} {k : Nat}
end

/-! ## for x in g(..) -/
section
variable {X : Cx} {T : Tb} {W : WX} {pos pos' p : Pos} {e tg : Expr} {es : List Expr} {ra : AF} {body : List Stmt} {g : TF} {vs : List Nat} {fbd : SF} {k n : Nat} {x : Str} {y : List D → Option (List D)}
end
end Sb
end
section
set_option Elab.async false
set_option linter.all false
set_option maxRecDepth 100000
set_option maxHeartbeats 4000000
namespace Sb
open PySem PySem.Spec PyProof.Rows L2
section
variable {X : Cx} {T : Tb}
/-! ## list * n -/
end
end Sb
end
section
set_option Elab.async false
set_option linter.all false
set_option maxRecDepth 100000
set_option maxHeartbeats 4000000
namespace Sb
open PySem PySem.Spec PyProof.Rows L2
section
variable {X : Cx} {T : Tb}
end
end Sb
end
section
set_option Elab.async false
set_option linter.all false
set_option maxRecDepth 100000
set_option maxHeartbeats 4000000
namespace Sb
open PySem PySem.Spec PyProof.Rows L2
/-! ## dicts: read, asked and written; told ones too -/
section
variable {X : Cx} {T : Tb} {W : WX} {pos : Pos} {a b e : Expr} {fe fa fb : EF}
/-! ## sum(xs), gcd -/
end
end Sb
end
section
set_option Elab.async false
set_option linter.all false
set_option maxRecDepth 100000
namespace Sb
open PySem PySem.Spec PyProof.Rows L2
noncomputable section
end
end Sb
end
section
set_option Elab.async false
set_option linter.all false
set_option maxRecDepth 100000
namespace Sb
open PySem PySem.Spec PyProof.Rows L2
noncomputable section
end
end Sb
end
section
set_option Elab.async false
set_option linter.all false
set_option maxRecDepth 100000
namespace Sb
open PySem PySem.Spec PyProof.Rows L2
noncomputable section
end
end Sb
end
section
set_option Elab.async false
set_option linter.all false
set_option maxRecDepth 100000
set_option maxHeartbeats 4000000
namespace Sb
open PySem PySem.Spec PyProof.Rows L2
/-! ## gcd, told by the module's own name -/
end Sb
end
section
set_option Elab.async false
set_option linter.all false
set_option maxRecDepth 100000
set_option maxHeartbeats 4000000
namespace Sb
open PySem PySem.Spec PyProof.Rows L2
/-! ## for k in d, d a told dict: it stays locked from then on -/
section
variable {X : Cx} {T : Tb} {W : WX} {tg e : Expr} {td : TE} {fa : EF}
end
end Sb
end
section
set_option Elab.async false
set_option linter.all false
set_option maxRecDepth 100000
set_option maxHeartbeats 4000000
namespace Sb
open PySem PySem.Spec PyProof.Rows L2
section
variable {X : Cx} {T : Tb} {W : WX} {o e f : Expr} {apos cpos : Pos} {fo fk fd : EF}
end
end Sb
end
section
set_option Elab.async false
set_option linter.all false
set_option maxRecDepth 100000
set_option maxHeartbeats 4000000
namespace Sb
open PySem PySem.Spec PyProof.Rows L2
section
variable {X : Cx} {T : Tb}
/-! ## a dict unlike the empty one -/
end
end Sb
end
section
set_option Elab.async false
set_option linter.all false
set_option maxRecDepth 100000
set_option maxHeartbeats 4000000
namespace Sb
open PySem PySem.Spec PyProof.Rows L2
/-! ## range(i, j, -1) -/
section
variable {X : Cx} {T : Tb} {W : WX} {ra : AF}
end
end Sb
end
section
set_option Elab.async false
set_option linter.all false
set_option maxRecDepth 100000
set_option maxHeartbeats 4000000
namespace Sb
open PySem PySem.Spec PyProof.Rows L2
section
variable {X : Cx} {T : Tb} {W : WX} {pos : Pos}
/-! ## five names as a target -/
end
end Sb
end
section
set_option Elab.async false
set_option linter.all false
set_option maxRecDepth 100000
set_option maxHeartbeats 4000000
namespace Sb
open PySem PySem.Spec PyProof.Rows L2
section
variable {X : Cx} {T : Tb}
/-! ## tuple * n -/
end
end Sb
end
section
set_option Elab.async false
set_option linter.all false
set_option maxRecDepth 100000
set_option maxHeartbeats 4000000
namespace Sb
open PySem PySem.Spec PyProof.Rows L2
/-! ## any(e for x in xs): the element may read names of the def -/
def onlyF (fv : List Nat) (σ : L2.St) : L2.St := σ.mapIdx fun i v => if i ∈ fv then v else none
section
variable {X : Cx} {elt iter tg : Expr} {scope : Scope} {gpos : Pos}
/-! ### the consumer -/
end
end Sb
end
section
set_option Elab.async false
set_option linter.all false
set_option maxRecDepth 100000
set_option maxHeartbeats 4000000
namespace Sb
open PySem PySem.Spec PyProof.Rows L2
section
variable {X : Cx} {elt iter tg : Expr} {scope : Scope} {gpos pos p : Pos} {k : Nat} {c P : Addr} {wi : TI} {g : TG} {te : TE} {fv : List Nat}
end
end Sb
end
section
set_option Elab.async false
set_option linter.all false
set_option maxRecDepth 100000
set_option maxHeartbeats 4000000
namespace Sb
open PySem PySem.Spec PyProof.Rows L2
section
variable {X : Cx} {T : Tb} {W : WX} {elt iter tg : Expr} {scope : Scope} {pos : Pos} {fi : IF} {g : TF} {fe : EF}
def onlyD (fv : List Nat) (τ : Sl) : Sl := τ.mapIdx fun i v => if i ∈ fv then v else none
theorem RSl.only {H : Hp} {φ : List Addr} {τ : Sl} {σ : L2.St} (r : RSl T H φ τ σ) (fv : List Nat) : RSl T H φ (onlyD fv τ) (onlyF fv σ) := by
  refine ⟨by simp [onlyD, onlyF, r.len], fun j d hj => ?_⟩
  unfold onlyD at hj
  rw [List.getElem?_mapIdx] at hj
  cases e : τ[j]? with
  | none => rw [e] at hj; cases hj
  | some o =>
    rw [e] at hj
    simp only [Option.map_some, Option.some.injEq] at hj
    split at hj
    · rename_i hi
      subst hj
      obtain ⟨v, h1, h2⟩ := r.at_ j d e
      refine ⟨v, ?_, h2⟩
      unfold onlyF
      rw [List.getElem?_mapIdx, h1]
      simp [hi]
    · cases hj
end
end Sb
end
section
set_option Elab.async false
set_option linter.all false
set_option maxRecDepth 100000
set_option maxHeartbeats 4000000
namespace Sb
open PySem PySem.Spec PyProof.Rows L2
section
variable {X : Cx} {T : Tb} {W : WX}
/-! ## sorted of a list of texts -/
end
end Sb
end
section
set_option Elab.async false
set_option linter.all false
set_option maxRecDepth 100000
set_option maxHeartbeats 4000000
namespace Sb
open PySem PySem.Spec PyProof.Rows L2
variable {K : PySem.W.Frag} {S : Sto}
/-! ## reaches, the closed place -/
def rch (n : Nat) (c : Card) : Nat := min c.2.toNat (n - 1)
theorem reach_n {c : Card} {n : Nat} (h : 0 ≤ c.2) (hn : 1 ≤ n) : M_reach_of [dC c, .int (n : Nat)] S = some (.ok (.int (rch n c : Nat)) S) := by
  rw [reach_ok]
  have : (if ((n : Nat) : Int) - 1 < c.2 then ((n : Nat) : Int) - 1 else c.2) = ((rch n c : Nat) : Int) := by
    unfold rch; split <;> omega
  rw [this]
abbrev at0 (l : List Card) (i : Nat) : Card := l.getD i ("", 0)
/-- the reach of the card at a place -/
def ra (l : List Card) (i : Nat) : Nat := rch l.length (at0 l i)
theorem at0_get {l : List Card} {i : Nat} (h : i < l.length) : l[i]? = some (at0 l i) := by
  unfold at0; rw [List.getD_eq_getElem?_getD, List.getElem?_eq_getElem h]; rfl
theorem at0_eq {l : List Card} {i : Nat} (h : i < l.length) : at0 l i = l[i] := by
  unfold at0; rw [List.getD_eq_getElem?_getD, List.getElem?_eq_getElem h]; rfl
theorem at0_mem {l : List Card} {i : Nat} (h : i < l.length) : at0 l i ∈ l := by rw [at0_eq h]; exact List.getElem_mem h
theorem ra_lt {l : List Card} (h : 1 ≤ l.length) (i : Nat) : ra l i < l.length := by unfold ra rch; omega
def clf (r : Nat → Nat) : Nat → Nat → Nat → Nat
  | 0, p, _ => p
  | k + 1, p, f => if f < p then p else clf r k (p + 1) (max f (r p))
def clo (l : List Card) : Nat := clf (ra l) l.length 0 0
structure IsClo (r : Nat → Nat) (n c : Nat) : Prop where
  lo : 1 ≤ c
  hi : c ≤ n
  all : ∀ i, i < c → r i < c
  no : ∀ m, 1 ≤ m → m < c → ∃ i, i < m ∧ m ≤ r i
theorem IsClo.uniq {r : Nat → Nat} {n c d : Nat} (h : IsClo r n c) (k : IsClo r n d) : c = d := by
  rcases Nat.lt_trichotomy c d with q | q | q
  · obtain ⟨i, h1, h2⟩ := k.no c h.lo q
    have := h.all i h1; omega
  · exact q
  · obtain ⟨i, h1, h2⟩ := h.no d k.lo q
    have := k.all i h1; omega
theorem clf_is {r : Nat → Nat} {n : Nat} (hn : 1 ≤ n) (hr : ∀ i, r i < n) : ∀ (k p f : Nat), p + k = n → (∀ i, i < p → r i ≤ f) → (f = 0 ∨ ∃ i, i < p ∧ r i = f) → (∀ m, 1 ≤ m → m < p → ∃ i, i < m ∧ m ≤ r i) → IsClo r n (clf r k p f)
  | 0, p, f, e, _, _, h3 => by
    have : p = n := by omega
    subst this
    exact ⟨hn, Nat.le_refl _, fun i _ => hr i, h3⟩
  | k + 1, p, f, e, h1, h2, h3 => by
    unfold clf
    split
    · rename_i q
      exact ⟨by omega, by omega, fun i hi => Nat.lt_of_le_of_lt (h1 i hi) q, h3⟩
    · rename_i q
      refine clf_is hn hr k (p + 1) (max f (r p)) (by omega) (fun i hi => ?_) ?_ fun m m1 m2 => ?_
      · by_cases z : i = p
        · subst z; omega
        · have := h1 i (by omega); omega
      · by_cases z : f ≤ r p
        · exact .inr ⟨p, by omega, by omega⟩
        · rcases h2 with h2 | ⟨i, h4, h5⟩
          · omega
          · exact .inr ⟨i, by omega, by omega⟩
      · by_cases z : m = p
        · subst z
          rcases h2 with h2 | ⟨i, h4, h5⟩
          · omega
          · exact ⟨i, h4, by omega⟩
        · exact h3 m m1 (by omega)
theorem clo_is {l : List Card} (h : 1 ≤ l.length) : IsClo (ra l) l.length (clo l) := clf_is h (ra_lt h) _ _ _ (by omega) (fun i hi => absurd hi (Nat.not_lt_zero _)) (.inl rfl) fun m h1 h2 => by omega
theorem gMax_2 {i j : Nat} : gMax [.int (i : Nat), .int (j : Nat)] S = some (.int (max i j : Nat), S) := by
  simp only [gMax, gMax2]
  congr 3
  split <;> omega
theorem closed_ok {l : List Card} (ok : DeckOk l) : M_closed_of [dK l] S = some (.ok (.int (clo l : Nat)) S) := by
  have h1 := ok.lo
  have L := goF_ret (nxt := (wkE (l.map dC)).nxt) (g := tN2 2 3) (n := l.length)
    (fb := (sSeq (sIf (tB (eB gLtI (eVar 1) (eVar 2))) (sRt (eVar 2)) (sNop)) (sSet 1 (eCB gMax (aCons (eVar 1) (aCons (eCl (M_reach_of) 2 (aCons (eVar 3) (aCons (eCB gLenX (aCons (eVar 0) (aNil))) (aNil)))) (aNil)))))))
    (fun i τ S' => S' = S ∧ ∃ (f : Nat) (x2 x3 : Option D), τ = [some (dK l), some (.int (f : Nat)), x2, x3] ∧ clf (ra l) (l.length - i) i f = clo l) (fun d S' => S' = S ∧ d = .int (clo l : Nat)) (fun i => .tup [.int (i : Nat), dC (at0 l i)])
    (fun i τ S' hi ⟨e, f, x2, x3, e2, e3⟩ => by
      subst e e2
      refine ⟨by simp only [wkE, List.getElem?_map, at0_get hi, Option.map_some], [some (dK l), some (.int (f : Nat)), some (.int (i : Nat)), some (dC (at0 l i))], by simp [tN2, seqD], ?_⟩
      rw [show l.length - i = (l.length - (i + 1)) + 1 by omega] at e3
      unfold clf at e3
      by_cases q : f < i
      · rw [if_pos q] at e3
        have q' : (f : Int) < (i : Int) := by omega
        refine .inr ⟨_, _, sSeq_rt ((sIf_t (tB_ok (b := true) (eB_ok rfl rfl (by simp [gLtI, gI, q'])))).trans (sRt_ok rfl)), rfl, by rw [e3]⟩
      · rw [if_neg q] at e3
        have q' : ¬ (f : Int) < (i : Int) := by omega
        have hr := reach_n (S := S') (c := at0 l i) (n := l.length) (ok.dep _ (at0_mem hi)) h1
        refine .inl ⟨_, _, (sSeq_nx (sIf_f (tB_ok (b := false) (eB_ok rfl rfl (by simp [gLtI, gI, q']))))).trans (sSet_ok (eCB_ok (a2_ok rfl (eCl_ok (a2_ok rfl (eCB_ok (a1_ok rfl) len_deck)) rfl hr)) gMax_2)), rfl, max f (ra l i), _, _, rfl, e3⟩)
    (fun τ S' _ => by simp [wkE]) (l.length + 1) 0 [some (dK l), some (.int 0), none, none] S (Nat.zero_le _) (by omega) ⟨rfl, 0, none, none, rfl, rfl⟩
  have eW : iEn (aCons (eVar 0) aNil) [some (dK l), some (.int 0), none, none] S = some (.ok (wkE (l.map dC)) S) := rfl
  have eb : (wkE (l.map dC)).bound = l.length := by simp [wkE]
  refine fnM_rt ?_
  refine (sSeq_nx (sSet_ok rfl)).trans ?_
  rcases L with ⟨τ', S', e1, rfl, f, x2, x3, rfl, e3⟩ | ⟨d, S', e1, rfl, rfl⟩
  · rw [Nat.sub_self] at e3
    have e3 : l.length = clo l := e3
    refine (sSeq_nx (sFor_ok eW (by rw [eb]; exact e1))).trans ?_
    rw [← e3]
    exact sRt_ok (eCB_ok (a1_ok rfl) len_deck)
  · exact sSeq_rt (sFor_ok eW (by rw [eb]; exact e1))

theorem deck_fz {d : D} {l : List Card} {a : AF} {τ : Sl} (w : Wf S) (h : isDeck S d l) (ok : DeckOk l) (ha : a τ S = some (.ok [d] S)) : fz (eCl (M_deck_of K) 1 a) τ S = some (.ok (dK l) S) := by
  obtain ⟨X, e⟩ := deck_of_ok (K := K) h ok
  exact fz_app w (eCl_ok ha rfl e) bd_dK
theorem gLt_i {i j : Int} : gLtI (.int i) (.int j) S = some (.bl (decide (i < j)), S) := by simp [gLtI, gI]
theorem gLe_i {i j : Int} : gLe (.int i) (.int j) S = some (.bl (decide (i ≤ j)), S) := by simp [gLe]
theorem gGe_i {i j : Int} : gGeI (.int i) (.int j) S = some (.bl (decide (j ≤ i)), S) := by simp [gGeI, gI]
theorem gEq_nat {neg : Bool} {i j : Nat} : gEq neg (.int (i : Nat)) (.int (j : Nat)) S = some (.bl (if neg then !decide (i = j) else decide (i = j)), S) := by
  rw [gEq_int]
  have : decide (((i : Nat) : Int) = ((j : Nat) : Int)) = decide (i = j) := by
    by_cases h : i = j
    · subst h; simp
    · rw [decide_eq_false h, decide_eq_false (by omega)]
  rw [this]
theorem dec_le {i j : Nat} : decide (((i : Nat) : Int) ≤ ((j : Nat) : Int)) = decide (i ≤ j) := by
  by_cases h : i ≤ j
  · rw [decide_eq_true h, decide_eq_true (by omega)]
  · rw [decide_eq_false h, decide_eq_false (by omega)]
theorem filter_tt {α : Type} (l : List α) : l.filter (fun _ => true) = l := by induction l <;> simp_all
/-! ## hands, rings -/
def hand (l : List Card) (m : Nat) : List Card := (l.take m).filter fun c => decide (m ≤ rch l.length c)
def ring (l : List Card) (m : Nat) : List Card := hand l m ++ [at0 l m]
abbrev nms (l : List Card) : List Str := l.map (·.1)
theorem hand_len (l : List Card) (m : Nat) : (hand l m).length ≤ l.length := Nat.le_trans (List.length_filter_le _ _) (by rw [List.length_take]; omega)
theorem nms_map {m : List Card} : (m.map fun c => D.str c.1) = (nms m).map D.str := by rw [List.map_map]; rfl
theorem names_of_ok {m : List Card} (w : Wf S) (hl : m.length ≤ 1000) : M_names_of [.fl (m.map dC)] S = some (.ok (.fl ((nms m).map D.str)) S) := by
  refine fnM_rt (sRt_ok ?_)
  have e := lc_pu (fi := iSeq (eVar 0)) (g := tN 1) (t := tAll) (fe := eB gIx (eVar 1) (eC (.int 0))) (vs := [1]) (τ := [some (.fl (m.map dC)), none]) (S := S) (ds := m.map dC) (fun _ => true) (fun d => match d with | .tup (x :: _) => x | _ => .non) w (iSeq_ok rfl wk_fl) wks_ds (by simp; omega)
    (fun d hd _ => by obtain ⟨c, _, rfl⟩ := List.mem_map.mp hd; rfl)
    (fun d hd S' _ _ => by obtain ⟨c, _, rfl⟩ := List.mem_map.mp hd; exact ⟨_, rfl, rfl, fun _ => eB_ok rfl rfl ix_name⟩)
  rw [filter_tt, List.map_map] at e
  rw [← nms_map]
  exact e
theorem cut_deck {l : List Card} {m : Nat} : gSl (dK l) none (some (m : Nat)) S = some (dK (l.take m), S) := by
  rw [gSl]; rw [cut_to]
theorem hand_ok {l : List Card} {m : Nat} (w : Wf S) (ok : DeckOk l) : M_hand_of [dK l, .int (m : Nat)] S = some (.ok (.fl ((hand l m).map dC)) S) := by
  refine fnM_rt (sRt_ok ?_)
  have h1 := ok.lo
  have h2 := ok.hi
  have e := lc_pu (fi := iSeq (eSl (eVar 0) (oNo) (oSo (eVar 1)))) (g := tN 2) (t := tB (eB gGeI (eCl (M_reach_of) 2 (aCons (eVar 2) (aCons (eCB gLenX (aCons (eVar 0) (aNil))) (aNil)))) (eVar 1))) (fe := eVar 2) (vs := [2]) (τ := [some (dK l), some (.int (m : Nat)), none]) (S := S) (ds := (l.take m).map dC)
    (fun d => match d with | .tup [.str x, .int i] => decide (m ≤ rch l.length (x, i)) | _ => false) id w (iSeq_ok (eSl_ok rfl rfl (oSo_ok rfl) cut_deck) wk_tup) wks_ds (by simp; omega)
    (fun d hd _ => by obtain ⟨c, _, rfl⟩ := List.mem_map.mp hd; rfl)
    (fun d hd S' _ _ => by
      obtain ⟨c, hc, rfl⟩ := List.mem_map.mp hd
      have hr := reach_n (S := S') (c := c) (n := l.length) (ok.dep _ (List.mem_of_mem_take hc)) h1
      refine ⟨_, rfl, tB_ok (eB_ok (eCl_ok (a2_ok rfl (eCB_ok (a1_ok rfl) len_deck)) rfl hr) rfl ?_), fun _ => rfl⟩
      rw [gGe_i]
      rw [dec_le])
  rw [List.filter_map, List.map_id] at e
  exact e
theorem ring_ok {l : List Card} {m : Nat} (w : Wf S) (ok : DeckOk l) (hm : m < l.length) : M_ring_of [dK l, .int (m : Nat)] S = some (.ok (.fl ((ring l m).map dC)) S) := by
  have h2 := ok.hi
  have hl := hand_len l m
  refine fnM_rt (sRt_ok (eB_ok (eCl_ok (a2_ok rfl rfl) rfl (hand_ok w ok)) (fz_list (a1_ok (eB_ok rfl rfl (ix_deck (at0_get hm)))) rfl w (by simp) (by simp [bds])) ?_))
  have hz := sizeLine_eq
  have : (List.map dC (hand l m)).length + [dC (at0 l m)].length ≤ sizeLine := by simp; omega
  simp only [gAdd, flD, Option.bind_some, if_pos this, ring, List.map_append, List.map_cons, List.map_nil]
theorem level_ok {l : List Card} {m : Nat} (ok : DeckOk l) (hm : m < clo l) : M_require_level K [dK l, .int (m : Nat)] S = some (.ok .non S) := by
  have e := is_number_ok (S := S) (i := (m : Nat)) (m := (clo l : Nat) - 1) (by omega) (by omega)
  exact fnM_nx (sIf_f (tNt_ok (tB_ok (b := true) (eCl_ok (a2_ok rfl (eB_ok (eCl_ok (a1_ok rfl) rfl (closed_ok ok)) rfl gSub_i)) rfl e))))
theorem clo_le {l : List Card} (ok : DeckOk l) : clo l ≤ l.length := (clo_is ok.lo).hi
theorem closed_place_ok {d : D} {l : List Card} (w : Wf S) (h : isDeck S d l) (ok : DeckOk l) : M_closed_place K [d] S = some (.ok (.int (clo l : Nat)) S) :=
  fnM_rt (sRt_ok (eCl_ok (a1_ok (deck_fz w h ok (a1_ok rfl))) rfl (closed_ok ok)))
theorem ring_at_ok {d : D} {l : List Card} {m : Nat} (w : Wf S) (h : isDeck S d l) (ok : DeckOk l) (hm : m < clo l) : M_ring_at K [d, .int (m : Nat)] S = some (.ok (.fl ((nms (ring l m)).map D.str)) S) := by
  have hm' : m < l.length := Nat.lt_of_lt_of_le hm (clo_le ok)
  have h2 := ok.hi
  have hl := hand_len l m
  refine fnM_rt ((sSeq_nx (sSet_ok (deck_fz w h ok (a1_ok rfl)))).trans ((sSeq_nx (sEx_ok (eCl_ok (a2_ok rfl rfl) rfl (level_ok ok hm)))).trans (sRt_ok (eCl_ok (a1_ok (eCl_ok (a2_ok rfl rfl) rfl (ring_ok w ok hm'))) rfl (names_of_ok w ?_)))))
  unfold ring; simp; omega
theorem hand_at_ok {d : D} {l : List Card} {m : Nat} (w : Wf S) (h : isDeck S d l) (ok : DeckOk l) (hm : m < clo l) : M_hand_at K [d, .int (m : Nat)] S = some (.ok (.fl ((nms (hand l m)).map D.str)) S) := by
  have h2 := ok.hi
  have hl := hand_len l m
  exact fnM_rt ((sSeq_nx (sSet_ok (deck_fz w h ok (a1_ok rfl)))).trans ((sSeq_nx (sEx_ok (eCl_ok (a2_ok rfl rfl) rfl (level_ok ok hm)))).trans (sRt_ok (eCl_ok (a1_ok (eCl_ok (a2_ok rfl rfl) rfl (hand_ok w ok))) rfl (names_of_ok w (by omega))))))
/-! ## homes, places, those away -/
theorem home_at_ok {l : List Card} {i : Nat} (ok : DeckOk l) (hi : i < l.length) : M_is_home_at [dK l, .int (i : Nat)] S = some (.ok (.bl (decide (i ≤ ra l i))) S) := by
  have hr := reach_n (S := S) (c := at0 l i) (n := l.length) (ok.dep _ (at0_mem hi)) ok.lo
  refine fnM_rt (sRt_ok (eB_ok rfl (eCl_ok (a2_ok (eB_ok rfl rfl (ix_deck (at0_get hi))) (eCB_ok (a1_ok rfl) len_deck)) rfl hr) ?_))
  rw [gLe_i]
  rw [dec_le]; rfl
def aw (l : List Card) : List Nat := (List.range (clo l)).filter fun i => !decide (i ≤ ra l i)
def awn (l : List Card) : List Str := (aw l).map fun i => (at0 l i).1
theorem aw_lt {l : List Card} {i : Nat} (h : i ∈ aw l) : i < clo l := List.mem_range.mp (List.mem_filter.mp h).1
theorem aw_len (l : List Card) : (aw l).length ≤ clo l := Nat.le_trans (List.length_filter_le _ _) (by simp)
theorem away_places_ok {l : List Card} (w : Wf S) (ok : DeckOk l) : M_away_places [dK l] S = some (.ok (.fl ((aw l).map fun i : Nat => D.int i)) S) := by
  refine fnM_rt (sRt_ok ?_)
  have hc := clo_le ok
  have h2 := ok.hi
  have e := lc_pu (fi := iRg1 (aCons (eCl (M_closed_of) 1 (aCons (eVar 0) (aNil))) (aNil))) (g := tN 1) (t := tNt (tB (eCl (M_is_home_at) 2 (aCons (eVar 0) (aCons (eVar 1) (aNil)))))) (fe := eVar 1) (vs := [1]) (τ := [some (dK l), none]) (S := S) (ds := (List.range (clo l)).map fun i : Nat => D.int i)
    (fun d => match d with | .int i => !decide (i.toNat ≤ ra l i.toNat) | _ => false) id w (iRg1_ok (a1_ok (eCl_ok (a1_ok rfl) rfl (closed_ok ok))) (by omega)) wks_rg (by simp; omega)
    (fun d hd _ => by obtain ⟨c, _, rfl⟩ := List.mem_map.mp hd; rfl)
    (fun d hd S' _ _ => by
      obtain ⟨i, hi, rfl⟩ := List.mem_map.mp hd
      have hi' := List.mem_range.mp hi
      exact ⟨_, rfl, tNt_ok (tB_ok (eCl_ok (a2_ok rfl rfl) rfl (home_at_ok ok (by omega)))), fun _ => rfl⟩)
  rw [List.filter_map, List.map_id] at e
  exact e
theorem away_ok {d : D} {l : List Card} (w : Wf S) (h : isDeck S d l) (ok : DeckOk l) : M_away K [d] S = some (.ok (.fl ((awn l).map D.str)) S) := by
  have hc := clo_le ok
  have h2 := ok.hi
  have hl := aw_len l
  refine fnM_rt ((sSeq_nx (sSet_ok (deck_fz w h ok (a1_ok rfl)))).trans (sRt_ok ?_))
  have e := lc_pu (fi := iSeq (eCl (M_away_places) 1 (aCons (eVar 1) (aNil)))) (g := tN 2) (t := tAll) (fe := eB gIx (eB gIx (eVar 1) (eVar 2)) (eC (.int 0))) (vs := [2]) (τ := [some d, some (dK l), none]) (S := S) (ds := (aw l).map fun i : Nat => D.int i)
    (fun _ => true) (fun d => match d with | .int i => .str (at0 l i.toNat).1 | _ => .non) w (iSeq_ok (eCl_ok (a1_ok rfl) rfl (away_places_ok w ok)) wk_fl) wks_ds (by simp; omega)
    (fun d hd _ => by obtain ⟨c, _, rfl⟩ := List.mem_map.mp hd; rfl)
    (fun d hd S' _ _ => by
      obtain ⟨i, hi, rfl⟩ := List.mem_map.mp hd
      have hi' := aw_lt hi
      exact ⟨_, rfl, rfl, fun _ => eB_ok (eB_ok rfl rfl (ix_deck (at0_get (by omega)))) rfl ix_name⟩)
  rw [filter_tt, List.map_map] at e
  rw [show (awn l).map D.str = (aw l).map fun i => D.str (at0 l i).1 from by unfold awn; rw [List.map_map]; rfl]
  exact e
end Sb
end
section
set_option Elab.async false
set_option linter.all false
set_option maxRecDepth 100000
set_option maxHeartbeats 4000000
namespace Sb
open PySem PySem.Spec PyProof.Rows L2
variable {K : PySem.W.Frag} {S : Sto}
/-! ## draws, all else the same -/
theorem Sm.get {n i : Nat} {S S' : Sto} {o : Ob} (a : Sm n S S') (h : S[i]? = some o) (hi : i ≠ n) : S'[i]? = some o := (a.at_ i hi).trans h
theorem Sm.fr {n : Nat} {S S' : Sto} (a : Sm n S S') : Fr n S S' := ⟨by rw [a.len]; exact Nat.le_refl _, fun i h _ => a.at_ i h⟩
theorem Sm.of {n : Nat} {S S' : Sto} (f : Fr n S S') (l : S'.length = S.length) : Sm n S S' := ⟨l, fun i h => by
  by_cases q : i < S.length
  · exact f.at_ i h q
  · rw [List.getElem?_eq_none (by omega), List.getElem?_eq_none (by omega)]⟩
theorem drw {n k j : Nat} {τ : Sl} {fm : EF} {m : Nat} (w : Wf S) (h0 : τ[j]? = some (some (.loc n))) (hm : fm τ S = some (.ok (.int (m : Nat)) S)) (h : Spr n k S) (hk : k < 2 ^ 40) (hm0 : 0 < m) (hm1 : m < 2 ^ 60) :
    ∃ (v : Nat) (S' : Sto), eCl M_law_draw 2 (aCons (eVar j) (aCons fm aNil)) τ S = some (.ok (.int (v : Nat)) S') ∧ v < m ∧ Spr n (k + 1) S' ∧ Sm n S S' ∧ Wf S' := by
  obtain ⟨v, S', e, v0, v1, sp, fr, ln⟩ := drj (j := j) (S := S) (τ := τ) (fm := fm) (m := m) h0 hm h hk (by omega) (by omega)
  obtain ⟨v, rfl⟩ := Int.eq_ofNat_of_zero_le v0
  have sm := Sm.of fr ln
  exact ⟨v, S', e, by omega, sp, sm, sm.wf w sp⟩
/-! ## home decks drawn -/
def HomeD (l : List Card) : Prop := ∀ i, i < l.length → (i : Int) ≤ (at0 l i).2
theorem pow29 : gPow (.int 10) (.int 29) S = some (.int (10 ^ 29), S) := by
  have : (0 : Int) ≤ 29 ∧ (29 : Int) ≤ 1000000 ∧ (10 : Int).natAbs < 2 ^ 64 := by decide
  simp only [gPow, gI, decide_eq_true this, if_true]
  rfl
end Sb
end
section
set_option Elab.async false
set_option linter.all false
set_option maxRecDepth 100000
set_option maxHeartbeats 4000000
namespace Sb
open PySem PySem.Spec PyProof.Rows L2
variable {K : PySem.W.Frag} {S : Sto}
/-! ## what is wanted of an outcome -/
def Ws (m : Option (Fl × Sto)) (Q : Fl → Sto → Prop) : Prop := ∃ fl S', m = some (fl, S') ∧ Q fl S'
theorem Ws.mono {m : Option (Fl × Sto)} {Q Q' : Fl → Sto → Prop} (h : Ws m Q) (i : ∀ fl S, Q fl S → Q' fl S) : Ws m Q' := by
  obtain ⟨fl, S', e, q⟩ := h
  exact ⟨fl, S', e, i _ _ q⟩
theorem ws_nx {f g : SF} {τ τ1 : Sl} {S S1 : Sto} {Q : Fl → Sto → Prop} (h : f τ S = some (.nx τ1, S1)) (k : Ws (g τ1 S1) Q) : Ws (sSeq f g τ S) Q := by
  rw [show sSeq f g τ S = g τ1 S1 from sSeq_nx h]; exact k
theorem ws_set {i : Nat} {fe : EF} {g : SF} {τ : Sl} {d : D} {S S1 : Sto} {Q : Fl → Sto → Prop} (h : fe τ S = some (.ok d S1)) (k : Ws (g (τ.set i (some d)) S1) Q) : Ws (sSeq (sSet i fe) g τ S) Q := ws_nx (sSet_ok h) k
theorem ws_ex {fe : EF} {g : SF} {τ : Sl} {d : D} {S S1 : Sto} {Q : Fl → Sto → Prop} (h : fe τ S = some (.ok d S1)) (k : Ws (g τ S1) Q) : Ws (sSeq (sEx fe) g τ S) Q := ws_nx (sEx_ok h) k
theorem ws_rt {fe : EF} {τ : Sl} {d : D} {S S1 : Sto} {Q : Fl → Sto → Prop} (h : fe τ S = some (.ok d S1)) (k : Q (.rt d) S1) : Ws (sRt fe τ S) Q := ⟨_, _, sRt_ok h, k⟩
theorem ws_nop {τ : Sl} {S : Sto} {Q : Fl → Sto → Prop} (k : Q (.nx τ) S) : Ws (sNop τ S) Q := ⟨_, _, rfl, k⟩
/-- an if without an else, which does not come about -/
theorem ws_no {t : BF} {f g : SF} {τ : Sl} {S S1 : Sto} {Q : Fl → Sto → Prop} (h : t τ S = some (.ok false S1)) (k : Ws (g τ S1) Q) : Ws (sSeq (sIf t f sNop) g τ S) Q := ws_nx (sIf_f h) k
def flK (Q1 : Sl → Sto → Prop) (Q : Fl → Sto → Prop) : Fl → Sto → Prop := fun fl S => match fl with
  | .nx τ => Q1 τ S
  | .ct τ => Q1 τ S
  | .rt d => Q (.rt d) S
  | _ => False
theorem ws_for {fi : IF} {g : TF} {fb rest : SF} {τ : Sl} {S S1 : Sto} {wk : Wk} {Q : Fl → Sto → Prop} (n : Nat) (I : Nat → Sl → Sto → Prop) (item : Nat → D) (hfi : fi τ S = some (.ok wk S1)) (hb : n ≤ wk.bound) (h0 : I 0 τ S1)
    (h : ∀ i τ S, i < n → I i τ S → wk.nxt i S = some (some (item i)) ∧ ∃ τ1, g (item i) S τ = some τ1 ∧ Ws (fb τ1 S) (flK (I (i + 1)) Q))
    (he : ∀ τ S, I n τ S → wk.nxt n S = some none) (k : ∀ τ' S', I n τ' S' → Ws (rest τ' S') Q) : Ws (sSeq (sFor fi g fb) rest τ S) Q := by
  have key : ∀ (m i : Nat) (τ : Sl) (S : Sto), i ≤ n → n - i < m → I i τ S → Ws (goF wk.nxt g fb m i τ S) (flK (I n) Q) := by
    intro m
    induction m with
    | zero => exact fun i τ S _ hm _ => absurd hm (Nat.not_lt_zero _)
    | succ m ih =>
      intro i τ S hi hm hI
      unfold goF
      by_cases e : i = n
      · subst e
        rw [he τ S hI]
        exact ⟨_, _, rfl, hI⟩
      · obtain ⟨h1, τ1, h2, fl, S2, h3, h4⟩ := h i τ S (by omega) hI
        rw [h1]
        simp only [h2, h3]
        cases fl with
        | nx τ2 => exact ih (i + 1) τ2 S2 (by omega) (by omega) h4
        | ct τ2 => exact ih (i + 1) τ2 S2 (by omega) (by omega) h4
        | rt d => exact ⟨_, _, rfl, h4⟩
        | bk τ2 => exact absurd h4 id
        | xx x τ2 => exact absurd h4 id
  obtain ⟨fl, S2, e, q⟩ := key (wk.bound + 1) 0 τ S1 (Nat.zero_le _) (by omega) h0
  have e2 : sFor fi g fb τ S = some (fl, S2) := sFor_ok hfi e
  cases fl with
  | nx τ2 =>
    rw [show sSeq (sFor fi g fb) rest τ S = rest τ2 S2 from sSeq_nx e2]
    exact k τ2 S2 q
  | rt d =>
    rw [show sSeq (sFor fi g fb) rest τ S = some (.rt d, S2) from sSeq_rt e2]
    exact ⟨_, _, rfl, q⟩
  | ct τ2 => 
    exfalso
    have : ∀ (m i : Nat) (τ : Sl) (S : Sto), goF wk.nxt g fb m i τ S ≠ some (.ct τ2, S2) := by
      intro m
      induction m with
      | zero => intro i τ S e; cases e
      | succ m ih =>
        intro i τ S e
        unfold goF at e
        split at e
        · cases e
        · cases e
        · split at e
          · cases e
          · split at e
            · exact ih _ _ _ e
            · exact ih _ _ _ e
            · cases e
            · rename_i hx _ _
              first | exact hx _ _ e | (rename_i hy; exact hy _ _ e) | simp_all
    exact this _ _ _ _ e
  | bk τ2 => exact absurd q id
  | xx x τ2 => exact absurd q id
theorem fn_ws {n : Nat} {f : SF} {ds : List D} {S : Sto} {Q : D → Sto → Prop} (h : Ws (f (ini n ds) S) fun fl S' => ∃ d, fl = .rt d ∧ Q d S') : ∃ d S', fnM n f ds S = some (.ok d S') ∧ Q d S' := by
  obtain ⟨fl, S', e, d, rfl, q⟩ := h
  exact ⟨d, S', fnM_rt e, q⟩
theorem fn_wt {n : Nat} {f : SF} {ds : List D} {S : Sto} {d : D} (h : Ws (f (ini n ds) S) fun fl S' => fl = .rt d ∧ S' = S) : fnM n f ds S = some (.ok d S) := by
  obtain ⟨fl, S', e, rfl, rfl⟩ := h
  exact fnM_rt e
/-! ## the head of a law -/
theorem spring_wf {d : D} {ns : List Int} (w : Wf S) (hd : seqD S d = some (ns.map D.int)) (hs : ∀ X, seqD (S ++ X) d = some (ns.map D.int)) (ht : ∀ ds, d ≠ .tup ds ∧ d ≠ .fl ds) :
    ∃ n X, M_law_spring [d] S = some (.ok (.loc n) (S ++ X)) ∧ Spr n 0 (S ++ X) ∧ S.length ≤ n ∧ Wf (S ++ X) := by
  obtain ⟨n, X, e, sp, hn, hX⟩ := spring_of hd hs ht
  refine ⟨n, X, e, sp, hn, ?_⟩
  unfold Wf wfk
  rw [List.all_append, Bool.and_eq_true]
  refine ⟨List.all_eq_true.mpr fun o ho => bdO_mono (by simp) o (List.all_eq_true.mp w o ho), List.all_eq_true.mpr fun o ho => ?_⟩
  obtain ⟨is, rfl⟩ := hX o ho
  exact bds_int
theorem turns_ok {τ : Sl} {S : Sto} (x y : Nat) {i : Nat} {d : D} {m : Nat} (hxy : x + y ≤ 1000) (h : gLenX [d] S = some (.int (m : Nat), S)) (hv : eVar i τ S = some (.ok d S)) : ∃ T : Nat, T ≤ x + y ∧ iRg1 (aCons (eB gAdd (eC (.int (x : Nat))) (eCB gMin2 (aCons (eCB gLenX (aCons (eVar i) (aNil))) (aCons (eC (.int (y : Nat))) (aNil))))) (aNil)) τ S = some (.ok (wkR 0 T) S) := by
  refine ⟨x + min m y, by omega, iRg1_ok (a1_ok (eB_ok rfl (eCB_ok (a2_ok (eCB_ok (a1_ok hv) h) rfl) (d := .int (min m y : Nat)) (S2 := S) ?_) ?_)) ?_⟩
  · simp only [gMin2]
    congr 3; split <;> omega
  · rw [gAdd_i]; congr 3
  · omega
theorem law_ws {n : Nat} {f : SF} {ds : List D} {S : Sto} (h : Ws (f (ini n ds) S) fun fl _ => fl = .rt (.bl true)) : ∃ S', fnM n f ds S = some (.ok (.bl true) S') := by
  obtain ⟨fl, S', e, rfl⟩ := h
  exact ⟨S', fnM_rt e⟩
end Sb
end
section
set_option Elab.async false
set_option linter.all false
set_option maxRecDepth 100000
set_option maxHeartbeats 4000000
namespace Sb
open PySem PySem.Spec PyProof.Rows L2
/-! ## while -/
section
variable {X : Cx} {T : Tb} {W : WX} {pos : Pos} {c : Expr} {body : List Stmt} {t : BF} {f : SF}
end
end Sb
end
section
set_option Elab.async false
set_option linter.all false
set_option maxRecDepth 100000
namespace Sb
open PySem PySem.Spec PyProof.Rows L2
noncomputable section
end
end Sb
end
section
set_option Elab.async false
set_option linter.all false
set_option maxRecDepth 100000
namespace Sb
open PySem PySem.Spec PyProof.Rows L2
noncomputable section
end
end Sb
end
section
set_option Elab.async false
set_option linter.all false
set_option maxRecDepth 100000
namespace Sb
open PySem PySem.Spec PyProof.Rows L2
noncomputable section
end
end Sb
end
section
set_option Elab.async false
set_option linter.all false
set_option maxRecDepth 100000
set_option maxHeartbeats 0
namespace K14
open PySem PySem.Spec PyProof.Rows L2 Sb
def top (i : Nat) : Stmt := PySem.Challenge.pw_slideback_k14_levels_refused.main.body.getD i (.Pass ⟨0, 0, 0, 0⟩)
abbrev s_is_whole : Stmt := top 25
abbrev s_is_number : Stmt := top 26
abbrev s_is_depth : Stmt := top 27
abbrev s_is_listed : Stmt := top 28
abbrev s_is_name : Stmt := top 29
abbrev s_is_card : Stmt := top 30
abbrev s_deck_of : Stmt := top 33
abbrev s_reach_of : Stmt := top 34
abbrev s_find_place : Stmt := top 35
abbrev s_names_of : Stmt := top 37
abbrev s_closed_of : Stmt := top 38
abbrev s_is_home_at : Stmt := top 39
abbrev s_away_places : Stmt := top 40
abbrev s_hand_of : Stmt := top 41
abbrev s_ring_of : Stmt := top 42
abbrev s_require_level : Stmt := top 43
abbrev s_place_of : Stmt := top 44
abbrev s_is_home : Stmt := top 45
abbrev s_closed_place : Stmt := top 46
abbrev s_away : Stmt := top 47
abbrev s_hand_at : Stmt := top 48
abbrev s_ring_at : Stmt := top 49
abbrev s_law_spring : Stmt := top 51
abbrev s_law_draw : Stmt := top 52
abbrev s_law_names : Stmt := top 53
abbrev s_law_deck : Stmt := top 54
abbrev s_law_no_deck : Stmt := top 55
abbrev s_law_word : Stmt := top 56
abbrev s_law_asked : Stmt := top 57
abbrev s_law : Stmt := top 58
def d_is_whole : He.DefD := ⟨("is_whole", none), "is_whole", "is_whole", defArgs s_is_whole, defBody s_is_whole, defScope s_is_whole, [], []⟩
def d_is_number : He.DefD := ⟨("is_number", none), "is_number", "is_number", defArgs s_is_number, defBody s_is_number, defScope s_is_number, [], []⟩
def d_is_depth : He.DefD := ⟨("is_depth", none), "is_depth", "is_depth", defArgs s_is_depth, defBody s_is_depth, defScope s_is_depth, [], []⟩
def d_is_listed : He.DefD := ⟨("is_listed", none), "is_listed", "is_listed", defArgs s_is_listed, defBody s_is_listed, defScope s_is_listed, [], []⟩
def d_is_name : He.DefD := ⟨("is_name", none), "is_name", "is_name", defArgs s_is_name, defBody s_is_name, defScope s_is_name, [], []⟩
def d_is_card : He.DefD := ⟨("is_card", none), "is_card", "is_card", defArgs s_is_card, defBody s_is_card, defScope s_is_card, [], []⟩
def d_deck_of : He.DefD := ⟨("deck_of", none), "deck_of", "deck_of", defArgs s_deck_of, defBody s_deck_of, defScope s_deck_of, [], []⟩
def d_reach_of : He.DefD := ⟨("reach_of", none), "reach_of", "reach_of", defArgs s_reach_of, defBody s_reach_of, defScope s_reach_of, [], []⟩
def d_find_place : He.DefD := ⟨("find_place", none), "find_place", "find_place", defArgs s_find_place, defBody s_find_place, defScope s_find_place, [], []⟩
def d_names_of : He.DefD := ⟨("names_of", none), "names_of", "names_of", defArgs s_names_of, defBody s_names_of, defScope s_names_of, [], []⟩
def d_closed_of : He.DefD := ⟨("closed_of", none), "closed_of", "closed_of", defArgs s_closed_of, defBody s_closed_of, defScope s_closed_of, [], []⟩
def d_is_home_at : He.DefD := ⟨("is_home_at", none), "is_home_at", "is_home_at", defArgs s_is_home_at, defBody s_is_home_at, defScope s_is_home_at, [], []⟩
def d_away_places : He.DefD := ⟨("away_places", none), "away_places", "away_places", defArgs s_away_places, defBody s_away_places, defScope s_away_places, [], []⟩
def d_hand_of : He.DefD := ⟨("hand_of", none), "hand_of", "hand_of", defArgs s_hand_of, defBody s_hand_of, defScope s_hand_of, [], []⟩
def d_ring_of : He.DefD := ⟨("ring_of", none), "ring_of", "ring_of", defArgs s_ring_of, defBody s_ring_of, defScope s_ring_of, [], []⟩
def d_require_level : He.DefD := ⟨("require_level", none), "require_level", "require_level", defArgs s_require_level, defBody s_require_level, defScope s_require_level, [], []⟩
def d_place_of : He.DefD := ⟨("place_of", none), "place_of", "place_of", defArgs s_place_of, defBody s_place_of, defScope s_place_of, [], []⟩
def d_is_home : He.DefD := ⟨("is_home", none), "is_home", "is_home", defArgs s_is_home, defBody s_is_home, defScope s_is_home, [], []⟩
def d_closed_place : He.DefD := ⟨("closed_place", none), "closed_place", "closed_place", defArgs s_closed_place, defBody s_closed_place, defScope s_closed_place, [], []⟩
def d_away : He.DefD := ⟨("away", none), "away", "away", defArgs s_away, defBody s_away, defScope s_away, [], []⟩
def d_hand_at : He.DefD := ⟨("hand_at", none), "hand_at", "hand_at", defArgs s_hand_at, defBody s_hand_at, defScope s_hand_at, [], []⟩
def d_ring_at : He.DefD := ⟨("ring_at", none), "ring_at", "ring_at", defArgs s_ring_at, defBody s_ring_at, defScope s_ring_at, [], []⟩
def d_law_spring : He.DefD := ⟨("_law_spring", none), "_law_spring", "_law_spring", defArgs s_law_spring, defBody s_law_spring, defScope s_law_spring, [], []⟩
def d_law_draw : He.DefD := ⟨("_law_draw", none), "_law_draw", "_law_draw", defArgs s_law_draw, defBody s_law_draw, defScope s_law_draw, [], []⟩
def d_law_names : He.DefD := ⟨("_law_names", none), "_law_names", "_law_names", defArgs s_law_names, defBody s_law_names, defScope s_law_names, [], []⟩
def d_law_deck : He.DefD := ⟨("_law_deck", none), "_law_deck", "_law_deck", defArgs s_law_deck, defBody s_law_deck, defScope s_law_deck, [], []⟩
def d_law_no_deck : He.DefD := ⟨("_law_no_deck", none), "_law_no_deck", "_law_no_deck", defArgs s_law_no_deck, defBody s_law_no_deck, defScope s_law_no_deck, [], []⟩
def d_law_word : He.DefD := ⟨("_law_word", none), "_law_word", "_law_word", defArgs s_law_word, defBody s_law_word, defScope s_law_word, [], []⟩
def d_law_asked : He.DefD := ⟨("_law_asked", none), "_law_asked", "_law_asked", defArgs s_law_asked, defBody s_law_asked, defScope s_law_asked, [], []⟩
def d_law : He.DefD := ⟨("law", none), "law", "law", defArgs s_law, defBody s_law, defScope s_law, [], []⟩
def fn : List He.DefD := [d_is_whole, d_is_number, d_is_depth, d_is_listed, d_is_name, d_is_card, d_deck_of, d_reach_of, d_find_place, d_names_of, d_closed_of, d_is_home_at, d_away_places, d_hand_of, d_ring_of, d_require_level, d_place_of, d_is_home, d_closed_place, d_away, d_hand_at, d_ring_at, d_law_spring, d_law_draw, d_law_names, d_law_deck, d_law_no_deck, d_law_word, d_law_asked, d_law]
def fa0 : List He.Fa := [.glo "is_whole", .glo "is_number", .glo "is_depth", .glo "is_listed", .glo "is_name", .glo "is_card", .glo "deck_of", .glo "reach_of", .glo "find_place", .glo "names_of", .glo "closed_of", .glo "is_home_at", .glo "away_places", .glo "hand_of", .glo "ring_of", .glo "require_level", .glo "place_of", .glo "is_home", .glo "closed_place", .glo "away", .glo "hand_at", .glo "ring_at", .glo "_law_spring", .glo "_law_draw", .glo "_law_names", .glo "_law_deck", .glo "_law_no_deck", .glo "_law_word", .glo "_law_asked", .glo "law"]
def fa1 : List He.Fa := [.free "ValueError", .free "abs", .free "all", .free "bool", .free "dict", .free "enumerate", .free "int", .free "isinstance", .free "len", .free "list", .free "max", .free "min", .free "range", .free "repr", .free "str", .free "tuple", .int "MOST_LETTERS" 8, .int "MOST_CARDS" 40, .glo "DeckError", .exc "DeckError", .glo "NoDeck", .exc "NoDeck", .glo "NoCard", .exc "NoCard", .glo "NoName", .exc "NoName", .glo "NoDepth", .exc "NoDepth", .glo "NoPlace", .exc "NoPlace"]
def fa2 : List He.Fa := [.glo "Twice", .exc "Twice", .glo "Full", .exc "Full", .glo "Last", .exc "Last", .glo "NoNumber", .exc "NoNumber", .glo "NoStep", .exc "NoStep", .glo "NoLevel", .exc "NoLevel", .glo "NotSettled", .exc "NotSettled", .glo "NotLasting", .exc "NotLasting", .glo "NoOrder", .exc "NoOrder", .glo "NoNames", .exc "NoNames", .glo "NoRow", .exc "NoRow", .glo "NoDepths", .exc "NoDepths", .glo "TooMany", .exc "TooMany", .glo "NoText", .glo "NoForm", .exc "NoForm", .glo "NoneYet"]
def fa3 : List He.Fa := [.exc "NoneYet"]
def fa : List He.Fa := fa0 ++ fa1 ++ fa2 ++ fa3
def tf : List He.Defn := [("is_name", none), ("deck_of", none)]
abbrev R : PySem.W.OpenRow := PySem.W.OpenLaw.row PySem.Challenge.rw_slideback_k14_levels_refused
abbrev hk : PySem.W.Hook := Sb.hookS 4 fa fn tf (Sb.clsB ["NoDeck", "NoName", "NoLevel"])
def ob (s : PySem.W.SharedT) : He.AlX × Bool := Sb.obsS 4 fa fn tf (Sb.clsB ["NoDeck", "NoName", "NoLevel"]) (HandSHeadRun.getT s)
theorem ob_eq (s : PySem.W.SharedT) : ob s = hk.obs s.abs := Sb.obsS_eq (HandSHeadRun.getT_eq s)
def lo0 : List PySem.Str := ["DeckError", "NoDeck", "NoCard", "NoName", "NoDepth", "NoPlace", "Twice", "Full", "Last", "NoNumber", "NoStep", "NoLevel", "NotSettled", "NotLasting", "NoOrder", "NoNames", "NoRow", "NoDepths", "TooMany", "NoText", "NoForm", "NoneYet", "MOST_LETTERS", "MOST_CARDS", "is_whole", "is_number", "is_depth", "is_listed", "is_name", "is_card"]
def lo1 : List PySem.Str := ["deck_of", "reach_of", "find_place", "names_of", "closed_of", "is_home_at", "away_places", "hand_of", "ring_of", "require_level", "place_of", "is_home", "closed_place", "away", "hand_at", "ring_at", "_law_spring", "_law_draw", "_law_names", "_law_deck", "_law_no_deck", "_law_word", "_law_asked"]
def loose : List PySem.Str := lo0 ++ lo1
abbrev lawAt : Nat := 58
abbrev steps : Nat := 9840
theorem run (w : World) : HandSHeadRun.RunEq R (PySem.W.view R.prog [58]) hk ob 9840 loose w := by
  intro os
  kernel_rfl
structure Ev (P : Program) (w : World) (mg : Str → Option Value) (base : Heap) (K : PySem.W.Frag) : Prop where
  says : He.SaysD fa fn K
  kin : K.In base
  ns : base.Ns mainGlobals mg
  tbs : ∀ p ∈ tf.map (He.cT K), GxR.TabB base mg p.1 p.2
  sys : ∃ o, base.get? sysModules = some o
abbrev TT (P : Program) (w : World) (K : PySem.W.Frag) : Sb.Tb := ⟨P, w, K, (tf.map (He.cT K)).map (·.2)⟩
section
variable {P : Program} {w : World} {mg : Str → Option Value} {base : Heap} {K : PySem.W.Frag}
theorem Ev.tb (e : Ev P w mg base K) (p : He.Defn) (h : p ∈ tf) : GxR.TabB base mg (He.codeOf K p) (He.tabOf K (He.codeOf K p)) := e.tbs (He.cT K p) (List.mem_map_of_mem h)
theorem Ev.tbm (e : Ev P w mg base K) (p : He.Defn) (h : p ∈ tf) : He.tabOf K (He.codeOf K p) ∈ (TT P w K).tabs := List.mem_map_of_mem (f := (·.2)) (List.mem_map_of_mem (f := He.cT K) h)
theorem Ev.gl_is_whole (e : Ev P w mg base K) : mg "is_whole" = some (.ref (He.ga K "is_whole")) := He.glo_ok e.kin e.ns (e.says.fact 0 (f := .glo "is_whole") rfl)
theorem Ev.gl_is_number (e : Ev P w mg base K) : mg "is_number" = some (.ref (He.ga K "is_number")) := He.glo_ok e.kin e.ns (e.says.fact 1 (f := .glo "is_number") rfl)
theorem Ev.gl_is_depth (e : Ev P w mg base K) : mg "is_depth" = some (.ref (He.ga K "is_depth")) := He.glo_ok e.kin e.ns (e.says.fact 2 (f := .glo "is_depth") rfl)
theorem Ev.gl_is_listed (e : Ev P w mg base K) : mg "is_listed" = some (.ref (He.ga K "is_listed")) := He.glo_ok e.kin e.ns (e.says.fact 3 (f := .glo "is_listed") rfl)
theorem Ev.gl_is_name (e : Ev P w mg base K) : mg "is_name" = some (.ref (He.ga K "is_name")) := He.glo_ok e.kin e.ns (e.says.fact 4 (f := .glo "is_name") rfl)
theorem Ev.gl_is_card (e : Ev P w mg base K) : mg "is_card" = some (.ref (He.ga K "is_card")) := He.glo_ok e.kin e.ns (e.says.fact 5 (f := .glo "is_card") rfl)
theorem Ev.gl_deck_of (e : Ev P w mg base K) : mg "deck_of" = some (.ref (He.ga K "deck_of")) := He.glo_ok e.kin e.ns (e.says.fact 6 (f := .glo "deck_of") rfl)
theorem Ev.gl_reach_of (e : Ev P w mg base K) : mg "reach_of" = some (.ref (He.ga K "reach_of")) := He.glo_ok e.kin e.ns (e.says.fact 7 (f := .glo "reach_of") rfl)
theorem Ev.gl_find_place (e : Ev P w mg base K) : mg "find_place" = some (.ref (He.ga K "find_place")) := He.glo_ok e.kin e.ns (e.says.fact 8 (f := .glo "find_place") rfl)
theorem Ev.gl_names_of (e : Ev P w mg base K) : mg "names_of" = some (.ref (He.ga K "names_of")) := He.glo_ok e.kin e.ns (e.says.fact 9 (f := .glo "names_of") rfl)
theorem Ev.gl_closed_of (e : Ev P w mg base K) : mg "closed_of" = some (.ref (He.ga K "closed_of")) := He.glo_ok e.kin e.ns (e.says.fact 10 (f := .glo "closed_of") rfl)
theorem Ev.gl_is_home_at (e : Ev P w mg base K) : mg "is_home_at" = some (.ref (He.ga K "is_home_at")) := He.glo_ok e.kin e.ns (e.says.fact 11 (f := .glo "is_home_at") rfl)
theorem Ev.gl_away_places (e : Ev P w mg base K) : mg "away_places" = some (.ref (He.ga K "away_places")) := He.glo_ok e.kin e.ns (e.says.fact 12 (f := .glo "away_places") rfl)
theorem Ev.gl_hand_of (e : Ev P w mg base K) : mg "hand_of" = some (.ref (He.ga K "hand_of")) := He.glo_ok e.kin e.ns (e.says.fact 13 (f := .glo "hand_of") rfl)
theorem Ev.gl_ring_of (e : Ev P w mg base K) : mg "ring_of" = some (.ref (He.ga K "ring_of")) := He.glo_ok e.kin e.ns (e.says.fact 14 (f := .glo "ring_of") rfl)
theorem Ev.gl_require_level (e : Ev P w mg base K) : mg "require_level" = some (.ref (He.ga K "require_level")) := He.glo_ok e.kin e.ns (e.says.fact 15 (f := .glo "require_level") rfl)
theorem Ev.gl_place_of (e : Ev P w mg base K) : mg "place_of" = some (.ref (He.ga K "place_of")) := He.glo_ok e.kin e.ns (e.says.fact 16 (f := .glo "place_of") rfl)
theorem Ev.gl_is_home (e : Ev P w mg base K) : mg "is_home" = some (.ref (He.ga K "is_home")) := He.glo_ok e.kin e.ns (e.says.fact 17 (f := .glo "is_home") rfl)
theorem Ev.gl_closed_place (e : Ev P w mg base K) : mg "closed_place" = some (.ref (He.ga K "closed_place")) := He.glo_ok e.kin e.ns (e.says.fact 18 (f := .glo "closed_place") rfl)
theorem Ev.gl_away (e : Ev P w mg base K) : mg "away" = some (.ref (He.ga K "away")) := He.glo_ok e.kin e.ns (e.says.fact 19 (f := .glo "away") rfl)
theorem Ev.gl_hand_at (e : Ev P w mg base K) : mg "hand_at" = some (.ref (He.ga K "hand_at")) := He.glo_ok e.kin e.ns (e.says.fact 20 (f := .glo "hand_at") rfl)
theorem Ev.gl_ring_at (e : Ev P w mg base K) : mg "ring_at" = some (.ref (He.ga K "ring_at")) := He.glo_ok e.kin e.ns (e.says.fact 21 (f := .glo "ring_at") rfl)
theorem Ev.gl__law_spring (e : Ev P w mg base K) : mg "_law_spring" = some (.ref (He.ga K "_law_spring")) := He.glo_ok e.kin e.ns (e.says.fact 22 (f := .glo "_law_spring") rfl)
theorem Ev.gl__law_draw (e : Ev P w mg base K) : mg "_law_draw" = some (.ref (He.ga K "_law_draw")) := He.glo_ok e.kin e.ns (e.says.fact 23 (f := .glo "_law_draw") rfl)
theorem Ev.gl__law_names (e : Ev P w mg base K) : mg "_law_names" = some (.ref (He.ga K "_law_names")) := He.glo_ok e.kin e.ns (e.says.fact 24 (f := .glo "_law_names") rfl)
theorem Ev.gl__law_deck (e : Ev P w mg base K) : mg "_law_deck" = some (.ref (He.ga K "_law_deck")) := He.glo_ok e.kin e.ns (e.says.fact 25 (f := .glo "_law_deck") rfl)
theorem Ev.gl__law_no_deck (e : Ev P w mg base K) : mg "_law_no_deck" = some (.ref (He.ga K "_law_no_deck")) := He.glo_ok e.kin e.ns (e.says.fact 26 (f := .glo "_law_no_deck") rfl)
theorem Ev.gl__law_word (e : Ev P w mg base K) : mg "_law_word" = some (.ref (He.ga K "_law_word")) := He.glo_ok e.kin e.ns (e.says.fact 27 (f := .glo "_law_word") rfl)
theorem Ev.gl__law_asked (e : Ev P w mg base K) : mg "_law_asked" = some (.ref (He.ga K "_law_asked")) := He.glo_ok e.kin e.ns (e.says.fact 28 (f := .glo "_law_asked") rfl)
theorem Ev.fr_ValueError (e : Ev P w mg base K) : mg "ValueError" = none := He.free_ok e.kin e.ns (e.says.fact 30 (f := .free "ValueError") rfl)
theorem Ev.fr_abs (e : Ev P w mg base K) : mg "abs" = none := He.free_ok e.kin e.ns (e.says.fact 31 (f := .free "abs") rfl)
theorem Ev.fr_all (e : Ev P w mg base K) : mg "all" = none := He.free_ok e.kin e.ns (e.says.fact 32 (f := .free "all") rfl)
theorem Ev.fr_bool (e : Ev P w mg base K) : mg "bool" = none := He.free_ok e.kin e.ns (e.says.fact 33 (f := .free "bool") rfl)
theorem Ev.fr_dict (e : Ev P w mg base K) : mg "dict" = none := He.free_ok e.kin e.ns (e.says.fact 34 (f := .free "dict") rfl)
theorem Ev.fr_enumerate (e : Ev P w mg base K) : mg "enumerate" = none := He.free_ok e.kin e.ns (e.says.fact 35 (f := .free "enumerate") rfl)
theorem Ev.fr_int (e : Ev P w mg base K) : mg "int" = none := He.free_ok e.kin e.ns (e.says.fact 36 (f := .free "int") rfl)
theorem Ev.fr_isinstance (e : Ev P w mg base K) : mg "isinstance" = none := He.free_ok e.kin e.ns (e.says.fact 37 (f := .free "isinstance") rfl)
theorem Ev.fr_len (e : Ev P w mg base K) : mg "len" = none := He.free_ok e.kin e.ns (e.says.fact 38 (f := .free "len") rfl)
theorem Ev.fr_list (e : Ev P w mg base K) : mg "list" = none := He.free_ok e.kin e.ns (e.says.fact 39 (f := .free "list") rfl)
theorem Ev.fr_max (e : Ev P w mg base K) : mg "max" = none := He.free_ok e.kin e.ns (e.says.fact 40 (f := .free "max") rfl)
theorem Ev.fr_min (e : Ev P w mg base K) : mg "min" = none := He.free_ok e.kin e.ns (e.says.fact 41 (f := .free "min") rfl)
theorem Ev.fr_range (e : Ev P w mg base K) : mg "range" = none := He.free_ok e.kin e.ns (e.says.fact 42 (f := .free "range") rfl)
theorem Ev.fr_repr (e : Ev P w mg base K) : mg "repr" = none := He.free_ok e.kin e.ns (e.says.fact 43 (f := .free "repr") rfl)
theorem Ev.fr_str (e : Ev P w mg base K) : mg "str" = none := He.free_ok e.kin e.ns (e.says.fact 44 (f := .free "str") rfl)
theorem Ev.fr_tuple (e : Ev P w mg base K) : mg "tuple" = none := He.free_ok e.kin e.ns (e.says.fact 45 (f := .free "tuple") rfl)
theorem Ev.ct_MOST_LETTERS (e : Ev P w mg base K) : ∃ t, mg "MOST_LETTERS" = some (.int 8 t) := He.int_ok e.kin e.ns (e.says.fact 46 (f := .int "MOST_LETTERS" 8) rfl)
theorem Ev.ct_MOST_CARDS (e : Ev P w mg base K) : ∃ t, mg "MOST_CARDS" = some (.int 40 t) := He.int_ok e.kin e.ns (e.says.fact 47 (f := .int "MOST_CARDS" 40) rfl)
theorem Ev.gl_DeckError (e : Ev P w mg base K) : mg "DeckError" = some (.ref (He.ga K "DeckError")) := He.glo_ok e.kin e.ns (e.says.fact 48 (f := .glo "DeckError") rfl)
theorem Ev.gl_NoDeck (e : Ev P w mg base K) : mg "NoDeck" = some (.ref (He.ga K "NoDeck")) := He.glo_ok e.kin e.ns (e.says.fact 50 (f := .glo "NoDeck") rfl)
theorem Ev.ex_NoDeck (e : Ev P w mg base K) : PySem.W.excIn K (He.ga K "NoDeck") He.veBase "ValueError.__new__" = true ∧ PySem.W.keepIn K (.ref (He.ga K "NoDeck")) = true ∧ PySem.W.subIn K (.ref (He.ga K "NoDeck")) (.type "BaseException") = some true ∧ PySem.W.typeIn K (.ref (He.ga K "NoDeck")) = some (.type "type") := He.exc_ok (e.says.fact 51 (f := .exc "NoDeck") rfl)
theorem Ev.gl_NoCard (e : Ev P w mg base K) : mg "NoCard" = some (.ref (He.ga K "NoCard")) := He.glo_ok e.kin e.ns (e.says.fact 52 (f := .glo "NoCard") rfl)
theorem Ev.gl_NoName (e : Ev P w mg base K) : mg "NoName" = some (.ref (He.ga K "NoName")) := He.glo_ok e.kin e.ns (e.says.fact 54 (f := .glo "NoName") rfl)
theorem Ev.ex_NoName (e : Ev P w mg base K) : PySem.W.excIn K (He.ga K "NoName") He.veBase "ValueError.__new__" = true ∧ PySem.W.keepIn K (.ref (He.ga K "NoName")) = true ∧ PySem.W.subIn K (.ref (He.ga K "NoName")) (.type "BaseException") = some true ∧ PySem.W.typeIn K (.ref (He.ga K "NoName")) = some (.type "type") := He.exc_ok (e.says.fact 55 (f := .exc "NoName") rfl)
theorem Ev.gl_NoDepth (e : Ev P w mg base K) : mg "NoDepth" = some (.ref (He.ga K "NoDepth")) := He.glo_ok e.kin e.ns (e.says.fact 56 (f := .glo "NoDepth") rfl)
theorem Ev.gl_NoPlace (e : Ev P w mg base K) : mg "NoPlace" = some (.ref (He.ga K "NoPlace")) := He.glo_ok e.kin e.ns (e.says.fact 58 (f := .glo "NoPlace") rfl)
theorem Ev.gl_Twice (e : Ev P w mg base K) : mg "Twice" = some (.ref (He.ga K "Twice")) := He.glo_ok e.kin e.ns (e.says.fact 60 (f := .glo "Twice") rfl)
theorem Ev.gl_Full (e : Ev P w mg base K) : mg "Full" = some (.ref (He.ga K "Full")) := He.glo_ok e.kin e.ns (e.says.fact 62 (f := .glo "Full") rfl)
theorem Ev.gl_Last (e : Ev P w mg base K) : mg "Last" = some (.ref (He.ga K "Last")) := He.glo_ok e.kin e.ns (e.says.fact 64 (f := .glo "Last") rfl)
theorem Ev.gl_NoNumber (e : Ev P w mg base K) : mg "NoNumber" = some (.ref (He.ga K "NoNumber")) := He.glo_ok e.kin e.ns (e.says.fact 66 (f := .glo "NoNumber") rfl)
theorem Ev.gl_NoStep (e : Ev P w mg base K) : mg "NoStep" = some (.ref (He.ga K "NoStep")) := He.glo_ok e.kin e.ns (e.says.fact 68 (f := .glo "NoStep") rfl)
theorem Ev.gl_NoLevel (e : Ev P w mg base K) : mg "NoLevel" = some (.ref (He.ga K "NoLevel")) := He.glo_ok e.kin e.ns (e.says.fact 70 (f := .glo "NoLevel") rfl)
theorem Ev.ex_NoLevel (e : Ev P w mg base K) : PySem.W.excIn K (He.ga K "NoLevel") He.veBase "ValueError.__new__" = true ∧ PySem.W.keepIn K (.ref (He.ga K "NoLevel")) = true ∧ PySem.W.subIn K (.ref (He.ga K "NoLevel")) (.type "BaseException") = some true ∧ PySem.W.typeIn K (.ref (He.ga K "NoLevel")) = some (.type "type") := He.exc_ok (e.says.fact 71 (f := .exc "NoLevel") rfl)
theorem Ev.gl_NotSettled (e : Ev P w mg base K) : mg "NotSettled" = some (.ref (He.ga K "NotSettled")) := He.glo_ok e.kin e.ns (e.says.fact 72 (f := .glo "NotSettled") rfl)
theorem Ev.gl_NotLasting (e : Ev P w mg base K) : mg "NotLasting" = some (.ref (He.ga K "NotLasting")) := He.glo_ok e.kin e.ns (e.says.fact 74 (f := .glo "NotLasting") rfl)
theorem Ev.gl_NoOrder (e : Ev P w mg base K) : mg "NoOrder" = some (.ref (He.ga K "NoOrder")) := He.glo_ok e.kin e.ns (e.says.fact 76 (f := .glo "NoOrder") rfl)
theorem Ev.gl_NoNames (e : Ev P w mg base K) : mg "NoNames" = some (.ref (He.ga K "NoNames")) := He.glo_ok e.kin e.ns (e.says.fact 78 (f := .glo "NoNames") rfl)
theorem Ev.gl_NoRow (e : Ev P w mg base K) : mg "NoRow" = some (.ref (He.ga K "NoRow")) := He.glo_ok e.kin e.ns (e.says.fact 80 (f := .glo "NoRow") rfl)
theorem Ev.gl_NoDepths (e : Ev P w mg base K) : mg "NoDepths" = some (.ref (He.ga K "NoDepths")) := He.glo_ok e.kin e.ns (e.says.fact 82 (f := .glo "NoDepths") rfl)
theorem Ev.gl_TooMany (e : Ev P w mg base K) : mg "TooMany" = some (.ref (He.ga K "TooMany")) := He.glo_ok e.kin e.ns (e.says.fact 84 (f := .glo "TooMany") rfl)
theorem Ev.gl_NoText (e : Ev P w mg base K) : mg "NoText" = some (.ref (He.ga K "NoText")) := He.glo_ok e.kin e.ns (e.says.fact 86 (f := .glo "NoText") rfl)
theorem Ev.gl_NoForm (e : Ev P w mg base K) : mg "NoForm" = some (.ref (He.ga K "NoForm")) := He.glo_ok e.kin e.ns (e.says.fact 87 (f := .glo "NoForm") rfl)
theorem Ev.gl_NoneYet (e : Ev P w mg base K) : mg "NoneYet" = some (.ref (He.ga K "NoneYet")) := He.glo_ok e.kin e.ns (e.says.fact 89 (f := .glo "NoneYet") rfl)
end
/-! is_whole: 0 thing -/
theorem sc_is_whole : FnScope ["thing"] ["thing"] (defScope s_is_whole) := ⟨rfl, rfl, rfl, by decide +kernel, rfl, by decide +kernel, by decide +kernel⟩
abbrev lv_is_whole : Nat := 1
theorem ok_is_whole {P : Program} {w : World} {mg : Str → Option Value} {base : Heap} {K : PySem.W.Frag} (e : Ev P w mg base K) : CalG P w mg base (TT P w K) lv_is_whole 1 "is_whole" (M_is_whole) := by
  obtain ⟨fd, F⟩ := e.says.def_ 0 (d := d_is_whole) rfl
  refine cal_ofG (T := TT P w K) (p := ("is_whole", none)) (N := ["thing"]) (ps := ["thing"]) (k := 0) F sc_is_whole e.gl_is_whole (fun _ _ _ _ _ _ us hl => match us, hl with | [_], _ => rfl) (fun A outer s H E hr hq => ?_)
  exact b_one (s_ret (d_and (d_is (by rfl) e.fr_isinstance (by rfl) e.fr_int (by decide +kernel) (d_var 0)) (d_one (d_not (d_is (by rfl) e.fr_isinstance (by rfl) e.fr_bool (by decide +kernel) (d_var 0))))))
/-! is_number: 0 thing, 1 most -/
theorem sc_is_number : FnScope ["thing", "most"] ["thing", "most"] (defScope s_is_number) := ⟨rfl, rfl, rfl, by decide +kernel, rfl, by decide +kernel, by decide +kernel⟩
abbrev lv_is_number : Nat := 2
theorem ok_is_number {P : Program} {w : World} {mg : Str → Option Value} {base : Heap} {K : PySem.W.Frag} (e : Ev P w mg base K) : CalG P w mg base (TT P w K) lv_is_number 2 "is_number" (M_is_number) := by
  obtain ⟨fd, F⟩ := e.says.def_ 1 (d := d_is_number) rfl
  refine cal_ofG (T := TT P w K) (p := ("is_number", none)) (N := ["thing", "most"]) (ps := ["thing", "most"]) (k := 1) F sc_is_number e.gl_is_number (fun _ _ _ _ _ _ us hl => match us, hl with | [_, _], _ => rfl) (fun A outer s H E hr hq => ?_)
  exact b_one (s_ret (d_and (d_callCG (k := lv_is_whole) (ok_is_whole e) (by rfl) (hr.mono (by decide)) hq bX_takes (d_cons (d_var 0) (d_nil))) (d_one (d_chain o_le o_le (d_int) (d_var 0) (d_var 1)))))
/-! is_depth: 0 thing -/
theorem sc_is_depth : FnScope ["thing"] ["thing"] (defScope s_is_depth) := ⟨rfl, rfl, rfl, by decide +kernel, rfl, by decide +kernel, by decide +kernel⟩
abbrev lv_is_depth : Nat := 2
theorem ok_is_depth {P : Program} {w : World} {mg : Str → Option Value} {base : Heap} {K : PySem.W.Frag} (e : Ev P w mg base K) : CalG P w mg base (TT P w K) lv_is_depth 1 "is_depth" (M_is_depth) := by
  obtain ⟨fd, F⟩ := e.says.def_ 2 (d := d_is_depth) rfl
  refine cal_ofG (T := TT P w K) (p := ("is_depth", none)) (N := ["thing"]) (ps := ["thing"]) (k := 1) F sc_is_depth e.gl_is_depth (fun _ _ _ _ _ _ us hl => match us, hl with | [_], _ => rfl) (fun A outer s H E hr hq => ?_)
  exact b_one (s_ret (d_and (d_callCG (k := lv_is_whole) (ok_is_whole e) (by rfl) (hr.mono (by decide)) hq bX_takes (d_cons (d_var 0) (d_nil))) (d_one (d_cmp o_ge (d_var 0) (d_int) (by first | exact nobehind _ (by decide) (by decide) | rfl)))))
/-! is_listed: 0 thing -/
theorem sc_is_listed : FnScope ["thing"] ["thing"] (defScope s_is_listed) := ⟨rfl, rfl, rfl, by decide +kernel, rfl, by decide +kernel, by decide +kernel⟩
abbrev lv_is_listed : Nat := 1
theorem ok_is_listed {P : Program} {w : World} {mg : Str → Option Value} {base : Heap} {K : PySem.W.Frag} (e : Ev P w mg base K) : CalG P w mg base (TT P w K) lv_is_listed 1 "is_listed" (M_is_listed) := by
  obtain ⟨fd, F⟩ := e.says.def_ 3 (d := d_is_listed) rfl
  refine cal_ofG (T := TT P w K) (p := ("is_listed", none)) (N := ["thing"]) (ps := ["thing"]) (k := 0) F sc_is_listed e.gl_is_listed (fun _ _ _ _ _ _ us hl => match us, hl with | [_], _ => rfl) (fun A outer s H E hr hq => ?_)
  exact b_one (s_ret (d_is2 (by rfl) e.fr_isinstance (by rfl) e.fr_list (by decide +kernel) (by rfl) e.fr_tuple (by decide +kernel) (d_var 0)))
/-! is_name: 0 thing, 1 sign -/
theorem sc_is_name : FnScope ["thing", "sign"] ["thing"] (defScope s_is_name) := ⟨rfl, rfl, rfl, by decide +kernel, rfl, by decide +kernel, by decide +kernel⟩
abbrev lv_is_name : Nat := 2
theorem ok_is_name {P : Program} {w : World} {mg : Str → Option Value} {base : Heap} {K : PySem.W.Frag} (e : Ev P w mg base K) : CalG P w mg base (TT P w K) lv_is_name 1 "is_name" (M_is_name) := by
  obtain ⟨fd, F⟩ := e.says.def_ 4 (d := d_is_name) rfl
  obtain ⟨t_MOST_LETTERS, hc_MOST_LETTERS⟩ := e.ct_MOST_LETTERS
  refine cal_ofG (T := TT P w K) (p := ("is_name", none)) (N := ["thing", "sign"]) (ps := ["thing"]) (k := 1) F sc_is_name e.gl_is_name (fun _ _ _ _ _ _ us hl => match us, hl with | [_], _ => rfl) (fun A outer s H E hr hq => ?_)
  exact b_cons (s_if (ptw (w_or (t_not (t_val (d_is (by rfl) e.fr_isinstance (by rfl) e.fr_str (by decide +kernel) (d_var 0)))) (w_or1 (t_not (t_chain o_le o_le (d_int) (d_callB (c_lenX (by rfl) (by rfl) (by rfl)) (by rfl) e.fr_len (by decide +kernel) (d_cons (d_var 0) (d_nil))) (d_num (by rfl) hc_MOST_LETTERS)))))) (b_one (s_ret (d_bl))) (b_nil))
      (b_one (s_ret (d_all (k := 0) rfl (hr.mono (by decide)) (by rfl) e.fr_all (e.tb _ (by decide)) (e.tbm _ (by decide)) rfl ⟨rfl, rfl, by decide +kernel, by decide +kernel, by decide +kernel⟩ (i_seq (d_var 0)) (fun _ _ _ _ _ _ _ _ _ => g_name (i := 1) sc_is_name.nd (by rfl) (by first | exact Or.inl rfl | exact Or.inr rfl)) (fun _ _ _ _ _ _ _ hr2 hq2 => d_chain o_le o_le (d_str) (d_var 1) (d_str)))))
/-! is_card: 0 thing -/
theorem sc_is_card : FnScope ["thing"] ["thing"] (defScope s_is_card) := ⟨rfl, rfl, rfl, by decide +kernel, rfl, by decide +kernel, by decide +kernel⟩
abbrev lv_is_card : Nat := 3
theorem ok_is_card {P : Program} {w : World} {mg : Str → Option Value} {base : Heap} {K : PySem.W.Frag} (e : Ev P w mg base K) : CalG P w mg base (TT P w K) lv_is_card 1 "is_card" (M_is_card) := by
  obtain ⟨fd, F⟩ := e.says.def_ 5 (d := d_is_card) rfl
  refine cal_ofG (T := TT P w K) (p := ("is_card", none)) (N := ["thing"]) (ps := ["thing"]) (k := 2) F sc_is_card e.gl_is_card (fun _ _ _ _ _ _ us hl => match us, hl with | [_], _ => rfl) (fun A outer s H E hr hq => ?_)
  exact b_cons (s_if (ptw (w_or (t_not (t_val (d_callCG (k := lv_is_listed) (ok_is_listed e) (by rfl) (hr.mono (by decide)) hq bX_takes (d_cons (d_var 0) (d_nil))))) (w_or1 (t_cmp (o_ne hr.u64) (d_callB (c_lenX (by rfl) (by rfl) (by rfl)) (by rfl) e.fr_len (by decide +kernel) (d_cons (d_var 0) (d_nil))) (d_int) (by first | exact nobehind _ (by decide) (by decide) | rfl))))) (b_one (s_ret (d_bl))) (b_nil))
      (b_one (s_ret (d_and (d_callCG (k := lv_is_name) (ok_is_name e) (by rfl) (hr.mono (by decide)) hq bX_takes (d_cons (d_ix (x_ix (by rfl)) (d_var 0) (d_int)) (d_nil))) (d_one (d_callCG (k := lv_is_depth) (ok_is_depth e) (by rfl) (hr.mono (by decide)) hq bX_takes (d_cons (d_ix (x_ix (by rfl)) (d_var 0) (d_int)) (d_nil)))))))
/-! deck_of: 0 cards, 1 card, 2 deck, 3 name, 4 depth -/
theorem sc_deck_of : FnScope ["cards", "card", "deck", "name", "depth"] ["cards"] (defScope s_deck_of) := ⟨rfl, rfl, rfl, by decide +kernel, rfl, by decide +kernel, by decide +kernel⟩
abbrev lv_deck_of : Nat := 5
theorem ok_deck_of {P : Program} {w : World} {mg : Str → Option Value} {base : Heap} {K : PySem.W.Frag} (e : Ev P w mg base K) : CalG P w mg base (TT P w K) lv_deck_of 1 "deck_of" (M_deck_of K) := by
  obtain ⟨fd, F⟩ := e.says.def_ 6 (d := d_deck_of) rfl
  obtain ⟨t_MOST_CARDS, hc_MOST_CARDS⟩ := e.ct_MOST_CARDS
  refine cal_ofG (T := TT P w K) (p := ("deck_of", none)) (N := ["cards", "card", "deck", "name", "depth"]) (ps := ["cards"]) (k := 4) F sc_deck_of e.gl_deck_of (fun _ _ _ _ _ _ us hl => match us, hl with | [_], _ => rfl) (fun A outer s H E hr hq => ?_)
  exact b_cons (s_if (ptw (w_or (t_not (t_val (d_callCG (k := lv_is_listed) (ok_is_listed e) (by rfl) (hr.mono (by decide)) hq bX_takes (d_cons (d_var 0) (d_nil))))) (w_or1 (t_not (t_chain o_le o_le (d_int) (d_callB (c_lenX (by rfl) (by rfl) (by rfl)) (by rfl) e.fr_len (by decide +kernel) (d_cons (d_var 0) (d_nil))) (d_num (by rfl) hc_MOST_CARDS)))))) (b_one (s_raise (by rfl) bX_takes e.gl_NoDeck e.ex_NoDeck)) (b_nil))
      (b_cons (s_if (t_not (t_val (d_all (k := 3) rfl (hr.mono (by decide)) (by rfl) e.fr_all (e.tb _ (by decide)) (e.tbm _ (by decide)) rfl ⟨rfl, rfl, by decide +kernel, by decide +kernel, by decide +kernel⟩ (i_seq (d_var 0)) (fun _ _ _ _ _ _ _ _ _ => g_name (i := 1) sc_deck_of.nd (by rfl) (by first | exact Or.inl rfl | exact Or.inr rfl)) (fun _ _ _ _ _ _ _ hr2 hq2 => d_callCG (k := lv_is_card) (ok_is_card e) (by rfl) (hr2.mono (by decide)) (hq2 hq) takes0 (d_cons (d_var 1) (d_nil)))))) (b_one (s_raise (by rfl) bX_takes e.gl_NoDeck e.ex_NoDeck)) (b_nil))
      (b_cons (s_set (i := 2) sc_deck_of.nd (by rfl) (by first | exact Or.inl rfl | exact Or.inr rfl) (d_callTy (c_tuple (by rfl)) (by rfl) e.fr_tuple (by decide +kernel) (d_cons (d_lc (own := [("name", 3), ("depth", 4)]) (by rfl) sc_deck_of.nd (i_seq (d_var 0)) (blkOk_by (by kernel_rfl)) (fun _ _ _ _ _ => g_two (i := 3) (j := 4) (by rfl) (by rfl) sc_deck_of.nd (by rfl) (by first | exact Or.inl rfl | exact Or.inr rfl) (by rfl) (by first | exact Or.inl rfl | exact Or.inr rfl)) (fun _ _ _ _ _ => ts_nil) (fun _ _ _ _ _ => d_tup (d_cons (d_var 3) (d_cons (d_var 4) (d_nil))))) (d_nil))))
      (b_cons (s_if (t_cmp o_lt (d_callB (c_lenX (by rfl) (by rfl) (by rfl)) (by rfl) e.fr_len (by decide +kernel) (d_cons (d_sc (own := [("card", 1)]) (by rfl) (by rfl) (by rfl) sc_deck_of.nd (i_seq (d_var 2)) (blkOk_by (by kernel_rfl)) (fun _ _ _ _ _ => g_name (i := 1) sc_deck_of.nd (by rfl) (by first | exact Or.inl rfl | exact Or.inr rfl)) (fun _ _ _ _ _ => d_ix (x_ix (by rfl)) (d_var 1) (d_int))) (d_nil))) (d_callB (c_lenX (by rfl) (by rfl) (by rfl)) (by rfl) e.fr_len (by decide +kernel) (d_cons (d_var 2) (d_nil))) (by first | exact nobehind _ (by decide) (by decide) | rfl)) (b_one (s_raise (by rfl) bX_takes e.gl_NoDeck e.ex_NoDeck)) (b_nil))
      (b_one (s_ret (d_var 2))))))
/-! reach_of: 0 card, 1 many -/
theorem sc_reach_of : FnScope ["card", "many"] ["card", "many"] (defScope s_reach_of) := ⟨rfl, rfl, rfl, by decide +kernel, rfl, by decide +kernel, by decide +kernel⟩
abbrev lv_reach_of : Nat := 1
theorem ok_reach_of {P : Program} {w : World} {mg : Str → Option Value} {base : Heap} {K : PySem.W.Frag} (e : Ev P w mg base K) : CalG P w mg base (TT P w K) lv_reach_of 2 "reach_of" (M_reach_of) := by
  obtain ⟨fd, F⟩ := e.says.def_ 7 (d := d_reach_of) rfl
  refine cal_ofG (T := TT P w K) (p := ("reach_of", none)) (N := ["card", "many"]) (ps := ["card", "many"]) (k := 0) F sc_reach_of e.gl_reach_of (fun _ _ _ _ _ _ us hl => match us, hl with | [_, _], _ => rfl) (fun A outer s H E hr hq => ?_)
  exact b_one (s_ret (d_callB (c_min2 (by rfl)) (by rfl) e.fr_min (by decide +kernel) (d_cons (d_ix (x_ix (by rfl)) (d_var 0) (d_int)) (d_cons (d_bin o_sub (d_var 1) (d_int)) (d_nil)))))
/-! find_place: 0 deck, 1 name, 2 place, 3 card -/
def m_q_find_place (K : PySem.W.Frag) : SF := sSeq (sFor (iEn (aCons (eVar 0) (aNil))) (tN2 2 3) (sIf (tB (eB gEqW (eB gIx (eVar 3) (eC (.int 0))) (eVar 1))) (sRt (eVar 2)) (sNop))) (sRaise (He.ga K "NoName"))
abbrev M_q_find_place (K : PySem.W.Frag) : List D → M D := fnM 4 (m_q_find_place K)
theorem sc_find_place : FnScope ["deck", "name", "place", "card"] ["deck", "name"] (defScope s_find_place) := ⟨rfl, rfl, rfl, by decide +kernel, rfl, by decide +kernel, by decide +kernel⟩
abbrev lv_find_place : Nat := 1
theorem ok_q_find_place {P : Program} {w : World} {mg : Str → Option Value} {base : Heap} {K : PySem.W.Frag} (e : Ev P w mg base K) : CalG P w mg base (TT P w K) lv_find_place 2 "find_place" (M_q_find_place K) := by
  obtain ⟨fd, F⟩ := e.says.def_ 8 (d := d_find_place) rfl
  refine cal_ofG (T := TT P w K) (p := ("find_place", none)) (N := ["deck", "name", "place", "card"]) (ps := ["deck", "name"]) (k := 0) F sc_find_place e.gl_find_place (fun _ _ _ _ _ _ us hl => match us, hl with | [_, _], _ => rfl) (fun A outer s H E hr hq => ?_)
  exact b_cons (s_for bX_passes (by rfl) (i_enum (by rfl) (by rfl) e.fr_enumerate (d_cons (d_var 0) (d_nil))) (g_two (i := 2) (j := 3) (by rfl) (by rfl) sc_find_place.nd (by rfl) (by first | exact Or.inl rfl | exact Or.inr rfl) (by rfl) (by first | exact Or.inl rfl | exact Or.inr rfl))
      (b_one (s_if (t_cmp (o_eqW hr.u64) (d_ix (x_ix (by rfl)) (d_var 3) (d_int)) (d_var 1) (by first | exact nobehind _ (by decide) (by decide) | rfl)) (b_one (s_ret (d_var 2))) (b_nil))))
      (b_one (s_raise (by rfl) bX_takes e.gl_NoName e.ex_NoName))
/-! names_of: 0 cards, 1 card -/
theorem sc_names_of : FnScope ["cards", "card"] ["cards"] (defScope s_names_of) := ⟨rfl, rfl, rfl, by decide +kernel, rfl, by decide +kernel, by decide +kernel⟩
abbrev lv_names_of : Nat := 1
theorem ok_names_of {P : Program} {w : World} {mg : Str → Option Value} {base : Heap} {K : PySem.W.Frag} (e : Ev P w mg base K) : CalG P w mg base (TT P w K) lv_names_of 1 "names_of" (M_names_of) := by
  obtain ⟨fd, F⟩ := e.says.def_ 9 (d := d_names_of) rfl
  refine cal_ofG (T := TT P w K) (p := ("names_of", none)) (N := ["cards", "card"]) (ps := ["cards"]) (k := 0) F sc_names_of e.gl_names_of (fun _ _ _ _ _ _ us hl => match us, hl with | [_], _ => rfl) (fun A outer s H E hr hq => ?_)
  exact b_one (s_ret (d_fz (d_lc (own := [("card", 1)]) (by rfl) sc_names_of.nd (i_seq (d_var 0)) (blkOk_by (by kernel_rfl)) (fun _ _ _ _ _ => g_name (i := 1) sc_names_of.nd (by rfl) (by first | exact Or.inl rfl | exact Or.inr rfl)) (fun _ _ _ _ _ => ts_nil) (fun _ _ _ _ _ => d_ix (x_ix (by rfl)) (d_var 1) (d_int)))))
/-! closed_of: 0 deck, 1 farthest, 2 place, 3 card -/
theorem sc_closed_of : FnScope ["deck", "farthest", "place", "card"] ["deck"] (defScope s_closed_of) := ⟨rfl, rfl, rfl, by decide +kernel, rfl, by decide +kernel, by decide +kernel⟩
abbrev lv_closed_of : Nat := 2
theorem ok_closed_of {P : Program} {w : World} {mg : Str → Option Value} {base : Heap} {K : PySem.W.Frag} (e : Ev P w mg base K) : CalG P w mg base (TT P w K) lv_closed_of 1 "closed_of" (M_closed_of) := by
  obtain ⟨fd, F⟩ := e.says.def_ 10 (d := d_closed_of) rfl
  refine cal_ofG (T := TT P w K) (p := ("closed_of", none)) (N := ["deck", "farthest", "place", "card"]) (ps := ["deck"]) (k := 1) F sc_closed_of e.gl_closed_of (fun _ _ _ _ _ _ us hl => match us, hl with | [_], _ => rfl) (fun A outer s H E hr hq => ?_)
  exact b_cons (s_set (i := 1) sc_closed_of.nd (by rfl) (by first | exact Or.inl rfl | exact Or.inr rfl) (d_int))
      (b_cons (s_for bX_passes (by rfl) (i_enum (by rfl) (by rfl) e.fr_enumerate (d_cons (d_var 0) (d_nil))) (g_two (i := 2) (j := 3) (by rfl) (by rfl) sc_closed_of.nd (by rfl) (by first | exact Or.inl rfl | exact Or.inr rfl) (by rfl) (by first | exact Or.inl rfl | exact Or.inr rfl))
      (b_cons (s_if (t_cmp o_lt (d_var 1) (d_var 2) (by first | exact nobehind _ (by decide) (by decide) | rfl)) (b_one (s_ret (d_var 2))) (b_nil))
      (b_one (s_set (i := 1) sc_closed_of.nd (by rfl) (by first | exact Or.inl rfl | exact Or.inr rfl) (d_callB (c_max (by rfl) (by rfl)) (by rfl) e.fr_max (by decide +kernel) (d_cons (d_var 1) (d_cons (d_callCG (k := lv_reach_of) (ok_reach_of e) (by rfl) (hr.mono (by decide)) hq bX_takes (d_cons (d_var 3) (d_cons (d_callB (c_lenX (by rfl) (by rfl) (by rfl)) (by rfl) e.fr_len (by decide +kernel) (d_cons (d_var 0) (d_nil))) (d_nil)))) (d_nil))))))))
      (b_one (s_ret (d_callB (c_lenX (by rfl) (by rfl) (by rfl)) (by rfl) e.fr_len (by decide +kernel) (d_cons (d_var 0) (d_nil))))))
/-! is_home_at: 0 deck, 1 place -/
theorem sc_is_home_at : FnScope ["deck", "place"] ["deck", "place"] (defScope s_is_home_at) := ⟨rfl, rfl, rfl, by decide +kernel, rfl, by decide +kernel, by decide +kernel⟩
abbrev lv_is_home_at : Nat := 2
theorem ok_is_home_at {P : Program} {w : World} {mg : Str → Option Value} {base : Heap} {K : PySem.W.Frag} (e : Ev P w mg base K) : CalG P w mg base (TT P w K) lv_is_home_at 2 "is_home_at" (M_is_home_at) := by
  obtain ⟨fd, F⟩ := e.says.def_ 11 (d := d_is_home_at) rfl
  refine cal_ofG (T := TT P w K) (p := ("is_home_at", none)) (N := ["deck", "place"]) (ps := ["deck", "place"]) (k := 1) F sc_is_home_at e.gl_is_home_at (fun _ _ _ _ _ _ us hl => match us, hl with | [_, _], _ => rfl) (fun A outer s H E hr hq => ?_)
  exact b_one (s_ret (d_cmp o_le (d_var 1) (d_callCG (k := lv_reach_of) (ok_reach_of e) (by rfl) (hr.mono (by decide)) hq bX_takes (d_cons (d_ix (x_ix (by rfl)) (d_var 0) (d_var 1)) (d_cons (d_callB (c_lenX (by rfl) (by rfl) (by rfl)) (by rfl) e.fr_len (by decide +kernel) (d_cons (d_var 0) (d_nil))) (d_nil)))) (by first | exact nobehind _ (by decide) (by decide) | rfl)))
/-! away_places: 0 deck, 1 place -/
theorem sc_away_places : FnScope ["deck", "place"] ["deck"] (defScope s_away_places) := ⟨rfl, rfl, rfl, by decide +kernel, rfl, by decide +kernel, by decide +kernel⟩
abbrev lv_away_places : Nat := 3
theorem ok_away_places {P : Program} {w : World} {mg : Str → Option Value} {base : Heap} {K : PySem.W.Frag} (e : Ev P w mg base K) : CalG P w mg base (TT P w K) lv_away_places 1 "away_places" (M_away_places) := by
  obtain ⟨fd, F⟩ := e.says.def_ 12 (d := d_away_places) rfl
  refine cal_ofG (T := TT P w K) (p := ("away_places", none)) (N := ["deck", "place"]) (ps := ["deck"]) (k := 2) F sc_away_places e.gl_away_places (fun _ _ _ _ _ _ us hl => match us, hl with | [_], _ => rfl) (fun A outer s H E hr hq => ?_)
  exact b_one (s_ret (d_fz (d_lc (own := [("place", 1)]) (by rfl) sc_away_places.nd (i_rg1 (by rfl) e.fr_range (d_cons (d_callCG (k := lv_closed_of) (ok_closed_of e) (by rfl) (hr.mono (by decide)) hq bX_takes (d_cons (d_var 0) (d_nil))) (d_nil))) (blkOk_by (by kernel_rfl)) (fun _ _ _ _ _ => g_name (i := 1) sc_away_places.nd (by rfl) (by first | exact Or.inl rfl | exact Or.inr rfl)) (fun _ _ _ _ _ => ts_one (t_not (t_val (d_callCG (k := lv_is_home_at) (ok_is_home_at e) (by rfl) (hr.mono (by decide)) hq takes0 (d_cons (d_var 0) (d_cons (d_var 1) (d_nil))))))) (fun _ _ _ _ _ => d_var 1))))
/-! hand_of: 0 deck, 1 level, 2 card -/
theorem sc_hand_of : FnScope ["deck", "level", "card"] ["deck", "level"] (defScope s_hand_of) := ⟨rfl, rfl, rfl, by decide +kernel, rfl, by decide +kernel, by decide +kernel⟩
abbrev lv_hand_of : Nat := 2
theorem ok_hand_of {P : Program} {w : World} {mg : Str → Option Value} {base : Heap} {K : PySem.W.Frag} (e : Ev P w mg base K) : CalG P w mg base (TT P w K) lv_hand_of 2 "hand_of" (M_hand_of) := by
  obtain ⟨fd, F⟩ := e.says.def_ 13 (d := d_hand_of) rfl
  refine cal_ofG (T := TT P w K) (p := ("hand_of", none)) (N := ["deck", "level", "card"]) (ps := ["deck", "level"]) (k := 1) F sc_hand_of e.gl_hand_of (fun _ _ _ _ _ _ us hl => match us, hl with | [_, _], _ => rfl) (fun A outer s H E hr hq => ?_)
  exact b_one (s_ret (d_fz (d_lc (own := [("card", 2)]) (by rfl) sc_hand_of.nd (i_seq (d_sl (by rfl) (d_var 0) (d_noPart) (d_part (d_var 1)))) (blkOk_by (by kernel_rfl)) (fun _ _ _ _ _ => g_name (i := 2) sc_hand_of.nd (by rfl) (by first | exact Or.inl rfl | exact Or.inr rfl)) (fun _ _ _ _ _ => ts_one (t_cmp o_ge (d_callCG (k := lv_reach_of) (ok_reach_of e) (by rfl) (hr.mono (by decide)) hq takes0 (d_cons (d_var 2) (d_cons (d_callB (c_lenX (by rfl) (by rfl) (by rfl)) (by rfl) e.fr_len (by decide +kernel) (d_cons (d_var 0) (d_nil))) (d_nil)))) (d_var 1) (by first | exact nobehind _ (by decide) (by decide) | rfl))) (fun _ _ _ _ _ => d_var 2))))
/-! ring_of: 0 deck, 1 level -/
theorem sc_ring_of : FnScope ["deck", "level"] ["deck", "level"] (defScope s_ring_of) := ⟨rfl, rfl, rfl, by decide +kernel, rfl, by decide +kernel, by decide +kernel⟩
abbrev lv_ring_of : Nat := 3
theorem ok_ring_of {P : Program} {w : World} {mg : Str → Option Value} {base : Heap} {K : PySem.W.Frag} (e : Ev P w mg base K) : CalG P w mg base (TT P w K) lv_ring_of 2 "ring_of" (M_ring_of) := by
  obtain ⟨fd, F⟩ := e.says.def_ 14 (d := d_ring_of) rfl
  refine cal_ofG (T := TT P w K) (p := ("ring_of", none)) (N := ["deck", "level"]) (ps := ["deck", "level"]) (k := 2) F sc_ring_of e.gl_ring_of (fun _ _ _ _ _ _ us hl => match us, hl with | [_, _], _ => rfl) (fun A outer s H E hr hq => ?_)
  exact b_one (s_ret (d_bin o_add (d_callCG (k := lv_hand_of) (ok_hand_of e) (by rfl) (hr.mono (by decide)) hq bX_takes (d_cons (d_var 0) (d_cons (d_var 1) (d_nil)))) (d_fz (d_lst (d_cons (d_ix (x_ix (by rfl)) (d_var 0) (d_var 1)) (d_nil))))))
/-! require_level: 0 deck, 1 level -/
theorem sc_require_level : FnScope ["deck", "level"] ["deck", "level"] (defScope s_require_level) := ⟨rfl, rfl, rfl, by decide +kernel, rfl, by decide +kernel, by decide +kernel⟩
abbrev lv_require_level : Nat := 3
theorem ok_require_level {P : Program} {w : World} {mg : Str → Option Value} {base : Heap} {K : PySem.W.Frag} (e : Ev P w mg base K) : CalG P w mg base (TT P w K) lv_require_level 2 "require_level" (M_require_level K) := by
  obtain ⟨fd, F⟩ := e.says.def_ 15 (d := d_require_level) rfl
  refine cal_ofG (T := TT P w K) (p := ("require_level", none)) (N := ["deck", "level"]) (ps := ["deck", "level"]) (k := 2) F sc_require_level e.gl_require_level (fun _ _ _ _ _ _ us hl => match us, hl with | [_, _], _ => rfl) (fun A outer s H E hr hq => ?_)
  exact b_one (s_if (t_not (t_val (d_callCG (k := lv_is_number) (ok_is_number e) (by rfl) (hr.mono (by decide)) hq bX_takes (d_cons (d_var 1) (d_cons (d_bin o_sub (d_callCG (k := lv_closed_of) (ok_closed_of e) (by rfl) (hr.mono (by decide)) hq bX_takes (d_cons (d_var 0) (d_nil))) (d_int)) (d_nil)))))) (b_one (s_raise (by rfl) bX_takes e.gl_NoLevel e.ex_NoLevel)) (b_nil))
/-! place_of: 0 deck, 1 name -/
def m_q_place_of (K : PySem.W.Frag) : SF := sRt (eCl (M_q_find_place K) 2 (aCons (fz (eCl (M_deck_of K) 1 (aCons (eVar 0) (aNil)))) (aCons (eVar 1) (aNil))))
abbrev M_q_place_of (K : PySem.W.Frag) : List D → M D := fnM 2 (m_q_place_of K)
theorem sc_place_of : FnScope ["deck", "name"] ["deck", "name"] (defScope s_place_of) := ⟨rfl, rfl, rfl, by decide +kernel, rfl, by decide +kernel, by decide +kernel⟩
abbrev lv_place_of : Nat := 6
theorem ok_q_place_of {P : Program} {w : World} {mg : Str → Option Value} {base : Heap} {K : PySem.W.Frag} (e : Ev P w mg base K) : CalG P w mg base (TT P w K) lv_place_of 2 "place_of" (M_q_place_of K) := by
  obtain ⟨fd, F⟩ := e.says.def_ 16 (d := d_place_of) rfl
  refine cal_ofG (T := TT P w K) (p := ("place_of", none)) (N := ["deck", "name"]) (ps := ["deck", "name"]) (k := 5) F sc_place_of e.gl_place_of (fun _ _ _ _ _ _ us hl => match us, hl with | [_, _], _ => rfl) (fun A outer s H E hr hq => ?_)
  exact b_one (s_ret (d_callCG (k := lv_find_place) (ok_q_find_place e) (by rfl) (hr.mono (by decide)) hq bX_takes (d_cons (d_fz (d_callCG (k := lv_deck_of) (ok_deck_of e) (by rfl) (hr.mono (by decide)) hq bX_takes (d_cons (d_var 0) (d_nil)))) (d_cons (d_var 1) (d_nil)))))
/-! is_home: 0 deck, 1 name, 2 cards -/
def m_q_is_home (K : PySem.W.Frag) : SF := sSeq (sSet 2 (fz (eCl (M_deck_of K) 1 (aCons (eVar 0) (aNil))))) (sRt (eCl (M_is_home_at) 2 (aCons (eVar 2) (aCons (eCl (M_q_find_place K) 2 (aCons (eVar 2) (aCons (eVar 1) (aNil)))) (aNil)))))
abbrev M_q_is_home (K : PySem.W.Frag) : List D → M D := fnM 3 (m_q_is_home K)
theorem sc_is_home : FnScope ["deck", "name", "cards"] ["deck", "name"] (defScope s_is_home) := ⟨rfl, rfl, rfl, by decide +kernel, rfl, by decide +kernel, by decide +kernel⟩
abbrev lv_is_home : Nat := 6
theorem ok_q_is_home {P : Program} {w : World} {mg : Str → Option Value} {base : Heap} {K : PySem.W.Frag} (e : Ev P w mg base K) : CalG P w mg base (TT P w K) lv_is_home 2 "is_home" (M_q_is_home K) := by
  obtain ⟨fd, F⟩ := e.says.def_ 17 (d := d_is_home) rfl
  refine cal_ofG (T := TT P w K) (p := ("is_home", none)) (N := ["deck", "name", "cards"]) (ps := ["deck", "name"]) (k := 5) F sc_is_home e.gl_is_home (fun _ _ _ _ _ _ us hl => match us, hl with | [_, _], _ => rfl) (fun A outer s H E hr hq => ?_)
  exact b_cons (s_set (i := 2) sc_is_home.nd (by rfl) (by first | exact Or.inl rfl | exact Or.inr rfl) (d_fz (d_callCG (k := lv_deck_of) (ok_deck_of e) (by rfl) (hr.mono (by decide)) hq bX_takes (d_cons (d_var 0) (d_nil)))))
      (b_one (s_ret (d_callCG (k := lv_is_home_at) (ok_is_home_at e) (by rfl) (hr.mono (by decide)) hq bX_takes (d_cons (d_var 2) (d_cons (d_callCG (k := lv_find_place) (ok_q_find_place e) (by rfl) (hr.mono (by decide)) hq bX_takes (d_cons (d_var 2) (d_cons (d_var 1) (d_nil)))) (d_nil))))))
/-! closed_place: 0 deck -/
theorem sc_closed_place : FnScope ["deck"] ["deck"] (defScope s_closed_place) := ⟨rfl, rfl, rfl, by decide +kernel, rfl, by decide +kernel, by decide +kernel⟩
abbrev lv_closed_place : Nat := 6
theorem ok_closed_place {P : Program} {w : World} {mg : Str → Option Value} {base : Heap} {K : PySem.W.Frag} (e : Ev P w mg base K) : CalG P w mg base (TT P w K) lv_closed_place 1 "closed_place" (M_closed_place K) := by
  obtain ⟨fd, F⟩ := e.says.def_ 18 (d := d_closed_place) rfl
  refine cal_ofG (T := TT P w K) (p := ("closed_place", none)) (N := ["deck"]) (ps := ["deck"]) (k := 5) F sc_closed_place e.gl_closed_place (fun _ _ _ _ _ _ us hl => match us, hl with | [_], _ => rfl) (fun A outer s H E hr hq => ?_)
  exact b_one (s_ret (d_callCG (k := lv_closed_of) (ok_closed_of e) (by rfl) (hr.mono (by decide)) hq bX_takes (d_cons (d_fz (d_callCG (k := lv_deck_of) (ok_deck_of e) (by rfl) (hr.mono (by decide)) hq bX_takes (d_cons (d_var 0) (d_nil)))) (d_nil))))
/-! away: 0 deck, 1 cards, 2 place -/
theorem sc_away : FnScope ["deck", "cards", "place"] ["deck"] (defScope s_away) := ⟨rfl, rfl, rfl, by decide +kernel, rfl, by decide +kernel, by decide +kernel⟩
abbrev lv_away : Nat := 6
theorem ok_away {P : Program} {w : World} {mg : Str → Option Value} {base : Heap} {K : PySem.W.Frag} (e : Ev P w mg base K) : CalG P w mg base (TT P w K) lv_away 1 "away" (M_away K) := by
  obtain ⟨fd, F⟩ := e.says.def_ 19 (d := d_away) rfl
  refine cal_ofG (T := TT P w K) (p := ("away", none)) (N := ["deck", "cards", "place"]) (ps := ["deck"]) (k := 5) F sc_away e.gl_away (fun _ _ _ _ _ _ us hl => match us, hl with | [_], _ => rfl) (fun A outer s H E hr hq => ?_)
  exact b_cons (s_set (i := 1) sc_away.nd (by rfl) (by first | exact Or.inl rfl | exact Or.inr rfl) (d_fz (d_callCG (k := lv_deck_of) (ok_deck_of e) (by rfl) (hr.mono (by decide)) hq bX_takes (d_cons (d_var 0) (d_nil)))))
      (b_one (s_ret (d_fz (d_lc (own := [("place", 2)]) (by rfl) sc_away.nd (i_seq (d_callCG (k := lv_away_places) (ok_away_places e) (by rfl) (hr.mono (by decide)) hq bX_takes (d_cons (d_var 1) (d_nil)))) (blkOk_by (by kernel_rfl)) (fun _ _ _ _ _ => g_name (i := 2) sc_away.nd (by rfl) (by first | exact Or.inl rfl | exact Or.inr rfl)) (fun _ _ _ _ _ => ts_nil) (fun _ _ _ _ _ => d_ix (x_ix (by rfl)) (d_ix (x_ix (by rfl)) (d_var 1) (d_var 2)) (d_int))))))
/-! hand_at: 0 deck, 1 level, 2 cards -/
theorem sc_hand_at : FnScope ["deck", "level", "cards"] ["deck", "level"] (defScope s_hand_at) := ⟨rfl, rfl, rfl, by decide +kernel, rfl, by decide +kernel, by decide +kernel⟩
abbrev lv_hand_at : Nat := 6
theorem ok_hand_at {P : Program} {w : World} {mg : Str → Option Value} {base : Heap} {K : PySem.W.Frag} (e : Ev P w mg base K) : CalG P w mg base (TT P w K) lv_hand_at 2 "hand_at" (M_hand_at K) := by
  obtain ⟨fd, F⟩ := e.says.def_ 20 (d := d_hand_at) rfl
  refine cal_ofG (T := TT P w K) (p := ("hand_at", none)) (N := ["deck", "level", "cards"]) (ps := ["deck", "level"]) (k := 5) F sc_hand_at e.gl_hand_at (fun _ _ _ _ _ _ us hl => match us, hl with | [_, _], _ => rfl) (fun A outer s H E hr hq => ?_)
  exact b_cons (s_set (i := 2) sc_hand_at.nd (by rfl) (by first | exact Or.inl rfl | exact Or.inr rfl) (d_fz (d_callCG (k := lv_deck_of) (ok_deck_of e) (by rfl) (hr.mono (by decide)) hq bX_takes (d_cons (d_var 0) (d_nil)))))
      (b_cons (s_expr (d_callCG (k := lv_require_level) (ok_require_level e) (by rfl) (hr.mono (by decide)) hq bX_takes (d_cons (d_var 2) (d_cons (d_var 1) (d_nil)))))
      (b_one (s_ret (d_callCG (k := lv_names_of) (ok_names_of e) (by rfl) (hr.mono (by decide)) hq bX_takes (d_cons (d_callCG (k := lv_hand_of) (ok_hand_of e) (by rfl) (hr.mono (by decide)) hq bX_takes (d_cons (d_var 2) (d_cons (d_var 1) (d_nil)))) (d_nil))))))
/-! ring_at: 0 deck, 1 level, 2 cards -/
theorem sc_ring_at : FnScope ["deck", "level", "cards"] ["deck", "level"] (defScope s_ring_at) := ⟨rfl, rfl, rfl, by decide +kernel, rfl, by decide +kernel, by decide +kernel⟩
abbrev lv_ring_at : Nat := 6
theorem ok_ring_at {P : Program} {w : World} {mg : Str → Option Value} {base : Heap} {K : PySem.W.Frag} (e : Ev P w mg base K) : CalG P w mg base (TT P w K) lv_ring_at 2 "ring_at" (M_ring_at K) := by
  obtain ⟨fd, F⟩ := e.says.def_ 21 (d := d_ring_at) rfl
  refine cal_ofG (T := TT P w K) (p := ("ring_at", none)) (N := ["deck", "level", "cards"]) (ps := ["deck", "level"]) (k := 5) F sc_ring_at e.gl_ring_at (fun _ _ _ _ _ _ us hl => match us, hl with | [_, _], _ => rfl) (fun A outer s H E hr hq => ?_)
  exact b_cons (s_set (i := 2) sc_ring_at.nd (by rfl) (by first | exact Or.inl rfl | exact Or.inr rfl) (d_fz (d_callCG (k := lv_deck_of) (ok_deck_of e) (by rfl) (hr.mono (by decide)) hq bX_takes (d_cons (d_var 0) (d_nil)))))
      (b_cons (s_expr (d_callCG (k := lv_require_level) (ok_require_level e) (by rfl) (hr.mono (by decide)) hq bX_takes (d_cons (d_var 2) (d_cons (d_var 1) (d_nil)))))
      (b_one (s_ret (d_callCG (k := lv_names_of) (ok_names_of e) (by rfl) (hr.mono (by decide)) hq bX_takes (d_cons (d_callCG (k := lv_ring_of) (ok_ring_of e) (by rfl) (hr.mono (by decide)) hq bX_takes (d_cons (d_var 2) (d_cons (d_var 1) (d_nil)))) (d_nil))))))
/-! _law_spring: 0 script, 1 figures, 2 stir, 3 cell -/
theorem sc_law_spring : FnScope ["script", "figures", "stir", "cell"] ["script"] (defScope s_law_spring) := ⟨rfl, rfl, rfl, by decide +kernel, rfl, by decide +kernel, by decide +kernel⟩
abbrev lv_law_spring : Nat := 1
theorem ok_law_spring {P : Program} {w : World} {mg : Str → Option Value} {base : Heap} {K : PySem.W.Frag} (e : Ev P w mg base K) : CalG P w mg base (TT P w K) lv_law_spring 1 "_law_spring" (M_law_spring) := by
  obtain ⟨fd, F⟩ := e.says.def_ 22 (d := d_law_spring) rfl
  refine cal_ofG (T := TT P w K) (p := ("_law_spring", none)) (N := ["script", "figures", "stir", "cell"]) (ps := ["script"]) (k := 0) F sc_law_spring e.gl__law_spring (fun _ _ _ _ _ _ us hl => match us, hl with | [_], _ => rfl) (fun A outer s H E hr hq => ?_)
  exact b_cons (s_set (i := 1) sc_law_spring.nd (by rfl) (by first | exact Or.inl rfl | exact Or.inr rfl) (d_int))
      (b_cons (s_set (i := 2) sc_law_spring.nd (by rfl) (by first | exact Or.inl rfl | exact Or.inr rfl) (d_int))
      (b_cons (s_for bX_passes (by rfl) (i_seq (d_sl (by rfl) (d_var 0) (d_noPart) (d_part (d_int)))) (g_name (i := 3) sc_law_spring.nd (by rfl) (by first | exact Or.inl rfl | exact Or.inr rfl))
      (b_cons (s_if (t_cmp o_ge (d_callB (c_abs) (by rfl) e.fr_abs (by decide +kernel) (d_cons (d_var 3) (d_nil))) (d_bin o_pow (d_int) (d_int)) (by first | exact nobehind _ (by decide) (by decide) | rfl)) (b_one (s_set (i := 1) sc_law_spring.nd (by rfl) (by first | exact Or.inl rfl | exact Or.inr rfl) (d_bin o_add (d_bin o_mul (d_var 1) (d_bin o_pow (d_int) (d_int))) (d_bin o_mod (d_callB (c_abs) (by rfl) e.fr_abs (by decide +kernel) (d_cons (d_var 3) (d_nil))) (d_bin o_pow (d_int) (d_int)))))) (b_nil))
      (b_one (s_set (i := 2) sc_law_spring.nd (by rfl) (by first | exact Or.inl rfl | exact Or.inr rfl) (d_bin o_mod (d_bin o_add (d_bin o_add (d_bin o_mul (d_var 2) (d_int)) (d_bin o_mod (d_var 3) (d_int))) (d_int)) (d_int))))))
      (b_one (s_ret (d_lst (d_cons (d_var 1) (d_cons (d_var 2) (d_cons (d_int) (d_nil)))))))))
/-! _law_draw: 0 spring, 1 many, 2 found, 3 stir -/
theorem sc_law_draw : FnScope ["spring", "many", "found", "stir"] ["spring", "many"] (defScope s_law_draw) := ⟨rfl, rfl, rfl, by decide +kernel, rfl, by decide +kernel, by decide +kernel⟩
abbrev lv_law_draw : Nat := 1
theorem ok_law_draw {P : Program} {w : World} {mg : Str → Option Value} {base : Heap} {K : PySem.W.Frag} (e : Ev P w mg base K) : CalG P w mg base (TT P w K) lv_law_draw 2 "_law_draw" (M_law_draw) := by
  obtain ⟨fd, F⟩ := e.says.def_ 23 (d := d_law_draw) rfl
  refine cal_ofG (T := TT P w K) (p := ("_law_draw", none)) (N := ["spring", "many", "found", "stir"]) (ps := ["spring", "many"]) (k := 0) F sc_law_draw e.gl__law_draw (fun _ _ _ _ _ _ us hl => match us, hl with | [_, _], _ => rfl) (fun A outer s H E hr hq => ?_)
  exact b_cons (s_if (t_cmp o_gt (d_ix (x_ix (by rfl)) (d_var 0) (d_int)) (d_int) (by first | exact nobehind _ (by decide) (by decide) | rfl)) (b_cons (s_set (i := 2) sc_law_draw.nd (by rfl) (by first | exact Or.inl rfl | exact Or.inr rfl) (d_bin o_mod (d_ix (x_ix (by rfl)) (d_var 0) (d_int)) (d_var 1)))
      (b_cons (s_put (d_bin o_div (d_ix (x_ix (by rfl)) (d_var 0) (d_int)) (d_var 1)) (d_var 0) (d_int))
      (b_one (s_ret (d_var 2))))) (b_nil))
      (b_cons (s_put (d_bin o_add (d_ix (x_ix (by rfl)) (d_var 0) (d_int)) (d_int)) (d_var 0) (d_int))
      (b_cons (s_set (i := 3) sc_law_draw.nd (by rfl) (by first | exact Or.inl rfl | exact Or.inr rfl) (d_bin o_mod (d_bin o_mul (d_ix (x_ix (by rfl)) (d_var 0) (d_int)) (d_ix (x_ix (by rfl)) (d_var 0) (d_int))) (d_int)))
      (b_cons (s_put (d_bin o_mod (d_bin o_add (d_bin o_add (d_var 3) (d_bin o_mul (d_bin o_mul (d_int) (d_ix (x_ix (by rfl)) (d_var 0) (d_int))) (d_ix (x_ix (by rfl)) (d_var 0) (d_int)))) (d_int)) (d_int)) (d_var 0) (d_int))
      (b_one (s_ret (d_bin o_mod (d_bin o_div (d_ix (x_ix (by rfl)) (d_var 0) (d_int)) (d_int)) (d_var 1)))))))
/-! _law_names: 0 spring, 1 many, 2 spare, 3 k, 4 found, 5 letters, 6 word, 7 sign, 8 one -/
theorem sc_law_names : FnScope ["spring", "many", "spare", "k", "found", "letters", "word", "sign", "one"] ["spring", "many"] (defScope s_law_names) := ⟨rfl, rfl, rfl, by decide +kernel, rfl, by decide +kernel, by decide +kernel⟩
abbrev lv_law_names : Nat := 2
theorem ok_law_names {P : Program} {w : World} {mg : Str → Option Value} {base : Heap} {K : PySem.W.Frag} (e : Ev P w mg base K) : CalG P w mg base (TT P w K) lv_law_names 2 "_law_names" (M_law_names) := by
  obtain ⟨fd, F⟩ := e.says.def_ 24 (d := d_law_names) rfl
  refine cal_ofG (T := TT P w K) (p := ("_law_names", none)) (N := ["spring", "many", "spare", "k", "found", "letters", "word", "sign", "one"]) (ps := ["spring", "many"]) (k := 1) F sc_law_names e.gl__law_names (fun _ _ _ _ _ _ us hl => match us, hl with | [_, _], _ => rfl) (fun A outer s H E hr hq => ?_)
  exact b_cons (s_setLc (i := 2) (own := [("k", 3)]) (by rfl) sc_law_names.nd (by rfl) (by rfl) (by rfl) (i_rg1 (by rfl) e.fr_range (d_cons (d_int) (d_nil))) (blkOk_by (by kernel_rfl)) (fun _ _ _ _ _ => g_name (i := 3) sc_law_names.nd (by rfl) (by first | exact Or.inl rfl | exact Or.inr rfl)) (fun _ _ _ _ _ => ts_nil) (fun _ _ _ _ _ => d_bin o_add (d_bin o_add (d_str) (d_ix (x_ix (by rfl)) (d_str) (d_bin o_div (d_var 3) (d_int)))) (d_ix (x_ix (by rfl)) (d_str) (d_bin o_mod (d_var 3) (d_int)))))
      (b_cons (s_set (i := 4) sc_law_names.nd (by rfl) (by first | exact Or.inl rfl | exact Or.inr rfl) (d_lst (d_nil)))
      (b_cons (s_for bX_passes (by rfl) (i_rg1 (by rfl) e.fr_range (d_cons (d_var 1) (d_nil))) (g_name (i := 3) sc_law_names.nd (by rfl) (by first | exact Or.inl rfl | exact Or.inr rfl))
      (b_cons (s_set (i := 5) sc_law_names.nd (by rfl) (by first | exact Or.inl rfl | exact Or.inr rfl) (d_ix (x_ix (by rfl)) (d_lst (d_cons (d_str) (d_cons (d_str) (d_nil)))) (d_callCG (k := lv_law_draw) (ok_law_draw e) (by rfl) (hr.mono (by decide)) hq bX_takes (d_cons (d_var 0) (d_cons (d_int) (d_nil))))))
      (b_cons (s_set (i := 6) sc_law_names.nd (by rfl) (by first | exact Or.inl rfl | exact Or.inr rfl) (d_bm PySem.F.plainAttrs_str PySem.F.slot_str_join PySem.F.type_str_join (m_join (by rfl)) (d_str) (d_cons (d_lc (own := [("sign", 7)]) (by rfl) sc_law_names.nd (i_rg1 (by rfl) e.fr_range (d_cons (d_bin o_add (d_int) (d_callCG (k := lv_law_draw) (ok_law_draw e) (by rfl) (hr.mono (by decide)) hq bX_takes (d_cons (d_var 0) (d_cons (d_int) (d_nil))))) (d_nil))) (blkOk_by (by kernel_rfl)) (fun _ _ _ _ _ => g_name (i := 7) sc_law_names.nd (by rfl) (by first | exact Or.inl rfl | exact Or.inr rfl)) (fun _ _ _ _ _ => ts_nil) (fun _ _ _ _ _ => d_ix (x_ix (by rfl)) (d_var 5) (d_callCG (k := lv_law_draw) (ok_law_draw e) (by rfl) (hr.mono (by decide)) hq takes0 (d_cons (d_var 0) (d_cons (d_callB (c_lenX (by rfl) (by rfl) (by rfl)) (by rfl) e.fr_len (by decide +kernel) (d_cons (d_var 5) (d_nil))) (d_nil)))))) (d_nil))))
      (b_one (s_expr (d_bm PySem.F.plainAttrs_list PySem.F.slot_list_append PySem.F.type_list_append (m_append) (d_var 4) (d_cons (d_ix (x_ix (by rfl)) (d_lc (own := [("one", 8)]) (by rfl) sc_law_names.nd (i_seq (d_bin o_add (d_lst (d_cons (d_var 6) (d_nil))) (d_var 2))) (blkOk_by (by kernel_rfl)) (fun _ _ _ _ _ => g_name (i := 8) sc_law_names.nd (by rfl) (by first | exact Or.inl rfl | exact Or.inr rfl)) (fun _ _ _ _ _ => ts_one (t_cmp (o_notIn hr.u65) (d_var 8) (d_var 4) (by first | exact nobehind _ (by decide) (by decide) | rfl))) (fun _ _ _ _ _ => d_var 8)) (d_int)) (d_nil))))))))
      (b_one (s_ret (d_var 4)))))
/-! _law_deck: 0 spring, 1 most, 2 many, 3 kind, 4 alike, 5 found, 6 name, 7 place, 8 some -/
theorem sc_law_deck : FnScope ["spring", "most", "many", "kind", "alike", "found", "name", "place", "some"] ["spring", "most"] (defScope s_law_deck) := ⟨rfl, rfl, rfl, by decide +kernel, rfl, by decide +kernel, by decide +kernel⟩
abbrev lv_law_deck : Nat := 3
theorem ok_n_law_deck {P : Program} {w : World} {mg : Str → Option Value} {base : Heap} {K : PySem.W.Frag} (e : Ev P w mg base K) : CalG P w mg base (TT P w K) lv_law_deck 2 "_law_deck" (M_n_law_deck) := by
  obtain ⟨fd, F⟩ := e.says.def_ 25 (d := d_law_deck) rfl
  refine cal_ofG (T := TT P w K) (p := ("_law_deck", none)) (N := ["spring", "most", "many", "kind", "alike", "found", "name", "place", "some"]) (ps := ["spring", "most"]) (k := 2) F sc_law_deck e.gl__law_deck (fun _ _ _ _ _ _ us hl => match us, hl with | [_, _], _ => rfl) (fun A outer s H E hr hq => ?_)
  exact b_cons (s_set (i := 2) sc_law_deck.nd (by rfl) (by first | exact Or.inl rfl | exact Or.inr rfl) (d_bin o_add (d_int) (d_callCG (k := lv_law_draw) (ok_law_draw e) (by rfl) (hr.mono (by decide)) hq bX_takes (d_cons (d_var 0) (d_cons (d_ix (x_ix (by rfl)) (d_lst (d_cons (d_int) (d_cons (d_int) (d_cons (d_var 1) (d_nil))))) (d_callCG (k := lv_law_draw) (ok_law_draw e) (by rfl) (hr.mono (by decide)) hq bX_takes (d_cons (d_var 0) (d_cons (d_int) (d_nil))))) (d_nil))))))
      (b_cons (s_set (i := 3) sc_law_deck.nd (by rfl) (by first | exact Or.inl rfl | exact Or.inr rfl) (d_callCG (k := lv_law_draw) (ok_law_draw e) (by rfl) (hr.mono (by decide)) hq bX_takes (d_cons (d_var 0) (d_cons (d_int) (d_nil)))))
      (b_cons (s_set (i := 4) sc_law_deck.nd (by rfl) (by first | exact Or.inl rfl | exact Or.inr rfl) (d_callCG (k := lv_law_draw) (ok_law_draw e) (by rfl) (hr.mono (by decide)) hq bX_takes (d_cons (d_var 0) (d_cons (d_var 2) (d_nil)))))
      (b_cons (s_set (i := 5) sc_law_deck.nd (by rfl) (by first | exact Or.inl rfl | exact Or.inr rfl) (d_lst (d_nil)))
      (b_cons (s_for bX_passes (by rfl) (i_seq (d_callCG (k := lv_law_names) (ok_law_names e) (by rfl) (hr.mono (by decide)) hq bX_takes (d_cons (d_var 0) (d_cons (d_var 2) (d_nil))))) (g_name (i := 6) sc_law_deck.nd (by rfl) (by first | exact Or.inl rfl | exact Or.inr rfl))
      (b_cons (s_set (i := 7) sc_law_deck.nd (by rfl) (by first | exact Or.inl rfl | exact Or.inr rfl) (d_callB (c_lenX (by rfl) (by rfl) (by rfl)) (by rfl) e.fr_len (by decide +kernel) (d_cons (d_var 5) (d_nil))))
      (b_cons (s_set (i := 8) sc_law_deck.nd (by rfl) (by first | exact Or.inl rfl | exact Or.inr rfl) (d_lst (d_cons (d_callCG (k := lv_law_draw) (ok_law_draw e) (by rfl) (hr.mono (by decide)) hq bX_takes (d_cons (d_var 0) (d_cons (d_int) (d_nil)))) (d_cons (d_callCG (k := lv_law_draw) (ok_law_draw e) (by rfl) (hr.mono (by decide)) hq bX_takes (d_cons (d_var 0) (d_cons (d_var 2) (d_nil)))) (d_cons (d_callB (c_max (by rfl) (by rfl)) (by rfl) e.fr_max (by decide +kernel) (d_cons (d_int) (d_cons (d_bin o_sub (d_bin o_add (d_var 7) (d_callCG (k := lv_law_draw) (ok_law_draw e) (by rfl) (hr.mono (by decide)) hq bX_takes (d_cons (d_var 0) (d_cons (d_int) (d_nil))))) (d_int)) (d_nil)))) (d_cons (d_var 4) (d_nil)))))))
      (b_cons (s_set (i := 8) sc_law_deck.nd (by rfl) (by first | exact Or.inl rfl | exact Or.inr rfl) (d_bin o_add (d_var 8) (d_lst (d_cons (d_bin o_add (d_var 2) (d_callCG (k := lv_law_draw) (ok_law_draw e) (by rfl) (hr.mono (by decide)) hq bX_takes (d_cons (d_var 0) (d_cons (d_int) (d_nil))))) (d_cons (d_bin o_sub (d_bin o_sub (d_bin o_pow (d_int) (d_int)) (d_int)) (d_callCG (k := lv_law_draw) (ok_law_draw e) (by rfl) (hr.mono (by decide)) hq bX_takes (d_cons (d_var 0) (d_cons (d_int) (d_nil))))) (d_cons (d_bin o_sub (d_bin o_sub (d_var 2) (d_int)) (d_var 7)) (d_nil)))))))
      (b_one (s_expr (d_bm PySem.F.plainAttrs_list PySem.F.slot_list_append PySem.F.type_list_append (m_append) (d_var 5) (d_cons (d_tup (d_cons (d_var 6) (d_cons (d_ix (x_ix (by rfl)) (d_var 8) (d_ix (x_ix (by rfl)) (d_lst (d_cons (d_var 3) (d_cons (d_callCG (k := lv_law_draw) (ok_law_draw e) (by rfl) (hr.mono (by decide)) hq bX_takes (d_cons (d_var 0) (d_cons (d_int) (d_nil)))) (d_nil)))) (d_callTy (c_int) (by rfl) e.fr_int (by decide +kernel) (d_cons (d_cmp (o_eq hr.u64) (d_callCG (k := lv_law_draw) (ok_law_draw e) (by rfl) (hr.mono (by decide)) hq bX_takes (d_cons (d_var 0) (d_cons (d_int) (d_nil)))) (d_int) (by first | exact nobehind _ (by decide) (by decide) | rfl)) (d_nil))))) (d_nil)))) (d_nil)))))))))
      (b_one (s_ret (d_callTy (c_tupleN (by rfl)) (by rfl) e.fr_tuple (by decide +kernel) (d_cons (d_var 5) (d_nil)))))))))
/-! _law_no_deck: 0 spring, 1 deck, 2 at, 3 name, 4 depth, 5 card, 6 some, 7 k -/
theorem sc_law_no_deck : FnScope ["spring", "deck", "at", "name", "depth", "card", "some", "k"] ["spring", "deck"] (defScope s_law_no_deck) := ⟨rfl, rfl, rfl, by decide +kernel, rfl, by decide +kernel, by decide +kernel⟩
abbrev lv_law_no_deck : Nat := 2
theorem ok_n_law_no_deck {P : Program} {w : World} {mg : Str → Option Value} {base : Heap} {K : PySem.W.Frag} (e : Ev P w mg base K) : CalG P w mg base (TT P w K) lv_law_no_deck 2 "_law_no_deck" (M_n_law_no_deck) := by
  obtain ⟨fd, F⟩ := e.says.def_ 26 (d := d_law_no_deck) rfl
  refine cal_ofG (T := TT P w K) (p := ("_law_no_deck", none)) (N := ["spring", "deck", "at", "name", "depth", "card", "some", "k"]) (ps := ["spring", "deck"]) (k := 1) F sc_law_no_deck e.gl__law_no_deck (fun _ _ _ _ _ _ us hl => match us, hl with | [_, _], _ => rfl) (fun A outer s H E hr hq => ?_)
  exact b_cons (s_set (i := 2) sc_law_no_deck.nd (by rfl) (by first | exact Or.inl rfl | exact Or.inr rfl) (d_callCG (k := lv_law_draw) (ok_law_draw e) (by rfl) (hr.mono (by decide)) hq bX_takes (d_cons (d_var 0) (d_cons (d_callB (c_lenX (by rfl) (by rfl) (by rfl)) (by rfl) e.fr_len (by decide +kernel) (d_cons (d_fg (d_var 1)) (d_nil))) (d_nil)))))
      (b_cons (s_asg (d_ix (x_ix (by rfl)) (d_fg (d_var 1)) (d_var 2)) (g_two (i := 3) (j := 4) (by rfl) (by rfl) sc_law_no_deck.nd (by rfl) (by first | exact Or.inl rfl | exact Or.inr rfl) (by rfl) (by first | exact Or.inl rfl | exact Or.inr rfl)))
      (b_cons (s_set (i := 5) sc_law_no_deck.nd (by rfl) (by first | exact Or.inl rfl | exact Or.inr rfl) (d_fz (d_lst (d_cons (d_tup (d_cons (d_var 3) (d_cons (d_neg (d_int)) (d_nil)))) (d_cons (d_tup (d_cons (d_var 3) (d_cons (d_bl) (d_nil)))) (d_cons (d_tup (d_cons (d_var 3) (d_cons (d_non) (d_nil)))) (d_cons (d_tup (d_cons (d_var 3) (d_cons (d_str) (d_nil)))) (d_cons (d_tup (d_cons (d_var 3) (d_nil))) (d_cons (d_tup (d_cons (d_var 3) (d_cons (d_var 4) (d_cons (d_int) (d_nil))))) (d_cons (d_tup (d_cons (d_str) (d_cons (d_int) (d_nil)))) (d_cons (d_tup (d_cons (d_str) (d_cons (d_int) (d_nil)))) (d_cons (d_non) (d_nil)))))))))))))
      (b_cons (s_set (i := 5) sc_law_no_deck.nd (by rfl) (by first | exact Or.inl rfl | exact Or.inr rfl) (d_bin o_add (d_var 5) (d_fz (d_lst (d_cons (d_tup (d_cons (d_str) (d_cons (d_int) (d_nil)))) (d_cons (d_tup (d_cons (d_str) (d_cons (d_int) (d_nil)))) (d_cons (d_tup (d_cons (d_int) (d_cons (d_int) (d_nil)))) (d_cons (d_tup (d_cons (d_non) (d_cons (d_int) (d_nil)))) (d_cons (d_tup (d_cons (d_str) (d_cons (d_fz (d_lst (d_cons (d_int) (d_nil)))) (d_nil)))) (d_cons (d_var 3) (d_cons (d_fz (d_lst (d_nil))) (d_cons (d_tup (d_cons (d_var 4) (d_cons (d_var 3) (d_nil)))) (d_cons (d_tup (d_cons (d_str) (d_cons (d_int) (d_nil)))) (d_nil))))))))))))))
      (b_cons (s_set (i := 6) sc_law_no_deck.nd (by rfl) (by first | exact Or.inl rfl | exact Or.inr rfl) (d_lst (d_cons (d_non) (d_cons (d_int) (d_cons (d_bl) (d_cons (d_str) (d_cons (d_tup (d_nil)) (d_cons (d_fz (d_lst (d_nil))) (d_cons (d_fz (d_dct0)) (d_cons (d_ix (x_ix (by rfl)) (d_fg (d_var 1)) (d_int)) (d_cons (d_fz (d_callTy (c_dictN (by rfl) (by rfl)) (by rfl) e.fr_dict (by decide +kernel) (d_cons (d_var 1) (d_nil)))) (d_cons (d_bin o_add (d_fg (d_var 1)) (d_sl (by rfl) (d_fg (d_var 1)) (d_part (d_var 2)) (d_part (d_bin o_add (d_var 2) (d_int))))) (d_cons (d_bin o_add (d_fg (d_var 1)) (d_tup (d_cons (d_tup (d_cons (d_var 3) (d_cons (d_int) (d_nil)))) (d_nil)))) (d_nil))))))))))))))
      (b_cons (s_expr (d_bm PySem.F.plainAttrs_list PySem.F.slot_list_append PySem.F.type_list_append (m_append) (d_var 6) (d_cons (d_callTy (c_tuple (by rfl)) (by rfl) e.fr_tuple (by decide +kernel) (d_cons (d_fz (d_lc (own := [("k", 7)]) (by rfl) sc_law_no_deck.nd (i_rg1 (by rfl) e.fr_range (d_cons (d_int) (d_nil))) (blkOk_by (by kernel_rfl)) (fun _ _ _ _ _ => g_name (i := 7) sc_law_no_deck.nd (by rfl) (by first | exact Or.inl rfl | exact Or.inr rfl)) (fun _ _ _ _ _ => ts_nil) (fun _ _ _ _ _ => d_tup (d_cons (d_bin o_add (d_bin o_add (d_str) (d_ix (x_ix (by rfl)) (d_str) (d_bin o_div (d_var 7) (d_int)))) (d_ix (x_ix (by rfl)) (d_str) (d_bin o_mod (d_var 7) (d_int)))) (d_cons (d_var 7) (d_nil)))))) (d_nil))) (d_nil))))
      (b_cons (s_expr (d_bm PySem.F.plainAttrs_list PySem.F.slot_list_append PySem.F.type_list_append (m_append) (d_var 6) (d_cons (d_bin o_add (d_bin o_add (d_sl (by rfl) (d_fg (d_var 1)) (d_noPart) (d_part (d_var 2))) (d_tup (d_cons (d_ix (x_ix (by rfl)) (d_fg (d_var 1)) (d_callCG (k := lv_law_draw) (ok_law_draw e) (by rfl) (hr.mono (by decide)) hq bX_takes (d_cons (d_var 0) (d_cons (d_callB (c_lenX (by rfl) (by rfl) (by rfl)) (by rfl) e.fr_len (by decide +kernel) (d_cons (d_fg (d_var 1)) (d_nil))) (d_nil))))) (d_nil)))) (d_sl (by rfl) (d_fg (d_var 1)) (d_part (d_var 2)) (d_noPart))) (d_nil))))
      (b_cons (s_if (t_cmp (o_eq hr.u64) (d_callCG (k := lv_law_draw) (ok_law_draw e) (by rfl) (hr.mono (by decide)) hq bX_takes (d_cons (d_var 0) (d_cons (d_int) (d_nil)))) (d_int) (by first | exact nobehind _ (by decide) (by decide) | rfl)) (b_one (s_ret (d_ix (x_ix (by rfl)) (d_var 6) (d_callCG (k := lv_law_draw) (ok_law_draw e) (by rfl) (hr.mono (by decide)) hq bX_takes (d_cons (d_var 0) (d_cons (d_int) (d_nil))))))) (b_nil))
      (b_one (s_ret (d_bin o_add (d_bin o_add (d_sl (by rfl) (d_fg (d_var 1)) (d_noPart) (d_part (d_var 2))) (d_tup (d_cons (d_ix (x_ix (by rfl)) (d_var 5) (d_callCG (k := lv_law_draw) (ok_law_draw e) (by rfl) (hr.mono (by decide)) hq bX_takes (d_cons (d_var 0) (d_cons (d_int) (d_nil))))) (d_nil)))) (d_sl (by rfl) (d_fg (d_var 1)) (d_part (d_bin o_add (d_var 2) (d_int))) (d_noPart))))))))))))
/-! _law_word: 0 caught, 1 some, 2 words -/
theorem sc_law_word : FnScope ["caught", "some", "words"] ["caught"] (defScope s_law_word) := ⟨rfl, rfl, rfl, by decide +kernel, rfl, by decide +kernel, by decide +kernel⟩
abbrev lv_law_word : Nat := 1
theorem ok_law_word {P : Program} {w : World} {mg : Str → Option Value} {base : Heap} {K : PySem.W.Frag} (e : Ev P w mg base K) : CalG P w mg base (TT P w K) lv_law_word 1 "_law_word" (M_law_word K) := by
  obtain ⟨fd, F⟩ := e.says.def_ 27 (d := d_law_word) rfl
  refine cal_ofG (T := TT P w K) (p := ("_law_word", none)) (N := ["caught", "some", "words"]) (ps := ["caught"]) (k := 0) F sc_law_word e.gl__law_word (fun _ _ _ _ _ _ us hl => match us, hl with | [_], _ => rfl) (fun A outer s H E hr hq => ?_)
  exact b_cons (s_if (ptw (w_or (t_not (t_val (d_isX (by rfl) e.fr_isinstance (by rfl) e.gl_DeckError (d_var 0)))) (w_or1 (t_not (t_val (d_isXB (by rfl) e.fr_isinstance (by rfl) e.fr_ValueError (by decide +kernel) (d_var 0))))))) (b_one (s_ret (d_str))) (b_nil))
      (b_cons (s_set (i := 1) sc_law_word.nd (by rfl) (by first | exact Or.inl rfl | exact Or.inr rfl) (d_fz (d_lst (d_cons (d_isX (by rfl) e.fr_isinstance (by rfl) e.gl_NoDeck (d_var 0)) (d_cons (d_isX (by rfl) e.fr_isinstance (by rfl) e.gl_NoCard (d_var 0)) (d_cons (d_isX (by rfl) e.fr_isinstance (by rfl) e.gl_NoName (d_var 0)) (d_nil)))))))
      (b_cons (s_set (i := 1) sc_law_word.nd (by rfl) (by first | exact Or.inl rfl | exact Or.inr rfl) (d_bin o_add (d_var 1) (d_fz (d_lst (d_cons (d_isX (by rfl) e.fr_isinstance (by rfl) e.gl_NoDepth (d_var 0)) (d_cons (d_isX (by rfl) e.fr_isinstance (by rfl) e.gl_NoPlace (d_var 0)) (d_cons (d_isX (by rfl) e.fr_isinstance (by rfl) e.gl_Twice (d_var 0)) (d_nil))))))))
      (b_cons (s_set (i := 1) sc_law_word.nd (by rfl) (by first | exact Or.inl rfl | exact Or.inr rfl) (d_bin o_add (d_var 1) (d_fz (d_lst (d_cons (d_isX (by rfl) e.fr_isinstance (by rfl) e.gl_Full (d_var 0)) (d_cons (d_isX (by rfl) e.fr_isinstance (by rfl) e.gl_Last (d_var 0)) (d_cons (d_isX (by rfl) e.fr_isinstance (by rfl) e.gl_NoNumber (d_var 0)) (d_nil))))))))
      (b_cons (s_set (i := 1) sc_law_word.nd (by rfl) (by first | exact Or.inl rfl | exact Or.inr rfl) (d_bin o_add (d_var 1) (d_fz (d_lst (d_cons (d_isX (by rfl) e.fr_isinstance (by rfl) e.gl_NoLevel (d_var 0)) (d_cons (d_isX (by rfl) e.fr_isinstance (by rfl) e.gl_NotSettled (d_var 0)) (d_cons (d_isX (by rfl) e.fr_isinstance (by rfl) e.gl_NotLasting (d_var 0)) (d_nil))))))))
      (b_cons (s_set (i := 1) sc_law_word.nd (by rfl) (by first | exact Or.inl rfl | exact Or.inr rfl) (d_bin o_add (d_var 1) (d_fz (d_lst (d_cons (d_isX (by rfl) e.fr_isinstance (by rfl) e.gl_TooMany (d_var 0)) (d_nil))))))
      (b_cons (s_if (t_val (d_isXT (cs := [He.ga K "NoDepths", He.ga K "NoForm", He.ga K "NoNames", He.ga K "NoOrder", He.ga K "NoRow", He.ga K "NoStep", He.ga K "NoText", He.ga K "NoneYet"]) (by rfl) e.fr_isinstance (d_var 0) (pa_cls (by rfl) e.gl_NoDepths (pa_cls (by rfl) e.gl_NoForm (pa_cls (by rfl) e.gl_NoNames (pa_cls (by rfl) e.gl_NoOrder (pa_cls (by rfl) e.gl_NoRow (pa_cls (by rfl) e.gl_NoStep (pa_cls (by rfl) e.gl_NoText (pa_cls (by rfl) e.gl_NoneYet (pa_cls0))))))))))) (b_one (s_ret (d_str))) (b_nil))
      (b_cons (s_set (i := 2) sc_law_word.nd (by rfl) (by first | exact Or.inl rfl | exact Or.inr rfl) (d_fz (d_lst (d_cons (d_str) (d_cons (d_str) (d_cons (d_str) (d_cons (d_str) (d_cons (d_str) (d_cons (d_str) (d_cons (d_str) (d_cons (d_str) (d_cons (d_str) (d_cons (d_str) (d_nil))))))))))))))
      (b_cons (s_set (i := 2) sc_law_word.nd (by rfl) (by first | exact Or.inl rfl | exact Or.inr rfl) (d_bin o_add (d_var 2) (d_fz (d_lst (d_cons (d_str) (d_cons (d_str) (d_cons (d_str) (d_nil))))))))
      (b_one (s_ret (d_if (t_cmp (o_eq hr.u64) (d_bm PySem.F.plainAttrs_list PySem.F.slot_list_count PySem.F.type_list_count (m_count hr.u65) (d_var 1) (d_cons (d_bl) (d_nil))) (d_int) (by first | exact nobehind _ (by decide) (by decide) | rfl)) (d_ix (x_ix (by rfl)) (d_var 2) (d_bm PySem.F.plainAttrs_list PySem.F.slot_list_index PySem.F.type_list_index (m_index hr.u65) (d_var 1) (d_cons (d_bl) (d_nil)))) (d_str))))))))))))
/-! _law_asked: 0 ask, 1 deck, 2 thing, 3 caught, 4 e -/
def m_law_asked (K : PySem.W.Frag) : SF := sSeq (sSet 3 (eC .non)) (sSeq (sTryK (fun k => PySem.W.exmOne K (.ref k) (.ref (He.ga K "DeckError"))) 4 3 (sIf (tB (eB (gEq false) (eVar 0) (eC (.int 0)))) (sEx (eCl (M_q_place_of K) 2 (aCons (eVar 1) (aCons (eVar 2) (aNil))))) (sIf (tB (eB (gEq false) (eVar 0) (eC (.int 1)))) (sEx (eCl (M_q_is_home K) 2 (aCons (eVar 1) (aCons (eVar 2) (aNil))))) (sIf (tB (eB (gEq false) (eVar 0) (eC (.int 2)))) (sEx (eCl (M_hand_at K) 2 (aCons (eVar 1) (aCons (eVar 2) (aNil))))) (sIf (tB (eB (gEq false) (eVar 0) (eC (.int 3)))) (sEx (eCl (M_ring_at K) 2 (aCons (eVar 1) (aCons (eVar 2) (aNil))))) (sEx (fz (eLst (aCons (eCl (M_closed_place K) 1 (aCons (eVar 1) (aNil))) (aCons (eCl (M_away K) 1 (aCons (eVar 1) (aNil))) (aNil))))))))))) (sRt (eIf (tB (eB (gIsN false) (eVar 3) (eC .non))) (eC (.str "none")) (eCl (M_law_word K) 1 (aCons (eVar 3) (aNil))))))
abbrev M_law_asked (K : PySem.W.Frag) : List D → M D := fnM 5 (m_law_asked K)
theorem sc_law_asked : FnScope ["ask", "deck", "thing", "caught", "e"] ["ask", "deck", "thing"] (defScope s_law_asked) := ⟨rfl, rfl, rfl, by decide +kernel, rfl, by decide +kernel, by decide +kernel⟩
abbrev lv_law_asked : Nat := 7
theorem ok_law_asked {P : Program} {w : World} {mg : Str → Option Value} {base : Heap} {K : PySem.W.Frag} (e : Ev P w mg base K) : CalG P w mg base (TT P w K) lv_law_asked 3 "_law_asked" (M_law_asked K) := by
  obtain ⟨fd, F⟩ := e.says.def_ 28 (d := d_law_asked) rfl
  refine cal_ofG (T := TT P w K) (p := ("_law_asked", none)) (N := ["ask", "deck", "thing", "caught", "e"]) (ps := ["ask", "deck", "thing"]) (k := 6) F sc_law_asked e.gl__law_asked (fun _ _ _ _ _ _ us hl => match us, hl with | [_, _, _], _ => rfl) (fun A outer s H E hr hq => ?_)
  exact b_cons (s_set (i := 3) sc_law_asked.nd (by rfl) (by first | exact Or.inl rfl | exact Or.inr rfl) (d_non))
      (b_cons (s_tryK (i := 4) (j := 3) rfl rfl rfl sc_law_asked.nd (by rfl) (by rfl) rfl rfl ⟨by rfl, by decide, .inl e.gl_DeckError⟩ bX_takes (fun W2 pn xe tk hp => b_one (s_if (t_cmp (o_eq hr.u64) (d_var 0) (d_int) (by first | exact nobehind _ (by decide) (by decide) | rfl)) (b_one (s_expr (d_callCG (k := lv_place_of) (ok_q_place_of e) (by rfl) (hr.mono (by decide)) hq tk (d_cons (d_var 1) (d_cons (d_var 2) (d_nil)))))) (b_one (s_if (t_cmp (o_eq hr.u64) (d_var 0) (d_int) (by first | exact nobehind _ (by decide) (by decide) | rfl)) (b_one (s_expr (d_callCG (k := lv_is_home) (ok_q_is_home e) (by rfl) (hr.mono (by decide)) hq tk (d_cons (d_var 1) (d_cons (d_var 2) (d_nil)))))) (b_one (s_if (t_cmp (o_eq hr.u64) (d_var 0) (d_int) (by first | exact nobehind _ (by decide) (by decide) | rfl)) (b_one (s_expr (d_callCG (k := lv_hand_at) (ok_hand_at e) (by rfl) (hr.mono (by decide)) hq tk (d_cons (d_var 1) (d_cons (d_var 2) (d_nil)))))) (b_one (s_if (t_cmp (o_eq hr.u64) (d_var 0) (d_int) (by first | exact nobehind _ (by decide) (by decide) | rfl)) (b_one (s_expr (d_callCG (k := lv_ring_at) (ok_ring_at e) (by rfl) (hr.mono (by decide)) hq tk (d_cons (d_var 1) (d_cons (d_var 2) (d_nil)))))) (b_one (s_expr (d_fz (d_lst (d_cons (d_callCG (k := lv_closed_place) (ok_closed_place e) (by rfl) (hr.mono (by decide)) hq tk (d_cons (d_var 1) (d_nil))) (d_cons (d_callCG (k := lv_away) (ok_away e) (by rfl) (hr.mono (by decide)) hq tk (d_cons (d_var 1) (d_nil))) (d_nil))))))))))))))))
      (b_one (s_ret (d_if (t_cmp o_isN (d_var 3) (d_non) (by first | exact nobehind _ (by decide) (by decide) | rfl)) (d_str) (d_callCG (k := lv_law_word) (ok_law_word e) (by rfl) (hr.mono (by decide)) hq bX_takes (d_cons (d_var 3) (d_nil)))))))
/-! law: 0 script, 1 spring, 2 turn, 3 deck, 4 odd, 5 stays, 6 closed, 7 names, 8 card, 9 fresh, 10 one, 11 k, 12 good, 13 thing, 14 due, 15 levels, 16 ask -/
def m_law (K : PySem.W.Frag) : SF := sSeq (sSet 1 (eCl (M_law_spring) 1 (aCons (eVar 0) (aNil)))) (sSeq (sFor (iRg1 (aCons (eB gAdd (eC (.int 2)) (eCB gMin2 (aCons (eCB gLenX (aCons (eVar 0) (aNil))) (aCons (eC (.int 6)) (aNil))))) (aNil))) (tN 2) (sSeq (sSet 3 (fz (eCl (M_n_law_deck) 2 (aCons (eVar 1) (aCons (eC (.int 40)) (aNil)))))) (sSeq (sSet 4 (fz (eCl (M_n_law_no_deck) 2 (aCons (eVar 1) (aCons (eVar 3) (aNil)))))) (sSeq (sSet 5 (eCB gReprX (aCons (fz (eLst (aCons (fg (eVar 3)) (aCons (eVar 4) (aNil))))) (aNil)))) (sSeq (sSet 6 (eCl (M_closed_place K) 1 (aCons (fg (eVar 3)) (aNil)))) (sSeq (sSet 7 (fz (eLc (iSeq (fg (eVar 3))) (tN 8) (tAll) (eB gIx (eVar 8) (eC (.int 0))) [8]))) (sSeq (sSet 9 (eB gIx (fz (eLc (iSeq (fz (eLc (iRg1 (aCons (eC (.int 41)) (aNil))) (tN 11) (tAll) (eB gAdd (eB gAdd (eC (.str "x")) (eB gIx (eC (.str "abcdefghi")) (eB gDiv (eVar 11) (eC (.int 6))))) (eB gIx (eC (.str "abcdef")) (eB gMod (eVar 11) (eC (.int 6))))) [11]))) (tN 10) (tB (eB (gIn true) (eVar 10) (eVar 7))) (eVar 10) [10])) (eC (.int 0)))) (sSeq (sSet 12 (fz (eLst (aCons (eTup (aCons (eB gIx (eVar 7) (eCl (M_law_draw) 2 (aCons (eVar 1) (aCons (eCB gLenX (aCons (eVar 7) (aNil))) (aNil))))) (aCons (eC (.str "none")) (aNil)))) (aCons (eTup (aCons (eVar 9) (aCons (eC (.str "NoName")) (aNil)))) (aNil)))))) (sSeq (sSet 12 (eB gAdd (eVar 12) (fz (eLc (iSeq (fz (eLst (aCons (eC (.str "")) (aCons (eC (.str "A")) (aCons (eC .non) (aCons (eC (.int 0)) (aCons (eC (.bl true)) (aCons (fz (eLst (aCons (eC (.str "a")) (aNil)))) (aCons (fz (eDct0)) (aCons (eC (.str "abcdefghi")) (aCons (eB gIx (fg (eVar 3)) (eC (.int 0))) (aNil))))))))))))) (tN 13) (tAll) (eTup (aCons (eVar 13) (aCons (eC (.str "NoName")) (aNil)))) [13])))) (sSeq (sFor (iSeq (eVar 12)) (tN2 13 14) (sIf (tB (eB (gEq true) (fz (eLst (aCons (eCl (M_law_asked K) 3 (aCons (eC (.int 0)) (aCons (fg (eVar 3)) (aCons (eVar 13) (aNil))))) (aCons (eCl (M_law_asked K) 3 (aCons (eC (.int 1)) (aCons (fg (eVar 3)) (aCons (eVar 13) (aNil))))) (aNil))))) (fz (eLst (aCons (eVar 14) (aCons (eVar 14) (aNil))))))) (sRt (eC (.bl false))) (sNop))) (sSeq (sSet 15 (fz (eLst (aCons (eTup (aCons (eCl (M_law_draw) 2 (aCons (eVar 1) (aCons (eVar 6) (aNil)))) (aCons (eC (.str "none")) (aNil)))) (aCons (eTup (aCons (eVar 6) (aCons (eC (.str "NoLevel")) (aNil)))) (aCons (eTup (aCons (eB gAdd (eVar 6) (eB gPow (eC (.int 10)) (eC (.int 29)))) (aCons (eC (.str "NoLevel")) (aNil)))) (aNil))))))) (sSeq (sSet 15 (eB gAdd (eVar 15) (fz (eLc (iSeq (fz (eLst (aCons (eNeg (eC (.int 1))) (aCons (eC (.bl true)) (aCons (eC (.bl false)) (aCons (eC .non) (aCons (eC (.str "0")) (aCons (fz (eLst (aCons (eC (.int 0)) (aNil)))) (aCons (eTup (aNil)) (aCons (eC (.str "")) (aCons (fz (eDct0)) (aNil))))))))))))) (tN 13) (tAll) (eTup (aCons (eVar 13) (aCons (eC (.str "NoLevel")) (aNil)))) [13])))) (sSeq (sFor (iSeq (eVar 15)) (tN2 13 14) (sIf (tB (eB (gEq true) (fz (eLst (aCons (eCl (M_law_asked K) 3 (aCons (eC (.int 2)) (aCons (fg (eVar 3)) (aCons (eVar 13) (aNil))))) (aCons (eCl (M_law_asked K) 3 (aCons (eC (.int 3)) (aCons (fg (eVar 3)) (aCons (eVar 13) (aNil))))) (aNil))))) (fz (eLst (aCons (eVar 14) (aCons (eVar 14) (aNil))))))) (sRt (eC (.bl false))) (sNop))) (sSeq (sFor (iSeq (fz (eLst (aCons (eB gIx (eVar 7) (eC (.int 0))) (aCons (eC (.int 0)) (aCons (eC .non) (aCons (eVar 9) (aCons (eVar 6) (aNil))))))))) (tN 13) (sIf (tB (eB (gEq true) (fz (eLc (iRg1 (aCons (eC (.int 5)) (aNil))) (tN 16) (tB (eB (gEq true) (eCl (M_law_asked K) 3 (aCons (eVar 16) (aCons (eVar 4) (aCons (eVar 13) (aNil))))) (eC (.str "NoDeck")))) (eVar 16) [16])) (fz (eLst (aNil))))) (sRt (eC (.bl false))) (sNop))) (sIf (tOr' (tB (eB (gEq true) (eCl (M_law_asked K) 3 (aCons (eC (.int 4)) (aCons (fg (eVar 3)) (aCons (eC (.int 0)) (aNil))))) (eC (.str "none")))) (tB (eB (gEqS true) (eCB gReprX (aCons (fz (eLst (aCons (fg (eVar 3)) (aCons (eVar 4) (aNil))))) (aNil))) (eVar 5)))) (sRt (eC (.bl false))) (sNop)))))))))))))))) (sRt (eC (.bl true))))
abbrev M_law (K : PySem.W.Frag) : List D → M D := fnM 17 (m_law K)
theorem sc_law : FnScope ["script", "spring", "turn", "deck", "odd", "stays", "closed", "names", "card", "fresh", "one", "k", "good", "thing", "due", "levels", "ask"] ["script"] (defScope s_law) := ⟨rfl, rfl, rfl, by decide +kernel, rfl, by decide +kernel, by decide +kernel⟩
abbrev lv_law : Nat := 8
theorem fo_law {P : Program} {w : World} {mg : Str → Option Value} {base : Heap} {K : PySem.W.Frag} (e : Ev P w mg base K) {fd : FuncData} (F : FunD K d_law.name d_law.qual d_law.params d_law.body d_law.scope [] [] (He.fAd K ("law", none)) fd) : FnOkG P w K mg base (L2.CX P w) lv_law (He.fAd K ("law", none)) fd ["script"] (spM (TT P w K) (M_law K) 1) := by
  refine fn_sbG (T := TT P w K) (p := ("law", none)) (N := ["script", "spring", "turn", "deck", "odd", "stays", "closed", "names", "card", "fresh", "one", "k", "good", "thing", "due", "levels", "ask"]) (ps := ["script"]) (k := 7) (g := m_law K) F sc_law (fun A outer s H E hr hq => ?_)
  exact b_cons (s_set (i := 1) sc_law.nd (by rfl) (by first | exact Or.inl rfl | exact Or.inr rfl) (d_callCG (k := lv_law_spring) (ok_law_spring e) (by rfl) (hr.mono (by decide)) hq bX_takes (d_cons (d_var 0) (d_nil))))
      (b_cons (s_for bX_passes (by rfl) (i_rg1 (by rfl) e.fr_range (d_cons (d_bin o_add (d_int) (d_callB (c_min2 (by rfl)) (by rfl) e.fr_min (by decide +kernel) (d_cons (d_callB (c_lenX (by rfl) (by rfl) (by rfl)) (by rfl) e.fr_len (by decide +kernel) (d_cons (d_var 0) (d_nil))) (d_cons (d_int) (d_nil))))) (d_nil))) (g_name (i := 2) sc_law.nd (by rfl) (by first | exact Or.inl rfl | exact Or.inr rfl))
      (b_cons (s_set (i := 3) sc_law.nd (by rfl) (by first | exact Or.inl rfl | exact Or.inr rfl) (d_fz (d_callCG (k := lv_law_deck) (ok_n_law_deck e) (by rfl) (hr.mono (by decide)) hq bX_takes (d_cons (d_var 1) (d_cons (d_int) (d_nil))))))
      (b_cons (s_set (i := 4) sc_law.nd (by rfl) (by first | exact Or.inl rfl | exact Or.inr rfl) (d_fz (d_callCG (k := lv_law_no_deck) (ok_n_law_no_deck e) (by rfl) (hr.mono (by decide)) hq bX_takes (d_cons (d_var 1) (d_cons (d_var 3) (d_nil))))))
      (b_cons (s_set (i := 5) sc_law.nd (by rfl) (by first | exact Or.inl rfl | exact Or.inr rfl) (d_callB ((call_reprX (by rfl) e.sys hq hr.u64)) (by rfl) e.fr_repr (by decide +kernel) (d_cons (d_fz (d_lst (d_cons (d_fg (d_var 3)) (d_cons (d_var 4) (d_nil))))) (d_nil))))
      (b_cons (s_set (i := 6) sc_law.nd (by rfl) (by first | exact Or.inl rfl | exact Or.inr rfl) (d_callCG (k := lv_closed_place) (ok_closed_place e) (by rfl) (hr.mono (by decide)) hq bX_takes (d_cons (d_fg (d_var 3)) (d_nil))))
      (b_cons (s_set (i := 7) sc_law.nd (by rfl) (by first | exact Or.inl rfl | exact Or.inr rfl) (d_fz (d_lc (own := [("card", 8)]) (by rfl) sc_law.nd (i_seq (d_fg (d_var 3))) (blkOk_by (by kernel_rfl)) (fun _ _ _ _ _ => g_name (i := 8) sc_law.nd (by rfl) (by first | exact Or.inl rfl | exact Or.inr rfl)) (fun _ _ _ _ _ => ts_nil) (fun _ _ _ _ _ => d_ix (x_ix (by rfl)) (d_var 8) (d_int)))))
      (b_cons (s_set (i := 9) sc_law.nd (by rfl) (by first | exact Or.inl rfl | exact Or.inr rfl) (d_ix (x_ix (by rfl)) (d_fz (d_lc (own := [("one", 10)]) (by rfl) sc_law.nd (i_seq (d_fz (d_lc (own := [("k", 11)]) (by rfl) sc_law.nd (i_rg1 (by rfl) e.fr_range (d_cons (d_int) (d_nil))) (blkOk_by (by kernel_rfl)) (fun _ _ _ _ _ => g_name (i := 11) sc_law.nd (by rfl) (by first | exact Or.inl rfl | exact Or.inr rfl)) (fun _ _ _ _ _ => ts_nil) (fun _ _ _ _ _ => d_bin o_add (d_bin o_add (d_str) (d_ix (x_ix (by rfl)) (d_str) (d_bin o_div (d_var 11) (d_int)))) (d_ix (x_ix (by rfl)) (d_str) (d_bin o_mod (d_var 11) (d_int))))))) (blkOk_by (by kernel_rfl)) (fun _ _ _ _ _ => g_name (i := 10) sc_law.nd (by rfl) (by first | exact Or.inl rfl | exact Or.inr rfl)) (fun _ _ _ _ _ => ts_one (t_cmp (o_notIn hr.u65) (d_var 10) (d_var 7) (by first | exact nobehind _ (by decide) (by decide) | rfl))) (fun _ _ _ _ _ => d_var 10))) (d_int)))
      (b_cons (s_set (i := 12) sc_law.nd (by rfl) (by first | exact Or.inl rfl | exact Or.inr rfl) (d_fz (d_lst (d_cons (d_tup (d_cons (d_ix (x_ix (by rfl)) (d_var 7) (d_callCG (k := lv_law_draw) (ok_law_draw e) (by rfl) (hr.mono (by decide)) hq bX_takes (d_cons (d_var 1) (d_cons (d_callB (c_lenX (by rfl) (by rfl) (by rfl)) (by rfl) e.fr_len (by decide +kernel) (d_cons (d_var 7) (d_nil))) (d_nil))))) (d_cons (d_str) (d_nil)))) (d_cons (d_tup (d_cons (d_var 9) (d_cons (d_str) (d_nil)))) (d_nil))))))
      (b_cons (s_set (i := 12) sc_law.nd (by rfl) (by first | exact Or.inl rfl | exact Or.inr rfl) (d_bin o_add (d_var 12) (d_fz (d_lc (own := [("thing", 13)]) (by rfl) sc_law.nd (i_seq (d_fz (d_lst (d_cons (d_str) (d_cons (d_str) (d_cons (d_non) (d_cons (d_int) (d_cons (d_bl) (d_cons (d_fz (d_lst (d_cons (d_str) (d_nil)))) (d_cons (d_fz (d_dct0)) (d_cons (d_str) (d_cons (d_ix (x_ix (by rfl)) (d_fg (d_var 3)) (d_int)) (d_nil))))))))))))) (blkOk_by (by kernel_rfl)) (fun _ _ _ _ _ => g_name (i := 13) sc_law.nd (by rfl) (by first | exact Or.inl rfl | exact Or.inr rfl)) (fun _ _ _ _ _ => ts_nil) (fun _ _ _ _ _ => d_tup (d_cons (d_var 13) (d_cons (d_str) (d_nil))))))))
      (b_cons (s_for bX_passes (by rfl) (i_seq (d_var 12)) (g_two (i := 13) (j := 14) (by rfl) (by rfl) sc_law.nd (by rfl) (by first | exact Or.inl rfl | exact Or.inr rfl) (by rfl) (by first | exact Or.inl rfl | exact Or.inr rfl))
      (b_one (s_if (t_cmp (o_ne hr.u64) (d_fz (d_lst (d_cons (d_callCG (k := lv_law_asked) (ok_law_asked e) (by rfl) (hr.mono (by decide)) hq bX_takes (d_cons (d_int) (d_cons (d_fg (d_var 3)) (d_cons (d_var 13) (d_nil))))) (d_cons (d_callCG (k := lv_law_asked) (ok_law_asked e) (by rfl) (hr.mono (by decide)) hq bX_takes (d_cons (d_int) (d_cons (d_fg (d_var 3)) (d_cons (d_var 13) (d_nil))))) (d_nil))))) (d_fz (d_lst (d_cons (d_var 14) (d_cons (d_var 14) (d_nil))))) (by first | exact nobehind _ (by decide) (by decide) | rfl)) (b_one (s_ret (d_bl))) (b_nil))))
      (b_cons (s_set (i := 15) sc_law.nd (by rfl) (by first | exact Or.inl rfl | exact Or.inr rfl) (d_fz (d_lst (d_cons (d_tup (d_cons (d_callCG (k := lv_law_draw) (ok_law_draw e) (by rfl) (hr.mono (by decide)) hq bX_takes (d_cons (d_var 1) (d_cons (d_var 6) (d_nil)))) (d_cons (d_str) (d_nil)))) (d_cons (d_tup (d_cons (d_var 6) (d_cons (d_str) (d_nil)))) (d_cons (d_tup (d_cons (d_bin o_add (d_var 6) (d_bin o_pow (d_int) (d_int))) (d_cons (d_str) (d_nil)))) (d_nil)))))))
      (b_cons (s_set (i := 15) sc_law.nd (by rfl) (by first | exact Or.inl rfl | exact Or.inr rfl) (d_bin o_add (d_var 15) (d_fz (d_lc (own := [("thing", 13)]) (by rfl) sc_law.nd (i_seq (d_fz (d_lst (d_cons (d_neg (d_int)) (d_cons (d_bl) (d_cons (d_bl) (d_cons (d_non) (d_cons (d_str) (d_cons (d_fz (d_lst (d_cons (d_int) (d_nil)))) (d_cons (d_tup (d_nil)) (d_cons (d_str) (d_cons (d_fz (d_dct0)) (d_nil))))))))))))) (blkOk_by (by kernel_rfl)) (fun _ _ _ _ _ => g_name (i := 13) sc_law.nd (by rfl) (by first | exact Or.inl rfl | exact Or.inr rfl)) (fun _ _ _ _ _ => ts_nil) (fun _ _ _ _ _ => d_tup (d_cons (d_var 13) (d_cons (d_str) (d_nil))))))))
      (b_cons (s_for bX_passes (by rfl) (i_seq (d_var 15)) (g_two (i := 13) (j := 14) (by rfl) (by rfl) sc_law.nd (by rfl) (by first | exact Or.inl rfl | exact Or.inr rfl) (by rfl) (by first | exact Or.inl rfl | exact Or.inr rfl))
      (b_one (s_if (t_cmp (o_ne hr.u64) (d_fz (d_lst (d_cons (d_callCG (k := lv_law_asked) (ok_law_asked e) (by rfl) (hr.mono (by decide)) hq bX_takes (d_cons (d_int) (d_cons (d_fg (d_var 3)) (d_cons (d_var 13) (d_nil))))) (d_cons (d_callCG (k := lv_law_asked) (ok_law_asked e) (by rfl) (hr.mono (by decide)) hq bX_takes (d_cons (d_int) (d_cons (d_fg (d_var 3)) (d_cons (d_var 13) (d_nil))))) (d_nil))))) (d_fz (d_lst (d_cons (d_var 14) (d_cons (d_var 14) (d_nil))))) (by first | exact nobehind _ (by decide) (by decide) | rfl)) (b_one (s_ret (d_bl))) (b_nil))))
      (b_cons (s_for bX_passes (by rfl) (i_seq (d_fz (d_lst (d_cons (d_ix (x_ix (by rfl)) (d_var 7) (d_int)) (d_cons (d_int) (d_cons (d_non) (d_cons (d_var 9) (d_cons (d_var 6) (d_nil))))))))) (g_name (i := 13) sc_law.nd (by rfl) (by first | exact Or.inl rfl | exact Or.inr rfl))
      (b_one (s_if (t_cmp (o_ne hr.u64) (d_fz (d_lc (own := [("ask", 16)]) (by rfl) sc_law.nd (i_rg1 (by rfl) e.fr_range (d_cons (d_int) (d_nil))) (blkOk_by (by kernel_rfl)) (fun _ _ _ _ _ => g_name (i := 16) sc_law.nd (by rfl) (by first | exact Or.inl rfl | exact Or.inr rfl)) (fun _ _ _ _ _ => ts_one (t_cmp (o_ne hr.u64) (d_callCG (k := lv_law_asked) (ok_law_asked e) (by rfl) (hr.mono (by decide)) hq takes0 (d_cons (d_var 16) (d_cons (d_var 4) (d_cons (d_var 13) (d_nil))))) (d_str) (by first | exact nobehind _ (by decide) (by decide) | rfl))) (fun _ _ _ _ _ => d_var 16))) (d_fz (d_lst (d_nil))) (by first | exact nobehind _ (by decide) (by decide) | rfl)) (b_one (s_ret (d_bl))) (b_nil))))
      (b_one (s_if (ptw (w_or (t_cmp (o_ne hr.u64) (d_callCG (k := lv_law_asked) (ok_law_asked e) (by rfl) (hr.mono (by decide)) hq bX_takes (d_cons (d_int) (d_cons (d_fg (d_var 3)) (d_cons (d_int) (d_nil))))) (d_str) (by first | exact nobehind _ (by decide) (by decide) | rfl)) (w_or1 (t_cmp o_neS (d_callB ((call_reprX (by rfl) e.sys hq hr.u64)) (by rfl) e.fr_repr (by decide +kernel) (d_cons (d_fz (d_lst (d_cons (d_fg (d_var 3)) (d_cons (d_var 4) (d_nil))))) (d_nil))) (d_var 5) (by first | exact nobehind _ (by decide) (by decide) | rfl))))) (b_one (s_ret (d_bl))) (b_nil)))))))))))))))))
      (b_one (s_ret (d_bl))))
end K14
end
section
set_option Elab.async false
set_option linter.all false
set_option maxRecDepth 100000
set_option maxHeartbeats 4000000
namespace Sb
open PySem PySem.Spec PyProof.Rows L2
variable {S : Sto}
def dN (l : List Card) : D := .ntu (l.map dC)
@[simp] theorem bd_dN {k : Nat} {l : List Card} : bd k (dN l) = true := by simp only [dN, bd, bds_dC]
theorem deck_okN {n k : Nat} {most : Int} (h : Spr n k S) (hk : k < 2 ^ 31) (hm0 : 1 ≤ most) (hm1 : most ≤ 40) :
    ∃ (S' : Sto) (l : List Card), M_n_law_deck [.loc n, .int most] S = some (.ok (dN l) S') ∧ DeckOk l ∧ (l.length : Int) ≤ max 7 most ∧ Spr n (k + 2000) S' ∧ Fr n S S' ∧ ∀ c ∈ l, c.2 < 10 ^ 40 := by
  -- many
  let Sa : Sto := S ++ [.lst ([3, 7, most].map D.int)]
  obtain ⟨v1, Sb1, e1, a1, b1, sp1, fr1, ln1⟩ := dr (S := Sa) (τ := [some (.loc n), some (.int most), none, none, none, none, none, none, none]) (fm := eC (.int 3)) (m := 3) rfl rfl h.app (by omega) (by decide) (by decide)
  have hSa : Sa[S.length]? = some (.lst ([3, 7, most].map D.int)) := get_last _ _
  have hn := h.lt
  obtain ⟨a, ha, e2⟩ := ix_ints (fr1.get hSa (by omega)) a1 (show v1 < (3 : Int) from b1)
  have ha2 : 1 ≤ a ∧ a ≤ max 7 most := by
    simp at ha
    rcases ha with rfl | rfl | rfl <;> omega
  obtain ⟨v2, Sb2, e3, a3, b3, sp2, fr2, ln2⟩ := draw_ok (S := Sb1) (m := a) sp1 (by omega) (by omega) (by omega)
  have hmany : 1 ≤ 1 + v2 ∧ 1 + v2 ≤ max 7 most := by omega
  obtain ⟨m, em⟩ := Int.eq_ofNat_of_zero_le (show 0 ≤ 1 + v2 by omega)
  have em' : 1 + v2 = (m : Int) := em
  have hm40 : m ≤ 40 := by omega
  have hm1' : 1 ≤ m := by omega
  -- kind, alike
  obtain ⟨kind, Sb3, e4, a4, b4, sp3, fr3, ln3⟩ := dr (S := Sb2) (τ := [some (.loc n), some (.int most), some (.int m), none, none, none, none, none, none]) (fm := eC (.int 7)) (m := 7) rfl rfl sp2 (by omega) (by decide) (by decide)
  obtain ⟨alike, Sb4, e5, a5, b5, sp4, fr4, ln4⟩ := dr (S := Sb3) (τ := [some (.loc n), some (.int most), some (.int m), some (.int kind), none, none, none, none, none]) (fm := eVar 2) (m := m) rfl rfl sp3 (by omega) (by omega) (by omega)
  -- the names
  let Sc : Sto := Sb4 ++ [.lst []]
  obtain ⟨fN, Sd, xs, e6, hx, lx, ndx, nmx, sp5, fr5, hfN⟩ := names_ok (S := Sc) (m := m) sp4.app (by omega) hm40
  have hSc : Sc[Sb4.length]? = some (.lst []) := get_last _ _
  have hn4 := sp4.lt
  have hf0 : Sd[Sb4.length]? = some (.lst []) := fr5.get hSc (by omega)
  have lSc : Sc.length = Sb4.length + 1 := by show (Sb4 ++ _).length = _; simp
  have eW : wkD Sd (.loc fN) = some ⟨xs.length, fun i S' => (seqD S' (.loc fN)).map fun es => es[i]?⟩ := by
    simp only [wkD, seqD, hx, Option.map_some, List.length_map]
  obtain ⟨τ', S', L, l, x6, x7, x8, rfl, ll, lm, ld, fl, hx'⟩ := goF_inv (nxt := fun i S' => (seqD S' (.loc fN)).map fun es => es[i]?) (g := tN 6) (n := m)
    (fb := (sSeq (sSet 7 (eCB gLenX (aCons (eVar 5) (aNil)))) (sSeq (sSet 8 (eLst (aCons (eCl (M_law_draw) 2 (aCons (eVar 0) (aCons (eC (.int 3)) (aNil)))) (aCons (eCl (M_law_draw) 2 (aCons (eVar 0) (aCons (eVar 2) (aNil)))) (aCons (eCB gMax (aCons (eC (.int 0)) (aCons (eB gSub (eB gAdd (eVar 7) (eCl (M_law_draw) 2 (aCons (eVar 0) (aCons (eC (.int 5)) (aNil))))) (eC (.int 3))) (aNil)))) (aCons (eVar 4) (aNil))))))) (sSeq (sSet 8 (eB gAdd (eVar 8) (eLst (aCons (eB gAdd (eVar 2) (eCl (M_law_draw) 2 (aCons (eVar 0) (aCons (eC (.int 3)) (aNil))))) (aCons (eB gSub (eB gSub (eB gPow (eC (.int 10)) (eC (.int 30))) (eC (.int 1))) (eCl (M_law_draw) 2 (aCons (eVar 0) (aCons (eC (.int 9)) (aNil))))) (aCons (eB gSub (eB gSub (eVar 2) (eC (.int 1))) (eVar 7)) (aNil))))))) (sEx (eBM "list" gAppend (eVar 5) (aCons (eTup (aCons (eVar 6) (aCons (eB gIx (eVar 8) (eB gIx (eLst (aCons (eVar 3) (aCons (eCl (M_law_draw) 2 (aCons (eVar 0) (aCons (eC (.int 7)) (aNil)))) (aNil)))) (eCB gInt (aCons (eB (gEq false) (eCl (M_law_draw) 2 (aCons (eVar 0) (aCons (eC (.int 4)) (aNil)))) (eC (.int 0))) (aNil))))) (aNil)))) (aNil))))))))
    (fun i τ S' => ∃ (l : List Card) (x6 x7 x8 : Option D), τ = [some (.loc n), some (.int most), some (.int m), some (.int kind), some (.int alike), some (.loc Sb4.length), x6, x7, x8] ∧ l.length = i ∧ l.map (·.1) = xs.take i ∧ (∀ c ∈ l, 0 ≤ c.2 ∧ c.2 < 10 ^ 40) ∧ Fil n (k + 4 + 10 * m + 20 * i) Sb4 S' Sb4.length (l.map dC) ∧ S'[fN]? = some (.lst (xs.map D.str))) (fun i => .str (xs.getD i default))
    (fun i τ S' hi ⟨l, x6, x7, x8, e, ll, lm, ld, fl, hx'⟩ => by
      subst e
      have hi' : i < xs.length := by omega
      have e3' := List.getElem?_eq_getElem hi'
      have e4' : xs.getD i default = xs[i] := by rw [List.getD_eq_getElem?_getD, e3']; rfl
      rw [e4']
      have lN := (List.getElem?_eq_some_iff.mp hx').1
      have lF := (List.getElem?_eq_some_iff.mp fl.at_).1
      have eL : gLenX [.loc Sb4.length] S' = some (.int (i : Nat), S') := by
        have : gLen [.loc Sb4.length] S' = some (.int (i : Nat), S') := by simp [gLen, seqD, fl.at_, ll]
        simp only [gLenX, fl.at_, this]
      -- some
      let τ1 : Sl := [some (.loc n), some (.int most), some (.int m), some (.int kind), some (.int alike), some (.loc Sb4.length), some (.str xs[i]), some (.int (i : Nat)), x8]
      obtain ⟨w1, T1, q1, c1, d1, t1, g1, n1⟩ := dr (S := S') (τ := τ1) (fm := eC (.int 3)) (m := 3) rfl rfl fl.sp (by omega) (by decide) (by decide)
      obtain ⟨w2, T2, q2, c2, d2, t2, g2, n2⟩ := dr (S := T1) (τ := τ1) (fm := eVar 2) (m := m) rfl rfl t1 (by omega) (by omega) (by omega)
      obtain ⟨w3, T3, q3, c3, d3, t3, g3, n3⟩ := dr (S := T2) (τ := τ1) (fm := eC (.int 5)) (m := 5) rfl rfl t2 (by omega) (by decide) (by decide)
      let w3' : Int := if (i : Int) + w3 - 3 > 0 then (i : Int) + w3 - 3 else 0
      have hw3 : 0 ≤ w3' := by show 0 ≤ (if (i : Int) + w3 - 3 > 0 then (i : Int) + w3 - 3 else 0); split <;> omega
      let T4 : Sto := T3 ++ [.lst [.int w1, .int w2, .int w3', .int alike]]
      have E1 : eLst (aCons (eCl (M_law_draw) 2 (aCons (eVar 0) (aCons (eC (.int 3)) (aNil)))) (aCons (eCl (M_law_draw) 2 (aCons (eVar 0) (aCons (eVar 2) (aNil)))) (aCons (eCB gMax (aCons (eC (.int 0)) (aCons (eB gSub (eB gAdd (eVar 7) (eCl (M_law_draw) 2 (aCons (eVar 0) (aCons (eC (.int 5)) (aNil))))) (eC (.int 3))) (aNil)))) (aCons (eVar 4) (aNil))))) τ1 S' = some (.ok (.loc T3.length) T4) :=
        eLst_ok (aCons_ok q1 (aCons_ok q2 (a2_ok (eCB_ok (a2_ok rfl (eB_ok (eB_ok rfl q3 gAdd_i) rfl gSub_i)) (d := .int w3') (S2 := T3) rfl) rfl))) (by simp)
      let τ2 : Sl := [some (.loc n), some (.int most), some (.int m), some (.int kind), some (.int alike), some (.loc Sb4.length), some (.str xs[i]), some (.int (i : Nat)), some (.loc T3.length)]
      obtain ⟨w5, T5, q5, c5, d5, t5, g5, n5⟩ := dr (S := T4) (τ := τ2) (fm := eC (.int 3)) (m := 3) rfl rfl t3.app (by omega) (by decide) (by decide)
      obtain ⟨w6, T6, q6, c6, d6, t6, g6, n6⟩ := dr (S := T5) (τ := τ2) (fm := eC (.int 9)) (m := 9) rfl rfl t5 (by omega) (by decide) (by decide)
      let is : List Int := [w1, w2, w3', alike, (m : Int) + w5, 10 ^ 30 - 1 - w6, (m : Int) - 1 - (i : Int)]
      let T7 : Sto := T6 ++ [.lst [.int ((m : Int) + w5), .int (10 ^ 30 - 1 - w6), .int ((m : Int) - 1 - (i : Int))]]
      let T8 : Sto := T7 ++ [.lst (is.map D.int)]
      have hT4 : T4[T3.length]? = some (.lst [.int w1, .int w2, .int w3', .int alike]) := get_last _ _
      have hln : n < T3.length := t3.lt
      have hT7a : T7[T3.length]? = some (.lst [.int w1, .int w2, .int w3', .int alike]) := pre_get ((g5.trans g6).get hT4 (by omega))
      have hT7b : T7[T6.length]? = some (.lst [.int ((m : Int) + w5), .int (10 ^ 30 - 1 - w6), .int ((m : Int) - 1 - (i : Int))]) := get_last _ _
      have hz := sizeLine_eq
      have hpow : gPow (.int 10) (.int 30) T5 = some (.int (10 ^ 30), T5) := by
        have : (0 : Int) ≤ 30 ∧ (30 : Int) ≤ 1000000 ∧ (10 : Int).natAbs < 2 ^ 64 := by decide
        simp only [gPow, gI, decide_eq_true this, if_true]
        rfl
      have E2 : eB gAdd (eVar 8) (eLst (aCons (eB gAdd (eVar 2) (eCl (M_law_draw) 2 (aCons (eVar 0) (aCons (eC (.int 3)) (aNil))))) (aCons (eB gSub (eB gSub (eB gPow (eC (.int 10)) (eC (.int 30))) (eC (.int 1))) (eCl (M_law_draw) 2 (aCons (eVar 0) (aCons (eC (.int 9)) (aNil))))) (aCons (eB gSub (eB gSub (eVar 2) (eC (.int 1))) (eVar 7)) (aNil))))) τ2 T4 = some (.ok (.loc T7.length) T8) := by
        refine eB_ok rfl (eLst_ok (a3_ok (eB_ok rfl q5 gAdd_i) (eB_ok (eB_ok (eB_ok rfl rfl hpow) rfl gSub_i) q6 gSub_i) (eB_ok (eB_ok rfl rfl gSub_i) rfl gSub_i)) (by simp)) ?_
        show gAdd (.loc T3.length) (.loc T6.length) T7 = some (.loc T7.length, T8)
        have hh : (4 : Nat) + 3 ≤ sizeLine := by omega
        simp only [gAdd, hT7a, hT7b]
        rw [if_pos (by show (4 : Nat) + 3 ≤ sizeLine; exact hh)]
        rfl
      let τ3 : Sl := [some (.loc n), some (.int most), some (.int m), some (.int kind), some (.int alike), some (.loc Sb4.length), some (.str xs[i]), some (.int (i : Nat)), some (.loc T7.length)]
      have t8 : Spr n (k + 4 + 10 * m + 20 * i + 1 + 1 + 1 + 1 + 1) T8 := t6.app.app
      obtain ⟨w9, T9, q9, c9, d9, t9, g9, n9⟩ := dr (S := T8) (τ := τ3) (fm := eC (.int 7)) (m := 7) rfl rfl t8 (by omega) (by decide) (by decide)
      let TA : Sto := T9 ++ [.lst ([kind, w9].map D.int)]
      obtain ⟨wb, TB, qb, cb, db, tb, gb, nb⟩ := dr (S := TA) (τ := τ3) (fm := eC (.int 4)) (m := 4) rfl rfl t9.app (by omega) (by decide) (by decide)
      have eEq : gEq false (.int wb) (.int 0) TB = some (.bl (decide (wb = 0)), TB) := by
        have s1 : SeqAt.shaped (.int wb) = true := rfl
        have s2 : SeqAt.shaped (.int 0) = true := rfl
        have s3 : PyData.eqv (.int wb) (.int 0) = decide (wb = 0) := by
          show (wb == 0) = _
          rfl
        simp [gEq, toPy, s1, s2, s3]
      have eInt : gInt [.bl (decide (wb = 0))] TB = some (.int (if wb = 0 then 1 else 0), TB) := by
        by_cases q : wb = 0 <;> simp [gInt, q]
      have hTA : TA[T9.length]? = some (.lst ([kind, w9].map D.int)) := get_last _ _
      have hn9 := t9.lt
      have hTB : TB[T9.length]? = some (.lst ([kind, w9].map D.int)) := gb.get hTA (by omega)
      obtain ⟨ix, hix, eix⟩ := ix_ints (S := TB) hTB (v := if wb = 0 then 1 else 0) (by split <;> omega) (by show _ < (2 : Int); split <;> omega)
      have hix2 : 0 ≤ ix ∧ ix < 7 := by
        simp at hix
        rcases hix with rfl | rfl <;> omega
      have hT8 : T8[T7.length]? = some (.lst (is.map D.int)) := get_last _ _
      have hn7 : n < T7.length := t6.app.lt
      have hTB8 : TB[T7.length]? = some (.lst (is.map D.int)) := gb.get (pre_get (g9.get hT8 (by omega))) (by omega)
      obtain ⟨dp, hdp, edp⟩ := ix_ints (S := TB) hTB8 hix2.1 (show ix < (7 : Int) from hix2.2)
      have hw32 : w3' < 100 := by show (if (i : Int) + w3 - 3 > 0 then (i : Int) + w3 - 3 else 0) < 100; split <;> omega
      have hdp0 : 0 ≤ dp ∧ dp < 10 ^ 40 := by
        have : dp ∈ [w1, w2, w3', alike, (m : Int) + w5, 10 ^ 30 - 1 - w6, (m : Int) - 1 - (i : Int)] := hdp
        simp only [List.mem_cons, List.not_mem_nil, or_false] at this
        have p30 : (10 : Int) ^ 30 = 1000000000000000000000000000000 := by decide
        rw [p30] at this
        have p40 : (10 : Int) ^ 40 = 10000000000000000000000000000000000000000 := by decide
        rw [p40]
        rcases this with r | r | r | r | r | r | r <;> omega
      -- all kept
      have F1 : Fr n S' T3 := (g1.trans g2).trans g3
      have F2 : Fr n S' T6 := ((F1.trans Fr.app).trans g5).trans g6
      have F3 : Fr n S' TB := ((((F2.trans Fr.app).trans Fr.app).trans g9).trans Fr.app).trans gb
      have hf' : TB[Sb4.length]? = some (.lst (l.map dC)) := F3.get fl.at_ (by omega)
      have hxB : TB[fN]? = some (.lst (xs.map D.str)) := F3.get hx' (by omega)
      have E3 : eTup (aCons (eVar 6) (aCons (eB gIx (eVar 8) (eB gIx (eLst (aCons (eVar 3) (aCons (eCl (M_law_draw) 2 (aCons (eVar 0) (aCons (eC (.int 7)) (aNil)))) (aNil)))) (eCB gInt (aCons (eB (gEq false) (eCl (M_law_draw) 2 (aCons (eVar 0) (aCons (eC (.int 4)) (aNil)))) (eC (.int 0))) (aNil))))) (aNil))) τ3 T8 = some (.ok (dC (xs[i], dp)) TB) :=
        eTup_ok (a2_ok rfl (eB_ok rfl (eB_ok (eLst_ok (a2_ok rfl q9) (by simp)) (eCB_ok (a1_ok (eB_ok qb rfl eEq)) eInt) eix) edp)) (by simp)
      refine ⟨by simp only [seqD, hx', Option.map_some, List.getElem?_map, e3'], [some (.loc n), some (.int most), some (.int m), some (.int kind), some (.int alike), some (.loc Sb4.length), some (.str xs[i]), x7, x8], τ3, TB.set Sb4.length (.lst (l.map dC ++ [dC (xs[i], dp)])), rfl, (sSeq_nx (sSet_ok (eCB_ok (a1_ok rfl) eL))).trans ((sSeq_nx (sSet_ok E1)).trans ((sSeq_nx (sSet_ok E2)).trans (sEx_ok (eBM_ok rfl ?_ (a1_ok E3) (append_ok hf' (by simp; omega)))))), l ++ [(xs[i], dp)], _, _, _, rfl, by simp [ll], ?_, ?_, ?_, ?_⟩
      · have F4 : Fr n S' T8 := (F2.trans Fr.app).trans Fr.app
        exact ty_list (F4.get fl.at_ (by omega))
      · rw [List.map_append, lm, List.map_cons, List.map_nil, ← List.take_append_getElem hi']
      · intro c hc
        rcases List.mem_append.mp hc with q | q
        · exact ld c q
        · simp at q; subst q; exact hdp0
      · have fC : Fil n (k + 4 + 10 * m + 20 * (i + 1)) Sb4 TB Sb4.length (l.map dC) := ⟨fl.fr.trans F3, tb.mono (by omega), hf'⟩
        have := fC.put (S' := S) (d := dC (xs[i], dp)) (Nat.le_refl _) (by omega)
        simpa using this
      · rw [List.getElem?_set_ne (by omega)]; exact hxB)
    (fun τ S' ⟨l, x6, x7, x8, e, ll, lm, ld, fl, hx'⟩ => by
      simp only [seqD, hx', Option.map_some]
      rw [List.getElem?_eq_none (by simp; omega)]) (xs.length + 1) 0 [some (.loc n), some (.int most), some (.int m), some (.int kind), some (.int alike), some (.loc Sb4.length), none, none, none] Sd (Nat.zero_le _) (by omega)
    ⟨[], none, none, none, rfl, rfl, rfl, (fun c hc => by cases hc), ⟨Fr.app.trans fr5, sp5.mono (by omega), hf0⟩, hx⟩
  have lm' : l.map (·.1) = xs := by rw [lm, List.take_of_length_le (by omega)]
  refine ⟨S', l, ?_, ⟨by omega, by omega, fun c hc => nmx _ (by rw [← lm']; exact List.mem_map_of_mem hc), fun c hc => (ld c hc).1, by rw [lm']; exact ndx⟩, by omega, fl.sp.mono (by omega), ?_, fun c hc => (ld c hc).2⟩
  · refine fnM_rt ?_
    refine (sSeq_nx (sSet_ok (d := .int m) (S1 := Sb2) (eB_ok rfl (eCl_ok (a2_ok rfl (eB_ok (eLst_ok (a3_ok rfl rfl rfl) (by simp)) e1 e2)) rfl e3) ?_))).trans ?_
    · rw [gAdd_i, em']
    refine (sSeq_nx (sSet_ok e4)).trans ?_
    refine (sSeq_nx (sSet_ok e5)).trans ?_
    refine (sSeq_nx (sSet_ok (eLst_ok aNil_ok (by simp)))).trans ?_
    refine (sSeq_nx (sFor_ok (iSeq_ok (eCl_ok (a2_ok rfl rfl) rfl e6) eW) L)).trans (sRt_ok (eCB_ok (a1_ok rfl) ?_))
    have : seqD S' (.loc Sb4.length) = some (l.map dC) := by simp [seqD, fl.at_]
    simp only [gTupleN, this, Option.bind_some]; rfl
  · have F : Fr n S Sb4 := (((Fr.app.trans fr1).trans fr2).trans fr3).trans fr4
    exact F.trans fl.fr
theorem deck_frN {n k : Nat} {most : Nat} {τ : Sl} {a : AF} (w : Wf S) (h : Spr n k S) (hk : k < 2 ^ 31) (hm0 : 1 ≤ most) (hm1 : most ≤ 40) (ha : a τ S = some (.ok [.loc n, .int (most : Nat)] S)) :
    ∃ (S' : Sto) (l : List Card), fz (eCl M_n_law_deck 2 a) τ S = some (.ok (dN l) S') ∧ DeckOk l ∧ l.length ≤ max 7 most ∧ (∀ c ∈ l, c.2 < 10 ^ 40) ∧ Spr n (k + 2000) S' ∧ Sm n S S' ∧ Wf S' := by
  obtain ⟨S1, l, e, ok, hl, sp, fr, hb⟩ := deck_okN (n := n) (most := most) h hk (by omega) (by omega)
  obtain ⟨S2, e2, sm, sp2, w2⟩ := fz_fr w (eCl_ok ha rfl e) fr sp h.lt bd_dN
  exact ⟨S2, l, e2, ok, by omega, hb, sp2, sm, w2⟩
end Sb
end
section
set_option Elab.async false
set_option linter.all false
set_option maxRecDepth 100000
set_option maxHeartbeats 4000000
namespace Sb
open PySem PySem.Spec PyProof.Rows L2
variable {K : PySem.W.Frag} {S : Sto}
/-! ## what is no deck -/
theorem fnM_xx {n : Nat} {f : SF} {ds : List D} {S S' : Sto} {x : Exn} {τ : Sl} (h : f (ini n ds) S = some (.xx x τ, S')) : fnM n f ds S = some (.ex x S') := by
  unfold fnM; rw [h]
theorem sSeq_xx {f g : SF} {τ τ1 : Sl} {x : Exn} {S S1 : Sto} (h : f τ S = some (.xx x τ1, S1)) : sSeq f g τ S = some (.xx x τ1, S1) := by simp only [sSeq, h]
theorem or_t {t u : BF} {τ : Sl} {S S1 : Sto} (h1 : t τ S = some (.ok true S1)) : tOr' t u τ S = some (.ok true S1) := by simp [tOr', M.bnd, h1]
theorem sSet_xx {i : Nat} {fe : EF} {τ : Sl} {x : Exn} {S S1 : Sto} (h : fe τ S = some (.ex x S1)) : sSet i fe τ S = some (.xx x τ, S1) := by simp only [sSet, sx, h]
theorem sEx_xx {fe : EF} {τ : Sl} {x : Exn} {S S1 : Sto} (h : fe τ S = some (.ex x S1)) : sEx fe τ S = some (.xx x τ, S1) := by simp only [sEx, sx, h]
theorem sRt_xx {fe : EF} {τ : Sl} {x : Exn} {S S1 : Sto} (h : fe τ S = some (.ex x S1)) : sRt fe τ S = some (.xx x τ, S1) := by simp only [sRt, sx, h]
theorem eCl_xx {m : List D → M D} {n : Nat} {r : AF} {τ : Sl} {x : Exn} {S S1 : Sto} (h1 : r τ S = some (.ex x S1)) : eCl m n r τ S = some (.ex x S1) := by simp only [eCl, M.bnd, h1]
theorem aCons_xx {f : EF} {r : AF} {τ : Sl} {x : Exn} {S S1 : Sto} (h1 : f τ S = some (.ex x S1)) : aCons f r τ S = some (.ex x S1) := by simp only [aCons, M.bnd, h1]
theorem fz_xx {f : EF} {τ : Sl} {x : Exn} {S X : Sto} (w : Wf S) (e : f τ S = some (.ex x (S ++ X))) : fz f τ S = some (.ex x S) := by
  simp only [fz, e, take_app]
  rw [if_pos w]
theorem eLst_xx {r : AF} {τ : Sl} {x : Exn} {S S1 : Sto} (h1 : r τ S = some (.ex x S1)) : eLst r τ S = some (.ex x S1) := by simp only [eLst, M.bnd, h1]
/-- no card -/
def BadC (b : D) : Prop := ∀ S : Sto, M_is_card [b] S = some (.ok (.bl false) S)
theorem bad_pair {x y : D} (h : (∀ S : Sto, M_is_name [x] S = some (.ok (.bl false) S)) ∨ ((∀ S : Sto, M_is_name [x] S = some (.ok (.bl true) S)) ∧ ∀ S : Sto, M_is_depth [y] S = some (.ok (.bl false) S))) : BadC (.tup [x, y]) := fun S => by
  have hl : M_is_listed [.tup [x, y]] S = some (.ok (.bl true) S) := by simp [fnM, ini, sSeq, sNop, sEx, sRt, sIf, sSet, sPut, putD, sAs, sRaise, sx, st', tB, tAn, tOr', tNt, tAll, eB, eVar, eC, eTup, eLst, eCB, eCl, eBM, eIf, eAnd, eOr, eNot, eCh, eSl, oNo, oSo, aNil, aCons, M.bnd, lft, eIs, eIs2, kindD, kb_NoneType_int, kb_NoneType_bool, kb_NoneType_str, kb_NoneType_list, kb_NoneType_tuple, kb_bool_int, kb_bool_bool, kb_bool_str, kb_bool_list, kb_bool_tuple, kb_int_int, kb_int_bool, kb_int_str, kb_int_list, kb_int_tuple, kb_str_int, kb_str_bool, kb_str_str, kb_str_list, kb_str_tuple, kb_tuple_int, kb_tuple_bool, kb_tuple_str, kb_tuple_list, kb_tuple_tuple, kb_list_int, kb_list_bool, kb_list_str, kb_list_list, kb_list_tuple, kb_dict_int, kb_dict_bool, kb_dict_str, kb_dict_list, kb_dict_tuple, truD, gI, gAdd, gSub, gMul, gMod, gDiv, gPow, gLtI, gLe, gGtI, gGeI, gIx, gLen, gLenX, gAbs, gInt, gMax, gMax2, gMin2, gTuple, gList, seqD, listD, atI, ixN, tyD, gAppend, gPopAt, gInsert, m_is_listed, kindD]
  refine fnM_rt ((sSeq_nx (sIf_f (tOr_f (tNt_ok (tB_ok (eCl_ok (a1_ok rfl) rfl hl))) (tB_ok (eB_ok (eCB_ok (a1_ok rfl) (d := .int 2) (S2 := S) rfl) rfl (d := .bl false) (S3 := S) ?_))))).trans ?_)
  · rw [gEq_int]; rfl
  · have g0 : ∀ S : Sto, gIx (.tup [x, y]) (.int 0) S = some (x, S) := fun S => rfl
    have g1 : ∀ S : Sto, gIx (.tup [x, y]) (.int 1) S = some (y, S) := fun S => rfl
    rcases h with h | ⟨h, h2⟩
    · simp only [sRt, sx, eAnd, eCl, aCons, aNil, M.bnd, eB, eVar, eC, lft, g0, ini, List.map_cons, List.map_nil, List.cons_append, List.getElem?_cons_zero, List.length_cons, List.length_nil, if_true, h S, truD, Option.bind_some]
      simp
    · simp only [sRt, sx, eAnd, eCl, aCons, aNil, M.bnd, eB, eVar, eC, lft, g0, g1, ini, List.map_cons, List.map_nil, List.cons_append, List.getElem?_cons_zero, List.length_cons, List.length_nil, if_true, h S, h2 S, truD, Option.bind_some]
theorem bad_len {ds : List D} (h : ds.length ≠ 2) (hl : ds.length ≤ 1000) : BadC (.tup ds) ∧ BadC (.fl ds) := by
  have key : ∀ d : D, (∀ S : Sto, M_is_listed [d] S = some (.ok (.bl true) S)) → (∀ S : Sto, gLenX [d] S = some (.int ds.length, S)) → BadC d := fun d h1 h2 S => by
    refine fnM_rt (sSeq_rt ((sIf_t (tOr_f (tNt_ok (tB_ok (eCl_ok (a1_ok rfl) rfl (h1 S)))) (tB_ok (eB_ok (eCB_ok (a1_ok rfl) (h2 S)) rfl (d := .bl true) (S3 := S) ?_)))).trans (sRt_ok rfl)))
    rw [gEq_int]
    have : ¬ ((ds.length : Int) = 2) := by omega
    simp [this]
  exact ⟨key _ (fun S => by simp [fnM, ini, sSeq, sNop, sEx, sRt, sIf, sSet, sPut, putD, sAs, sRaise, sx, st', tB, tAn, tOr', tNt, tAll, eB, eVar, eC, eTup, eLst, eCB, eCl, eBM, eIf, eAnd, eOr, eNot, eCh, eSl, oNo, oSo, aNil, aCons, M.bnd, lft, eIs, eIs2, kindD, kb_NoneType_int, kb_NoneType_bool, kb_NoneType_str, kb_NoneType_list, kb_NoneType_tuple, kb_bool_int, kb_bool_bool, kb_bool_str, kb_bool_list, kb_bool_tuple, kb_int_int, kb_int_bool, kb_int_str, kb_int_list, kb_int_tuple, kb_str_int, kb_str_bool, kb_str_str, kb_str_list, kb_str_tuple, kb_tuple_int, kb_tuple_bool, kb_tuple_str, kb_tuple_list, kb_tuple_tuple, kb_list_int, kb_list_bool, kb_list_str, kb_list_list, kb_list_tuple, kb_dict_int, kb_dict_bool, kb_dict_str, kb_dict_list, kb_dict_tuple, truD, gI, gAdd, gSub, gMul, gMod, gDiv, gPow, gLtI, gLe, gGtI, gGeI, gIx, gLen, gLenX, gAbs, gInt, gMax, gMax2, gMin2, gTuple, gList, seqD, listD, atI, ixN, tyD, gAppend, gPopAt, gInsert, m_is_listed, kindD]) fun S => rfl, key _ (fun S => by simp [fnM, ini, sSeq, sNop, sEx, sRt, sIf, sSet, sPut, putD, sAs, sRaise, sx, st', tB, tAn, tOr', tNt, tAll, eB, eVar, eC, eTup, eLst, eCB, eCl, eBM, eIf, eAnd, eOr, eNot, eCh, eSl, oNo, oSo, aNil, aCons, M.bnd, lft, eIs, eIs2, kindD, kb_NoneType_int, kb_NoneType_bool, kb_NoneType_str, kb_NoneType_list, kb_NoneType_tuple, kb_bool_int, kb_bool_bool, kb_bool_str, kb_bool_list, kb_bool_tuple, kb_int_int, kb_int_bool, kb_int_str, kb_int_list, kb_int_tuple, kb_str_int, kb_str_bool, kb_str_str, kb_str_list, kb_str_tuple, kb_tuple_int, kb_tuple_bool, kb_tuple_str, kb_tuple_list, kb_tuple_tuple, kb_list_int, kb_list_bool, kb_list_str, kb_list_list, kb_list_tuple, kb_dict_int, kb_dict_bool, kb_dict_str, kb_dict_list, kb_dict_tuple, truD, gI, gAdd, gSub, gMul, gMod, gDiv, gPow, gLtI, gLe, gGtI, gGeI, gIx, gLen, gLenX, gAbs, gInt, gMax, gMax2, gMin2, gTuple, gList, seqD, listD, atI, ixN, tyD, gAppend, gPopAt, gInsert, m_is_listed, kindD]) fun S => rfl⟩
theorem bad_kind {d : D} (h : ∀ S : Sto, M_is_listed [d] S = some (.ok (.bl false) S)) : BadC d := fun S =>
  fnM_rt (sSeq_rt ((sIf_t (or_t (tNt_ok (tB_ok (eCl_ok (a1_ok rfl) rfl (h S)))))).trans (sRt_ok rfl)))
theorem nolist_non (S : Sto) : M_is_listed [.non] S = some (.ok (.bl false) S) := by simp [fnM, ini, sSeq, sNop, sEx, sRt, sIf, sSet, sPut, putD, sAs, sRaise, sx, st', tB, tAn, tOr', tNt, tAll, eB, eVar, eC, eTup, eLst, eCB, eCl, eBM, eIf, eAnd, eOr, eNot, eCh, eSl, oNo, oSo, aNil, aCons, M.bnd, lft, eIs, eIs2, kindD, kb_NoneType_int, kb_NoneType_bool, kb_NoneType_str, kb_NoneType_list, kb_NoneType_tuple, kb_bool_int, kb_bool_bool, kb_bool_str, kb_bool_list, kb_bool_tuple, kb_int_int, kb_int_bool, kb_int_str, kb_int_list, kb_int_tuple, kb_str_int, kb_str_bool, kb_str_str, kb_str_list, kb_str_tuple, kb_tuple_int, kb_tuple_bool, kb_tuple_str, kb_tuple_list, kb_tuple_tuple, kb_list_int, kb_list_bool, kb_list_str, kb_list_list, kb_list_tuple, kb_dict_int, kb_dict_bool, kb_dict_str, kb_dict_list, kb_dict_tuple, truD, gI, gAdd, gSub, gMul, gMod, gDiv, gPow, gLtI, gLe, gGtI, gGeI, gIx, gLen, gLenX, gAbs, gInt, gMax, gMax2, gMin2, gTuple, gList, seqD, listD, atI, ixN, tyD, gAppend, gPopAt, gInsert, m_is_listed, kindD]
theorem nolist_int {i : Int} (S : Sto) : M_is_listed [.int i] S = some (.ok (.bl false) S) := by simp [fnM, ini, sSeq, sNop, sEx, sRt, sIf, sSet, sPut, putD, sAs, sRaise, sx, st', tB, tAn, tOr', tNt, tAll, eB, eVar, eC, eTup, eLst, eCB, eCl, eBM, eIf, eAnd, eOr, eNot, eCh, eSl, oNo, oSo, aNil, aCons, M.bnd, lft, eIs, eIs2, kindD, kb_NoneType_int, kb_NoneType_bool, kb_NoneType_str, kb_NoneType_list, kb_NoneType_tuple, kb_bool_int, kb_bool_bool, kb_bool_str, kb_bool_list, kb_bool_tuple, kb_int_int, kb_int_bool, kb_int_str, kb_int_list, kb_int_tuple, kb_str_int, kb_str_bool, kb_str_str, kb_str_list, kb_str_tuple, kb_tuple_int, kb_tuple_bool, kb_tuple_str, kb_tuple_list, kb_tuple_tuple, kb_list_int, kb_list_bool, kb_list_str, kb_list_list, kb_list_tuple, kb_dict_int, kb_dict_bool, kb_dict_str, kb_dict_list, kb_dict_tuple, truD, gI, gAdd, gSub, gMul, gMod, gDiv, gPow, gLtI, gLe, gGtI, gGeI, gIx, gLen, gLenX, gAbs, gInt, gMax, gMax2, gMin2, gTuple, gList, seqD, listD, atI, ixN, tyD, gAppend, gPopAt, gInsert, m_is_listed, kindD]
theorem nolist_bl {b : Bool} (S : Sto) : M_is_listed [.bl b] S = some (.ok (.bl false) S) := by simp [fnM, ini, sSeq, sNop, sEx, sRt, sIf, sSet, sPut, putD, sAs, sRaise, sx, st', tB, tAn, tOr', tNt, tAll, eB, eVar, eC, eTup, eLst, eCB, eCl, eBM, eIf, eAnd, eOr, eNot, eCh, eSl, oNo, oSo, aNil, aCons, M.bnd, lft, eIs, eIs2, kindD, kb_NoneType_int, kb_NoneType_bool, kb_NoneType_str, kb_NoneType_list, kb_NoneType_tuple, kb_bool_int, kb_bool_bool, kb_bool_str, kb_bool_list, kb_bool_tuple, kb_int_int, kb_int_bool, kb_int_str, kb_int_list, kb_int_tuple, kb_str_int, kb_str_bool, kb_str_str, kb_str_list, kb_str_tuple, kb_tuple_int, kb_tuple_bool, kb_tuple_str, kb_tuple_list, kb_tuple_tuple, kb_list_int, kb_list_bool, kb_list_str, kb_list_list, kb_list_tuple, kb_dict_int, kb_dict_bool, kb_dict_str, kb_dict_list, kb_dict_tuple, truD, gI, gAdd, gSub, gMul, gMod, gDiv, gPow, gLtI, gLe, gGtI, gGeI, gIx, gLen, gLenX, gAbs, gInt, gMax, gMax2, gMin2, gTuple, gList, seqD, listD, atI, ixN, tyD, gAppend, gPopAt, gInsert, m_is_listed, kindD]
theorem nolist_str {x : Str} (S : Sto) : M_is_listed [.str x] S = some (.ok (.bl false) S) := by simp [fnM, ini, sSeq, sNop, sEx, sRt, sIf, sSet, sPut, putD, sAs, sRaise, sx, st', tB, tAn, tOr', tNt, tAll, eB, eVar, eC, eTup, eLst, eCB, eCl, eBM, eIf, eAnd, eOr, eNot, eCh, eSl, oNo, oSo, aNil, aCons, M.bnd, lft, eIs, eIs2, kindD, kb_NoneType_int, kb_NoneType_bool, kb_NoneType_str, kb_NoneType_list, kb_NoneType_tuple, kb_bool_int, kb_bool_bool, kb_bool_str, kb_bool_list, kb_bool_tuple, kb_int_int, kb_int_bool, kb_int_str, kb_int_list, kb_int_tuple, kb_str_int, kb_str_bool, kb_str_str, kb_str_list, kb_str_tuple, kb_tuple_int, kb_tuple_bool, kb_tuple_str, kb_tuple_list, kb_tuple_tuple, kb_list_int, kb_list_bool, kb_list_str, kb_list_list, kb_list_tuple, kb_dict_int, kb_dict_bool, kb_dict_str, kb_dict_list, kb_dict_tuple, truD, gI, gAdd, gSub, gMul, gMod, gDiv, gPow, gLtI, gLe, gGtI, gGeI, gIx, gLen, gLenX, gAbs, gInt, gMax, gMax2, gMin2, gTuple, gList, seqD, listD, atI, ixN, tyD, gAppend, gPopAt, gInsert, m_is_listed, kindD]
theorem nolist_fd {ks : List Key} {ds : List D} (S : Sto) : M_is_listed [.fd ks ds] S = some (.ok (.bl false) S) := by simp [fnM, ini, sSeq, sNop, sEx, sRt, sIf, sSet, sPut, putD, sAs, sRaise, sx, st', tB, tAn, tOr', tNt, tAll, eB, eVar, eC, eTup, eLst, eCB, eCl, eBM, eIf, eAnd, eOr, eNot, eCh, eSl, oNo, oSo, aNil, aCons, M.bnd, lft, eIs, eIs2, kindD, kb_NoneType_int, kb_NoneType_bool, kb_NoneType_str, kb_NoneType_list, kb_NoneType_tuple, kb_bool_int, kb_bool_bool, kb_bool_str, kb_bool_list, kb_bool_tuple, kb_int_int, kb_int_bool, kb_int_str, kb_int_list, kb_int_tuple, kb_str_int, kb_str_bool, kb_str_str, kb_str_list, kb_str_tuple, kb_tuple_int, kb_tuple_bool, kb_tuple_str, kb_tuple_list, kb_tuple_tuple, kb_list_int, kb_list_bool, kb_list_str, kb_list_list, kb_list_tuple, kb_dict_int, kb_dict_bool, kb_dict_str, kb_dict_list, kb_dict_tuple, truD, gI, gAdd, gSub, gMul, gMod, gDiv, gPow, gLtI, gLe, gGtI, gGeI, gIx, gLen, gLenX, gAbs, gInt, gMax, gMax2, gMin2, gTuple, gList, seqD, listD, atI, ixN, tyD, gAppend, gPopAt, gInsert, m_is_listed, kindD]
theorem noname_non (S : Sto) : M_is_name [.non] S = some (.ok (.bl false) S) := by simp [fnM, ini, sSeq, sNop, sEx, sRt, sIf, sSet, sPut, putD, sAs, sRaise, sx, st', tB, tAn, tOr', tNt, tAll, eB, eVar, eC, eTup, eLst, eCB, eCl, eBM, eIf, eAnd, eOr, eNot, eCh, eSl, oNo, oSo, aNil, aCons, M.bnd, lft, eIs, eIs2, kindD, kb_NoneType_int, kb_NoneType_bool, kb_NoneType_str, kb_NoneType_list, kb_NoneType_tuple, kb_bool_int, kb_bool_bool, kb_bool_str, kb_bool_list, kb_bool_tuple, kb_int_int, kb_int_bool, kb_int_str, kb_int_list, kb_int_tuple, kb_str_int, kb_str_bool, kb_str_str, kb_str_list, kb_str_tuple, kb_tuple_int, kb_tuple_bool, kb_tuple_str, kb_tuple_list, kb_tuple_tuple, kb_list_int, kb_list_bool, kb_list_str, kb_list_list, kb_list_tuple, kb_dict_int, kb_dict_bool, kb_dict_str, kb_dict_list, kb_dict_tuple, truD, gI, gAdd, gSub, gMul, gMod, gDiv, gPow, gLtI, gLe, gGtI, gGeI, gIx, gLen, gLenX, gAbs, gInt, gMax, gMax2, gMin2, gTuple, gList, seqD, listD, atI, ixN, tyD, gAppend, gPopAt, gInsert, m_is_name, kindD]
theorem noname_int {i : Int} (S : Sto) : M_is_name [.int i] S = some (.ok (.bl false) S) := by simp [fnM, ini, sSeq, sNop, sEx, sRt, sIf, sSet, sPut, putD, sAs, sRaise, sx, st', tB, tAn, tOr', tNt, tAll, eB, eVar, eC, eTup, eLst, eCB, eCl, eBM, eIf, eAnd, eOr, eNot, eCh, eSl, oNo, oSo, aNil, aCons, M.bnd, lft, eIs, eIs2, kindD, kb_NoneType_int, kb_NoneType_bool, kb_NoneType_str, kb_NoneType_list, kb_NoneType_tuple, kb_bool_int, kb_bool_bool, kb_bool_str, kb_bool_list, kb_bool_tuple, kb_int_int, kb_int_bool, kb_int_str, kb_int_list, kb_int_tuple, kb_str_int, kb_str_bool, kb_str_str, kb_str_list, kb_str_tuple, kb_tuple_int, kb_tuple_bool, kb_tuple_str, kb_tuple_list, kb_tuple_tuple, kb_list_int, kb_list_bool, kb_list_str, kb_list_list, kb_list_tuple, kb_dict_int, kb_dict_bool, kb_dict_str, kb_dict_list, kb_dict_tuple, truD, gI, gAdd, gSub, gMul, gMod, gDiv, gPow, gLtI, gLe, gGtI, gGeI, gIx, gLen, gLenX, gAbs, gInt, gMax, gMax2, gMin2, gTuple, gList, seqD, listD, atI, ixN, tyD, gAppend, gPopAt, gInsert, m_is_name, kindD]
theorem nodep_neg {i : Int} (h : i < 0) (S : Sto) : M_is_depth [.int i] S = some (.ok (.bl false) S) := by
  have hw : M_is_whole [.int i] S = some (.ok (.bl true) S) := is_whole_int
  have : ¬ (0 ≤ i) := by omega
  simp [fnM, m_is_depth, sRt, sx, eAnd, eCl, aCons, aNil, M.bnd, eVar, ini, hw, truD, eB, eC, gGeI, gI, lft, this]
theorem nowhole {d : D} {k : String} (hk : ∀ S : Sto, kindD S d = some k) (h : k = "NoneType" ∨ k = "bool" ∨ k = "str" ∨ k = "list" ∨ k = "tuple" ∨ k = "dict") (S : Sto) : M_is_whole [d] S = some (.ok (.bl false) S) := by
  rcases h with rfl | rfl | rfl | rfl | rfl | rfl <;> simp [fnM, m_is_whole, sRt, sx, eAnd, eNot, eIs, M.bnd, eVar, ini, hk, truD, kb_NoneType_int, kb_bool_int, kb_bool_bool, kb_str_int, kb_list_int, kb_tuple_int, kb_dict_int]
theorem nodep {d : D} {k : String} (hk : ∀ S : Sto, kindD S d = some k) (h : k = "NoneType" ∨ k = "bool" ∨ k = "str" ∨ k = "list" ∨ k = "tuple" ∨ k = "dict") (S : Sto) : M_is_depth [d] S = some (.ok (.bl false) S) := by
  have hw := nowhole hk h S
  simp [fnM, m_is_depth, sRt, sx, eAnd, eCl, aCons, aNil, M.bnd, eVar, ini, hw, truD]
theorem name_e : ∀ S : Sto, M_is_name [.str ""] S = some (.ok (.bl false) S) := fun S => by rfl
theorem name_A : ∀ S : Sto, M_is_name [.str "A"] S = some (.ok (.bl false) S) := fun S => by rfl
theorem name_9 : ∀ S : Sto, M_is_name [.str "abcdefghi"] S = some (.ok (.bl false) S) := fun S => by rfl
theorem name_ab : ∀ S : Sto, M_is_name [.str "a b"] S = some (.ok (.bl false) S) := fun S => by rfl
theorem name_am : ∀ S : Sto, M_is_name [.str "a-"] S = some (.ok (.bl false) S) := fun S => by rfl
theorem name_a : ∀ S : Sto, M_is_name [.str "a"] S = some (.ok (.bl true) S) := fun S => by rfl
/-! ### decks that are none -/
def Sq (d : D) (ds : List D) : Prop := d = .tup ds ∨ d = .fl ds
theorem Sq.listed {d : D} {ds : List D} (h : Sq d ds) (S : Sto) : M_is_listed [d] S = some (.ok (.bl true) S) := by
  rcases h with rfl | rfl <;> simp [fnM, ini, sSeq, sNop, sEx, sRt, sIf, sSet, sPut, putD, sAs, sRaise, sx, st', tB, tAn, tOr', tNt, tAll, eB, eVar, eC, eTup, eLst, eCB, eCl, eBM, eIf, eAnd, eOr, eNot, eCh, eSl, oNo, oSo, aNil, aCons, M.bnd, lft, eIs, eIs2, kindD, kb_NoneType_int, kb_NoneType_bool, kb_NoneType_str, kb_NoneType_list, kb_NoneType_tuple, kb_bool_int, kb_bool_bool, kb_bool_str, kb_bool_list, kb_bool_tuple, kb_int_int, kb_int_bool, kb_int_str, kb_int_list, kb_int_tuple, kb_str_int, kb_str_bool, kb_str_str, kb_str_list, kb_str_tuple, kb_tuple_int, kb_tuple_bool, kb_tuple_str, kb_tuple_list, kb_tuple_tuple, kb_list_int, kb_list_bool, kb_list_str, kb_list_list, kb_list_tuple, kb_dict_int, kb_dict_bool, kb_dict_str, kb_dict_list, kb_dict_tuple, truD, gI, gAdd, gSub, gMul, gMod, gDiv, gPow, gLtI, gLe, gGtI, gGeI, gIx, gLen, gLenX, gAbs, gInt, gMax, gMax2, gMin2, gTuple, gList, seqD, listD, atI, ixN, tyD, gAppend, gPopAt, gInsert, m_is_listed, kindD]
theorem Sq.len {d : D} {ds : List D} (h : Sq d ds) (S : Sto) : gLenX [d] S = some (.int ds.length, S) := by rcases h with rfl | rfl <;> rfl
theorem Sq.wk {d : D} {ds : List D} (h : Sq d ds) (S : Sto) : wkD S d = some ⟨ds.length, fun i _ => some ds[i]?⟩ := by rcases h with rfl | rfl <;> rfl
structure Good (l : List Card) : Prop where
  nm : ∀ c ∈ l, Nm c.1
  dep : ∀ c ∈ l, 0 ≤ c.2
inductive Odd : D → Prop
  | kind {d : D} : (∀ S : Sto, M_is_listed [d] S = some (.ok (.bl false) S)) → Odd d
  | len {d : D} {ds : List D} : Sq d ds → ds.length = 0 ∨ 40 < ds.length → Odd d
  | bad {d b : D} {l : List Card} {r : List D} : Sq d (l.map dC ++ b :: r) → Good l → BadC b → Odd d
  | dup {d : D} {l : List Card} : Sq d (l.map dC) → Good l → ¬ (l.map (·.1)).Nodup → Odd d
theorem goA_stop {nxt : Nat → Sto → Option (Option D)} {g : TF} {fe : EF} {k n : Nat} (item : Nat → D)
    (h : ∀ i S, i < n → nxt i S = some (some (item i)) ∧ ∃ τ1, g (item i) S (List.replicate k none) = some τ1 ∧ fe τ1 S = some (.ok (.bl true) S))
    (he : ∀ S, ∃ d τ1, nxt n S = some (some d) ∧ g d S (List.replicate k none) = some τ1 ∧ fe τ1 S = some (.ok (.bl false) S)) : ∀ (m i : Nat) (S : Sto), i ≤ n → n - i < m → goA nxt g fe k m i S = some (false, S)
  | 0, i, S, _, hm => absurd hm (Nat.not_lt_zero _)
  | m + 1, i, S, hi, hm => by
    unfold goA
    by_cases e : i = n
    · subst e
      obtain ⟨d, τ1, h1, h2, h3⟩ := he S
      rw [h1]
      simp only [h2, h3]
    · obtain ⟨h1, τ1, h2, h3⟩ := h i S (by omega)
      rw [h1]
      simp only [h2, h3]
      exact goA_stop item h he m (i + 1) S (by omega) (by omega)
theorem gLe1 {n : Nat} (h : 1 ≤ n) : gLe (.int 1) (.int n) S = some (.bl true, S) := by
  have : (1 : Int) ≤ n := by omega
  simp [gLe, this]
theorem gLe40 {n : Nat} {b : Bool} (h : decide ((n : Int) ≤ 40) = b) : gLe (.int n) (.int 40) S = some (.bl b, S) := by simp [gLe, h]
theorem eCh_tt {g g' : G2} {fa fb fc : EF} {τ : Sl} {x y z d : D} {S S1 S2 S3 S4 S5 : Sto} (h1 : fa τ S = some (.ok x S1)) (h2 : fb τ S1 = some (.ok y S2)) (h3 : g x y S2 = some (.bl true, S3)) (h4 : fc τ S3 = some (.ok z S4)) (h5 : g' y z S4 = some (d, S5)) : eCh g g' fa fb fc τ S = some (.ok d S5) := by
  simp only [eCh, M.bnd, h1, h2, h3, h4, h5, lft]
theorem eCh_f {g g' : G2} {fa fb fc : EF} {τ : Sl} {x y : D} {S S1 S2 S3 : Sto} (h1 : fa τ S = some (.ok x S1)) (h2 : fb τ S1 = some (.ok y S2)) (h3 : g x y S2 = some (.bl false, S3)) : eCh g g' fa fb fc τ S = some (.ok (.bl false) S3) := by
  simp only [eCh, M.bnd, h1, h2, h3]
theorem deck_of_no {d : D} (h : Odd d) : ∃ X, M_deck_of K [d] S = some (.ex ⟨He.ga K "NoDeck", none⟩ (S ++ X)) ∧ ∀ o ∈ X, bdO 0 o = true := by
  have first : ∀ {b : Bool}, (tOr' (tNt (tB (eCl (M_is_listed) 1 (aCons (eVar 0) (aNil))))) (tNt (tB (eCh gLe gLe (eC (.int 1)) (eCB gLenX (aCons (eVar 0) (aNil))) (eC (.int 40)))))) (ini 5 [d]) S = some (.ok true S) → ∃ X, M_deck_of K [d] S = some (.ex ⟨He.ga K "NoDeck", none⟩ (S ++ X)) ∧ ∀ o ∈ X, bdO 0 o = true := fun {b} h => by
    refine ⟨[], ?_, by simp⟩
    rw [List.append_nil]
    exact fnM_xx (sSeq_xx (sIf_t h))
  have second : ∀ {ds : List D}, Sq d ds → 1 ≤ ds.length → ds.length ≤ 40 → (tOr' (tNt (tB (eCl (M_is_listed) 1 (aCons (eVar 0) (aNil))))) (tNt (tB (eCh gLe gLe (eC (.int 1)) (eCB gLenX (aCons (eVar 0) (aNil))) (eC (.int 40)))))) (ini 5 [d]) S = some (.ok false S) := fun {ds} q h1 h2 =>
    tOr_f (tNt_ok (tB_ok (eCl_ok (a1_ok rfl) rfl (q.listed S)))) (tNt_ok (tB_ok (eCh_tt rfl (eCB_ok (a1_ok rfl) (q.len S)) (gLe1 h1) rfl (gLe40 (decide_eq_true (by omega))))))
  have over : ∀ {ds : List D}, Sq d ds → ds.length = 0 ∨ 40 < ds.length → ∃ X, M_deck_of K [d] S = some (.ex ⟨He.ga K "NoDeck", none⟩ (S ++ X)) ∧ ∀ o ∈ X, bdO 0 o = true := fun {ds} q hl => by
    refine first (b := true) (tOr_f (tNt_ok (tB_ok (eCl_ok (a1_ok rfl) rfl (q.listed S)))) (tNt_ok (b := false) (tB_ok ?_)))
    rcases hl with hl | hl
    · refine eCh_f rfl (eCB_ok (a1_ok rfl) (q.len S)) ?_
      rw [hl]; rfl
    · exact eCh_tt rfl (eCB_ok (a1_ok rfl) (q.len S)) (gLe1 (by omega)) rfl (gLe40 (decide_eq_false (by omega)))
  cases h with
  | kind h => exact first (b := true) (or_t (tNt_ok (tB_ok (eCl_ok (a1_ok rfl) rfl (h S)))))
  | len q hl => exact over q hl
  | @bad b l r q g hb =>
    by_cases h40 : (l.map dC ++ b :: r).length ≤ 40
    · refine ⟨[], ?_, by simp⟩
      rw [List.append_nil]
      have L := goA_stop (nxt := fun i _ => some (l.map dC ++ b :: r)[i]?) (g := tN 1) (fe := eCl M_is_card 1 (aCons (eVar 1) aNil)) (k := 5) (n := l.length) (fun i => dC (l.getD i default))
        (fun i S hi => by
          have e := List.getElem?_eq_getElem hi
          have e2 : l.getD i default = l[i] := by rw [List.getD_eq_getElem?_getD, e]; rfl
          refine ⟨by rw [List.getElem?_append_left (by simpa using hi), List.getElem?_map, e, e2]; rfl, _, rfl, eCl_ok (a1_ok rfl) rfl ?_⟩
          rw [e2]
          exact is_card_ok (.inl rfl) (g.nm _ (List.getElem_mem hi)) (g.dep _ (List.getElem_mem hi)))
        (fun S => ⟨b, _, by rw [List.getElem?_append_right (by simp)]; simp, rfl, eCl_ok (a1_ok rfl) rfl (hb S)⟩) ((l.map dC ++ b :: r).length + 1) 0 S (Nat.zero_le _) (by simp; omega)
      have eA : eAll 5 (iSeq (eVar 0)) (tN 1) (eCl (M_is_card) 1 (aCons (eVar 1) (aNil))) (ini 5 [d]) S = some (.ok (.bl false) S) := by
        unfold eAll
        rw [iSeq_ok (d := d) (S1 := S) rfl (q.wk S)]
        simp only [L, Option.bind_some]
      exact fnM_xx ((sSeq_nx (sIf_f (second q (by simp; omega) h40))).trans (sSeq_xx (sIf_t (tNt_ok (tB_ok eA)))))
    · exact over q (.inr (by omega))
  | @dup l q g nd =>
    by_cases hz : l.length = 0
    · exact over q (.inl (by simpa using hz))
    by_cases h40 : l.length ≤ 40
    · -- all are cards
      have LA := goA_inv (nxt := fun i _ => some (l.map dC)[i]?) (g := tN 1) (k := 5) (fe := eCl M_is_card 1 (aCons (eVar 1) aNil)) (n := l.length) (fun _ S' => S' = S) (fun i => dC (l.getD i default))
        (fun i S' hi e => by
          subst e
          have e := List.getElem?_eq_getElem hi
          have e2 : l.getD i default = l[i] := by rw [List.getD_eq_getElem?_getD, e]; rfl
          refine ⟨by rw [List.getElem?_map, e, e2]; rfl, _, S', rfl, eCl_ok (a1_ok rfl) rfl ?_, rfl⟩
          rw [e2]
          exact is_card_ok (.inl rfl) (g.nm _ (List.getElem_mem hi)) (g.dep _ (List.getElem_mem hi)))
        (fun S' _ => by simp) ((l.map dC).length + 1) 0 S (Nat.zero_le _) (by simp) rfl
      obtain ⟨S1, LA, rfl⟩ := LA
      have eA : eAll 5 (iSeq (eVar 0)) (tN 1) (eCl (M_is_card) 1 (aCons (eVar 1) (aNil))) (ini 5 [d]) S1 = some (.ok (.bl true) S1) := by
        unfold eAll
        rw [iSeq_ok (d := d) (S1 := S1) rfl (q.wk S1)]
        simp only [LA, Option.bind_some]
      have LC := goC_inv (g := tN2 3 4) (t := tAll) (fe := eTup (aCons (eVar 3) (aCons (eVar 4) aNil))) (l := S1.length) (τ0 := [some d, none, none, none, none]) (nxt := fun i _ => some (l.map dC)[i]?) (n := l.length)
        (fun i S' => S' = S1 ++ [.lst ((l.take i).map dC)]) (fun i => dC (l.getD i default))
        (fun i S' hi e => by
          subst e
          have e := List.getElem?_eq_getElem hi
          have e2 : l.getD i default = l[i] := by rw [List.getD_eq_getElem?_getD, e]; rfl
          have hzl : 2 ≤ sizeLine := by rw [sizeLine_eq]; decide
          refine ⟨by rw [List.getElem?_map, e, e2]; rfl, [some d, none, none, some (.str (l[i]).1), some (.int (l[i]).2)], by rw [e2]; rfl, .inr ⟨_, dC l[i], _, (l.take i).map dC, rfl, by simp [eTup, aCons, aNil, M.bnd, eVar, hzl], get_last _ _, by rw [List.length_map, List.length_take, sizeLine_eq]; omega, ?_⟩⟩
          rw [set_last, show (l.take (i + 1)) = l.take i ++ [l[i]] from by rw [List.take_append_getElem hi], List.map_append]
          rfl) (fun S' e => by simp) ((l.map dC).length + 1) 0 (S1 ++ [.lst []]) (Nat.zero_le _) (by simp) (by simp)
      obtain ⟨S2, LC, rfl⟩ := LC
      rw [List.take_length] at LC
      have eL : eLc (iSeq (eVar 0)) (tN2 3 4) (tAll) (eTup (aCons (eVar 3) (aCons (eVar 4) (aNil)))) [3, 4] (ini 5 [d]) S1 = some (.ok (.loc S1.length) (S1 ++ [.lst (l.map dC)])) :=
        eLc_ok (iSeq_ok (d := d) (S1 := S1) rfl (q.wk S1)) LC
      have eT : eCB gTuple (aCons (eLc (iSeq (eVar 0)) (tN2 3 4) (tAll) (eTup (aCons (eVar 3) (aCons (eVar 4) (aNil)))) [3, 4]) (aNil)) (ini 5 [d]) S1 = some (.ok (dK l) (S1 ++ [.lst (l.map dC)])) :=
        eCB_ok (a1_ok eL) (by simp [gTuple, seqD])
      -- the names
      have LK := goK_inv (g := tN 1) (fe := eB gIx (eVar 1) (eC (.int 0))) (l := S1.length + 1) (τ0 := [some d, none, some (dK l), none, none]) (nxt := fun i _ => some (l.map dC)[i]?) (n := l.length)
        (fun i S' => ∃ ms num, S' = S1 ++ [.lst (l.map dC)] ++ [.ks ms num] ∧ num ≤ i ∧ (∀ c ∈ l.take i, ms (.inr c.1) = true) ∧ (¬ ((l.take i).map (·.1)).Nodup → num < i)) (fun i => dC (l.getD i default))
        (fun i S' hi ⟨ms, num, e, h1, h2, h3⟩ => by
          subst e
          have e := List.getElem?_eq_getElem hi
          have e2 : l.getD i default = l[i] := by rw [List.getD_eq_getElem?_getD, e]; rfl
          refine ⟨by rw [List.getElem?_map, e, e2]; rfl, [some d, some (dC l[i]), some (dK l), none, none], .str l[i].1, S1 ++ [.lst (l.map dC)] ++ [.ks ms num], .inr l[i].1, ms, num, by rw [e2]; rfl, eB_ok rfl rfl ix_name, rfl, ?_, ?_, ?_⟩
          · rw [List.getElem?_append_right (by simp)]; simp
          · have : 41 < scanBound := by decide
            omega
          · refine ⟨fun j => ms j || decide (j = .inr l[i].1), if ms (.inr l[i].1) = true then num else num + 1, by rw [set_last2], by split <;> omega, fun c hc => ?_, fun hn => ?_⟩
            · rw [show (l.take (i + 1)) = l.take i ++ [l[i]] from by rw [List.take_append_getElem hi]] at hc
              rcases List.mem_append.mp hc with z | z
              · show (ms (.inr c.1) || _) = true
                rw [h2 c z]; rfl
              · simp at z; subst z; simp
            · by_cases hm : ms (.inr l[i].1) = true
              · rw [if_pos hm]; omega
              · rw [if_neg hm]
                by_cases hp : ((l.take i).map (·.1)).Nodup
                · exfalso
                  apply hn
                  rw [show (l.take (i + 1)) = l.take i ++ [l[i]] from by rw [List.take_append_getElem hi], List.map_append, List.nodup_append]
                  refine ⟨hp, by simp, fun a ha b hb hab => hm ?_⟩
                  simp at hb
                  subst hb
                  obtain ⟨c, hc, rfl⟩ := List.mem_map.mp ha
                  rw [← hab]
                  exact h2 c hc
                · have := h3 hp; omega)
        (fun S' _ => by simp) (l.length + 1) 0 (S1 ++ [.lst (l.map dC)] ++ [.ks (fun _ => false) 0]) (Nat.zero_le _) (by omega) ⟨_, _, rfl, Nat.le_refl _, by simp, by simp⟩
      obtain ⟨S3, LK, ms, num, rfl, _, _, hlt⟩ := LK
      rw [List.take_length] at hlt
      have hlt := hlt nd
      refine ⟨[.lst (l.map dC), .ks ms num], ?_, fun o ho => ?_⟩
      · have g2 : gLenX [.loc (S1.length + 1)] (S1 ++ [.lst (l.map dC)] ++ [.ks ms num]) = some (.int num, S1 ++ [.lst (l.map dC)] ++ [.ks ms num]) := by
          have : ((num : Nat) : Int) < 2 ^ 63 := by omega
          unfold gLenX
          simp only [get_last2]
          rw [if_pos this]
        have eS : eSc (iSeq (eVar 2)) (tN 1) (eB gIx (eVar 1) (eC (.int 0))) [1] [some d, none, some (dK l), none, none] (S1 ++ [.lst (l.map dC)]) = some (.ok (.loc (S1.length + 1)) (S1 ++ [.lst (l.map dC)] ++ [.ks ms num])) := by
          unfold eSc
          rw [iSeq_ok (d := dK l) (S1 := S1 ++ [.lst (l.map dC)]) rfl (Sq.wk (.inl rfl) _)]
          have ew : wipeD [some d, none, some (dK l), none, none] [1] = [some d, none, some (dK l), none, none] := rfl
          have el : (S1 ++ [.lst (l.map dC)] : Sto).length = S1.length + 1 := by simp
          simp only [ew, el, List.length_map, LK, Option.bind_some]
        have fin : (tB (eB gLtI (eCB gLenX (aCons (eSc (iSeq (eVar 2)) (tN 1) (eB gIx (eVar 1) (eC (.int 0))) [1]) (aNil))) (eCB gLenX (aCons (eVar 2) (aNil))))) [some d, none, some (dK l), none, none] (S1 ++ [.lst (l.map dC)]) = some (.ok true (S1 ++ [.lst (l.map dC)] ++ [.ks ms num])) :=
          tB_ok (eB_ok (eCB_ok (a1_ok eS) g2) (eCB_ok (a1_ok rfl) len_deck) (gLt_i.trans (by rw [decide_eq_true (by omega)])))
        refine fnM_xx ((sSeq_nx (sIf_f (second q (by simp; omega) (by simpa using h40)))).trans ((sSeq_nx (sIf_f (tNt_ok (tB_ok eA)))).trans ((sSeq_nx (sSet_ok eT)).trans (sSeq_xx (τ1 := [some d, none, some (dK l), none, none]) ((sIf_t fin).trans ?_)))))
        rw [List.append_assoc]; rfl
      · rcases List.mem_cons.mp ho with z | z
        · subst z; exact bds_dC
        · simp at z; subst z; rfl
    · exact over q (.inr (by simp; omega))
end Sb
end
section
set_option Elab.async false
set_option linter.all false
set_option maxRecDepth 100000
set_option maxHeartbeats 4000000
namespace Sb
open PySem PySem.Spec PyProof.Rows L2
/-! ## a step, place by place -/
theorem stp_k {c : Card} {r : List Card} : stp (c :: r) = r.take (ra (c :: r) 0) ++ c :: r.drop (ra (c :: r) 0) := by
  unfold stp ra rch at0; simp
theorem ra0_le {c : Card} {r : List Card} : ra (c :: r) 0 ≤ r.length := by unfold ra rch at0; simp; omega
theorem stp_at0 {l : List Card} {i : Nat} (h : 1 ≤ l.length) : at0 (stp l) i = if i < ra l 0 then at0 l (i + 1) else if i = ra l 0 then at0 l 0 else at0 l i := by
  cases l with
  | nil => simp at h
  | cons c r =>
    have hk := ra0_le (c := c) (r := r)
    rw [stp_k]
    generalize ra (c :: r) 0 = k at hk ⊢
    unfold at0
    simp only [List.getD_eq_getElem?_getD]
    by_cases h1 : i < k
    · rw [if_pos h1, List.getElem?_append_left (by rw [List.length_take]; omega), List.getElem?_take_of_lt h1, List.getElem?_cons_succ]
    · rw [if_neg h1]
      rw [List.getElem?_append_right (by rw [List.length_take]; omega), List.length_take, Nat.min_eq_left hk]
      by_cases h2 : i = k
      · subst h2; simp
      · rw [if_neg h2]
        obtain ⟨j, rfl⟩ : ∃ j, i = k + j + 1 := ⟨i - k - 1, by omega⟩
        rw [show k + j + 1 - k = j + 1 by omega, List.getElem?_cons_succ, List.getElem?_drop, List.getElem?_cons_succ]
theorem ra_stp {l : List Card} {i : Nat} (h : 1 ≤ l.length) : ra (stp l) i = if i < ra l 0 then ra l (i + 1) else if i = ra l 0 then ra l 0 else ra l i := by
  have e : ra (stp l) i = rch l.length (at0 (stp l) i) := by unfold ra; rw [stp_len]
  rw [e, stp_at0 h]
  by_cases h1 : i < ra l 0
  · rw [if_pos h1, if_pos h1]; rfl
  · rw [if_neg h1, if_neg h1]
    by_cases h2 : i = ra l 0
    · rw [if_pos h2, if_pos h2]; rfl
    · rw [if_neg h2, if_neg h2]; rfl
/-- home by its place -/
theorem HomeD.ra {l : List Card} (h : HomeD l) {i : Nat} (hi : i < l.length) : i ≤ ra l i := by
  have := h i hi
  unfold Sb.ra rch; omega
/-- the closed place goes no nearer to the end by a step -/
theorem clo_all {l : List Card} (hl : 1 ≤ l.length) : ∀ m, 1 ≤ m → (∀ i, i < m → ra l i < m) → ∀ i, i < m → ra (stp l) i < m := by
  intro m hm h i hi
  have h0 := h 0 (by omega)
  rw [ra_stp hl]
  split
  · exact h _ (by omega)
  · split
    · exact h0
    · exact h i hi
/-! ## rings by a step -/
/-! ## ends of told lists -/
theorem or_f {t u : BF} {τ : Sl} {S : Sto} (h1 : t τ S = some (.ok false S)) (h2 : u τ S = some (.ok false S)) : tOr' t u τ S = some (.ok false S) := tOr_f h1 h2
theorem app_last {S : Sto} {ds : List D} {x : D} (h : ds.length < sizeLine) : gAppend (.loc S.length) [x] (S ++ [.lst ds]) = some (.non, S ++ [.lst (ds ++ [x])]) := by
  simp only [gAppend, listD, get_last, Option.bind_some, if_pos h, set_last]
end Sb
end
section
set_option Elab.async false
set_option linter.all false
set_option maxRecDepth 100000
set_option maxHeartbeats 4000000
namespace Sb
open PySem PySem.Spec PyProof.Rows L2
/-! ## comprehensions that draw -/
/-- a list under way behind S1, at its end -/
structure Und (n k : Nat) (S1 S' : Sto) (acc : List D) : Prop where
  len : S'.length = S1.length + 1
  at_ : S'[S1.length]? = some (.lst acc)
  keep : ∀ j, j ≠ n → j < S1.length → S'[j]? = S1[j]?
  sp : Spr n k S'
  wf : Wf S'
theorem Und.take {n k : Nat} {S1 S' : Sto} {acc : List D} (u : Und n k S1 S' acc) (hn : n < S1.length) (w : Wf S1) : Sm n S1 (S'.take S1.length) ∧ Spr n k (S'.take S1.length) ∧ Wf (S'.take S1.length) := by
  have sm : Sm n S1 (S'.take S1.length) := ⟨by rw [List.length_take, u.len]; omega, fun i hi => by
    by_cases q : i < S1.length
    · rw [List.getElem?_take_of_lt q]; exact u.keep i hi q
    · rw [List.getElem?_eq_none (by rw [List.length_take]; omega), List.getElem?_eq_none (by omega)]⟩
  have sp' : Spr n k (S'.take S1.length) := by
    obtain ⟨a, b, c, e, r⟩ := u.sp
    exact ⟨a, b, c, by rw [List.getElem?_take_of_lt hn]; exact e, r⟩
  exact ⟨sm, sp', sm.wf w sp'⟩
/-! ## decks alike above a place -/
structure Top (c : Nat) (l m : List Card) : Prop where
  h1 : c ≤ l.length
  h2 : c ≤ m.length
  nm : ∀ i, i < c → (at0 l i).1 = (at0 m i).1
  ra : ∀ i, i < c → ra l i = ra m i
  lt : ∀ i, i < c → Sb.ra l i < c
theorem Top.pos {c : Nat} {l m : List Card} (t : Top c l m) (h : 1 ≤ c) : 1 ≤ l.length ∧ 1 ≤ m.length := ⟨Nat.le_trans h t.h1, Nat.le_trans h t.h2⟩
theorem Top.stp {c : Nat} {l m : List Card} (t : Top c l m) (h : 1 ≤ c) : Top c (stp l) (stp m) := by
  obtain ⟨p1, p2⟩ := t.pos h
  have h0 := t.lt 0 h
  have e0 := t.ra 0 h
  refine ⟨by rw [stp_len]; exact t.h1, by rw [stp_len]; exact t.h2, fun i hi => ?_, fun i hi => ?_, fun i hi => ?_⟩
  · rw [stp_at0 p1, stp_at0 p2, ← e0]
    split
    · exact t.nm _ (by omega)
    · split
      · exact t.nm _ h
      · exact t.nm _ hi
  · rw [ra_stp p1, ra_stp p2, ← e0]
    split
    · exact t.ra _ (by omega)
    · split
      · rfl
      · exact t.ra _ hi
  · exact clo_all p1 c h t.lt i hi
theorem Top.stps {c : Nat} {l m : List Card} (t : Top c l m) (h : 1 ≤ c) : ∀ n, Top c (stps n l) (stps n m)
  | 0 => t
  | n + 1 => (t.stps h n).stp h
theorem Top.clo {l m : List Card} (hl : 1 ≤ l.length) (t : Top (clo l) l m) : Sb.clo m = Sb.clo l := by
  have A := clo_is hl
  have B := clo_is (l := m) (t.pos A.lo).2
  refine B.uniq ⟨A.lo, t.h2, fun i hi => by rw [← t.ra i hi]; exact A.all i hi, fun k h1 h2 => ?_⟩
  obtain ⟨i, h3, h4⟩ := A.no k h1 h2
  exact ⟨i, h3, by rw [← t.ra i (by omega)]; exact h4⟩
theorem Top.awn {l m : List Card} (hl : 1 ≤ l.length) (t : Top (Sb.clo l) l m) : Sb.awn m = Sb.awn l := by
  have e : Sb.aw m = Sb.aw l := by
    unfold Sb.aw
    rw [t.clo hl]
    exact List.filter_congr fun i hi => by rw [t.ra i (List.mem_range.mp hi)]
  unfold Sb.awn
  rw [e]
  exact List.map_congr_left fun i hi => (t.nm i (aw_lt hi)).symm
/-- hands by their places -/
theorem take_range {l : List Card} {m : Nat} (h : m ≤ l.length) : l.take m = (List.range m).map (at0 l) := by
  refine List.ext_getElem (by simp; omega) fun i h1 h2 => ?_
  simp at h1 h2
  rw [List.getElem_take, List.getElem_map, List.getElem_range, at0_eq (by omega)]
theorem hand_range {l : List Card} {m : Nat} (h : m ≤ l.length) : hand l m = ((List.range m).filter fun i => decide (m ≤ ra l i)).map (at0 l) := by
  unfold hand
  rw [take_range h, List.filter_map]; rfl
theorem Top.hand {c m : Nat} {l k : List Card} (t : Top c l k) (h : m ≤ c) : nms (Sb.hand k m) = nms (Sb.hand l m) := by
  rw [hand_range (Nat.le_trans h t.h1), hand_range (Nat.le_trans h t.h2)]
  unfold nms
  rw [List.map_map, List.map_map]
  have e : ((List.range m).filter fun i => decide (m ≤ Sb.ra k i)) = (List.range m).filter fun i => decide (m ≤ Sb.ra l i) := List.filter_congr fun i hi => by rw [t.ra i (by have := List.mem_range.mp hi; omega)]
  rw [e]
  exact List.map_congr_left fun i hi => (t.nm i (by have := List.mem_range.mp (List.mem_filter.mp hi).1; omega)).symm
theorem Top.ring {c m : Nat} {l k : List Card} (t : Top c l k) (h : m < c) : nms (Sb.ring k m) = nms (Sb.ring l m) := by
  have e := t.hand (m := m) (by omega)
  unfold Sb.ring nms at *
  rw [List.map_append, List.map_append, e, List.map_singleton, List.map_singleton, t.nm m h]
end Sb
end
section
set_option Elab.async false
set_option linter.all false
set_option maxRecDepth 100000
set_option maxHeartbeats 4000000
namespace Sb
open PySem PySem.Spec PyProof.Rows L2
variable {K : PySem.W.Frag} {S : Sto}
/-! ### a deck as lists of lists -/
abbrev oC (c : Card) : Ob := .lst [.str c.1, .int c.2]
/-- a card as a list -/
abbrev fC (c : Card) : D := .fl [.str c.1, .int c.2]
/-! ### a deck handed in otherwise -/
def HD (l : List Card) (d : D) : Prop := ∃ es : List D, (d = .tup es ∨ d = .fl es) ∧ es.length = l.length ∧ ∀ i, (h : i < l.length) → es[i]? = some (dC l[i]) ∨ es[i]? = some (fC l[i])
theorem HD.deck {l : List Card} {d : D} (h : HD l d) : isDeck S d l := by
  obtain ⟨es, h1, h2, h3⟩ := h
  refine ⟨es, h1.imp id .inl, h2, fun i e c he hc => ?_⟩
  obtain ⟨hi, rfl⟩ := List.getElem?_eq_some_iff.mp hc
  rcases h3 i hi with q | q
  · rw [he] at q; cases q; exact .inl rfl
  · rw [he] at q; cases q; exact .inr (.inl rfl)
theorem HD.items {l : List Card} {es : List D} (h2 : es.length = l.length) (h3 : ∀ i, (h : i < l.length) → es[i]? = some (dC l[i]) ∨ es[i]? = some (fC l[i])) : ∀ e ∈ es, ∃ c ∈ l, e = dC c ∨ e = fC c := fun e he => by
  obtain ⟨i, hi, rfl⟩ := List.getElem_of_mem he
  have hi' : i < l.length := by omega
  refine ⟨l[i], List.getElem_mem hi', ?_⟩
  rcases h3 i hi' with q | q <;> rw [List.getElem?_eq_getElem hi] at q
  · exact .inl (Option.some.inj q)
  · exact .inr (Option.some.inj q)
theorem HD.bd {l : List Card} {d : D} (h : HD l d) {k : Nat} : Sb.bd k d = true := by
  obtain ⟨es, h1, h2, h3⟩ := h
  have : bds k es = true := bds_all.mpr fun e he => by
    obtain ⟨c, _, q | q⟩ := HD.items h2 h3 e he <;> rw [q] <;> rfl
  rcases h1 with rfl | rfl <;> simpa [Sb.bd] using this
def Big (l : List Card) : Prop := ∀ c ∈ l, c.2 < 10 ^ 40
abbrev pF (c : Card) : PyData := .list [.str c.1, .int c.2]
/-- its repr -/
theorem shown_card {c : Card} (hn : Nm c.1) (h0 : 0 ≤ c.2) (hb : c.2 < 10 ^ 40) : ∀ p, p = pC c ∨ p = pF c → PyData.showable p = true ∧ PyData.hasDict p = false ∧ PyData.leavesShort 50 p = true ∧ PyData.weight p ≤ 200 ∧ PyData.depth p ≤ 1 := by
  have e40 : (10 : Int) ^ 40 = 10000000000000000000000000000000000000000 := by decide
  have hlog : c.2.natAbs.log2 < 140 := log2_lt (by decide) (by
    have : (2 : Nat) ^ 140 = 1393796574908163946345982392040522594123776 := by decide
    rw [this]; omega)
  have hs : PyData.showable (.int c.2) = true := decide_eq_true (by omega)
  have hz : c.1.cps.size ≤ 8 := hn.hi
  have hl : PyData.leavesShort 50 (.int c.2) = true := by
    refine decide_eq_true ?_
    have e := int_text_length_le10 (a := c.2) (k := 40) (by decide) (by
      have : (10 : Nat) ^ 40 = 10000000000000000000000000000000000000000 := by decide
      rw [this]; omega)
    show (Str.ofString (toString c.2)).length ≤ 50
    rw [PySem.ofString_length]; omega
  have hl2 : PyData.leavesShort 50 (.str c.1) = true := by
    simp only [PyData.leavesShort, List.all_eq_true, decide_eq_true_eq]
    intro x hx
    have := (hn.let_ x hx).2
    have e : (16 : Nat) ^ 8 = 4294967296 := by decide
    omega
  have hw : PyData.weight (.int c.2) ≤ 141 := by simp only [PyData.weight]; split <;> omega
  rintro p (rfl | rfl) <;> refine ⟨?_, rfl, ?_, ?_, ?_⟩
  · simp only [pC, PyData.showable, PyData.showableAll]; rw [decide_eq_true (by omega)]; rfl
  · simp only [pC, PyData.leavesShort, PyData.leavesShortAll] at hl hl2 ⊢; rw [hl, hl2]; rfl
  · simp only [pC, PyData.weight, PyData.weightAll] at hw ⊢; omega
  · exact dep_card c
  · simp only [pF, PyData.showable, PyData.showableAll]; rw [decide_eq_true (by omega)]; rfl
  · simp only [pF, PyData.leavesShort, PyData.leavesShortAll] at hl hl2 ⊢; rw [hl, hl2]; rfl
  · simp only [pF, PyData.weight, PyData.weightAll] at hw ⊢; omega
  · exact dep_card c
theorem all_show {ps : List PyData} {N : Nat} (h : ∀ p ∈ ps, PyData.showable p = true ∧ PyData.hasDict p = false ∧ PyData.leavesShort 50 p = true ∧ PyData.weight p ≤ 200 ∧ PyData.depth p ≤ 1) (hl : ps.length ≤ N) :
    PyData.showableAll ps = true ∧ PyData.hasDictAll ps = false ∧ PyData.leavesShortAll 50 ps = true ∧ PyData.weightAll ps ≤ 201 * ps.length ∧ PyData.depthAll ps ≤ 1 := by
  induction ps generalizing N with
  | nil => exact ⟨rfl, rfl, rfl, Nat.zero_le _, Nat.zero_le _⟩
  | cons p ps ih =>
    obtain ⟨h1, h2, h3, h4, h5⟩ := h p List.mem_cons_self
    obtain ⟨g1, g2, g3, g4, g5⟩ := ih (N := ps.length) (fun q hq => h q (List.mem_cons_of_mem _ hq)) (Nat.le_refl _)
    refine ⟨?_, ?_, ?_, ?_, ?_⟩
    · simp only [PyData.showableAll, h1, g1, Bool.and_self]
    · simp only [PyData.hasDictAll, h2, g2, Bool.or_self]
    · simp only [PyData.leavesShortAll, h3, g3, Bool.and_self]
    · simp only [PyData.weightAll, List.length_cons]; omega
    · simp only [PyData.depthAll]; exact Nat.max_le.mpr ⟨h5, g5⟩
theorem HD.repr {l : List Card} {d : D} (h : HD l d) (ok : DeckOk l) (hb : Big l) : ∃ t : Str, ∀ S : Sto, gRepr [d] S = some (.str t, S) := by
  obtain ⟨es, h1, h2, h3⟩ := h
  have hi := HD.items h2 h3
  let pf : D → PyData := fun e => match e with | .tup [.str x, .int i] => pC (x, i) | .fl [.str x, .int i] => pF (x, i) | _ => .none
  have hm : ∀ (n : Nat) (S : Sto), es.mapM (toPy (n + 2) S) = some (es.map pf) := fun n S => mapM_some fun e he => by
    obtain ⟨c, _, q | q⟩ := hi e he <;> rw [q] <;> rfl
  have hs := all_show (ps := es.map pf) (N := 40) (fun p hp => by
    obtain ⟨e, he, rfl⟩ := List.mem_map.mp hp
    obtain ⟨c, hc, q | q⟩ := hi e he <;> rw [q]
    · exact shown_card (ok.nm c hc) (ok.dep c hc) (hb c hc) _ (.inl rfl)
    · exact shown_card (ok.nm c hc) (ok.dep c hc) (hb c hc) _ (.inr rfl)) (by have := ok.hi; simp; omega)
  obtain ⟨g1, g2, g3, g4, g5⟩ := hs
  have hlen : (es.map pf).length ≤ 40 := by have := ok.hi; simp; omega
  have hz := sizeLine_eq
  have key : ∀ p : PyData, (p = .tuple (es.map pf) ∨ p = .list (es.map pf)) → p.showable = true ∧ p.hasDict = false ∧ p.depth ≤ 8 ∧ p.shown.length ≤ sizeLine := by
    rintro p (rfl | rfl)
    · refine ⟨by simp only [PyData.showable, g1], by simp only [PyData.hasDict, g2], by simp only [PyData.depth]; omega, ?_⟩
      have := PyData.shown_le 50 (by decide) (.tuple (es.map pf)) (by simp only [PyData.leavesShort, g3])
      simp only [PyData.weight] at this
      omega
    · refine ⟨by simp only [PyData.showable, g1], by simp only [PyData.hasDict, g2], by simp only [PyData.depth]; omega, ?_⟩
      have := PyData.shown_le 50 (by decide) (.list (es.map pf)) (by simp only [PyData.leavesShort, g3])
      simp only [PyData.weight] at this
      omega
  rcases h1 with rfl | rfl
  · refine ⟨PyData.shown (.tuple (es.map pf)), fun S => ?_⟩
    have e : toPy 8 S (.tup es) = some (.tuple (es.map pf)) := by show (es.mapM (toPy 7 S)).map PyData.tuple = _; rw [hm 5 S]; rfl
    simp only [gRepr, e, Option.bind_some, if_pos (key _ (.inl rfl))]
  · refine ⟨PyData.shown (.list (es.map pf)), fun S => ?_⟩
    have e : toPy 8 S (.fl es) = some (.list (es.map pf)) := by show (es.mapM (toPy 7 S)).map PyData.list = _; rw [hm 5 S]; rfl
    simp only [gRepr, e, Option.bind_some, if_pos (key _ (.inr rfl))]
theorem gEqS_same {x : Str} : gEqS true (.str x) (.str x) S = some (.bl false, S) := by simp [gEqS]
end Sb
end
section
set_option Elab.async false
set_option linter.all false
set_option maxRecDepth 100000
set_option maxHeartbeats 4000000
namespace Sb
open PySem PySem.Spec PyProof.Rows L2
/-! ## patterns, and what they show -/
abbrev Pat := List (Option Str)
def pat (l : List Card) (m : Nat) : Pat := (ring l m).map fun c => if m < rch l.length c then none else some c.1
def told (l : List Card) : List Pat := (List.range (clo l)).map (pat l)
def nxt (p : Pat) (i : Nat) : Nat := i / p.length * p.count none + (p.take (i % p.length)).count none
end Sb
end
section
set_option Elab.async false
set_option linter.all false
set_option maxRecDepth 100000
set_option maxHeartbeats 4000000
namespace Sb
open PySem PySem.Spec PyProof.Rows L2
variable {K : PySem.W.Frag} {S : Sto}
def optD : Option Str → D
  | none => .non
  | some x => .str x
abbrev pD (p : Pat) : D := .fl (p.map optD)
@[simp] theorem bd_opt {k : Nat} {o : Option Str} : bd k (optD o) = true := by cases o <;> rfl
@[simp] theorem bd_pD {k : Nat} {p : Pat} : bd k (pD p) = true := by
  show bds k _ = true
  exact bds_map fun _ _ => bd_opt
/-! ## what a told list of patterns shows -/
theorem len_fl {ds : List D} : gLenX [.fl ds] S = some (.int ds.length, S) := by simp [gLenX, gLen, seqD]
theorem gDiv_n {i j : Nat} (h : 0 < j) (h2 : j < 2 ^ 64) : gDiv (.int (i : Nat)) (.int (j : Nat)) S = some (.int (i / j : Nat), S) := by
  have : (0 : Int) < (j : Nat) ∧ (((j : Nat) : Int)).natAbs.log2 < 9000 := ⟨by omega, log2_lt (by decide) (Nat.lt_of_lt_of_le (show ((j : Nat) : Int).natAbs < 2 ^ 64 by omega) (pow_le2 (by decide)))⟩
  simp only [gDiv, gI, decide_eq_true this, if_true]
  rfl
theorem gMod_n {i j : Nat} (h : 0 < j) : gMod (.int (i : Nat)) (.int (j : Nat)) S = some (.int (i % j : Nat), S) := by
  have : (0 : Int) < (j : Nat) := by omega
  simp only [gMod, gI, decide_eq_true this, if_true]
  rfl
end Sb
end
section
set_option Elab.async false
set_option linter.all false
set_option maxRecDepth 100000
set_option maxHeartbeats 4000000
namespace Sb
open PySem PySem.Spec PyProof.Rows L2
variable {K : PySem.W.Frag} {S : Sto}
/-! ## alike, of the same kinds all through -/
def Rl : Nat → Sto → D → D → Prop
  | 0, _, _, _ => False
  | n + 1, S, d, e => (d = .non ∧ e = .non) ∨ (∃ b, d = .bl b ∧ e = .bl b) ∨ (∃ i, d = .int i ∧ e = .int i) ∨ (∃ x, SeqAt.shaped (.str x) = true ∧ d = .str x ∧ e = .str x) ∨
    ∃ (ds es : List D) (c : String), kindD S d = some c ∧ kindD S e = some c ∧ (c = "list" ∨ c = "tuple") ∧ seqD S d = some ds ∧ seqD S e = some es ∧ ds.length = es.length ∧ es.length ≤ 10000 ∧ ∀ (i : Nat) (a b : D), ds[i]? = some a → es[i]? = some b → Rl n S a b
theorem seqD_app {d : D} {ds : List D} {X : Sto} (h : seqD S d = some ds) : seqD (S ++ X) d = some ds := by
  cases d with
  | loc n =>
    simp only [seqD] at h ⊢
    split at h
    · rename_i q; cases h; rw [pre_get q]
    · cases h
  | _ => exact h
theorem kindD_app {d : D} {c : String} {X : Sto} (h : kindD S d = some c) : kindD (S ++ X) d = some c := by
  cases d with
  | loc n =>
    simp only [kindD] at h ⊢
    split at h
    · rename_i q; rw [pre_get q]; exact h
    · rename_i q; rw [pre_get q]; exact h
    · cases h
  | _ => exact h
theorem Rl.app : ∀ {n : Nat} {d e : D} {X : Sto}, Rl n S d e → Rl n (S ++ X) d e
  | 0, _, _, _, h => h
  | n + 1, d, e, X, h => by
    rcases h with h | h | h | h | ⟨ds, es, c, h1, h2, h3, h4, h5, h6, h7, h8⟩
    · exact .inl h
    · exact .inr (.inl h)
    · exact .inr (.inr (.inl h))
    · exact .inr (.inr (.inr (.inl h)))
    · exact .inr (.inr (.inr (.inr ⟨ds, es, c, kindD_app h1, kindD_app h2, h3, seqD_app h4, seqD_app h5, h6, h7, fun i a b ha hb => (h8 i a b ha hb).app⟩)))
theorem ix_seq' {d : D} {ds : List D} {i : Nat} {x : D} {c : String} (hk : kindD S d = some c) (h : seqD S d = some ds) (hx : ds[i]? = some x) : gIx d (.int (i : Nat)) S = some (x, S) := by
  have hi := (List.getElem?_eq_some_iff.mp hx).1
  have h1 : ((i : Nat) : Int) < (ds.length : Int) := by omega
  have h0 : (0 : Int) ≤ (i : Nat) := by omega
  cases d with
  | str z => cases h
  | _ => simp only [gIx, h, Option.bind_some, atI, ixN, if_pos h0, if_pos h1, Int.toNat_natCast, hx]
theorem eAnd_t {fa fb : EF} {τ : Sl} {S S1 : Sto} {d : D} {o : Option (Rs D)} (h : fa τ S = some (.ok d S1)) (ht : truD S1 d = some true) (h2 : fb τ S1 = o) : eAnd fa fb τ S = o := by
  simp only [eAnd, M.bnd, h, ht, Option.bind_some, if_true, h2]
/-- what has no place in the store is alike itself -/
def shD : Nat → D → Bool
  | 0, _ => false
  | n + 1, d => match d with
    | .non => true
    | .bl _ => true
    | .int _ => true
    | .str x => SeqAt.shaped (.str x)
    | .tup ds => decide (ds.length ≤ 10000) && ds.all (shD n)
    | .fl ds => decide (ds.length ≤ 10000) && ds.all (shD n)
    | _ => false
theorem Rl.self : ∀ {n : Nat} {d : D}, shD n d = true → Rl n S d d
  | 0, _, h => by cases h
  | n + 1, d, h => by
    cases d with
    | non => exact .inl ⟨rfl, rfl⟩
    | bl b => exact .inr (.inl ⟨b, rfl, rfl⟩)
    | int i => exact .inr (.inr (.inl ⟨i, rfl, rfl⟩))
    | str x => exact .inr (.inr (.inr (.inl ⟨x, h, rfl, rfl⟩)))
    | tup ds =>
      simp only [shD, Bool.and_eq_true, decide_eq_true_eq, List.all_eq_true] at h
      exact .inr (.inr (.inr (.inr ⟨ds, ds, "tuple", rfl, rfl, .inr rfl, rfl, rfl, rfl, h.1, fun i a b ha hb => by rw [ha] at hb; cases hb; exact Rl.self (h.2 a (List.mem_of_getElem? ha))⟩)))
    | exn c => cases h
    | rgo lo hi => cases h
    | ntu ds => cases h
    | fd ks ds => cases h
    | fl ds =>
      simp only [shD, Bool.and_eq_true, decide_eq_true_eq, List.all_eq_true] at h
      exact .inr (.inr (.inr (.inr ⟨ds, ds, "list", rfl, rfl, .inl rfl, rfl, rfl, rfl, h.1, fun i a b ha hb => by rw [ha] at hb; cases hb; exact Rl.self (h.2 a (List.mem_of_getElem? ha))⟩)))
    | loc n => cases h
    | scr n => cases h
theorem Rl.lst {n k : Nat} {ds : List D} (h : S[k]? = some (.lst ds)) (hl : ds.length ≤ 10000) (hs : ∀ d ∈ ds, shD n d = true) : Rl (n + 1) S (.loc k) (.fl ds) :=
  .inr (.inr (.inr (.inr ⟨ds, ds, "list", by simp [kindD, h], rfl, .inl rfl, by simp [seqD, h], rfl, rfl, hl, fun i a b ha hb => by rw [ha] at hb; cases hb; exact Rl.self (hs a (List.mem_of_getElem? ha))⟩)))
theorem shD_names {n : Nat} {l : List Str} (hl : l.length ≤ 10000) (h : ∀ x ∈ l, Nm x) : shD (n + 2) (.fl (l.map D.str)) = true := by
  simp only [shD, Bool.and_eq_true, decide_eq_true_eq, List.all_eq_true]
  refine ⟨by simpa using hl, fun d hd => ?_⟩
  obtain ⟨x, hx, rfl⟩ := List.mem_map.mp hd
  exact shp_str (h x hx)
end Sb
end
section
set_option Elab.async false
set_option linter.all false
set_option maxRecDepth 100000
set_option maxHeartbeats 4000000
namespace Sb
open PySem PySem.Spec PyProof.Rows L2
variable {K : PySem.W.Frag} {S : Sto}
/-! ## lists of lists that are changed in place -/
structure HeldQ (p : Nat) (l : List Card) (qs : List Nat) (S : Sto) : Prop where
  at_ : S[p]? = some (.lst (qs.map D.loc))
  len : qs.length = l.length
  nd : qs.Nodup
  gt : ∀ q ∈ qs, p < q
  obj : ∀ (i : Nat) (q : Nat) (c : Card), qs[i]? = some q → l[i]? = some c → S[q]? = some (oC c)
def Held (p : Nat) (l : List Card) (S : Sto) : Prop := ∃ qs, HeldQ p l qs S
theorem Held.deck {p : Nat} {l : List Card} (h : Held p l S) : isDeck S (.loc p) l := by
  obtain ⟨qs, h⟩ := h
  refine ⟨qs.map D.loc, .inr (.inr ⟨p, rfl, h.at_⟩), by simp [h.len], fun i e c he hc => ?_⟩
  rw [List.getElem?_map, Option.map_eq_some_iff] at he
  obtain ⟨q, hq, rfl⟩ := he
  exact .inr (.inr ⟨q, rfl, h.obj i q c hq hc⟩)
theorem HeldQ.sm {n p : Nat} {l : List Card} {qs : List Nat} {S S' : Sto} (h : HeldQ p l qs S) (sm : Sm n S S') (hn : n < p) : HeldQ p l qs S' :=
  ⟨sm.get h.at_ (by omega), h.len, h.nd, h.gt, fun i q c hq hc => sm.get (h.obj i q c hq hc) (by have := h.gt q (List.mem_of_getElem? hq); omega)⟩
end Sb
end
section
set_option Elab.async false
set_option linter.all false
set_option maxRecDepth 100000
set_option maxHeartbeats 4000000
namespace Sb
open PySem PySem.Spec PyProof.Rows L2
variable {K : PySem.W.Frag} {S : Sto}
/-- what lies below p stands, but the spring -/
structure Bel (n p : Nat) (S S' : Sto) : Prop where
  len : S'.length = S.length
  at_ : ∀ j, j < p → j ≠ n → S'[j]? = S[j]?
theorem Bel.trans {n p : Nat} {S S1 S2 : Sto} (a : Bel n p S S1) (b : Bel n p S1 S2) : Bel n p S S2 := ⟨b.len.trans a.len, fun j h1 h2 => (b.at_ j h1 h2).trans (a.at_ j h1 h2)⟩
theorem Bel.set {n p q : Nat} {o : Ob} (h : p ≤ q) : Bel n p S (S.set q o) := ⟨by simp, fun j h1 _ => List.getElem?_set_ne (by omega)⟩
end Sb
end
section
set_option Elab.async false
set_option linter.all false
set_option maxRecDepth 100000
set_option maxHeartbeats 4000000
namespace Sb
open PySem PySem.Spec PyProof.Rows L2
variable {K : PySem.W.Frag} {S : Sto}
end Sb
end
section
set_option Elab.async false
set_option linter.all false
set_option maxRecDepth 100000
set_option maxHeartbeats 4000000
namespace Sb
open PySem PySem.Spec PyProof.Rows L2
variable {K : PySem.W.Frag} {S : Sto}
theorem Rl.bl {n : Nat} {b : Bool} : Rl (n + 1) S (.bl b) (.bl b) := .inr (.inl ⟨_, rfl, rfl⟩)
theorem Rl.names {n : Nat} {l : List Str} (hl : l.length ≤ 1000) (h : ∀ x ∈ l, Nm x) : Rl (n + 2) S (.fl (l.map D.str)) (.fl (l.map D.str)) := Rl.self (shD_names (by omega) h)
theorem shD_deck {n : Nat} {l : List Card} (hl : l.length ≤ 10000) (h : ∀ c ∈ l, Nm c.1) : shD (n + 3) (dK l) = true := by
  simp only [dK, shD, Bool.and_eq_true, decide_eq_true_eq, List.all_eq_true]
  refine ⟨by simpa using hl, fun d hd => ?_⟩
  obtain ⟨c, hc, rfl⟩ := List.mem_map.mp hd
  simp only [dC, shD, Bool.and_eq_true, decide_eq_true_eq, List.all_eq_true]
  refine ⟨by simp, fun d hd => ?_⟩
  simp at hd
  rcases hd with rfl | rfl
  · exact shp_str (h c hc)
  · rfl
theorem Rl.deck {n : Nat} {l : List Card} (ok : DeckOk l) : Rl (n + 3) S (dK l) (dK l) := Rl.self (shD_deck (by have := ok.hi; omega) ok.nm)
end Sb
end
section
set_option Elab.async false
set_option linter.all false
set_option maxRecDepth 100000
set_option maxHeartbeats 4000000
namespace Sb
open PySem PySem.Spec PyProof.Rows L2
variable {S : Sto}
/-! ## what repr shows, put together from its parts: w bounds its weight, k its depth -/
structure Pk (p : PyData) (w k : Nat) : Prop where
  sh : p.showable = true
  lf : PyData.leavesShort 50 p = true
  wt : p.weight ≤ w
  dp : p.depth ≤ k
def Rp (d : D) (w k : Nat) : Prop := ∃ p, (∀ (m : Nat) (S : Sto), k ≤ m → toPyR (m + 1) S d = some p) ∧ Pk p w k
theorem Rp.mono {d : D} {w w' k k' : Nat} (h : Rp d w k) (hw : w ≤ w') (hk : k ≤ k') : Rp d w' k' := by
  obtain ⟨p, h1, h2⟩ := h
  exact ⟨p, fun m S hm => h1 m S (by omega), h2.sh, h2.lf, Nat.le_trans h2.wt hw, Nat.le_trans h2.dp hk⟩
theorem Rp.non {w k : Nat} : Rp .non w k := ⟨.none, fun _ _ _ => rfl, rfl, rfl, Nat.zero_le _, Nat.zero_le _⟩
theorem Rp.bl {b : Bool} {w k : Nat} : Rp (.bl b) w k := ⟨.bool b, fun _ _ _ => rfl, rfl, rfl, Nat.zero_le _, Nat.zero_le _⟩
theorem Rp.int {i : Int} {k : Nat} (h : i.natAbs < 10 ^ 40) : Rp (.int i) 200 k := by
  have hlog : i.natAbs.log2 < 140 := log2_lt (by decide) (by
    have : (2 : Nat) ^ 140 = 1393796574908163946345982392040522594123776 := by decide
    have e40 : (10 : Nat) ^ 40 = 10000000000000000000000000000000000000000 := by decide
    rw [this]; omega)
  refine ⟨.int i, fun _ _ _ => rfl, decide_eq_true (by omega), ?_, ?_, Nat.zero_le _⟩
  · refine decide_eq_true ?_
    have e := int_text_length_le10 (a := i) (k := 40) (by decide) h
    show (Str.ofString (toString i)).length ≤ 50
    rw [PySem.ofString_length]; omega
  · simp only [PyData.weight]; split <;> omega
theorem Rp.str {x : Str} {k : Nat} (h : ∀ c ∈ x.cps.toList, c < 16 ^ 8) (hs : x.cps.size ≤ 200) : Rp (.str x) 200 k := by
  refine ⟨.str x, fun _ _ _ => rfl, rfl, ?_, hs, Nat.zero_le _⟩
  simp only [PyData.leavesShort, List.all_eq_true, decide_eq_true_eq]
  exact h
theorem Rp.name {x : Str} {k : Nat} (h : Nm x) : Rp (.str x) 200 k := Rp.str (fun c hc => by
  have := (h.let_ c hc).2
  have e : (16 : Nat) ^ 8 = 4294967296 := by decide
  omega) (by have := h.hi; omega)
theorem pk_all {w k : Nat} : ∀ {ps : List PyData}, (∀ p ∈ ps, Pk p w k) → PyData.showableAll ps = true ∧ PyData.leavesShortAll 50 ps = true ∧ PyData.weightAll ps ≤ (w + 1) * ps.length ∧ PyData.depthAll ps ≤ k
  | [], _ => ⟨rfl, rfl, Nat.zero_le _, Nat.zero_le _⟩
  | p :: ps, h => by
    obtain ⟨h1, h2, h3, h4⟩ := h p List.mem_cons_self
    obtain ⟨g1, g2, g3, g4⟩ := pk_all (ps := ps) fun q hq => h q (List.mem_cons_of_mem _ hq)
    refine ⟨by simp only [PyData.showableAll, h1, g1, Bool.and_self], by simp only [PyData.leavesShortAll, h2, g2, Bool.and_self], ?_, ?_⟩
    · simp only [PyData.weightAll, List.length_cons]
      rw [Nat.mul_succ]; omega
    · simp only [PyData.depthAll]; exact Nat.max_le.mpr ⟨h4, g4⟩
theorem sh_all {w k : Nat} : ∀ {ds : List D}, (∀ d ∈ ds, Rp d w k) → ∃ ps : List PyData, (∀ (m : Nat) (S : Sto), k ≤ m → ds.mapM (toPyR (m + 1) S) = some ps) ∧ (∀ p ∈ ps, Pk p w k) ∧ ps.length = ds.length
  | [], _ => ⟨[], fun _ _ _ => rfl, by simp, rfl⟩
  | d :: ds, h => by
    obtain ⟨p, h1, h2⟩ := h d List.mem_cons_self
    obtain ⟨ps, g1, g2, g3⟩ := sh_all (ds := ds) fun q hq => h q (List.mem_cons_of_mem _ hq)
    refine ⟨p :: ps, fun m S hm => ?_, fun q hq => (List.mem_cons.mp hq).elim (fun z => z ▸ h2) (g2 q), by simp [g3]⟩
    rw [List.mapM_cons, h1 m S hm, g1 m S hm]; rfl
theorem Rp.seq {w k n : Nat} {ds : List D} (h : ∀ d ∈ ds, Rp d w k) (hn : ds.length ≤ n) : Rp (.tup ds) ((w + 1) * n) (k + 1) ∧ Rp (.fl ds) ((w + 1) * n) (k + 1) := by
  obtain ⟨ps, g1, g2, g3⟩ := sh_all h
  obtain ⟨a1, a2, a3, a4⟩ := pk_all g2
  have a5 : (w + 1) * ps.length ≤ (w + 1) * n := Nat.mul_le_mul_left _ (by omega)
  constructor
  · refine ⟨.tuple ps, fun m S hm => ?_, by simp only [PyData.showable, a1], by simp only [PyData.leavesShort, a2], by simp only [PyData.weight]; omega, by simp only [PyData.depth]; omega⟩
    obtain ⟨m, rfl⟩ : ∃ j, m = j + 1 := ⟨m - 1, by omega⟩
    show (ds.mapM (toPyR (m + 1) S)).map PyData.tuple = _
    rw [g1 m S (by omega)]; rfl
  · refine ⟨.list ps, fun m S hm => ?_, by simp only [PyData.showable, a1], by simp only [PyData.leavesShort, a2], by simp only [PyData.weight]; omega, by simp only [PyData.depth]; omega⟩
    obtain ⟨m, rfl⟩ : ∃ j, m = j + 1 := ⟨m - 1, by omega⟩
    show (ds.mapM (toPyR (m + 1) S)).map PyData.list = _
    rw [g1 m S (by omega)]; rfl
theorem Rp.sq {w k n : Nat} {d : D} {ds : List D} (q : Sq d ds) (h : ∀ d ∈ ds, Rp d w k) (hn : ds.length ≤ n) : Rp d ((w + 1) * n) (k + 1) := by
  rcases q with rfl | rfl
  · exact (Rp.seq h hn).1
  · exact (Rp.seq h hn).2
theorem Rp.card {c : Card} (hn : Nm c.1) (h0 : 0 ≤ c.2) (hb : c.2 < 10 ^ 40) : Rp (dC c) 402 1 := (Rp.seq (n := 2) (w := 200) (k := 0) (fun d hd => by
  simp at hd
  rcases hd with rfl | rfl
  · exact .name hn
  · refine .int ?_
    have : (10 : Int) ^ 40 = 10000000000000000000000000000000000000000 := by decide
    have e40 : (10 : Nat) ^ 40 = 10000000000000000000000000000000000000000 := by decide
    omega) (by simp)).1
theorem Rp.deck {l : List Card} (ok : DeckOk l) (hb : Big l) : Rp (dK l) 16120 2 := (Rp.seq (w := 402) (k := 1) (n := 40) (fun d hd => by
  obtain ⟨c, hc, rfl⟩ := List.mem_map.mp hd
  exact .card (ok.nm c hc) (ok.dep c hc) (hb c hc)) (by have := ok.hi; simpa using this)).1
theorem Rp.fd {ks : List Key} {ds : List D} {n : Nat} (hk : ∀ k ∈ ks, ∃ x, k = .inr x ∧ Nm x) (h : ∀ d ∈ ds, Rp d 200 0) (hl : ks.length = ds.length) (hn : ds.length ≤ n) : Rp (.fd ks ds) (402 * n) 1 := by
  obtain ⟨ps, g1, g2, g3⟩ := sh_all h
  have key : ∀ (ks : List Key) (ps : List PyData), (∀ k ∈ ks, ∃ x, k = .inr x ∧ Nm x) → (∀ p ∈ ps, Pk p 200 0) → ks.length = ps.length → PyData.showableKv ((ks.map kP).zip ps) = true ∧ PyData.leavesShortKv 50 ((ks.map kP).zip ps) = true ∧ PyData.weightKv ((ks.map kP).zip ps) ≤ 402 * ps.length ∧ PyData.depthKv ((ks.map kP).zip ps) ≤ 0 := by
    intro ks
    induction ks with
    | nil => intro ps _ _ hl; cases ps with
      | nil => exact ⟨rfl, rfl, Nat.zero_le _, Nat.zero_le _⟩
      | cons _ _ => simp at hl
    | cons k ks ih =>
      intro ps h1 h2 hl
      cases ps with
      | nil => simp at hl
      | cons p ps =>
        obtain ⟨x, rfl, hx⟩ := h1 k List.mem_cons_self
        obtain ⟨px, e1, e2⟩ := Rp.name (k := 0) hx
        have e3 := e1 0 [] (Nat.le_refl _)
        cases e3
        have e4 := h2 p List.mem_cons_self
        obtain ⟨i1, i2, i3, i4⟩ := ih ps (fun z hz => h1 z (List.mem_cons_of_mem _ hz)) (fun z hz => h2 z (List.mem_cons_of_mem _ hz)) (by simpa using hl)
        refine ⟨?_, ?_, ?_, ?_⟩
        · show PyData.showableKv ((PyData.str x, p) :: (ks.map kP).zip ps) = true
          simp only [PyData.showableKv, e2.sh, e4.sh, i1, Bool.and_self]
        · show PyData.leavesShortKv 50 ((PyData.str x, p) :: (ks.map kP).zip ps) = true
          simp only [PyData.leavesShortKv, e2.lf, e4.lf, i2, Bool.and_self]
        · show PyData.weightKv ((PyData.str x, p) :: (ks.map kP).zip ps) ≤ _
          have := e2.wt
          have := e4.wt
          simp only [PyData.weightKv, List.length_cons]
          omega
        · show PyData.depthKv ((PyData.str x, p) :: (ks.map kP).zip ps) ≤ _
          have := e2.dp
          have := e4.dp
          simp only [PyData.depthKv]
          omega
  obtain ⟨a1, a2, a3, a4⟩ := key ks ps hk g2 (by omega)
  refine ⟨.dict ((ks.map kP).zip ps), fun m S hm => ?_, by simp only [PyData.showable, a1], by simp only [PyData.leavesShort, a2], by simp only [PyData.weight]; omega, by simp only [PyData.depth]; omega⟩
  obtain ⟨m, rfl⟩ : ∃ j, m = j + 1 := ⟨m - 1, by omega⟩
  show (if ks.length = ds.length then _ else none) = _
  rw [if_pos hl, g1 m S (by omega)]; rfl
/-- repr of what lies at an address, of none, of a truth, of a text -/
theorem Rp.repr {d : D} {w k : Nat} (h : Rp d w k) (hk : k ≤ 7) (hw : w ≤ 300000) (hd : (∃ ds, d = .tup ds) ∨ (∃ ds, d = .fl ds) ∨ (∃ ks ds, d = .fd ks ds) ∨ d = .non ∨ (∃ b, d = .bl b) ∨ (∃ x, d = .str x) ∨ ∃ i : Int, d = .int i ∧ i.natAbs.log2 < 1920) : ∃ t : Str, ∀ S : Sto, gReprX [d] S = some (.str t, S) := by
  obtain ⟨p, h1, h2⟩ := h
  have hz := sizeLine_eq
  have hl := PyData.shown_le 50 (by decide) p h2.lf
  have hw2 := h2.wt
  have hdp := h2.dp
  have c : p.showable = true ∧ p.depth ≤ 8 ∧ p.shown.length ≤ sizeLine := ⟨h2.sh, by omega, by omega⟩
  refine ⟨p.shown, fun S => ?_⟩
  have e := h1 7 S hk
  rcases hd with ⟨ds, rfl⟩ | ⟨ds, rfl⟩ | ⟨ks, ds, rfl⟩ | rfl | ⟨b, rfl⟩ | ⟨x, rfl⟩ | ⟨i, rfl, hi⟩
  all_goals simp only [gReprX, e, Option.bind_some, if_pos c]
  rw [if_pos hi]
end Sb
end
section
set_option Elab.async false
set_option linter.all false
set_option maxRecDepth 100000
set_option maxHeartbeats 4000000
namespace Sb
open PySem PySem.Spec PyProof.Rows L2
variable {K : PySem.W.Frag} {S : Sto}
/-! ## the word of a kept exception -/
def wordN : List Str := ["NoDeck", "NoCard", "NoName", "NoDepth", "NoPlace", "Twice", "Full", "Last", "NoNumber", "NoLevel", "NotSettled", "NotLasting", "TooMany"]
abbrev wordC (K : PySem.W.Frag) : List Addr := [He.ga K "NoDepths", He.ga K "NoForm", He.ga K "NoNames", He.ga K "NoOrder", He.ga K "NoRow", He.ga K "NoStep", He.ga K "NoText", He.ga K "NoneYet"]
/-- what the classes say of the class at c, the i-th of the words -/
def wordB (K : PySem.W.Frag) (i : Nat) : Bool := match wordN[i]? with
  | some x => excB K (He.ga K x) && (decide (PySem.W.kitOne K (.ref (He.ga K x)) (.ref (He.ga K "DeckError")) = some true) && (decide (PySem.W.kitOne K (.ref (He.ga K x)) (.type "ValueError") = some true) && (decide (PySem.W.kitAny K (.ref (He.ga K x)) ((wordC K).map Value.ref) = some false) &&
      (decide (PySem.W.exmOne K (.ref (He.ga K x)) (.ref (He.ga K "DeckError")) = some true) && ((List.range 13).all fun j => decide (PySem.W.kitOne K (.ref (He.ga K x)) (.ref (He.ga K (wordN.getD j Str.empty))) = some (decide (j = i))))))))
  | none => false
theorem eIsX_ok {cv : Value} {f : EF} {τ : Sl} {S1 : Sto} {c : Addr} {b : Bool} (h : f τ S = some (.ok (.exn c) S1)) (hx : excB K c = true) (hk : PySem.W.kitOne K (.ref c) cv = some b) : eIsX K cv f τ S = some (.ok (.bl b) S1) := by
  simp only [eIsX, M.bnd, h, if_pos hx, hk, Option.bind_some]
theorem eIsXT_ok {cs : List Addr} {f : EF} {τ : Sl} {S1 : Sto} {c : Addr} {b : Bool} (h : f τ S = some (.ok (.exn c) S1)) (hx : excB K c = true) (hl : cs.length ≤ 1000) (hk : PySem.W.kitAny K (.ref c) (cs.map Value.ref) = some b) : eIsXT K cs f τ S = some (.ok (.bl b) S1) := by
  have : excB K c = true ∧ cs.length ≤ sizeLine := ⟨hx, by rw [sizeLine_eq]; omega⟩
  simp only [eIsXT, M.bnd, h, if_pos this, hk, Option.bind_some]
theorem fl_add {ds es : List D} (h : ds.length + es.length ≤ 1000) : gAdd (.fl ds) (.fl es) S = some (.fl (ds ++ es), S) := by
  have : ds.length + es.length ≤ sizeLine := by rw [sizeLine_eq]; omega
  simp [gAdd, flD, seqD, this]
theorem lword_ok {i : Nat} (w : Wf S) (h : wordB K i = true) : ∃ x, wordN[i]? = some x ∧ M_law_word K [.exn (He.ga K x)] S = some (.ok (.str x) S) := by
  unfold wordB at h
  cases hx : wordN[i]? with
  | none => rw [hx] at h; cases h
  | some x =>
    rw [hx] at h
    simp only [Bool.and_eq_true, decide_eq_true_eq, List.all_eq_true] at h
    obtain ⟨h1, h2, h3, h4, _, h5⟩ := h
    have hi : i < 13 := (List.getElem?_eq_some_iff.mp hx).1
    refine ⟨x, rfl, ?_⟩
    have k : ∀ j (hj : j < 13) (c : Addr), c = He.ga K (wordN.getD j Str.empty) → ∀ {τ : Sl}, τ[0]? = some (some (.exn (He.ga K x))) → eIsX K (.ref c) (eVar 0) τ S = some (.ok (.bl (decide (j = i))) S) := fun j hj c ec τ h0 => by
      subst ec
      exact eIsX_ok (by simp only [eVar, h0]) h1 (h5 j (List.mem_range.mpr hj))
    have main : Ws (m_law_word K (ini 3 [.exn (He.ga K x)]) S) fun fl S' => fl = .rt (.str x) ∧ S' = S := by
      refine ws_no (or_f (tNt_ok (tB_ok (eIsX_ok rfl h1 h2))) (tNt_ok (tB_ok (eIsX_ok rfl h1 h3)))) ?_
      let bs (n : Nat) : List D := (List.range n).map fun j => D.bl (decide (j = i))
      refine ws_set (fz_list (ds := bs 3) (S1 := S) (a3_ok (k 0 (by omega) _ rfl rfl) (k 1 (by omega) _ rfl rfl) (k 2 (by omega) _ rfl rfl)) rfl w (by simp [bs]) rfl) ?_
      refine ws_set (d := .fl (bs 6)) (S1 := S) (eB_ok rfl (fz_list (ds := [.bl (decide (3 = i)), .bl (decide (4 = i)), .bl (decide (5 = i))]) (S1 := S) (a3_ok (k 3 (by omega) _ rfl rfl) (k 4 (by omega) _ rfl rfl) (k 5 (by omega) _ rfl rfl)) rfl w (by simp) rfl) (fl_add (by simp [bs]))) ?_
      refine ws_set (d := .fl (bs 9)) (S1 := S) (eB_ok rfl (fz_list (ds := [.bl (decide (6 = i)), .bl (decide (7 = i)), .bl (decide (8 = i))]) (S1 := S) (a3_ok (k 6 (by omega) _ rfl rfl) (k 7 (by omega) _ rfl rfl) (k 8 (by omega) _ rfl rfl)) rfl w (by simp) rfl) (fl_add (by simp [bs]))) ?_
      refine ws_set (d := .fl (bs 12)) (S1 := S) (eB_ok rfl (fz_list (ds := [.bl (decide (9 = i)), .bl (decide (10 = i)), .bl (decide (11 = i))]) (S1 := S) (a3_ok (k 9 (by omega) _ rfl rfl) (k 10 (by omega) _ rfl rfl) (k 11 (by omega) _ rfl rfl)) rfl w (by simp) rfl) (fl_add (by simp [bs]))) ?_
      refine ws_set (d := .fl (bs 13)) (S1 := S) (eB_ok rfl (fz_list (ds := [.bl (decide (12 = i))]) (S1 := S) (a1_ok (k 12 (by omega) _ rfl rfl)) rfl w (by simp) rfl) (fl_add (by simp [bs]))) ?_
      refine ws_no (tB_ok (eIsXT_ok rfl h1 (by simp) h4)) ?_
      refine ws_set (fz_list (ds := (wordN.take 10).map D.str) (S1 := S) (aCons_ok rfl (aCons_ok rfl (aCons_ok rfl (aCons_ok rfl (aCons_ok rfl (aCons_ok rfl (aCons_ok rfl (aCons_ok rfl (aCons_ok rfl (a1_ok rfl)))))))))) rfl w (by simp [wordN]) bds_str) ?_
      refine ws_set (d := .fl (wordN.map D.str)) (S1 := S) (eB_ok rfl (fz_list (ds := (wordN.drop 10).map D.str) (S1 := S) (a3_ok rfl rfl rfl) rfl w (by simp [wordN]) bds_str) (fl_add (by simp [wordN]))) ?_
      have ec : gCount (.fl (bs 13)) [.bl true] S = some (.int (1 : Nat), S) := by
        have hh : i = 0 ∨ i = 1 ∨ i = 2 ∨ i = 3 ∨ i = 4 ∨ i = 5 ∨ i = 6 ∨ i = 7 ∨ i = 8 ∨ i = 9 ∨ i = 10 ∨ i = 11 ∨ i = 12 := by omega
        rcases hh with rfl | rfl | rfl | rfl | rfl | rfl | rfl | rfl | rfl | rfl | rfl | rfl | rfl <;> rfl
      have ed : gIndex (.fl (bs 13)) [.bl true] S = some (.int (i : Nat), S) := by
        have hh : i = 0 ∨ i = 1 ∨ i = 2 ∨ i = 3 ∨ i = 4 ∨ i = 5 ∨ i = 6 ∨ i = 7 ∨ i = 8 ∨ i = 9 ∨ i = 10 ∨ i = 11 ∨ i = 12 := by omega
        rcases hh with rfl | rfl | rfl | rfl | rfl | rfl | rfl | rfl | rfl | rfl | rfl | rfl | rfl <;> rfl
      have et : tyD S "list" (.fl (bs 13)) = true := rfl
      refine ws_rt (eIf_t (tB_ok (eB_ok (eBM_ok rfl et (a1_ok rfl) ec) rfl (gEq_nat (neg := false) (i := 1) (j := 1)))) (eB_ok rfl (eBM_ok rfl et (a1_ok rfl) ed) (ix_seq' (c := "list") (i := i) rfl rfl ?_))) ⟨rfl, rfl⟩
      rw [List.getElem?_map, hx]; rfl
    exact fn_wt main
end Sb
end
section
set_option Elab.async false
set_option linter.all false
set_option maxRecDepth 100000
set_option maxHeartbeats 4000000
namespace Sb
open PySem PySem.Spec PyProof.Rows L2
variable {K : PySem.W.Frag} {S : Sto}
/-! ## a deck handed in otherwise, lists kept -/
/-- an item: the card, or a list of it at b or beyond, not at p -/
def YI (b p : Nat) (S : Sto) (e : D) (c : Card) : Prop := e = dC c ∨ ∃ q, e = .loc q ∧ b ≤ q ∧ q ≠ p ∧ S[q]? = some (oC c)
structure YD (b p : Nat) (l : List Card) (d : D) (es : List D) (S : Sto) : Prop where
  is : d = .tup es ∨ d = .loc p ∧ b ≤ p ∧ S[p]? = some (.lst es)
  len : es.length = l.length
  it : ∀ (i : Nat) (e : D) (c : Card), es[i]? = some e → l[i]? = some c → YI b p S e c
theorem YD.deck {b p : Nat} {l : List Card} {d : D} {es : List D} (h : YD b p l d es S) : isDeck S d l := by
  refine ⟨es, ?_, h.len, fun i e c he hc => ?_⟩
  · rcases h.is with q | ⟨q, _, z⟩
    · exact .inl q
    · exact .inr (.inr ⟨p, q, z⟩)
  · rcases h.it i e c he hc with q | ⟨r, q, _, _, z⟩
    · exact .inl q
    · exact .inr (.inr ⟨r, q, z⟩)
theorem mapM_zip {α β γ : Type} {f : α → Option β} {g : α → γ → α} : ∀ {l : List α} {m : List γ}, l.length = m.length → (∀ (i : Nat) (x : α) (y : γ), l[i]? = some x → m[i]? = some y → f x = f (g x y)) → l.mapM f = (List.zipWith g l m).mapM f
  | [], [], _, _ => rfl
  | x :: l, y :: m, h, k => by
    rw [List.zipWith_cons_cons, List.mapM_cons, List.mapM_cons, k 0 x y rfl rfl, mapM_zip (by simpa using h) fun i a b ha hb => k (i + 1) a b (by simpa using ha) (by simpa using hb)]
def frz (e : D) (c : Card) : D := match e with | .loc _ => fC c | e => e
theorem YD.repr {b p : Nat} {l : List Card} {d : D} {es : List D} (h : YD b p l d es S) (ok : DeckOk l) (hb : Big l) : ∃ t : Str, ∀ S : Sto, YD b p l d es S → gRepr [d] S = some (.str t, S) := by
  -- the same as of told lists
  let d2 : D := match d with | .tup _ => .tup (List.zipWith frz es l) | _ => .fl (List.zipWith frz es l)
  have hd : HD l d2 := by
    refine ⟨List.zipWith frz es l, ?_, by simp [h.len], fun i hi => ?_⟩
    · rcases h.is with rfl | ⟨rfl, _, _⟩
      · exact .inl rfl
      · exact .inr rfl
    · have hi' : i < es.length := by rw [h.len]; exact hi
      have he := List.getElem?_eq_getElem hi'
      have hc := List.getElem?_eq_getElem hi
      have e2 : (List.zipWith frz es l)[i]? = some (frz es[i] l[i]) := by rw [List.getElem?_zipWith, he, hc]
      rw [e2]
      rcases h.it i _ _ he hc with q | ⟨r, q, _, _, _⟩
      · exact .inl (by rw [q]; rfl)
      · exact .inr (by rw [q]; rfl)
  obtain ⟨t, et⟩ := hd.repr ok hb
  refine ⟨t, fun S h => ?_⟩
  have hm : es.mapM (toPy 7 S) = (List.zipWith frz es l).mapM (toPy 7 S) := mapM_zip h.len fun i e c he hc => by
    rcases h.it i e c he hc with rfl | ⟨q, rfl, _, _, z⟩
    · rfl
    · simp only [frz, toPy, z]
  have e2 := et S
  rcases h.is with rfl | ⟨rfl, _, z⟩
  · have q : toPy 8 S (.tup es) = toPy 8 S (.tup (List.zipWith frz es l)) := by
      show (es.mapM (toPy 7 S)).map PyData.tuple = ((List.zipWith frz es l).mapM (toPy 7 S)).map PyData.tuple
      rw [hm]
    have e3 : gRepr [.tup (List.zipWith frz es l)] S = some (.str t, S) := e2
    simp only [gRepr] at e3 ⊢
    rw [q]; exact e3
  · have q : toPy 8 S (.loc p) = toPy 8 S (.fl (List.zipWith frz es l)) := by
      show (match S[p]? with | some (.lst ds) => (ds.mapM (toPy 7 S)).map .list | _ => none) = ((List.zipWith frz es l).mapM (toPy 7 S)).map PyData.list
      rw [z]
      simp only
      rw [hm]
    have e3 : gRepr [.fl (List.zipWith frz es l)] S = some (.str t, S) := e2
    simp only [gRepr] at e3 ⊢
    rw [q]; exact e3
theorem YD.sm {b p n : Nat} {l : List Card} {d : D} {es : List D} {S' : Sto} (h : YD b p l d es S) (sm : Sm n S S') (hn : n < b) : YD b p l d es S' :=
  ⟨h.is.imp id fun ⟨a, b, c⟩ => ⟨a, b, sm.get c (by omega)⟩, h.len, fun i e c he hc => (h.it i e c he hc).imp id fun ⟨q, a, b, c, d⟩ => ⟨q, a, b, c, sm.get d (by omega)⟩⟩
theorem YI.app {b p : Nat} {e : D} {c : Card} {X : Sto} (h : YI b p S e c) : YI b p (S ++ X) e c := h.imp id fun ⟨q, a, b, c, d⟩ => ⟨q, a, b, c, pre_get d⟩
end Sb
end
section
set_option Elab.async false
set_option linter.all false
set_option maxRecDepth 100000
set_option maxHeartbeats 4000000
namespace Sb
open PySem PySem.Spec PyProof.Rows L2
variable {K : PySem.W.Frag} {S : Sto}
theorem gEq_strs {neg : Bool} {a b : Str} (ha : SeqAt.shaped (.str a) = true) (hb : SeqAt.shaped (.str b) = true) : gEq neg (.str a) (.str b) S = some (.bl (if neg then !decide (a = b) else decide (a = b)), S) := by
  unfold gEq
  rw [toPy_str 7, toPy_str 7]
  simp only [ha, hb, and_self, if_true, eqv_str]
theorem kitAny_no {c : Addr} : ∀ {us : List Value}, (∀ u ∈ us, PySem.W.kitOne K (.ref c) u = some false) → PySem.W.kitAny K (.ref c) us = some false
  | [], _ => rfl
  | u :: us, h => by
    show (match PySem.W.kitOne K (.ref c) u with | some true => some true | some false => PySem.W.kitAny K (.ref c) us | none => none) = _
    rw [h u List.mem_cons_self]
    exact kitAny_no fun z hz => h z (List.mem_cons_of_mem _ hz)
theorem Cls.word {x : Str} (h : Cls K x) {i : Nat} (hx : wordN[i]? = some x) : wordB K i = true := by
  have hi : i < 13 := (List.getElem?_eq_some_iff.mp hx).1
  have hall : ∀ j, j < 13 → wordN.getD j Str.empty ∈ errN ∧ (decide (wordN.getD j Str.empty = wordN.getD i Str.empty)) = decide (j = i) := by
    have key : ∀ i, i < 13 → ∀ j, j < 13 → wordN.getD j Str.empty ∈ errN ∧ (decide (wordN.getD j Str.empty = wordN.getD i Str.empty)) = decide (j = i) := by decide +kernel
    exact key i hi
  have ex : wordN.getD i Str.empty = x := by rw [List.getD_eq_getElem?_getD, hx]; rfl
  have hno : ∀ y : Str, y ∈ (["NoDepths", "NoForm", "NoNames", "NoOrder", "NoRow", "NoStep", "NoText", "NoneYet"] : List Str) → y ≠ x ∧ y ∈ errN := by
    have key : ∀ i, i < 13 → ∀ y ∈ (["NoDepths", "NoForm", "NoNames", "NoOrder", "NoRow", "NoStep", "NoText", "NoneYet"] : List Str), y ≠ wordN.getD i Str.empty ∧ y ∈ errN := by decide +kernel
    rw [← ex]
    exact key i hi
  unfold wordB
  rw [hx]
  simp only [Bool.and_eq_true, decide_eq_true_eq, List.all_eq_true]
  refine ⟨h.exc, h.deck, h.val, kitAny_no fun u hu => ?_, h.exm, fun j hj => ?_⟩
  · obtain ⟨a, ha, rfl⟩ := List.mem_map.mp hu
    have : ∃ y ∈ (["NoDepths", "NoForm", "NoNames", "NoOrder", "NoRow", "NoStep", "NoText", "NoneYet"] : List Str), a = He.ga K y := by
      simp only [wordC, List.mem_cons, List.not_mem_nil, or_false] at ha
      rcases ha with rfl | rfl | rfl | rfl | rfl | rfl | rfl | rfl
      all_goals exact ⟨_, by decide +kernel, rfl⟩
    obtain ⟨y, hy, rfl⟩ := this
    obtain ⟨h1, h2⟩ := hno y hy
    rw [h.one y h2, decide_eq_false h1]
  · obtain ⟨h1, h2⟩ := hall j (List.mem_range.mp hj)
    rw [h.one _ h1, ← h2, ex]
theorem word_of {x : Str} (h : Cls K x) {i : Nat} (hx : wordN[i]? = some x) (w : Wf S) : M_law_word K [.exn (He.ga K x)] S = some (.ok (.str x) S) := by
  obtain ⟨y, e1, e2⟩ := lword_ok (S := S) w (h.word hx)
  rw [hx] at e1
  cases e1
  exact e2
/-- what is raised is kept -/
theorem tryK_xx {mt : Addr → Option Bool} {i j : Nat} {f : SF} {τ τ1 : Sl} {c : Addr} {S S1 : Sto} (h : f τ S = some (.xx ⟨c, none⟩ τ1, S1)) (hm : mt c = some true) : sTryK mt i j f τ S = some (.nx (((τ1.set i (some (.exn c))).set j (some (.exn c))).set i none), S1) := by
  simp only [sTryK, h, hm]
theorem tryK_nx {mt : Addr → Option Bool} {i j : Nat} {f : SF} {τ τ1 : Sl} {S S1 : Sto} (h : f τ S = some (.nx τ1, S1)) : sTryK mt i j f τ S = some (.nx τ1, S1) := by
  simp only [sTryK, h]
theorem Held.app {p : Nat} {l : List Card} (h : Held p l S) (X : Sto) : Held p l (S ++ X) := by
  obtain ⟨qs, q⟩ := h
  exact ⟨qs, pre_get q.at_, q.len, q.nd, q.gt, fun i a c h1 h2 => pre_get (q.obj i a c h1 h2)⟩
end Sb
end
section
set_option Elab.async false
set_option linter.all false
set_option maxRecDepth 100000
set_option maxHeartbeats 4000000
namespace Sb
open PySem PySem.Spec PyProof.Rows L2
variable {K : PySem.W.Frag} {S : Sto}
/-! ## draws from any source: P n k S, the source lies at n and has been asked k times at most -/
structure Src (P : Nat → Nat → Sto → Prop) : Prop where
  fr : ∀ {n k : Nat} {S S' : Sto}, P n k S → S'[n]? = S[n]? → P n k S'
  ex : ∀ {n k : Nat} {S : Sto}, P n k S → ∃ o, S[n]? = some o ∧ bdO 0 o = true
  mono : ∀ {n k k' : Nat} {S : Sto}, P n k S → k ≤ k' → P n k' S
section
variable {P : Nat → Nat → Sto → Prop} (sr : Src P) {m : List D → M D}
include sr
theorem Src.lt {n k : Nat} {S : Sto} (h : P n k S) : n < S.length := by
  obtain ⟨o, e, _⟩ := sr.ex h
  exact (List.getElem?_eq_some_iff.mp e).1
theorem Src.app {n k : Nat} {S X : Sto} (h : P n k S) : P n k (S ++ X) := sr.fr h (List.getElem?_append_left (sr.lt h))
theorem Src.wf {n k : Nat} {S S' : Sto} (a : Sm n S S') (w : Wf S) (h : P n k S') : Wf S' := by
  unfold Wf wfk
  rw [List.all_eq_true]
  intro x hx
  obtain ⟨i, hi, rfl⟩ := List.getElem_of_mem hx
  rw [a.len]
  by_cases q : i = n
  · subst q
    obtain ⟨o, e, hb⟩ := sr.ex h
    have := List.getElem?_eq_getElem hi
    rw [e] at this
    rw [← Option.some.inj this]
    exact bdO_mono (Nat.zero_le _) o hb
  · have e := a.at_ i q
    rw [List.getElem?_eq_getElem hi, List.getElem?_eq_getElem (by rw [← a.len]; exact hi)] at e
    rw [Option.some.inj e]
    exact List.all_eq_true.mp w _ (List.getElem_mem _)
/-- new objects dropped -/
theorem Src.cut {n k : Nat} {S S' : Sto} (w : Wf S) (fr : Fr n S S') (sp : P n k S') (hn : n < S.length) : Sm n S (S'.take S.length) ∧ P n k (S'.take S.length) ∧ Wf (S'.take S.length) := by
  have sm : Sm n S (S'.take S.length) := ⟨by rw [List.length_take]; have := fr.le; omega, fun i hi => by
    by_cases q : i < S.length
    · rw [List.getElem?_take_of_lt q]; exact fr.at_ i hi q
    · rw [List.getElem?_eq_none (by rw [List.length_take]; omega), List.getElem?_eq_none (by omega)]⟩
  have sp' : P n k (S'.take S.length) := sr.fr sp (by rw [List.getElem?_take_of_lt hn])
  exact ⟨sm, sp', sr.wf sm w sp'⟩
theorem Src.fz {f : EF} {τ : Sl} {S S' : Sto} {n k : Nat} {d : D} (w : Wf S) (e : f τ S = some (.ok d S')) (fr : Fr n S S') (sp : P n k S') (hn : n < S.length) (h : bd S.length d = true) :
    ∃ S1, Sb.fz f τ S = some (.ok d S1) ∧ Sm n S S1 ∧ P n k S1 ∧ Wf S1 := by
  obtain ⟨sm, sp', w'⟩ := sr.cut w fr sp hn
  refine ⟨_, ?_, sm, sp', w'⟩
  have w2 : wfk S.length (S'.take S.length) = true := by
    have := w'
    unfold Wf at this
    rwa [sm.len] at this
  rw [fz_eq, e]
  simp only [fzR, if_pos w2, rb_bd h, Option.map_some]
end
/-! ## a comprehension whose turns may change the store -/
/-- a store like another one but at some places, which refer to none -/
theorem wfk_but {S1 S' : Sto} {k : Nat} (A : Nat → Prop) (hk : k ≤ S1.length) (w : wfk k (S1.take k) = true) (hl : k ≤ S'.length) (h1 : ∀ i, i < k → ¬ A i → S'[i]? = S1[i]?) (h2 : ∀ i, i < k → A i → ∃ o, S'[i]? = some o ∧ bdO 0 o = true) : wfk k (S'.take k) = true := by
  unfold wfk at w ⊢
  rw [List.all_eq_true] at w ⊢
  intro o ho
  obtain ⟨i, hi, rfl⟩ := List.getElem_of_mem ho
  have hi1 : i < k := by rw [List.length_take] at hi; omega
  rw [List.getElem_take]
  have e1 : S'[i]? = some S'[i] := List.getElem?_eq_getElem (by omega)
  by_cases q : A i
  · obtain ⟨o, e, hb⟩ := h2 i hi1 q
    rw [e1] at e
    rw [Option.some.inj e]
    exact bdO_mono (Nat.zero_le _) o hb
  · have e := h1 i hi1 q
    rw [e1, List.getElem?_eq_getElem (by omega)] at e
    rw [Option.some.inj e]
    refine w _ ?_
    have : (S1.take k)[i]? = some S1[i] := by rw [List.getElem?_take_of_lt hi1]; exact List.getElem?_eq_getElem (by omega)
    exact List.mem_of_getElem? this
theorem Sm.wfk {n k : Nat} {P : Nat → Nat → Sto → Prop} (sr : Src P) {S S' : Sto} (w : Wf S) (hl : S.length ≤ S'.length) (h : ∀ i, i ≠ n → i < S.length → S'[i]? = S[i]?) (sp : P n k S') : Sb.wfk S.length (S'.take S.length) = true := by
  refine wfk_but (S1 := S) (fun i => i = n) (Nat.le_refl _) (by rw [List.take_length]; exact w) hl (fun i hi hn => h i hn hi) fun i hi hn => ?_
  subst hn
  exact sr.ex sp
end Sb
end
section
set_option Elab.async false
set_option linter.all false
set_option maxRecDepth 100000
set_option maxHeartbeats 4000000
namespace Sb
open PySem PySem.Spec PyProof.Rows L2
variable {K : PySem.W.Frag} {S : Sto}
/-! ## the bag -/
theorem bif_f {t : BF} {f g : SF} {τ : Sl} {S S1 : Sto} {Q : Fl → Sto → Prop} (h : t τ S = some (.ok false S1)) (k : Ws (g τ S1) Q) : Ws (sIf t f g τ S) Q := by
  rw [show sIf t f g τ S = g τ S1 from sIf_f h]; exact k
end Sb
end
section
set_option Elab.async false
set_option linter.all false
set_option maxRecDepth 100000
set_option maxHeartbeats 4000000
namespace Sb
open PySem PySem.Spec PyProof.Rows L2
variable {K : PySem.W.Frag} {S : Sto}
end Sb
end
section
set_option Elab.async false
set_option linter.all false
set_option maxRecDepth 100000
set_option maxHeartbeats 4000000
namespace Sb
open PySem PySem.Spec PyProof.Rows L2
variable {K : PySem.W.Frag} {S : Sto}
end Sb
end
section
set_option Elab.async false
set_option linter.all false
set_option maxRecDepth 100000
set_option maxHeartbeats 4000000
namespace Sb
open PySem PySem.Spec PyProof.Rows L2
variable {K : PySem.W.Frag} {S : Sto}
end Sb
end
section
set_option Elab.async false
set_option linter.all false
set_option maxRecDepth 100000
set_option maxHeartbeats 4000000
namespace Sb
open PySem PySem.Spec PyProof.Rows L2
variable {K : PySem.W.Frag} {S : Sto}
structure NmL (m : Nat) (xs : List Str) : Prop where
  nd : xs.Nodup
  lo : m ≤ xs.length
  hi : xs.length ≤ 40
  nm : ∀ x ∈ xs, Nm x
theorem NmL.of {m : Nat} {xs : List Str} {z : Nat} (h : xs.Nodup ∧ xs.length = z ∧ ∀ x ∈ xs, nmB x = true) (h1 : m ≤ z) (h2 : z ≤ 40) : NmL m xs := ⟨h.1, by omega, by omega, fun x hx => nm_of (h.2.2 x hx)⟩
end Sb
end
section
set_option Elab.async false
set_option linter.all false
set_option maxRecDepth 100000
set_option maxHeartbeats 4000000
namespace Sb
open PySem PySem.Spec PyProof.Rows L2
variable {K : PySem.W.Frag} {S : Sto}
/-- no card above some closed place is away -/
def StlAt (c : Nat) (l : List Card) : Prop := 1 ≤ c ∧ c ≤ l.length ∧ ∀ i, i < c → i ≤ ra l i ∧ ra l i < c
def Stl (l : List Card) : Prop := ∃ c, StlAt c l
theorem wkE_nxt {es : List D} {i : Nat} (h : i < es.length) : (wkE es).nxt i S = some (some (.tup [.int (i : Nat), es[i]])) := by
  simp only [wkE, List.getElem?_eq_getElem h, Option.map_some]
/-- depths of a settled deck, as they are drawn -/
structure DepS (m c : Nat) (l : List Card) : Prop where
  lo : ∀ d ∈ l, 0 ≤ d.2
  hi : ∀ d ∈ l, d.2 < 10 ^ 29
  st : ∀ i, i < l.length → i < c → (i : Int) ≤ (at0 l i).2 ∧ (c < m → (at0 l i).2 < c)
theorem DepS.stl {m c : Nat} {l : List Card} (h : DepS m c l) (hl : l.length = m) (hc : 1 ≤ c) (hm : c ≤ m) : StlAt c l := by
  refine ⟨hc, by omega, fun i hi => ?_⟩
  obtain ⟨h1, h2⟩ := h.st i (by omega) hi
  unfold ra rch
  by_cases q : c < m
  · have := h2 q
    omega
  · omega
end Sb
end
section
set_option Elab.async false
set_option linter.all false
set_option maxRecDepth 100000
set_option maxHeartbeats 4000000
namespace Sb
open PySem PySem.Spec PyProof.Rows L2
/-! ## rows that turn: the levels above q as patterns, q's ring -/
def pats (l : List Card) (q m : Nat) : List Pat := (List.range' m (q - m)).map (pat l)
/-! ## a ring whose card at its place is home -/
/-- all above q are home -/
def HomeTo (l : List Card) (q : Nat) : Prop := q < l.length ∧ ∀ i, i < q → i ≤ ra l i
/-- the step moves none but above q, or q is home as well and none reaches deeper -/
def StepIn (l : List Card) (q : Nat) : Prop := ra l 0 < q ∨ (q ≤ ra l q ∧ ra l 0 ≤ q)
theorem StepIn.nxt {l : List Card} {q m : Nat} (hs : StepIn l q) (hh : HomeTo l q) (h : m < ra l 0) : m + 1 ≤ ra l (m + 1) := by
  rcases hs with hs | ⟨h1, h2⟩
  · exact hh.2 _ (by omega)
  · by_cases e : m + 1 = q
    · rw [e]; exact h1
    · exact hh.2 _ (by omega)
/-! ## rows put together again -/
def fil : Pat → List Str → List Str
  | [], _ => []
  | some x :: r, h => x :: fil r h
  | none :: r, h => h.headD "" :: fil r h.tail
def bl : List Pat → List Str × List Str
  | [] => ([], [])
  | p :: ps => ((fil p (bl ps).1).dropLast, (bl ps).2 ++ [(fil p (bl ps).1).getLastD ""])
/-! ## how far a stretch goes -/
def idx (p : Pat) (x : Option Str) : List Nat := (List.range p.length).filter fun i => decide (p.getD i none = x)
def whn (p : Pat) (x : Option Str) (k : Nat) : Nat := k / (idx p x).length * p.length + (idx p x).getD (k % (idx p x).length) 0
def shw : List Pat → Nat → Nat
  | [], i => i
  | p :: ps, i => whn p none (shw ps i)
end Sb
end
section
set_option Elab.async false
set_option linter.all false
set_option maxRecDepth 100000
set_option maxHeartbeats 4000000
namespace Sb
open PySem PySem.Spec PyProof.Rows L2
/-! ## how often, and when, a thing is shown by a row that goes round -/
/-! ## a stretch: up to the first step of q's level -/
/-- the steps of a stretch less its last one -/
def stl (l : List Card) (q : Nat) : Nat := shw (pats l q 0) 0
/-! ## how far the cards are from home, in all -/
def sm (f : Nat → Nat) : Nat → Nat
  | 0 => 0
  | n + 1 => sm f n + f n
end Sb
end
section
set_option Elab.async false
set_option linter.all false
set_option maxRecDepth 100000
set_option maxHeartbeats 4000000
namespace Sb
open PySem PySem.Spec PyProof.Rows L2
variable {K : PySem.W.Frag} {S : Sto}
/-! ## the law's own reading of a deck -/
end Sb
end
section
set_option Elab.async false
set_option linter.all false
set_option maxRecDepth 100000
set_option maxHeartbeats 4000000
namespace Sb
open PySem PySem.Spec PyProof.Rows L2
variable {K : PySem.W.Frag} {S : Sto}
/-! ## a loop with a break -/
theorem sAs_ok {g : TF} {fe : EF} {τ τ1 : Sl} {d : D} {S S1 : Sto} (h : fe τ S = some (.ok d S1)) (h2 : g d S1 τ = some τ1) : sAs g fe τ S = some (.nx τ1, S1) := by
  simp only [sAs, sx, h, h2, Option.bind_some]
theorem eVar_at {τ : Sl} {i : Nat} {d : D} {S : Sto} (h : τ[i]? = some (some d)) : eVar i τ S = some (.ok d S) := by simp only [eVar, h]
/-! ## papers -/
end Sb
end
section
set_option Elab.async false
set_option linter.all false
set_option maxRecDepth 100000
set_option maxHeartbeats 4000000
namespace Sb
open PySem PySem.Spec PyProof.Rows L2
variable {K : PySem.W.Frag} {S : Sto}
/-! ## settled decks -/
theorem Stl.clo {l : List Card} (hl : 1 ≤ l.length) (h : Stl l) : ∀ i, i < Sb.clo l → i ≤ ra l i := by
  obtain ⟨c, h1, h2, h3⟩ := h
  have A := clo_is hl
  have hc : Sb.clo l ≤ c := by
    apply Classical.byContradiction
    intro q
    obtain ⟨i, hi, hr⟩ := A.no c h1 (by omega)
    have := (h3 i hi).2
    omega
  exact fun i hi => (h3 i (by omega)).1
/-! ## papers of the program -/
/-! ## rows alike, rows shown -/
end Sb
end
section
set_option Elab.async false
set_option linter.all false
set_option maxRecDepth 100000
set_option maxHeartbeats 4000000
namespace Sb
open PySem PySem.Spec PyProof.Rows L2
variable {K : PySem.W.Frag} {S : Sto}
/-! ## rows as data -/
theorem big {n i : Nat} (h : n ≤ i) (hi : i < 2 ^ 1000) : n < 2 ^ 400000 := Nat.lt_of_le_of_lt h (Nat.lt_of_lt_of_le hi (pow_le2 (by decide)))
/-! ### when -/
/-! ### rows put together -/
end Sb
end
section
set_option Elab.async false
set_option linter.all false
set_option maxRecDepth 100000
set_option maxHeartbeats 4000000
namespace Sb
open PySem PySem.Spec PyProof.Rows L2
variable {K : PySem.W.Frag} {S : Sto}
theorem cut_deckf {l : List Card} {a : Nat} : gSl (dK l) (some (a : Nat)) none S = some (dK (l.drop a), S) := by
  have := cut_from (l := l) (a := a)
  exact sl_deck this
end Sb
end
section
set_option Elab.async false
set_option linter.all false
set_option maxRecDepth 100000
set_option maxHeartbeats 4000000
namespace Sb
open PySem PySem.Spec PyProof.Rows L2
variable {K : PySem.W.Frag} {S : Sto}
/-! ## the reel -/
end Sb
end
section
set_option Elab.async false
set_option linter.all false
set_option maxRecDepth 100000
set_option maxHeartbeats 4000000
namespace Sb
open PySem PySem.Spec PyProof.Rows L2
variable {K : PySem.W.Frag} {S : Sto}
abbrev cF (c : Card) : D := .fl [.str c.1, .int c.2]
/-- a deck, dressed otherwise -/
def Drs (l : List Card) (d : D) : Prop := d = .fl (l.map cF) ∨ d = .tup (l.map cF) ∨ d = .fl (l.map dC)
theorem Drs.deck {l : List Card} {d : D} (h : Drs l d) (S : Sto) : isDeck S d l := by
  rcases h with rfl | rfl | rfl
  · refine ⟨l.map cF, .inr (.inl rfl), by simp, fun i e c h1 h2 => ?_⟩
    rw [List.getElem?_map, h2] at h1
    cases h1; exact .inr (.inl rfl)
  · refine ⟨l.map cF, .inl rfl, by simp, fun i e c h1 h2 => ?_⟩
    rw [List.getElem?_map, h2] at h1
    cases h1; exact .inr (.inl rfl)
  · refine ⟨l.map dC, .inr (.inl rfl), by simp, fun i e c h1 h2 => ?_⟩
    rw [List.getElem?_map, h2] at h1
    cases h1; exact .inl rfl
end Sb
end
section
set_option Elab.async false
set_option linter.all false
set_option maxRecDepth 100000
set_option maxHeartbeats 4000000
namespace Sb
open PySem PySem.Spec PyProof.Rows L2
variable {K : PySem.W.Frag} {S : Sto}
/-! ## pops drawn -/
end Sb
end
section
set_option Elab.async false
set_option linter.all false
set_option maxRecDepth 100000
set_option maxHeartbeats 4000000
namespace Sb
open PySem PySem.Spec PyProof.Rows L2
variable {K : PySem.W.Frag} {S : Sto}
end Sb
end
section
set_option Elab.async false
set_option linter.all false
set_option maxRecDepth 100000
set_option maxHeartbeats 4000000
namespace Sb
open PySem PySem.Spec PyProof.Rows L2
variable {K : PySem.W.Frag} {S : Sto}
end Sb
end
section
set_option Elab.async false
set_option linter.all false
set_option maxRecDepth 100000
set_option maxHeartbeats 4000000
namespace Sb
open PySem PySem.Spec PyProof.Rows L2
variable {K : PySem.W.Frag} {S : Sto}
/-! ## dressed -/
def Dr1 (c : Card) (e : D) : Prop := e = dC c ∨ e = cF c
def DrsX (l : List Card) (d : D) : Prop := ∃ es : List D, (d = .tup es ∨ d = .fl es) ∧ es.length = l.length ∧ ∀ (i : Nat) (e : D) (c : Card), es[i]? = some e → l[i]? = some c → Dr1 c e
theorem DrsX.deck {l : List Card} {d : D} (h : DrsX l d) (S : Sto) : isDeck S d l := by
  obtain ⟨es, h1, h2, h3⟩ := h
  exact ⟨es, h1.imp id .inl, h2, fun i e c a b => (h3 i e c a b).imp id .inl⟩
theorem DrsX.bd {l : List Card} {d : D} (h : DrsX l d) {k : Nat} : bd k d = true := by
  obtain ⟨es, h1, h2, h3⟩ := h
  have : bds k es = true := bds_all.mpr fun e he => by
    obtain ⟨i, hi, rfl⟩ := List.getElem_of_mem he
    rcases h3 i _ _ (List.getElem?_eq_getElem hi) (List.getElem?_eq_getElem (by omega)) with q | q <;> rw [q] <;> rfl
  rcases h1 with rfl | rfl <;> simpa [Sb.bd] using this
end Sb
end
section
set_option Elab.async false
set_option linter.all false
set_option maxRecDepth 100000
set_option maxHeartbeats 4000000
namespace Sb
open PySem PySem.Spec PyProof.Rows L2
variable {K : PySem.W.Frag} {S : Sto}
end Sb
end
section
set_option Elab.async false
set_option linter.all false
set_option maxRecDepth 100000
set_option maxHeartbeats 4000000
namespace Sb
open PySem PySem.Spec PyProof.Rows L2
variable {K : PySem.W.Frag} {S : Sto}
/-! ## the program's rows, stretches, decks far on -/
/-- stretches of a deck: head, level, length -/
abbrev Strt := List Card × Nat × Option Nat
/-! ### stretches gone -/
end Sb
end
section
set_option Elab.async false
set_option linter.all false
set_option maxRecDepth 100000
set_option maxHeartbeats 4000000
namespace Sb
open PySem PySem.Spec PyProof.Rows L2
variable {K : PySem.W.Frag} {S : Sto}
end Sb
end
section
set_option Elab.async false
set_option linter.all false
set_option maxRecDepth 100000
set_option maxHeartbeats 4000000
namespace Sb
open PySem PySem.Spec PyProof.Rows L2
variable {K : PySem.W.Frag} {S : Sto}
end Sb
end
section
set_option Elab.async false
set_option linter.all false
set_option maxRecDepth 100000
set_option maxHeartbeats 4000000
namespace Sb
open PySem PySem.Spec PyProof.Rows L2
variable {K : PySem.W.Frag} {S : Sto}
/-! ## a ring told: its size, the names at its phases, its holes -/
def kvs : Nat → Pat → List (Key × D)
  | _, [] => []
  | i, none :: r => kvs (i + 1) r
  | i, some x :: r => (.inl ((i : Nat) : Int), .str x) :: kvs (i + 1) r
end Sb
end
section
set_option Elab.async false
set_option linter.all false
set_option maxRecDepth 100000
set_option maxHeartbeats 4000000
namespace Sb
open PySem PySem.Spec PyProof.Rows L2
variable {K : PySem.W.Frag} {S : Sto}
end Sb
end
section
set_option Elab.async false
set_option linter.all false
set_option maxRecDepth 100000
set_option maxHeartbeats 4000000
namespace Sb
open PySem PySem.Spec PyProof.Rows L2
variable {K : PySem.W.Frag} {S : Sto}
theorem rb_dct {S : Sto} {k m n : Nat} {kv : List (Key × D)} (h : ¬ (bd k (.loc n) = true)) (e : S[n]? = some (.dct kv)) : rb S k (m + 1) (.loc n) = ((kv.map (·.2)).mapM (rb S k m)).map (.fd (kv.map (·.1))) := by
  conv => lhs; unfold rb
  simp only [if_neg h, e]
end Sb
end
section
set_option Elab.async false
set_option linter.all false
set_option maxRecDepth 100000
set_option maxHeartbeats 4000000
namespace Sb
open PySem PySem.Spec PyProof.Rows L2
variable {K : PySem.W.Frag} {S : Sto}
end Sb
end
section
set_option Elab.async false
set_option linter.all false
set_option maxRecDepth 100000
set_option maxHeartbeats 4000000
namespace Sb
open PySem PySem.Spec PyProof.Rows L2
variable {K : PySem.W.Frag} {S : Sto}
end Sb
end
section
set_option Elab.async false
set_option linter.all false
set_option maxRecDepth 100000
set_option maxHeartbeats 4000000
namespace Sb
open PySem PySem.Spec PyProof.Rows L2
variable {K : PySem.W.Frag} {S : Sto}
end Sb
end
section
set_option Elab.async false
set_option linter.all false
set_option maxRecDepth 100000
set_option maxHeartbeats 4000000
namespace Sb
open PySem PySem.Spec PyProof.Rows L2
variable {K : PySem.W.Frag} {S : Sto}
/-! ## a home deck of the reel -/
end Sb
end
section
set_option Elab.async false
set_option linter.all false
set_option maxRecDepth 100000
set_option maxHeartbeats 4000000
namespace Sb
open PySem PySem.Spec PyProof.Rows L2
variable {K : PySem.W.Frag} {S : Sto}
/-! ## whether a thing is a paper -/
end Sb
end
section
set_option Elab.async false
set_option linter.all false
set_option maxRecDepth 100000
set_option maxHeartbeats 4000000
namespace Sb
open PySem PySem.Spec PyProof.Rows L2
variable {K : PySem.W.Frag} {S : Sto}
end Sb
end
section
set_option Elab.async false
set_option linter.all false
set_option maxRecDepth 100000
set_option maxHeartbeats 4000000
namespace Sb
open PySem PySem.Spec PyProof.Rows L2
variable {K : PySem.W.Frag} {S : Sto}
/-! ## how often, when: rows -/
/-! ## settled decks -/
end Sb
end
section
set_option Elab.async false
set_option linter.all false
set_option maxRecDepth 100000
set_option maxHeartbeats 4000000
namespace Sb
open PySem PySem.Spec PyProof.Rows L2
variable {K : PySem.W.Frag} {S : Sto}
end Sb
end
section
set_option Elab.async false
set_option linter.all false
set_option maxRecDepth 100000
set_option maxHeartbeats 4000000
namespace Sb
open PySem PySem.Spec PyProof.Rows L2
variable {K : PySem.W.Frag} {S : Sto}
end Sb
end
section
set_option Elab.async false
set_option linter.all false
set_option maxRecDepth 100000
set_option maxHeartbeats 4000000
namespace Sb
open PySem PySem.Spec PyProof.Rows L2
variable {K : PySem.W.Frag} {S : Sto}
/-! ## walks over a list of the store -/
/-! ## the word of a kept exception -/
/-! ## what is no deck -/
/-- refused with NoDeck, wherever -/
def NoD (K : PySem.W.Frag) (d : D) : Prop := ∀ S : Sto, ∃ X, M_deck_of K [d] S = some (.ex ⟨He.ga K "NoDeck", none⟩ (S ++ X))
theorem noD_odd {d : D} (h : Odd d) : NoD K d := fun S => by
  obtain ⟨X, e, _⟩ := deck_of_no (K := K) (S := S) h
  exact ⟨X, e⟩
theorem good_nil : Good [] := ⟨by simp, by simp⟩
theorem rp_card2 {x y : D} (h1 : Rp x 200 0) (h2 : Rp y 200 0) : Rp (.tup [x, y]) 402 1 ∧ Rp (.fl [x, y]) 402 1 := Rp.seq (n := 2) (w := 200) (k := 0) (fun d hd => by
  simp only [List.mem_cons, List.not_mem_nil, or_false] at hd
  rcases hd with rfl | rfl
  · exact h1
  · exact h2) (by simp)
theorem rp_one {x : D} {w k : Nat} (h : Rp x w k) : Rp (.tup [x]) (w + 1) (k + 1) ∧ Rp (.fl [x]) (w + 1) (k + 1) := by
  have := Rp.seq (n := 1) (w := w) (k := k) (ds := [x]) (fun d hd => by
    simp only [List.mem_cons, List.not_mem_nil, or_false] at hd
    subst hd; exact h) (by simp)
  rw [Nat.mul_one] at this
  exact this
theorem rp_i1 {k : Nat} {i : Int} (h : i.natAbs < 1000) : Rp (.int i) 200 k := Rp.int (Nat.lt_trans h (by decide))
theorem rp_s {k : Nat} {x : Str} (h : ∀ c ∈ x.cps.toList, c < 16 ^ 8) (hs : x.cps.size ≤ 200) : Rp (.str x) 200 k := Rp.str h hs
end Sb
end
section
set_option Elab.async false
set_option linter.all false
set_option maxRecDepth 100000
set_option maxHeartbeats 4000000
namespace Sb
open PySem PySem.Spec PyProof.Rows L2
variable {K : PySem.W.Frag} {S : Sto}
theorem fz_dct0 {τ : Sl} (w : Wf S) : fz eDct0 τ S = some (.ok (.fd [] []) S) := by
  have nb : ¬ (bd S.length (.loc S.length) = true) := by simp [bd]
  have e1 : rb (S ++ [.dct []]) S.length 8 (.loc S.length) = some (.fd [] []) := by
    conv => lhs; unfold rb
    simp only [if_neg nb, get_last]
    rfl
  have ww : wfk S.length ((S ++ [Ob.dct []]).take S.length) = true := by rw [take_app]; exact w
  rw [fz_eq]
  simp only [eDct0, fzR, if_pos ww, e1, Option.map_some]
  rw [take_app]
theorem fz_nil {τ : Sl} (w : Wf S) : fz (eLst aNil) τ S = some (.ok (.fl []) S) := fz_list (S1 := S) aNil_ok rfl w (by simp) rfl
def w8 (k : Nat) : Str := ⟨#[(("abcdefgh" : Str).cps.toList)[k % 8]'(Nat.lt_of_lt_of_le (Nat.mod_lt k (by decide)) (by decide))]⟩ ++ cutS "xyzuvwq" none (some ((k / 8 : Nat) : Int))
/-! ### the draw of it -/
end Sb
end
section
set_option Elab.async false
set_option linter.all false
set_option maxRecDepth 100000
set_option maxHeartbeats 4000000
namespace Sb
open PySem PySem.Spec PyProof.Rows L2
variable {K : PySem.W.Frag} {S : Sto}
/-! ## what is no deck, as the spring draws it -/
structure BadS (K : PySem.W.Frag) (d : D) : Prop where
  no : NoD K d
  rp : Rp d 50000 4
  bd : ∀ k, bd k d = true
  kd : ∃ k, ∀ S : Sto, kindD S d = some k ∧ (k = "tuple" ↔ ∃ ds, d = .tup ds)
  ls : ∀ ds, d = .tup ds → NoD K (.fl ds) ∧ Rp (.fl ds) 50000 4
  sh : (∃ ds, d = .tup ds) ∨ (∃ ds, d = .fl ds) ∨ (∃ ks ds, d = .fd ks ds) ∨ d = .non ∨ (∃ b, d = .bl b) ∨ (∃ x, d = .str x) ∨ ∃ i : Int, d = .int i ∧ i.natAbs.log2 < 1920
def cardL (x : Str) (i : Int) : List D :=
  [.tup [.str x, .int (-1)], .tup [.str x, .bl true], .tup [.str x, .non], .tup [.str x, .str "1"], .tup [.str x], .tup [.str x, .int i, .int 0], .tup [.str "", .int 1], .tup [.str "A", .int 1], .non]
  ++ [.tup [.str "abcdefghi", .int 0], .tup [.str "a b", .int 0], .tup [.int 7, .int 0], .tup [.non, .int 0], .tup [.str "a", .fl [.int 1]], .str x, .fl [], .tup [.int i, .str x], .tup [.str "a-", .int 1]]
/-- a thing that is no card -/
structure BadK (b : D) : Prop where
  no : BadC b
  rp : Rp b 700 2
  bd : ∀ k, bd k b = true
theorem cardL_bad {x : Str} {i : Int} (nm : Nm x) (hi : 0 ≤ i) (hb : i < 10 ^ 40) : ∀ b ∈ cardL x i, BadK b := by
  have n0 : ∀ S, M_is_name [.str x] S = some (.ok (.bl true) S) := fun S => is_name_ok nm
  have rpn : Rp (.str x) 200 0 := .name nm
  have i1 : ∀ {j : Int}, j.natAbs < 1000 → Rp (.int j) 200 0 := fun h => rp_i1 h
  have rpi : Rp (.int i) 200 0 := .int (by omega)
  have s : ∀ {y : Str}, (y.cps.size ≤ 200 ∧ ∀ c ∈ y.cps.toList, c < 16 ^ 8) → Rp (.str y) 200 0 := fun h => rp_s h.2 h.1
  have up : ∀ {d : D} {w k : Nat}, Rp d w k → w ≤ 700 → k ≤ 2 → Rp d 700 2 := fun h h1 h2 => h.mono h1 h2
  have pr : ∀ {y z : D}, Rp y 200 0 → Rp z 200 0 → ((∀ S : Sto, M_is_name [y] S = some (.ok (.bl false) S)) ∨ ((∀ S : Sto, M_is_name [y] S = some (.ok (.bl true) S)) ∧ ∀ S : Sto, M_is_depth [z] S = some (.ok (.bl false) S))) → (∀ k, bd k y = true) → (∀ k, bd k z = true) → BadK (.tup [y, z]) := fun {y z} h1 h2 h3 h4 h5 =>
    ⟨bad_pair h3, up (rp_card2 h1 h2).1 (by omega) (by omega), fun k => by simp only [Sb.bd, bds, h4, h5, Bool.and_self]⟩
  intro b hbm
  simp only [cardL, List.cons_append, List.nil_append, List.mem_cons, List.not_mem_nil, or_false] at hbm
  rcases hbm with rfl | rfl | rfl | rfl | rfl | rfl | rfl | rfl | rfl | rfl | rfl | rfl | rfl | rfl | rfl | rfl | rfl | rfl
  · exact pr rpn (i1 (by decide)) (.inr ⟨n0, nodep_neg (by decide)⟩) (fun _ => rfl) fun _ => rfl
  · exact pr rpn .bl (.inr ⟨n0, nodep (k := "bool") (fun _ => rfl) (by simp)⟩) (fun _ => rfl) fun _ => rfl
  · exact pr rpn .non (.inr ⟨n0, nodep (k := "NoneType") (fun _ => rfl) (by simp)⟩) (fun _ => rfl) fun _ => rfl
  · exact pr rpn (s (by decide +kernel)) (.inr ⟨n0, nodep (k := "str") (fun _ => rfl) (by simp)⟩) (fun _ => rfl) fun _ => rfl
  · exact ⟨(bad_len (by simp) (by simp)).1, up (rp_one rpn).1 (by omega) (by omega), fun _ => rfl⟩
  · refine ⟨(bad_len (by simp) (by simp)).1, up (Rp.seq (w := 200) (k := 0) (n := 3) (fun d hd => ?_) (by simp)).1 (by omega) (by omega), fun _ => rfl⟩
    simp only [List.mem_cons, List.not_mem_nil, or_false] at hd
    rcases hd with rfl | rfl | rfl
    · exact rpn
    · exact rpi
    · exact i1 (by decide)
  · exact pr (s (by decide +kernel)) (i1 (by decide)) (.inl name_e) (fun _ => rfl) fun _ => rfl
  · exact pr (s (by decide +kernel)) (i1 (by decide)) (.inl name_A) (fun _ => rfl) fun _ => rfl
  · exact ⟨bad_kind nolist_non, up (w := 0) (k := 0) .non (by omega) (by omega), fun _ => rfl⟩
  · exact pr (s (by decide +kernel)) (i1 (by decide)) (.inl name_9) (fun _ => rfl) fun _ => rfl
  · exact pr (s (by decide +kernel)) (i1 (by decide)) (.inl name_ab) (fun _ => rfl) fun _ => rfl
  · exact pr (i1 (by decide)) (i1 (by decide)) (.inl noname_int) (fun _ => rfl) fun _ => rfl
  · exact pr .non (i1 (by decide)) (.inl noname_non) (fun _ => rfl) fun _ => rfl
  · have r1 : Rp (.fl [.int 1]) 201 1 := (rp_one (i1 (by decide))).2
    refine ⟨bad_pair (.inr ⟨name_a, nodep (k := "list") (fun _ => rfl) (by simp)⟩), up (Rp.seq (w := 201) (k := 1) (n := 2) (fun d hd => ?_) (by simp)).1 (by omega) (by omega), fun _ => rfl⟩
    simp only [List.mem_cons, List.not_mem_nil, or_false] at hd
    rcases hd with rfl | rfl
    · exact (s (y := "a") (by decide +kernel)).mono (by omega) (by omega)
    · exact r1
  · exact ⟨bad_kind nolist_str, up rpn (by omega) (by omega), fun _ => rfl⟩
  · exact ⟨(bad_len (by simp) (by simp)).2, up (Rp.seq (w := 0) (k := 0) (n := 0) (ds := []) (by simp) (by simp)).2 (by omega) (by omega), fun _ => rfl⟩
  · exact pr rpi rpn (.inl noname_int) (fun _ => rfl) fun _ => rfl
  · exact pr (s (by decide +kernel)) (i1 (by decide)) (.inl name_am) (fun _ => rfl) fun _ => rfl
theorem bad_tup {ds : List D} (no : ∀ d, Sq d ds → Odd d) (h : ∀ d ∈ ds, Rp d 1000 2) (hn : ds.length ≤ 45) (hb : ∀ k, bds k ds = true) : BadS K (.tup ds) := by
  have r := Rp.seq h hn
  refine ⟨noD_odd (no _ (.inl rfl)), r.1.mono (by omega) (by omega), fun k => hb k, ⟨"tuple", fun S => ⟨rfl, by simp⟩⟩, fun es e => ?_, .inl ⟨_, rfl⟩⟩
  cases e
  exact ⟨noD_odd (no _ (.inr rfl)), r.2.mono (by omega) (by omega)⟩
theorem bad_oth {d : D} {k : String} (no : NoD K d) (h : Rp d 50000 4) (hb : ∀ k, bd k d = true) (hk : ∀ S : Sto, kindD S d = some k) (hn : k ≠ "tuple") (ht : ∀ ds, d ≠ .tup ds) (hs : (∃ ds, d = .tup ds) ∨ (∃ ds, d = .fl ds) ∨ (∃ ks ds, d = .fd ks ds) ∨ d = .non ∨ (∃ b, d = .bl b) ∨ (∃ x, d = .str x) ∨ ∃ i : Int, d = .int i ∧ i.natAbs.log2 < 1920 := by first | exact .inr (.inl ⟨_, rfl⟩) | exact .inr (.inr (.inl ⟨_, _, rfl⟩)) | exact .inr (.inr (.inr (.inl rfl))) | exact .inr (.inr (.inr (.inr (.inl ⟨_, rfl⟩)))) | exact .inr (.inr (.inr (.inr (.inr (.inl ⟨_, rfl⟩))))) | exact .inr (.inr (.inr (.inr (.inr (.inr ⟨_, rfl, by decide⟩)))))) : BadS K d :=
  ⟨no, h, hb, ⟨k, fun S => ⟨hk S, ⟨fun z => absurd z hn, fun ⟨ds, z⟩ => absurd z (ht ds)⟩⟩⟩, fun ds e => absurd e (ht ds), hs⟩
def w7 (k : Nat) : Str := ("w" : Str) ++ ⟨#[(("abcdefg" : Str).cps.toList).getD (k / 6) 0]⟩ ++ ⟨#[(("abcdef" : Str).cps.toList).getD (k % 6) 0]⟩
theorem w7_ok : ∀ k, k < 41 → (w7 k).cps.size ≤ 200 ∧ ∀ c ∈ (w7 k).cps.toList, c < 16 ^ 8 := by decide +kernel
def many7 : List D := (List.range 41).map fun k : Nat => .tup [.str (w7 k), .int k]
/-- the thirteen things: at place i the card c, another card b put in -/
def someL (l : List Card) (i : Nat) (c b : Card) (dct : D) : List D :=
  [.non, .int 5, .bl true, .str "a:1", .tup [], .fl [], .fd [] [], dC (at0 l 0), dct, .tup (l.map dC ++ [dC c]), .tup (l.map dC ++ [.tup [.str c.1, .int 0]]), .tup many7, .tup ((l.take i).map dC ++ dC b :: (l.drop i).map dC)]
theorem rp_cards {l : List Card} {r : List D} (ok : DeckOk l) (hb : ∀ c ∈ l, c.2 < 10 ^ 40) : ∀ m : List Card, (∀ c ∈ m, c ∈ l) → ∀ d ∈ m.map dC, Rp d 1000 2 := fun m hm d hd => by
  obtain ⟨x, hx, rfl⟩ := List.mem_map.mp hd
  exact (Rp.card (ok.nm x (hm x hx)) (ok.dep x (hm x hx)) (hb x (hm x hx))).mono (by omega) (by omega)
theorem some_bad {l : List Card} {i : Nat} {c b : Card} {dct : D} (ok : DeckOk l) (hb : ∀ c ∈ l, c.2 < 10 ^ 40) (hc : c ∈ l) (hbm : b ∈ l) (hd : BadS K dct) : ∀ d ∈ someL l i c b dct, BadS K d := by
  have dupG : ∀ {m : List Card}, (∀ x ∈ m, x ∈ l) → Good m := fun {m} h => ⟨fun x hx => ok.nm x (h x hx), fun x hx => ok.dep x (h x hx)⟩
  have l40 := ok.hi
  have ix : at0 l 0 ∈ l := at0_mem ok.lo
  intro d hdm
  simp only [someL, List.mem_cons, List.not_mem_nil, or_false] at hdm
  rcases hdm with rfl | rfl | rfl | rfl | rfl | rfl | rfl | rfl | rfl | rfl | rfl | rfl | rfl
  · exact bad_oth (k := "NoneType") (noD_odd (.kind nolist_non)) .non (fun _ => rfl) (fun _ => rfl) (by decide) (fun _ z => by cases z)
  · exact bad_oth (k := "int") (noD_odd (.kind nolist_int)) ((rp_i1 (k := 0) (by decide)).mono (by omega) (by omega)) (fun _ => rfl) (fun _ => rfl) (by decide) (fun _ z => by cases z)
  · exact bad_oth (k := "bool") (noD_odd (.kind nolist_bl)) .bl (fun _ => rfl) (fun _ => rfl) (by decide) (fun _ z => by cases z)
  · exact bad_oth (k := "str") (noD_odd (.kind nolist_str)) ((rp_s (k := 0) (by decide +kernel) (by decide)).mono (by omega) (by omega)) (fun _ => rfl) (fun _ => rfl) (by decide) (fun _ z => by cases z)
  · exact bad_tup (fun d q => .len q (.inl rfl)) (by simp) (by simp) fun _ => rfl
  · exact bad_oth (k := "list") (noD_odd (.len (.inr rfl) (.inl rfl))) ((Rp.seq (w := 0) (k := 0) (n := 0) (ds := []) (by simp) (by simp)).2.mono (by omega) (by omega)) (fun _ => rfl) (fun _ => rfl) (by decide) (fun _ z => by cases z)
  · exact bad_oth (k := "dict") (noD_odd (.kind nolist_fd)) ((Rp.fd (ks := []) (ds := []) (n := 0) (by simp) (by simp) rfl (by simp)).mono (by omega) (by omega)) (fun _ => rfl) (fun _ => rfl) (by decide) (fun _ z => by cases z)
  · have e : dC (at0 l 0) = .tup [.str (at0 l 0).1, .int (at0 l 0).2] := rfl
    rw [e]
    refine bad_tup (fun d q => .bad (l := []) (r := [.int (at0 l 0).2]) q good_nil (bad_kind nolist_str)) (fun d hd => ?_) (by simp) fun _ => rfl
    simp only [List.mem_cons, List.not_mem_nil, or_false] at hd
    rcases hd with rfl | rfl
    · exact (Rp.name (ok.nm _ ix) : Rp _ 200 0).mono (by omega) (by omega)
    · have := ok.dep _ ix
      have := hb _ ix
      exact (Rp.int (k := 0) (by omega)).mono (by omega) (by omega)
  · exact hd
  · have e : l.map dC ++ [dC c] = (l ++ [c]).map dC := by rw [List.map_append]; rfl
    have sub : ∀ x ∈ l ++ [c], x ∈ l := fun x hx => by
      rcases List.mem_append.mp hx with z | z
      · exact z
      · rw [List.mem_singleton.mp z]; exact hc
    rw [e]
    refine bad_tup (fun d q => .dup q (dupG sub) ?_) (rp_cards (r := []) ok hb _ sub) (by simp; omega) fun _ => bds_dC
    rw [List.map_append, List.nodup_append]
    rintro ⟨_, _, h3⟩
    exact h3 c.1 (List.mem_map_of_mem hc) c.1 (by simp) rfl
  · have e : l.map dC ++ [.tup [.str c.1, .int 0]] = (l ++ [(c.1, 0)]).map dC := by rw [List.map_append]; rfl
    rw [e]
    have g : Good (l ++ [(c.1, 0)]) := ⟨fun x hx => by
      rcases List.mem_append.mp hx with z | z
      · exact ok.nm x z
      · rw [List.mem_singleton.mp z]; exact ok.nm c hc, fun x hx => by
      rcases List.mem_append.mp hx with z | z
      · exact ok.dep x z
      · rw [List.mem_singleton.mp z]; exact Int.le_refl _⟩
    refine bad_tup (fun d q => .dup q g ?_) (fun d hd => ?_) (by simp; omega) fun _ => bds_dC
    · rw [List.map_append, List.nodup_append]
      rintro ⟨_, _, h3⟩
      exact h3 c.1 (List.mem_map_of_mem hc) c.1 (by simp) rfl
    · obtain ⟨x, hx, rfl⟩ := List.mem_map.mp hd
      refine (Rp.card (g.nm x hx) (g.dep x hx) ?_).mono (by omega) (by omega)
      rcases List.mem_append.mp hx with z | z
      · exact hb x z
      · rw [List.mem_singleton.mp z]; show (0 : Int) < _; decide
  · refine bad_tup (fun d q => .len q (.inr (by simp [many7]))) (fun d hd => ?_) (by simp [many7]) fun _ => bds_map fun _ _ => rfl
    obtain ⟨i, hi, rfl⟩ := List.mem_map.mp hd
    have hi := List.mem_range.mp hi
    exact (rp_card2 (rp_s (w7_ok i hi).2 (w7_ok i hi).1) (Rp.int (Nat.lt_trans (show ((i : Nat) : Int).natAbs < 100 by omega) (by decide)))).1.mono (by omega) (by omega)
  · have e : (l.take i).map dC ++ dC b :: (l.drop i).map dC = (l.take i ++ b :: l.drop i).map dC := by rw [List.map_append]; rfl
    have sub : ∀ x ∈ l.take i ++ b :: l.drop i, x ∈ l := fun x hx => by
      rcases List.mem_append.mp hx with z | z
      · exact List.mem_of_mem_take z
      · rcases List.mem_cons.mp z with z | z
        · rw [z]; exact hbm
        · exact List.mem_of_mem_drop z
    rw [e]
    refine bad_tup (fun d q => .dup q (dupG sub) fun nd => ?_) (rp_cards (r := []) ok hb _ sub) (by simp; omega) fun _ => bds_dC
    have pm : ((l.take i ++ b :: l.drop i).map (·.1)).Perm ((b :: l).map (·.1)) := by
      have p1 : (l.take i ++ b :: l.drop i).Perm (b :: (l.take i ++ l.drop i)) := List.perm_middle
      rw [List.take_append_drop] at p1
      exact p1.map _
    have := pm.nodup_iff.mp nd
    rw [List.map_cons, List.nodup_cons] at this
    exact this.1 (List.mem_map_of_mem hbm)
theorem card_bad {l : List Card} {i : Nat} {b : D} (ok : DeckOk l) (hb : ∀ c ∈ l, c.2 < 10 ^ 40) (h : BadK b) : BadS K (.tup ((l.take i).map dC ++ b :: (l.drop (i + 1)).map dC)) := by
  have l40 := ok.hi
  refine bad_tup (fun d q => .bad q ⟨fun x hx => ok.nm x (List.mem_of_mem_take hx), fun x hx => ok.dep x (List.mem_of_mem_take hx)⟩ h.no) (fun d hd => ?_) (by simp; omega) fun k => ?_
  · rcases List.mem_append.mp hd with z | z
    · exact rp_cards (r := []) ok hb _ (fun x hx => List.mem_of_mem_take hx) d z
    · rcases List.mem_cons.mp z with z | z
      · rw [z]; exact h.rp.mono (by omega) (by omega)
      · exact rp_cards (r := []) ok hb _ (fun x hx => List.mem_of_mem_drop hx) d z
  · refine bds_all.mpr fun d hd => ?_
    rcases List.mem_append.mp hd with z | z
    · exact bds_all.mp bds_dC d z
    · rcases List.mem_cons.mp z with z | z
      · rw [z]; exact h.bd k
      · exact bds_all.mp bds_dC d z
end Sb
end
section
set_option Elab.async false
set_option linter.all false
set_option maxRecDepth 100000
set_option maxHeartbeats 4000000
namespace Sb
open PySem PySem.Spec PyProof.Rows L2
variable {K : PySem.W.Frag} {S : Sto}
end Sb
end
section
set_option Elab.async false
set_option linter.all false
set_option maxRecDepth 100000
set_option maxHeartbeats 4000000
namespace Sb
open PySem PySem.Spec PyProof.Rows L2
variable {K : PySem.W.Frag} {S : Sto}
end Sb
end
section
set_option Elab.async false
set_option linter.all false
set_option maxRecDepth 100000
set_option maxHeartbeats 4000000
namespace Sb
open PySem PySem.Spec PyProof.Rows L2
variable {K : PySem.W.Frag} {S : Sto}
/-! ## how often a name is on top -/
end Sb
end
section
set_option Elab.async false
set_option linter.all false
set_option maxRecDepth 100000
set_option maxHeartbeats 4000000
namespace Sb
open PySem PySem.Spec PyProof.Rows L2
variable {K : PySem.W.Frag} {S : Sto}
/-! ## when a name is seen for the so-manieth time, any deck -/
end Sb
end
section
set_option Elab.async false
set_option linter.all false
set_option maxRecDepth 100000
set_option maxHeartbeats 4000000
namespace Sb
open PySem PySem.Spec PyProof.Rows L2
variable {K : PySem.W.Frag} {S : Sto}
/-! ## when_seen of any deck -/
end Sb
end
section
set_option Elab.async false
set_option linter.all false
set_option maxRecDepth 100000
set_option maxHeartbeats 4000000
namespace Sb
open PySem PySem.Spec PyProof.Rows L2
variable {K : PySem.W.Frag} {S : Sto}
/-! ## spans of any deck -/
end Sb
end
section
set_option Elab.async false
set_option linter.all false
set_option maxRecDepth 100000
set_option maxHeartbeats 4000000
namespace Sb
open PySem PySem.Spec PyProof.Rows L2
/-! ## what stays within a stretch -/
section
variable {h : List Card} {q : Nat} {r : List Nat}
end
/-! ## the spans, told by the steps -/
inductive Spn (l : List Card) : Nat → List (Nat × Strt) → Prop
  | last {g : Nat} : aw (stps g l) = [] → Spn l g [(g, stps g l, clo (stps g l) - 1, none)]
  | step {g q : Nat} {r : List Nat} {xs : List (Nat × Strt)} : aw (stps g l) = q :: r → Spn l (g + (stl (stps g l) q + 1)) xs → Spn l g ((g, stps g l, q, some (stl (stps g l) q + 1)) :: xs)
/-! ## comings home, by steps -/
theorem Spn.head {l : List Card} {g : Nat} {xs : List (Nat × Strt)} (h : Spn l g xs) : ∃ y zs, xs = y :: zs ∧ y.1 = g ∧ y.2.1 = stps g l := by
  cases h with
  | last ha => exact ⟨_, _, rfl, rfl, rfl⟩
  | step ha hx => exact ⟨_, _, rfl, rfl, rfl⟩
end Sb
end
section
set_option Elab.async false
set_option linter.all false
set_option maxRecDepth 100000
set_option maxHeartbeats 4000000
namespace Sb
open PySem PySem.Spec PyProof.Rows L2
variable {K : PySem.W.Frag} {S : Sto}
/-! ## two spans in a row: what comes home -/
/-! ## all comings -/
theorem Spn.all {l : List Card} {g : Nat} {xs : List (Nat × Strt)} (h : Spn l g xs) : ∀ y ∈ xs, y.2.1 = stps y.1 l ∧ g ≤ y.1 := by
  induction h with
  | last ha => intro y hy; rw [List.mem_singleton.mp hy]; exact ⟨rfl, Nat.le_refl _⟩
  | step ha hx ih =>
    intro y hy
    rcases List.mem_cons.mp hy with z | z
    · rw [z]; exact ⟨rfl, Nat.le_refl _⟩
    · have := ih y z
      exact ⟨this.1, by omega⟩
end Sb
end
section
set_option Elab.async false
set_option linter.all false
set_option maxRecDepth 100000
set_option maxHeartbeats 4000000
namespace Sb
open PySem PySem.Spec PyProof.Rows L2
variable {K : PySem.W.Frag} {S : Sto}
/-! ## closings -/
/-! ## fates -/
/-- the last step ahead of n that shows a name -/
def lst (f : Nat → Option Str) (x : Str) : Nat → Option Nat
  | 0 => none
  | n + 1 => if f n = some x then some n else lst f x n
theorem Spn.at {l : List Card} {g : Nat} {xs : List (Nat × Strt)} (h : Spn l g xs) : ∀ i, (hi : i + 1 < xs.length) → ∃ q r, aw (stps (xs[i]'(by omega)).1 l) = q :: r ∧ (xs[i]'(by omega)).2 = (stps (xs[i]'(by omega)).1 l, q, some (stl (stps (xs[i]'(by omega)).1 l) q + 1)) ∧ (xs[i + 1]).1 = (xs[i]'(by omega)).1 + (stl (stps (xs[i]'(by omega)).1 l) q + 1) := by
  induction h with
  | last ha => intro i hi; simp at hi
  | @step g q r xs ha hx ih =>
    intro i hi
    cases i with
    | zero =>
      obtain ⟨y, zs, rfl, e1, e2⟩ := hx.head
      exact ⟨q, r, ha, rfl, e1⟩
    | succ i => exact ih i (by simpa using hi)
end Sb
end
section
set_option Elab.async false
set_option linter.all false
set_option maxRecDepth 100000
set_option maxHeartbeats 4000000
namespace Sb
open PySem PySem.Spec PyProof.Rows L2
variable {K : PySem.W.Frag} {S : Sto}
theorem put_lenS {F : List (Key × D)} {k : Key} {d : D} : (putD' F k d).length ≤ F.length + 1 := by
  unfold putD'
  split <;> simp
theorem merge_len : ∀ (more kvs : List (Key × D)), (mergeD kvs more).length ≤ kvs.length + more.length
  | [], kvs => by simp [mergeD]
  | p :: r, kvs => by
    have := merge_len r (putD' kvs p.1 p.2)
    have := put_lenS (F := kvs) (k := p.1) (d := p.2)
    show (mergeD (putD' kvs p.1 p.2) r).length ≤ _
    simp only [List.length_cons]
    omega
theorem fz_dct {f : EF} {τ : Sl} {X : Sto} {n : Nat} {kvs : List (Key × D)} (w : Wf S) (e : f τ S = some (.ok (.loc n) (S ++ X))) (e2 : (S ++ X)[n]? = some (.dct kvs)) (hn : S.length ≤ n) (h : bds S.length (kvs.map (·.2)) = true) : fz f τ S = some (.ok (.fd (kvs.map (·.1)) (kvs.map (·.2))) S) := by
  have nb : ¬ (bd S.length (.loc n) = true) := by simp [bd]; omega
  have e1 : rb (S ++ X) S.length 8 (.loc n) = some (.fd (kvs.map (·.1)) (kvs.map (·.2))) := by
    rw [rb_dct nb e2]
    have : (kvs.map (·.2)).mapM (rb (S ++ X) S.length 7) = some (kvs.map (·.2)) := by
      have : ∀ ds : List D, bds S.length ds = true → ds.mapM (rb (S ++ X) S.length 7) = some ds := by
        intro ds
        induction ds with
        | nil => intro _; rfl
        | cons d ds ih =>
          intro hb
          simp only [bds, Bool.and_eq_true] at hb
          rw [List.mapM_cons, rb_bd hb.1, ih hb.2]; rfl
      exact this _ h
    rw [this]; rfl
  have ww : wfk S.length ((S ++ X).take S.length) = true := by rw [take_app]; exact w
  rw [fz_eq, e]
  simp only [fzR, if_pos ww, e1, Option.map_some]
  rw [take_app]
/-! ## those that are seen for ever -/
end Sb
end
section
set_option Elab.async false
set_option linter.all false
set_option maxRecDepth 100000
set_option maxHeartbeats 4000000
namespace Sb
open PySem PySem.Spec PyProof.Rows L2
variable {K : PySem.W.Frag} {S : Sto}
theorem put_sub {kvs : List (Key × D)} {k : Key} {v : D} {e : Key × D} (h : e ∈ putD' kvs k v) : e ∈ kvs ∨ e = (k, v) := by
  unfold putD' at h
  split at h
  · obtain ⟨q, hq, rfl⟩ := List.mem_map.mp h
    by_cases z : q.1 = k
    · rw [if_pos z, z]; exact .inr rfl
    · rw [if_neg z]; exact .inl hq
  · rcases List.mem_append.mp h with z | z
    · exact .inl z
    · exact .inr (List.mem_singleton.mp z)
theorem merge_sub {e : Key × D} : ∀ (more kvs : List (Key × D)), e ∈ mergeD kvs more → e ∈ kvs ∨ e ∈ more
  | [], kvs, h => .inl h
  | p :: r, kvs, h => by
    rcases merge_sub r (putD' kvs p.1 p.2) h with z | z
    · rcases put_sub z with z | z
      · exact .inl z
      · exact .inr (by rw [z]; exact List.mem_cons_self)
    · exact .inr (List.mem_cons_of_mem _ z)
theorem pairs_deck : ∀ l : List Card, pairsD S (l.map dC) = some (l.map fun c => (.inr c.1, .int c.2))
  | [] => rfl
  | c :: r => by
    show pairsD S (.tup [.str c.1, .int c.2] :: r.map dC) = _
    simp only [pairsD, keyD, Option.bind_some, pairs_deck r, List.map_cons]
theorem dct_bad' {l : List Card} {kvs : List (Key × D)} (ok : DeckOk l) (hb : ∀ c ∈ l, c.2 < 10 ^ 40) (e : ∀ kv ∈ kvs, ∃ c ∈ l, kv = (.inr c.1, .int c.2)) (hn : kvs.length ≤ 40) : BadS K (.fd (kvs.map (·.1)) (kvs.map (·.2))) := by
  refine bad_oth (k := "dict") (noD_odd (.kind nolist_fd)) ((Rp.fd (n := 40) (fun k hk => ?_) (fun d hd => ?_) (by simp) (by simp; exact hn)).mono (by omega) (by omega)) (fun k => bds_map fun kv hkv => ?_) (fun _ => rfl) (by decide) (fun _ z => by cases z)
  · obtain ⟨kv, hkv, rfl⟩ := List.mem_map.mp hk
    obtain ⟨c, hc, rfl⟩ := e kv hkv
    exact ⟨c.1, rfl, ok.nm c hc⟩
  · obtain ⟨kv, hkv, rfl⟩ := List.mem_map.mp hd
    obtain ⟨c, hc, rfl⟩ := e kv hkv
    have := ok.dep c hc
    have := hb c hc
    exact Rp.int (by show (c.2).natAbs < _; omega)
  · obtain ⟨c, _, rfl⟩ := e kv hkv
    rfl
theorem fg_at {f : EF} {τ : Sl} {ds : List D} {S S1 : Sto} (h : f τ S = some (.ok (.ntu ds) S1)) : fg f τ S = some (.ok (.tup ds) S1) := by simp only [fg, h, fgD]
theorem fg_dk {i : Nat} {τ : Sl} {l : List Card} {S : Sto} (h : τ[i]? = some (some (dN l))) : fg (eVar i) τ S = some (.ok (dK l) S) := fg_at (by simp only [eVar, h, dN])
theorem word7 {τ : Sl} {k : Nat} (hk : k < 41) (h7 : τ[7]? = some (some (.int (k : Nat)))) : (eTup (aCons (eB gAdd (eB gAdd (eC (.str "w")) (eB gIx (eC (.str "abcdefg")) (eB gDiv (eVar 7) (eC (.int 6))))) (eB gIx (eC (.str "abcdef")) (eB gMod (eVar 7) (eC (.int 6))))) (aCons (eVar 7) (aNil)))) τ S = some (.ok (.tup [.str (w7 k), .int k]) S) := by
  have hv : eVar 7 τ S = some (.ok (.int (k : Nat)) S) := by simp only [eVar, h7]
  have hm : gMod (.int (k : Nat)) (.int 6) S = some (.int (k % 6 : Nat), S) := rfl
  have hd : gDiv (.int (k : Nat)) (.int 6) S = some (.int (k / 6 : Nat), S) := gDiv_n (i := k) (j := 6) (by omega) (by omega)
  have ix : ∀ {x : Str} {i : Nat}, x.length ≤ 100 → i < x.cps.toList.length → gIx (.str x) (.int (i : Nat)) S = some (.str ⟨#[x.cps.toList.getD i 0]⟩, S) := fun {x i} hl hi => by
    have h1 : ((i : Nat) : Int) < (x.cps.toList.length : Int) := by omega
    have h0 : (0 : Int) ≤ (i : Nat) := by omega
    have hl' : x.length ≤ sizeLine := by rw [sizeLine_eq]; omega
    simp only [gIx, if_pos hl', atI, ixN, if_pos h0, if_pos h1, Int.toNat_natCast, Option.bind_some, List.getElem?_eq_getElem hi, List.getD_eq_getElem?_getD, Option.getD_some]
  have i1 := ix (x := "abcdefg") (i := k / 6) (by decide) (by show k / 6 < 7; omega)
  have i2 := ix (x := "abcdef") (i := k % 6) (by decide) (by show k % 6 < 6; omega)
  have ad : ∀ {x y : Str}, x.length + y.length ≤ 100 → gAdd (.str x) (.str y) S = some (.str (x ++ y), S) := fun {x y} h => by
    have : x.length + y.length ≤ sizeLine := by rw [sizeLine_eq]; omega
    simp only [gAdd, if_pos this]
  have a1 := ad (x := "w") (y := ⟨#[(("abcdefg" : Str).cps.toList).getD (k / 6) 0]⟩) (by show 1 + 1 ≤ 100; decide)
  have a2 := ad (x := ("w" : Str) ++ ⟨#[(("abcdefg" : Str).cps.toList).getD (k / 6) 0]⟩) (y := ⟨#[(("abcdef" : Str).cps.toList).getD (k % 6) 0]⟩) (by show 2 + 1 ≤ 100; decide)
  exact eTup_ok (a2_ok (eB_ok (eB_ok rfl (eB_ok rfl (eB_ok hv rfl hd) i1) a1) (eB_ok rfl (eB_ok hv rfl hm) i2) a2) hv) (by simp)
theorem ws_srt {f g : SF} {τ : Sl} {S S' : Sto} {d : D} {Q : Fl → Sto → Prop} (h : f τ S = some (.rt d, S')) (k : Q (.rt d) S') : Ws (sSeq f g τ S) Q := ⟨_, _, sSeq_rt h, k⟩
theorem no_deckS {n k : Nat} {l : List Card} (w : Wf S) (h : Spr n k S) (hk : k < 2 ^ 38) (ok : DeckOk l) (hb : ∀ c ∈ l, c.2 < 10 ^ 40) :
    ∃ S' d, M_n_law_no_deck [.loc n, dN l] S = some (.ok d S') ∧ BadS K d ∧ Spr n (k + 4) S' ∧ Fr n S S' := by
  have hn := h.lt
  have hz := sizeLine_eq
  have l1 := ok.lo
  have l40 := ok.hi
  have dk : ∀ {τ : Sl} {S : Sto}, τ[1]? = some (some (dN l)) → fg (eVar 1) τ S = some (.ok (dK l) S) := fun h => fg_dk h
  have main : Ws (m_n_law_no_deck (ini 8 [.loc n, dN l]) S) fun fl S' => ∃ d, fl = .rt d ∧ (BadS K d ∧ Spr n (k + 4) S' ∧ Fr n S S') := by
    obtain ⟨v, S2, e2, c2, sp2, sm2, w2⟩ := drw (S := S) (j := 0) (τ := ini 8 [.loc n, dN l]) (fm := eCB gLenX (aCons (fg (eVar 1)) (aNil))) (m := l.length) w rfl (eCB_ok (a1_ok (dk rfl)) len_deck) h (by omega) (by omega) (by omega)
    refine ws_set e2 ?_
    obtain ⟨c, hc⟩ : ∃ c, l[v] = c := ⟨_, rfl⟩
    have hcm : c ∈ l := hc ▸ List.getElem_mem c2
    have gc : l[v]? = some c := by rw [List.getElem?_eq_getElem c2, hc]
    refine ws_nx (sAs_ok (d := dC c) (S1 := S2) (eB_ok (dk rfl) rfl (ix_deck gc)) (τ1 := [some (.loc n), some (dN l), some (.int (v : Nat)), some (.str c.1), some (.int c.2), none, none, none]) rfl) ?_
    have nm := ok.nm c hcm
    have dp := ok.dep c hcm
    have hbc := hb c hcm
    let cA : List D := [.tup [.str c.1, .int (-1)], .tup [.str c.1, .bl true], .tup [.str c.1, .non], .tup [.str c.1, .str "1"], .tup [.str c.1], .tup [.str c.1, .int c.2, .int 0], .tup [.str "", .int 1], .tup [.str "A", .int 1], .non]
    let cB : List D := [.tup [.str "abcdefghi", .int 0], .tup [.str "a b", .int 0], .tup [.int 7, .int 0], .tup [.non, .int 0], .tup [.str "a", .fl [.int 1]], .str c.1, .fl [], .tup [.int c.2, .str c.1], .tup [.str "a-", .int 1]]
    have t2 : ∀ {x y : D} {fx fy : EF} {τ : Sl} {S : Sto}, fx τ S = some (.ok x S) → fy τ S = some (.ok y S) → eTup (aCons fx (aCons fy aNil)) τ S = some (.ok (.tup [x, y]) S) := fun h1 h2 => eTup_ok (a2_ok h1 h2) (by simp)
    have t1 : ∀ {x : D} {fx : EF} {τ : Sl} {S : Sto}, fx τ S = some (.ok x S) → eTup (aCons fx aNil) τ S = some (.ok (.tup [x]) S) := fun h1 => eTup_ok (a1_ok h1) (by simp)
    refine ws_set (fz_list (ds := cA) (S1 := S2) (aCons_ok (t2 rfl rfl) (aCons_ok (t2 rfl rfl) (aCons_ok (t2 rfl rfl) (aCons_ok (t2 rfl rfl) (aCons_ok (t1 rfl) (aCons_ok (eTup_ok (a3_ok rfl rfl rfl) (by simp)) (aCons_ok (t2 rfl rfl) (aCons_ok (t2 rfl rfl) (a1_ok rfl))))))))) rfl w2 (by show 9 ≤ 1000; decide) rfl) ?_
    refine ws_set (eB_ok rfl (fz_list (ds := cB) (S1 := S2) (aCons_ok (t2 rfl rfl) (aCons_ok (t2 rfl rfl) (aCons_ok (t2 rfl rfl) (aCons_ok (t2 rfl rfl) (aCons_ok (t2 rfl (fz_list (a1_ok rfl) rfl w2 (by simp) rfl)) (aCons_ok rfl (aCons_ok (fz_nil w2) (aCons_ok (t2 rfl rfl) (a1_ok (t2 rfl rfl)))))))))) rfl w2 (by show 9 ≤ 1000; decide) rfl) (fl_add (by show 9 + 9 ≤ 1000; decide))) ?_
    have ecl : cA ++ cB = cardL c.1 c.2 := rfl
    rw [ecl]
    -- some
    let ps : List (Key × D) := l.map fun c => (.inr c.1, .int c.2)
    have mem : ∀ kv ∈ mergeD [] ps, ∃ c ∈ l, kv = (.inr c.1, .int c.2) := fun kv hkv => by
      rcases merge_sub ps [] hkv with z | z
      · cases z
      · obtain ⟨x, hx, rfl⟩ := List.mem_map.mp z
        exact ⟨x, hx, rfl⟩
    have mlen : (mergeD [] ps).length ≤ 40 := by
      have := merge_len ps []
      simp only [List.length_nil, Nat.zero_add] at this
      have e : ps.length = l.length := by simp [ps]
      omega
    have db : BadS K (.fd ((mergeD [] ps).map (·.1)) ((mergeD [] ps).map (·.2))) := dct_bad' ok hb mem mlen
    have eD : ∀ {τ : Sl}, τ[1]? = some (some (dN l)) → fz (eCB gDictN (aCons (eVar 1) (aNil))) τ S2 = some (.ok (.fd ((mergeD [] ps).map (·.1)) ((mergeD [] ps).map (·.2))) S2) := fun {τ} h1 => by
      have hv : eVar 1 τ S2 = some (.ok (dN l) S2) := by simp only [eVar, h1]
      have e : eCB gDictN (aCons (eVar 1) (aNil)) τ S2 = some (.ok (.loc S2.length) (S2 ++ [.dct (mergeD [] ps)])) := eCB_ok (a1_ok hv) (by simp only [gDictN, dN, pairs_deck, Option.bind_some]; rfl)
      exact fz_dct w2 e (get_last _ _) (Nat.le_refl _) (db.bd _)
    generalize hdct : D.fd ((mergeD [] ps).map (·.1)) ((mergeD [] ps).map (·.2)) = dct at db eD
    let sA : List D := [.non, .int 5, .bl true, .str "a:1", .tup [], .fl [], .fd [] [], dC (at0 l 0), dct, .tup (l.map dC ++ [dC c]), .tup (l.map dC ++ [.tup [.str c.1, .int 0]])]
    have ix0 : gIx (dK l) (.int 0) S2 = some (dC (at0 l 0), S2) := ix_deck (i := 0) (by rw [List.getElem?_eq_getElem (by omega), at0_eq (by omega)])
    have tadd : ∀ {ds es : List D}, ds.length + es.length ≤ 1000 → gAdd (.tup ds) (.tup es) S2 = some (.tup (ds ++ es), S2) := fun {ds es} h => by
      have : ds.length + es.length ≤ sizeLine := by rw [hz]; omega
      simp only [gAdd, if_pos this]
    have sl1 : gSl (dK l) (some (v : Nat)) (some (v + 1 : Nat)) S2 = some (.tup [dC c], S2) := by
      have : cutD (l.map dC) (some ((v : Nat) : Int)) (some ((v + 1 : Nat) : Int)) = [c].map dC := by
        rw [cut_nat]
        congr 1
        rw [Nat.min_eq_left (by omega), Nat.min_eq_left (by omega), show v + 1 - v = 1 by omega, List.drop_eq_getElem_cons c2, hc]
        rfl
      exact sl_deck this
    have ga1 : ∀ {S : Sto}, gAdd (.int (v : Nat)) (.int 1) S = some (.int (v + 1 : Nat), S) := fun {S} => rfl
    refine ws_set (eLst_ok (ds := sA) (S1 := S2) (aCons_ok rfl (aCons_ok rfl (aCons_ok rfl (aCons_ok rfl (aCons_ok (eTup_ok aNil_ok (by simp)) (aCons_ok (fz_nil w2) (aCons_ok (fz_dct0 w2) (aCons_ok (eB_ok (dk rfl) rfl ix0) (aCons_ok (eD rfl) (aCons_ok (eB_ok (dk rfl) (eSl_ok (dk rfl) (oSo_ok rfl) (oSo_ok (eB_ok rfl rfl ga1)) sl1) (tadd (by simp; omega))) (a1_ok (eB_ok (dk rfl) (t1 (t2 rfl rfl)) (tadd (by simp; omega)))))))))))))) (by show 11 ≤ 1000; decide)) ?_
    have bsA : ∀ j, bds j sA = true := fun j => by
      refine bds_all.mpr fun d hd => (some_bad (K := K) (i := v) (c := c) (b := c) ok hb hcm hcm db d ?_).bd j
      simp only [sA, List.mem_cons, List.not_mem_nil, or_false] at hd
      simp only [someL, List.mem_cons, List.not_mem_nil, or_false]
      rcases hd with h | h | h | h | h | h | h | h | h | h | h <;> simp [h]
    have w3 : Wf (S2 ++ [.lst sA]) := wf_app w2 (show bds _ _ = true from bsA _)
    have e41 := lc_pu (fi := iRg1 (aCons (eC (.int 41)) (aNil))) (g := tN 7) (t := tAll) (fe := eTup (aCons (eB gAdd (eB gAdd (eC (.str "w")) (eB gIx (eC (.str "abcdefg")) (eB gDiv (eVar 7) (eC (.int 6))))) (eB gIx (eC (.str "abcdef")) (eB gMod (eVar 7) (eC (.int 6))))) (aCons (eVar 7) (aNil)))) (vs := [7]) (τ := [some (.loc n), some (dN l), some (.int (v : Nat)), some (.str c.1), some (.int c.2), some (.fl (cardL c.1 c.2)), some (.loc S2.length), none]) (S := S2 ++ [.lst sA]) (ds := (List.range 41).map fun i : Nat => D.int i)
      (fun _ => true) (fun d => match d with | D.int k => D.tup [.str (w7 k.toNat), .int k] | _ => .non) w3 (iRg1_ok (n := 41) (a1_ok rfl) (by omega)) wks_rg (by simp) (fun d hd _ => by obtain ⟨i, _, rfl⟩ := List.mem_map.mp hd; rfl)
      (fun d hd S'' _ _ => by
        obtain ⟨i, hi, rfl⟩ := List.mem_map.mp hd
        exact ⟨_, rfl, rfl, fun _ => word7 (List.mem_range.mp hi) rfl⟩)
    have e42 : (((List.range 41).map fun i : Nat => D.int i).filter fun _ => true).map (fun d => match d with | D.int k => D.tup [.str (w7 k.toNat), .int k] | _ => .non) = many7 := by
      rw [filter_tt, List.map_map]; rfl
    rw [e42] at e41
    refine ws_ex (eBM_ok rfl (ty_list (get_last _ _)) (a1_ok (eCB_ok (a1_ok e41) rfl)) (app_last (by rw [hz]; show 11 < _; decide))) ?_
    -- a card twice
    have b4 : ∀ j, bds j (sA ++ [.tup many7]) = true := fun j => bds_all.mpr fun d hd => by
      rcases List.mem_append.mp hd with z | z
      · exact bds_all.mp (bsA j) d z
      · rw [List.mem_singleton.mp z]; exact bds_map fun _ _ => rfl
    have w4 : Wf (S2 ++ [.lst (sA ++ [.tup many7])]) := wf_app w2 (show bds _ _ = true from b4 _)
    obtain ⟨u, S5, e5, c5, sp5, sm5, w5⟩ := drw (S := S2 ++ [.lst (sA ++ [.tup many7])]) (j := 0) (τ := [some (.loc n), some (dN l), some (.int (v : Nat)), some (.str c.1), some (.int c.2), some (.fl (cardL c.1 c.2)), some (.loc S2.length), none]) (fm := eCB gLenX (aCons (fg (eVar 1)) (aNil))) (m := l.length) w4 rfl (eCB_ok (a1_ok (dk rfl)) len_deck) sp2.app (by omega) (by omega) (by omega)
    have n2 : n < S2.length := sp2.lt
    have g5 : S5[S2.length]? = some (.lst (sA ++ [.tup many7])) := (sm5.at_ _ (by omega)).trans (get_last _ _)
    have gb : l[u]? = some l[u] := List.getElem?_eq_getElem c5
    have tadd' : ∀ {ds es : List D} {S : Sto}, ds.length + es.length ≤ 1000 → gAdd (.tup ds) (.tup es) S = some (.tup (ds ++ es), S) := fun {ds es S} h => by
      have : ds.length + es.length ≤ sizeLine := by rw [hz]; omega
      simp only [gAdd, if_pos this]
    have to : ∀ {S : Sto}, gSl (dK l) none (some (v : Nat)) S = some (.tup ((l.take v).map dC), S) := fun {S} => cut_deck
    have fr : ∀ {S : Sto} {a : Nat}, gSl (dK l) (some (a : Nat)) none S = some (.tup ((l.drop a).map dC), S) := fun {S a} => cut_deckf
    have eJ : eB gAdd (eB gAdd (eSl (fg (eVar 1)) (oNo) (oSo (eVar 2))) (eTup (aCons (eB gIx (fg (eVar 1)) (eCl (M_law_draw) 2 (aCons (eVar 0) (aCons (eCB gLenX (aCons (fg (eVar 1)) (aNil))) (aNil))))) (aNil)))) (eSl (fg (eVar 1)) (oSo (eVar 2)) (oNo)) [some (.loc n), some (dN l), some (.int (v : Nat)), some (.str c.1), some (.int c.2), some (.fl (cardL c.1 c.2)), some (.loc S2.length), none] (S2 ++ [.lst (sA ++ [.tup many7])])
        = some (.ok (.tup ((l.take v).map dC ++ dC l[u] :: (l.drop v).map dC)) S5) := by
      refine eB_ok (eB_ok (eSl_ok (dk rfl) rfl (oSo_ok rfl) to) (eTup_ok (a1_ok (eB_ok (dk rfl) e5 (ix_deck gb))) (by simp)) (tadd' (by simp; omega))) (eSl_ok (dk rfl) (oSo_ok rfl) rfl fr) ?_
      rw [tadd' (by simp; omega), List.append_assoc]; rfl
    have ap5 : gAppend (.loc S2.length) [.tup ((l.take v).map dC ++ dC l[u] :: (l.drop v).map dC)] S5 = some (.non, S5.set S2.length (.lst (someL l v c l[u] dct))) := by
      have hl : (sA ++ [D.tup many7]).length < sizeLine := by rw [hz]; show 12 < _; decide
      simp only [gAppend, listD, g5, Option.bind_some, if_pos hl]
      rfl
    refine ws_ex (eBM_ok rfl (ty_list (get_last _ _)) (a1_ok eJ) ap5) ?_
    have hlen5 : S5.length = S2.length + 1 := by rw [sm5.len]; simp
    have bS : ∀ d ∈ someL l v c l[u] dct, BadS K d := some_bad ok hb hcm (List.getElem_mem c5) db
    have e6 : S5.set S2.length (.lst (someL l v c l[u] dct)) = S5.take S2.length ++ [.lst (someL l v c l[u] dct)] := by
      refine List.ext_getElem? fun i => ?_
      by_cases q : i < S2.length
      · rw [List.getElem?_set_ne (by omega), List.getElem?_append_left (by rw [List.length_take]; omega), List.getElem?_take_of_lt q]
      · by_cases q2 : i = S2.length
        · subst q2
          rw [List.getElem?_set_self (by omega), List.getElem?_append_right (by rw [List.length_take]; omega), List.length_take]
          have : S2.length - min S2.length S5.length = 0 := by omega
          rw [this]; rfl
        · rw [List.getElem?_eq_none (by simp; omega), List.getElem?_eq_none (by simp; omega)]
    have w6 : Wf (S5.set S2.length (.lst (someL l v c l[u] dct))) := by
      unfold Wf wfk
      rw [List.length_set, List.all_eq_true]
      intro o ho
      rcases List.mem_or_eq_of_mem_set ho with z | z
      · exact List.all_eq_true.mp w5 o z
      · subst z
        exact bds_all.mpr fun d hd => (bS d hd).bd _
    have sp6 : Spr n (k + 2) (S5.set S2.length (.lst (someL l v c l[u] dct))) := by
      obtain ⟨a, b, c', q, r⟩ := sp5
      exact ⟨a, b, c', by rw [List.getElem?_set_ne (by omega)]; exact q, r⟩
    have hS6 : ∃ S6, S5.set S2.length (.lst (someL l v c l[u] dct)) = S6 := ⟨_, rfl⟩
    have g6 : (S5.set S2.length (.lst (someL l v c l[u] dct)))[S2.length]? = some (.lst (someL l v c l[u] dct)) := List.getElem?_set_self (by omega)
    have fr6 : Fr n S (S5.set S2.length (.lst (someL l v c l[u] dct))) := ⟨by rw [List.length_set, hlen5, sm2.len]; omega, fun i h1 h2 => by
      have := sm2.len
      rw [List.getElem?_set_ne (by omega), sm5.at_ i h1, List.getElem?_append_left (by omega), sm2.at_ i h1]⟩
    have hl6 : (S5.set S2.length (.lst (someL l v c l[u] dct))).length = S2.length + 1 := by rw [List.length_set, hlen5]
    generalize S5.set S2.length (.lst (someL l v c l[u] dct)) = S6 at *
    obtain ⟨x, S7, e7, c7, sp7, sm7, w7'⟩ := drw (S := S6) (j := 0) (τ := [some (.loc n), some (dN l), some (.int (v : Nat)), some (.str c.1), some (.int c.2), some (.fl (cardL c.1 c.2)), some (.loc S2.length), none]) (fm := eC (.int 2)) (m := 2) w6 rfl rfl sp6 (by omega) (by omega) (by omega)
    have g7 : S7[S2.length]? = some (.lst (someL l v c l[u] dct)) := (sm7.at_ _ (by omega)).trans g6
    have fr7 : Fr n S S7 := fr6.trans ⟨Nat.le_of_eq sm7.len.symm, fun i h1 _ => sm7.at_ i h1⟩
    have eq2 := gEq_nat (S := S7) (neg := false) (i := x) (j := 0)
    have tst : ∀ b, decide (x = 0) = b → (tB (eB (gEq false) (eCl (M_law_draw) 2 (aCons (eVar 0) (aCons (eC (.int 2)) (aNil)))) (eC (.int 0)))) [some (.loc n), some (dN l), some (.int (v : Nat)), some (.str c.1), some (.int c.2), some (.fl (cardL c.1 c.2)), some (.loc S2.length), none] S6 = some (.ok b S7) := fun b hb => tB_ok (eB_ok e7 rfl (eq2.trans (by rw [hb]; rfl)))
    by_cases hx : x = 0
    · obtain ⟨y, S8, e8, c8, sp8, sm8, w8⟩ := drw (S := S7) (j := 0) (τ := [some (.loc n), some (dN l), some (.int (v : Nat)), some (.str c.1), some (.int c.2), some (.fl (cardL c.1 c.2)), some (.loc S2.length), none]) (fm := eC (.int 13)) (m := 13) w7' rfl rfl sp7 (by omega) (by omega) (by omega)
      have g8 : S8[S2.length]? = some (.lst (someL l v c l[u] dct)) := (sm8.at_ _ (by omega)).trans g7
      have hy : y < (someL l v c l[u] dct).length := c8
      refine ws_srt ((sIf_t (tst true (by simp [hx]))).trans (sRt_ok (eB_ok rfl e8 (ix_seq' (c := "list") (by simp [kindD, g8]) (by simp [seqD, g8]) (List.getElem?_eq_getElem hy))))) ⟨_, rfl, bS _ (List.getElem_mem hy), sp8, fr7.trans ⟨Nat.le_of_eq sm8.len.symm, fun i h1 _ => sm8.at_ i h1⟩⟩
    · refine ws_nx ((sIf_f (tst false (by simp [hx]))).trans rfl) ?_
      obtain ⟨y, S8, e8, c8, sp8, sm8, w8⟩ := drw (S := S7) (j := 0) (τ := [some (.loc n), some (dN l), some (.int (v : Nat)), some (.str c.1), some (.int c.2), some (.fl (cardL c.1 c.2)), some (.loc S2.length), none]) (fm := eC (.int 18)) (m := 18) w7' rfl rfl sp7 (by omega) (by omega) (by omega)
      have hy : y < (cardL c.1 c.2).length := c8
      have hbk : BadK (cardL c.1 c.2)[y] := cardL_bad nm dp hbc _ (List.getElem_mem hy)
      refine ws_rt (eB_ok (eB_ok (eSl_ok (dk rfl) rfl (oSo_ok rfl) to) (eTup_ok (a1_ok (eB_ok rfl e8 (ix_seq' (c := "list") rfl rfl (List.getElem?_eq_getElem hy)))) (by simp)) (tadd' (by simp; omega))) (eSl_ok (dk rfl) (oSo_ok (eB_ok rfl rfl ga1)) rfl fr) (tadd' (by simp; omega))) ⟨_, rfl, ?_, sp8, fr7.trans ⟨Nat.le_of_eq sm8.len.symm, fun i h1 _ => sm8.at_ i h1⟩⟩
      rw [List.append_assoc]
      exact card_bad ok hb hbk
  obtain ⟨d, S', e, h1, h2, h3⟩ := fn_ws main
  exact ⟨S', d, e, h1, h2, h3⟩
theorem no_deck_fzS {n k : Nat} {l : List Card} {τ : Sl} {a : AF} (w : Wf S) (h : Spr n k S) (hk : k < 2 ^ 38) (ok : DeckOk l) (hb : ∀ c ∈ l, c.2 < 10 ^ 40) (ha : a τ S = some (.ok [.loc n, dN l] S)) :
    ∃ S' d, fz (eCl M_n_law_no_deck 2 a) τ S = some (.ok d S') ∧ BadS K d ∧ Spr n (k + 4) S' ∧ Sm n S S' ∧ Wf S' := by
  obtain ⟨S1, d, e, b, sp, fr⟩ := no_deckS (K := K) w h hk ok hb
  obtain ⟨S2, e2, sm, sp2, w2⟩ := fz_fr (τ := τ) w (eCl_ok ha rfl e) fr sp h.lt (b.bd _)
  exact ⟨S2, d, e2, b, sp2, sm, w2⟩
end Sb
end
section
set_option Elab.async false
set_option linter.all false
set_option maxRecDepth 100000
set_option maxHeartbeats 4000000
namespace Sb
open PySem PySem.Spec PyProof.Rows L2 PySem.W
variable {K : PySem.W.Frag} {S : Sto}
/-! ## the decks that come to a deck -/
/-- the card at a place laid on top -/
def hd (l : List Card) (i : Nat) : List Card := at0 l i :: (l.take i ++ l.drop (i + 1))
/-! ### lists of decks -/
end Sb
end
section
set_option Elab.async false
set_option linter.all false
set_option maxRecDepth 100000
set_option maxHeartbeats 4000000
namespace Sb
open PySem PySem.Spec PyProof.Rows L2
variable {K : PySem.W.Frag} {S : Sto}
end Sb
end
section
set_option Elab.async false
set_option linter.all false
set_option maxRecDepth 100000
set_option maxHeartbeats 4000000
namespace Sb
open PySem PySem.Spec PyProof.Rows L2
variable {K : PySem.W.Frag} {S : Sto}
theorem fz_xx0 {f : EF} {τ : Sl} {x : Exn} (w : Wf S) (e : f τ S = some (.ex x S)) : fz f τ S = some (.ex x S) := fz_xx (X := []) w (by rw [List.append_nil]; exact e)
theorem eAnd_f {fa fb : EF} {τ : Sl} {S S1 : Sto} (h : fa τ S = some (.ok (.bl false) S1)) : eAnd fa fb τ S = some (.ok (.bl false) S1) := by
  simp only [eAnd, M.bnd, h, truD, Option.bind_some]; rfl
/-- an ask: its class, or none -/
theorem ask_run {n i j : Nat} {ds : List D} {body : SF} {o : Option Str} (w : Wf S) (hj : j < (ini n ds).length) (hij : i ≠ j) (hi : i < (ini n ds).length) (ho : ∀ x, o = some x → Cls K x ∧ ∃ m : Nat, wordN[m]? = some x)
    (hb : match o with | none => body ((ini n ds).set j (some .non)) S = some (Fl.nx ((ini n ds).set j (some .non)), S) | some x => body ((ini n ds).set j (some .non)) S = some (Fl.xx ⟨He.ga K x, none⟩ ((ini n ds).set j (some .non)), S)) :
    fnM n (sSeq (sSet j (eC .non)) (sSeq (sTryK (fun k => PySem.W.exmOne K (.ref k) (.ref (He.ga K "DeckError"))) i j body) (sRt (eIf (tB (eB (gIsN false) (eVar j) (eC .non))) (eC (.str "none")) (eCl (M_law_word K) 1 (aCons (eVar j) (aNil))))))) ds S = some (.ok (.str (o.getD "none")) S) := by
  refine fn_wt (ws_set rfl ?_)
  generalize hτ : (ini n ds).set j (some .non) = τ0 at hb ⊢
  have hl : τ0.length = (ini n ds).length := by rw [← hτ, List.length_set]
  cases o with
  | none =>
    refine ws_nx (tryK_nx (τ1 := τ0) (S1 := S) hb) ?_
    have hv : eVar j τ0 S = some (.ok .non S) := by
      have : τ0[j]? = some (some .non) := by rw [← hτ, List.getElem?_set_self hj]
      simp only [eVar, this]
    exact ws_rt (eIf_t (tB_ok (b := true) (eB_ok hv rfl rfl)) rfl) ⟨rfl, rfl⟩
  | some x =>
    obtain ⟨cx, m, hm⟩ := ho x rfl
    refine ws_nx (tryK_xx (S1 := S) hb cx.exm) ?_
    have hv : eVar j (((τ0.set i (some (.exn (He.ga K x)))).set j (some (.exn (He.ga K x)))).set i none) S = some (.ok (.exn (He.ga K x)) S) := by
      have : (((τ0.set i (some (.exn (He.ga K x)))).set j (some (.exn (He.ga K x)))).set i none)[j]? = some (some (.exn (He.ga K x))) := by
        rw [List.getElem?_set_ne hij, List.getElem?_set_self (by rw [List.length_set, hl]; exact hj)]
      simp only [eVar, this]
    exact ws_rt (d := .str x) (eIf_f (tB_ok (b := false) (eB_ok hv rfl rfl)) (eCl_ok (a1_ok hv) rfl (word_of cx hm w))) ⟨rfl, rfl⟩
/-! ## numbers that are none -/
/-! ## two laws about what comes ahead, refused -/
/-- words told, compared -/
theorem shp_word {o : Option Str} (h : ∀ x, o = some x → ∃ m : Nat, wordN[m]? = some x) : SeqAt.shaped (.str (o.getD "none")) = true := by
  have all : ∀ m, m < 13 → SeqAt.shaped (.str (wordN.getD m Str.empty)) = true := by decide +kernel
  cases o with
  | none => decide +kernel
  | some x =>
    obtain ⟨m, hm⟩ := h x rfl
    have hl : m < 13 := (List.getElem?_eq_some_iff.mp hm).1
    have := all m hl
    rw [List.getD_eq_getElem?_getD, hm] at this
    exact this
theorem gEq_word {neg : Bool} {o : Option Str} (h : ∀ x, o = some x → ∃ m : Nat, wordN[m]? = some x) : gEq neg (.str (o.getD "none")) (.str (o.getD "none")) S = some (.bl !neg, S) := by
  rw [gEq_strs (shp_word h) (shp_word h)]
  cases neg <;> simp
end Sb
end
section
set_option Elab.async false
set_option linter.all false
set_option maxRecDepth 100000
set_option maxHeartbeats 4000000
/-! An ask within a loop; what is a tuple; three asks of a door. -/
namespace Sb
open PySem PySem.Spec PyProof.Rows L2
variable {K : PySem.W.Frag} {S : Sto}
end Sb
end
section
set_option Elab.async false
set_option linter.all false
set_option maxRecDepth 100000
set_option maxHeartbeats 4000000
namespace Sb
open PySem PySem.Spec PyProof.Rows L2
variable {K : PySem.W.Frag} {S : Sto}
/-! the reel's names are not "qqqqqqqq" -/
end Sb
end
section
set_option Elab.async false
set_option linter.all false
set_option maxRecDepth 100000
set_option maxHeartbeats 4000000
namespace Sb
open PySem PySem.Spec PyProof.Rows L2
variable {K : PySem.W.Frag} {S : Sto}
/-! ## what is no number of steps -/
/-! ## what is no name of a deck -/
def NoN (l : List Card) (d : D) : Prop := ∀ c ∈ l, ∀ S : Sto, gEq false (.str c.1) d S = some (.bl false, S)
theorem find_no {l : List Card} {d : D} (h : NoN l d) : M_find_place K [dK l, d] S = some (.ex ⟨He.ga K "NoName", none⟩ S) := by
  have main : Ws (m_find_place K (ini 4 [dK l, d]) S) fun fl S' => (∃ τ, fl = .xx ⟨He.ga K "NoName", none⟩ τ) ∧ S' = S := by
    refine ws_for l.length (fun i τ S' => S' = S ∧ ∃ x2 x3, τ = [some (dK l), some d, x2, x3]) (fun i => .tup [.int (i : Nat), dC (at0 l i)]) (wk := wkE (l.map dC)) (by rfl) (by simp [wkE]) ⟨rfl, _, _, rfl⟩ ?_ (fun τ S' _ => ?_) ?_
    · rintro i τ S' hi ⟨rfl, x2, x3, rfl⟩
      have hi' : i < (l.map dC).length := by simpa using hi
      refine ⟨?_, _, rfl, ?_⟩
      · rw [wkE_nxt hi', List.getElem_map]
        have : l[i] = at0 l i := Option.some.inj ((List.getElem?_eq_getElem hi).symm.trans (at0_get hi))
        rw [this]
      · exact bif_f (tB_ok (eB_ok (eB_ok rfl rfl ix_name) rfl (h _ (at0_mem hi) _))) (ws_nop ⟨rfl, _, _, rfl⟩)
    · show some ((l.map dC)[l.length]?.map _) = _
      rw [List.getElem?_eq_none (by simp)]; rfl
    · rintro τ S' ⟨rfl, x2, x3, rfl⟩
      exact ⟨_, _, rfl, ⟨_, rfl⟩, rfl⟩
  obtain ⟨fl, S', e, ⟨τ, rfl⟩, rfl⟩ := main
  exact fnM_xx e
theorem noN_of {l : List Card} {d : D} {q : PyData} (ok : DeckOk l) (h1 : ∀ S : Sto, toPy 8 S d = some q) (h2 : SeqAt.shaped q = true) (h3 : ∀ c ∈ l, PyData.eqv (.str c.1) q = false) : NoN l d := fun c hc S => by
  have e1 : toPy 8 S (.str c.1) = some (.str c.1) := rfl
  have s1 := shp_str (ok.nm c hc)
  simp only [gEq, e1, h1 S, s1, h2, and_self, if_true, h3 c hc]
  rfl
theorem noN_str {l : List Card} {x : Str} (ok : DeckOk l) (h2 : SeqAt.shaped (.str x) = true) (h3 : ∀ c ∈ l, c.1 ≠ x) : NoN l (.str x) := noN_of (q := .str x) ok (fun _ => rfl) h2 fun c hc => by
  rw [eqv_str]; exact decide_eq_false (h3 c hc)
theorem cps_app (a b : Str) : (a ++ b).cps = a.cps ++ b.cps := rfl
theorem noN_e {l : List Card} (ok : DeckOk l) : NoN l (.str "") := noN_str ok (by decide +kernel) fun c hc e => by
  have := (ok.nm c hc).lo
  rw [e] at this
  exact absurd this (by decide)
theorem noN_non {l : List Card} (ok : DeckOk l) : NoN l .non := noN_of (q := .none) ok (fun _ => rfl) (by decide +kernel) fun c _ => rfl
theorem noN_int {l : List Card} {i : Int} (ok : DeckOk l) : NoN l (.int i) := noN_of (q := .int i) ok (fun _ => rfl) rfl fun c _ => rfl
theorem noN_bl {l : List Card} {b : Bool} (ok : DeckOk l) : NoN l (.bl b) := noN_of (q := .bool b) ok (fun _ => rfl) rfl fun c _ => rfl
theorem noN_A {l : List Card} (ok : DeckOk l) : NoN l (.str "A") := noN_str ok (by decide +kernel) fun c hc e => by
  have := (ok.nm c hc).let_ 65 (by rw [e]; decide)
  omega
theorem noN_fl {l : List Card} {x : Str} (ok : DeckOk l) (hx : Nm x) : NoN l (.fl [.str x]) := noN_of (q := .list [.str x]) ok (fun _ => rfl) (by
    show (PyData.canLay0 (.str x) && true && decide _) = true
    rw [nm_ok hx]; rfl) fun c _ => rfl
/-! ## doors that open with deck_of -/
theorem open_no {d : D} {i : Nat} {g : SF} {ds : List D} {m : Nat} (w : Wf S) (h : NoD K d) (h0 : (ini m ds)[0]? = some (some d)) : fnM m (sSeq (sSet i (fz (eCl (M_deck_of K) 1 (aCons (eVar 0) (aNil))))) g) ds S = some (.ex ⟨He.ga K "NoDeck", none⟩ S) := by
  obtain ⟨X, e⟩ := h S
  exact fnM_xx (sSeq_xx (sSet_xx (fz_xx w (eCl_ok (a1_ok (eVar_at h0)) rfl e))))
end Sb
end
section
set_option Elab.async false
set_option linter.all false
set_option maxRecDepth 100000
set_option maxHeartbeats 4000000
namespace Sb
open PySem PySem.Spec PyProof.Rows L2
variable {K : PySem.W.Frag} {S : Sto}
end Sb
end
section
set_option Elab.async false
set_option linter.all false
set_option maxRecDepth 100000
set_option maxHeartbeats 4000000
namespace Sb
open PySem PySem.Spec PyProof.Rows L2
variable {K : PySem.W.Frag} {S : Sto}
/-! ## things equal to themselves -/
theorem gEq_self {neg : Bool} {d : D} {p : PyData} (h1 : toPy 8 S d = some p) (h2 : SeqAt.shaped p = true) : gEq neg d d S = some (.bl (!neg), S) := by
  have h3 : p.canLay0 = true := by
    have : (PyData.canLay0 p && decide (PyData.depth p ≤ 64)) = true := h2
    exact (Bool.and_eq_true _ _ |>.mp this).1
  simp only [gEq, h1, h2, and_self, if_true, SeqAt.eqv_refl p h3]
  cases neg <;> rfl
/-! ## the deck gone on -/
/-! ### fates of the deck gone on -/
end Sb
end
section
set_option Elab.async false
set_option linter.all false
set_option maxRecDepth 100000
set_option maxHeartbeats 4000000
/-! Words made of two letters; the doors of places, refused; numbers that are none. -/
namespace Sb
open PySem PySem.Spec PyProof.Rows L2
variable {K : PySem.W.Frag} {S : Sto}
def wrd (p a b : Str) (m k : Nat) : Str := (p ++ ⟨#[a.cps.toList.getD (k / m) 0]⟩) ++ ⟨#[b.cps.toList.getD (k % m) 0]⟩
theorem letters_ok {p a b : Str} {m k i : Nat} {τ : Sl} (h7 : τ[i]? = some (some (.int (k : Nat)))) (hm0 : 0 < m) (hm64 : m < 2 ^ 64) (hp : p.length ≤ 20) (ha : a.length ≤ 100) (hb : b.length ≤ 100) (h1 : k / m < a.cps.toList.length) (h2 : k % m < b.cps.toList.length) :
    (eB gAdd (eB gAdd (eC (.str p)) (eB gIx (eC (.str a)) (eB gDiv (eVar i) (eC (.int (m : Nat)))))) (eB gIx (eC (.str b)) (eB gMod (eVar i) (eC (.int (m : Nat)))))) τ S = some (.ok (.str (wrd p a b m k)) S) := by
  have hv : eVar i τ S = some (.ok (.int (k : Nat)) S) := eVar_at h7
  have hm : gMod (.int (k : Nat)) (.int (m : Nat)) S = some (.int (k % m : Nat), S) := gMod_n hm0
  have hd : gDiv (.int (k : Nat)) (.int (m : Nat)) S = some (.int (k / m : Nat), S) := gDiv_n hm0 hm64
  have ix : ∀ {x : Str} {i : Nat}, x.length ≤ 100 → i < x.cps.toList.length → gIx (.str x) (.int (i : Nat)) S = some (.str ⟨#[x.cps.toList.getD i 0]⟩, S) := fun {x i} hl hi => by
    have h1 : ((i : Nat) : Int) < (x.cps.toList.length : Int) := by omega
    have h0 : (0 : Int) ≤ (i : Nat) := by omega
    have hl' : x.length ≤ sizeLine := by rw [sizeLine_eq]; omega
    simp only [gIx, if_pos hl', atI, ixN, if_pos h0, if_pos h1, Int.toNat_natCast, Option.bind_some, List.getElem?_eq_getElem hi, List.getD_eq_getElem?_getD, Option.getD_some]
  have ad : ∀ {x y : Str}, x.length + y.length ≤ 100 → gAdd (.str x) (.str y) S = some (.str (x ++ y), S) := fun {x y} h => by
    have : x.length + y.length ≤ sizeLine := by rw [sizeLine_eq]; omega
    simp only [gAdd, if_pos this]
  have l1 : ∀ c : Nat, Str.length ⟨#[c]⟩ = 1 := fun c => rfl
  have a1 := ad (x := p) (y := ⟨#[a.cps.toList.getD (k / m) 0]⟩) (by rw [l1]; omega)
  have lp : (p ++ ⟨#[a.cps.toList.getD (k / m) 0]⟩ : Str).length = p.length + 1 := by
    show (p ++ ⟨#[a.cps.toList.getD (k / m) 0]⟩ : Str).cps.size = p.cps.size + 1
    rw [cps_app, Array.size_append]; rfl
  have a2 := ad (x := p ++ ⟨#[a.cps.toList.getD (k / m) 0]⟩) (y := ⟨#[b.cps.toList.getD (k % m) 0]⟩) (by rw [l1, lp]; omega)
  exact eB_ok (eB_ok rfl (eB_ok rfl (eB_ok hv rfl hd) (ix ha h1)) a1) (eB_ok rfl (eB_ok hv rfl hm) (ix hb h2)) a2
/-- what is no number up to m -/
def IsN (m : Int) (d : D) : Prop := ∀ S : Sto, M_is_number [d, .int m] S = some (.ok (.bl false) S)
theorem isN_nw {d : D} {m : Int} {k : String} (hk : ∀ S : Sto, kindD S d = some k) (h : k = "NoneType" ∨ k = "bool" ∨ k = "str" ∨ k = "list" ∨ k = "tuple" ∨ k = "dict") : IsN m d := fun S => fnM_rt (sRt_ok (eAnd_f (eCl_ok (a1_ok rfl) rfl (nowhole hk h S))))
theorem isN_rng {i m : Int} (h : i < 0 ∨ m < i) : IsN m (.int i) := fun S => by
  refine fnM_rt (sRt_ok (eAnd_t (eCl_ok (a1_ok rfl) rfl is_whole_int) rfl ?_))
  by_cases z : i < 0
  · refine eCh_f (x := .int 0) (y := .int i) rfl rfl ?_
    have : ¬ (0 ≤ i) := by omega
    simp [gLe, this]
  · refine eCh_tt (x := .int 0) (y := .int i) (z := .int m) (d := .bl false) (S3 := S) (S4 := S) rfl rfl ?_ rfl ?_
    · have : 0 ≤ i := by omega
      simp [gLe, this]
    · have : ¬ (i ≤ m) := by omega
      simp [gLe, this]
/-- the deck is read, or refused -/
theorem fdn {t : D} {τ : Sl} (w : Wf S) (h : NoD K t) (h0 : τ[0]? = some (some t)) : fz (eCl (M_deck_of K) 1 (aCons (eVar 0) (aNil))) τ S = some (.ex ⟨He.ga K "NoDeck", none⟩ S) := by
  obtain ⟨X, e⟩ := h S
  exact fz_xx w (eCl_ok (a1_ok (eVar_at h0)) rfl e)
theorem hand_nd {d e : D} (w : Wf S) (h : NoD K d) : M_hand_at K [d, e] S = some (.ex ⟨He.ga K "NoDeck", none⟩ S) := open_no w h rfl
theorem ring_nd {d e : D} (w : Wf S) (h : NoD K d) : M_ring_at K [d, e] S = some (.ex ⟨He.ga K "NoDeck", none⟩ S) := open_no w h rfl
theorem closed_nd {d : D} (w : Wf S) (h : NoD K d) : M_closed_place K [d] S = some (.ex ⟨He.ga K "NoDeck", none⟩ S) := fnM_xx (sRt_xx (eCl_xx (aCons_xx (fdn w h rfl))))
theorem aCons_xx2 {f : EF} {r : AF} {τ : Sl} {d : D} {x : Exn} {S S1 S2 : Sto} (h0 : f τ S = some (.ok d S1)) (h1 : r τ S1 = some (.ex x S2)) : aCons f r τ S = some (.ex x S2) := by simp only [aCons, M.bnd, h0, h1]
theorem level_no {e : D} {l : List Card} (ok : DeckOk l) (hn : IsN ((clo l : Int) - 1) e) : M_require_level K [dK l, e] S = some (.ex ⟨He.ga K "NoLevel", none⟩ S) :=
  fnM_xx ((sIf_t (tNt_ok (b := false) (tB_ok (eCl_ok (a2_ok rfl (eB_ok (eCl_ok (a1_ok rfl) rfl (closed_ok ok)) rfl gSub_i)) rfl (hn S))))).trans rfl)
theorem hand_nl {d e : D} {l : List Card} (w : Wf S) (h : isDeck S d l) (ok : DeckOk l) (hn : IsN ((clo l : Int) - 1) e) : M_hand_at K [d, e] S = some (.ex ⟨He.ga K "NoLevel", none⟩ S) :=
  fnM_xx ((sSeq_nx (sSet_ok (deck_fz w h ok (a1_ok rfl)))).trans (sSeq_xx (sEx_xx (eCl_ok (a2_ok rfl rfl) rfl (level_no ok hn)))))
theorem ring_nl {d e : D} {l : List Card} (w : Wf S) (h : isDeck S d l) (ok : DeckOk l) (hn : IsN ((clo l : Int) - 1) e) : M_ring_at K [d, e] S = some (.ex ⟨He.ga K "NoLevel", none⟩ S) :=
  fnM_xx ((sSeq_nx (sSet_ok (deck_fz w h ok (a1_ok rfl)))).trans (sSeq_xx (sEx_xx (eCl_ok (a2_ok rfl rfl) rfl (level_no ok hn)))))
theorem eq0 : gEq true (.fl []) (.fl []) S = some (.bl false, S) := gEq_self (p := .list []) rfl (by decide +kernel)
/-- none is left over -/
theorem none_left {n i : Nat} {t : BF} {τ : Sl} (hi : i < τ.length) (hn : n ≤ 1000) (w : Wf S) (hp : ∀ X j, j < n → Wf (S ++ X) → t ((wipeD τ [i]).set i (some (.int (j : Nat)))) (S ++ X) = some (.ok false (S ++ X))) :
    fz (eLc (iRg1 (aCons (eC (.int (n : Nat))) (aNil))) (tN i) t (eVar i) [i]) τ S = some (.ok (.fl []) S) := by
  have e := lc_pu (fi := iRg1 (aCons (eC (.int (n : Nat))) (aNil))) (g := tN i) (t := t) (fe := eVar i) (vs := [i]) (τ := τ) (S := S) (ds := (List.range n).map fun i : Nat => D.int i)
    (fun _ => false) id w (iRg1_ok (n := n) (a1_ok rfl) (by omega)) wks_rg (by simp; omega) (fun d hd z => by cases z)
    (fun d hd S' w' hX => by
      obtain ⟨j, hj, rfl⟩ := List.mem_map.mp hd
      obtain ⟨X, rfl⟩ := hX
      exact ⟨_, by simp [tN, wipeD, hi], hp X j (List.mem_range.mp hj) w', fun z => by cases z⟩)
  have : (((List.range n).map fun i : Nat => D.int i).filter fun _ => false).map id = [] := by simp
  rw [this] at e
  exact e
/-- two words alike -/
theorem two_words {x : Str} {neg : Bool} (h : SeqAt.shaped (.list [.str x, .str x]) = true) : gEq neg (.fl [.str x, .str x]) (.fl [.str x, .str x]) S = some (.bl (!neg), S) := gEq_self (p := .list [.str x, .str x]) rfl h
theorem noN_9 {l : List Card} (ok : DeckOk l) : NoN l (.str "abcdefghi") := noN_str ok (by decide +kernel) fun c hc e => by
  have h := (ok.nm c hc).hi
  rw [e] at h
  exact absurd h (by decide)
theorem noN_card {l : List Card} {c : Card} (ok : DeckOk l) (hc : Nm c.1) : NoN l (dC c) := noN_of (q := .tuple [.str c.1, .int c.2]) ok (fun _ => rfl) (by
    show (PyData.canLay0 (.str c.1) && true && decide _) = true
    rw [nm_ok hc]; rfl) fun c _ => rfl
/-- the first word that is none of some names -/
theorem first_none {wd : Nat → Str} {n : Nat} {names : List Str} (inj : ((List.range n).map wd).Nodup) (hn : names.length < n) : ∃ k, k < n ∧ (((List.range n).map wd).filter fun x => !decide (x ∈ names))[0]? = some (wd k) ∧ wd k ∉ names := by
  have : ((List.range n).map wd).filter (fun x => !decide (x ∈ names)) ≠ [] := fun z => by
    have hs : ∀ x ∈ (List.range n).map wd, x ∈ names := fun x hx => by
      have := List.filter_eq_nil_iff.mp z x hx
      simpa using this
    have := nodup_le inj hs
    rw [List.length_map, List.length_range] at this
    omega
  obtain ⟨x, r, e⟩ := List.exists_cons_of_ne_nil this
  have hx : x ∈ ((List.range n).map wd).filter (fun x => !decide (x ∈ names)) := by rw [e]; exact List.mem_cons_self
  obtain ⟨h1, h2⟩ := List.mem_filter.mp hx
  obtain ⟨k, hk, rfl⟩ := List.mem_map.mp h1
  exact ⟨k, List.mem_range.mp hk, by rw [e]; rfl, by simpa using h2⟩
end Sb
end
section
set_option Elab.async false
set_option linter.all false
set_option maxRecDepth 100000
set_option maxHeartbeats 4000000
namespace K14
open PySem PySem.Spec PyProof.Rows L2 Sb
variable {K : PySem.W.Frag} {S : Sto}
/-! ## a place by its name; a dict may be asked for -/
def NoW (l : List Card) (d : D) : Prop := ∀ c ∈ l, ∀ S : Sto, gEqW (.str c.1) d S = some (.bl false, S)
theorem noW_of {l : List Card} {d : D} (h : NoN l d) (hd : ∀ ks ds, d ≠ .fd ks ds) : NoW l d := fun c hc S => (gEqW_str hd).trans (h c hc S)
theorem noW_fd {l : List Card} {ks : List Key} {ds : List D} : NoW l (.fd ks ds) := fun _ _ _ => rfl
theorem find_no {l : List Card} {d : D} (h : NoW l d) : M_q_find_place K [dK l, d] S = some (.ex ⟨He.ga K "NoName", none⟩ S) := by
  have main : Ws (m_q_find_place K (ini 4 [dK l, d]) S) fun fl S' => (∃ τ, fl = .xx ⟨He.ga K "NoName", none⟩ τ) ∧ S' = S := by
    refine ws_for l.length (fun i τ S' => S' = S ∧ ∃ x2 x3, τ = [some (dK l), some d, x2, x3]) (fun i => .tup [.int (i : Nat), dC (at0 l i)]) (wk := wkE (l.map dC)) (by rfl) (by simp [wkE]) ⟨rfl, _, _, rfl⟩ ?_ (fun τ S' _ => ?_) ?_
    · rintro i τ S' hi ⟨rfl, x2, x3, rfl⟩
      have hi' : i < (l.map dC).length := by simpa using hi
      refine ⟨?_, _, rfl, ?_⟩
      · rw [wkE_nxt hi', List.getElem_map]
        have : l[i] = at0 l i := Option.some.inj ((List.getElem?_eq_getElem hi).symm.trans (at0_get hi))
        rw [this]
      · exact bif_f (tB_ok (eB_ok (eB_ok rfl rfl ix_name) rfl (h _ (at0_mem hi) _))) (ws_nop ⟨rfl, _, _, rfl⟩)
    · show some ((l.map dC)[l.length]?.map _) = _
      rw [List.getElem?_eq_none (by simp)]; rfl
    · rintro τ S' ⟨rfl, x2, x3, rfl⟩
      exact ⟨_, _, rfl, ⟨_, rfl⟩, rfl⟩
  obtain ⟨fl, S', e, ⟨τ, rfl⟩, rfl⟩ := main
  exact fnM_xx e
theorem gEqW_ss {x y : Str} : gEqW (.str x) (.str y) S = gEq false (.str x) (.str y) S := rfl
theorem place_go {l : List Card} {x : Str} {d : D} (nm : ∀ c ∈ l, Nm c.1) (hx : Nm x) {i : Nat} (hi : i < l.length) (ex : l[i].1 = x) (hno : ∀ (j : Nat) (h : j < i), l[j].1 ≠ x) : ∀ (m j : Nat) (y2 y3 : Option D), j ≤ i → i - j < m →
    goF (wkE (l.map dC)).nxt (tN2 2 3) (sIf (tB (eB gEqW (eB gIx (eVar 3) (eC (.int 0))) (eVar 1))) (sRt (eVar 2)) (sNop)) m j [some d, some (.str x), y2, y3] S = some (.rt (.int (i : Nat)), S)
  | 0, _, _, _, _, h => absurd h (Nat.not_lt_zero _)
  | m + 1, j, y2, y3, hj, hm => by
    have hjl : j < l.length := by omega
    have e1 : (wkE (l.map dC)).nxt j S = some (some (.tup [.int (j : Nat), dC l[j]])) := by
      simp only [wkE, List.getElem?_map, List.getElem?_eq_getElem hjl, Option.map_some]
    have g1 : (tN2 2 3) (.tup [.int (j : Nat), dC l[j]]) S [some d, some (.str x), y2, y3] = some [some d, some (.str x), some (.int (j : Nat)), some (dC l[j])] := rfl
    have t1 := gEqW_ss.trans (gEq_str (neg := false) (S := S) (nm _ (List.getElem_mem hjl)) hx)
    unfold goF
    rw [e1]
    simp only [g1]
    by_cases q : j = i
    · subst q
      rw [ex] at t1
      rw [sIf_t (S1 := S) (tB_ok (eB_ok (eB_ok rfl rfl ix_name) rfl (by rw [ex]; simpa using t1)))]
      rw [sRt_ok (d := .int (j : Nat)) rfl]
    · have hne := hno j (by omega)
      have t2 : gEqW (.str l[j].1) (.str x) S = some (.bl false, S) := by rw [t1]; simp [hne]
      rw [sIf_f (S1 := S) (tB_ok (eB_ok (eB_ok rfl rfl ix_name) rfl t2))]
      simp only [sNop]
      exact place_go nm hx hi ex hno m (j + 1) _ _ (by omega) (by omega)
theorem find_place_ok {l : List Card} (ok : DeckOk l) {i : Nat} (hi : i < l.length) : M_q_find_place K [dK l, .str l[i].1] S = some (.ok (.int (i : Nat)) S) := by
  refine fnM_rt ?_
  have hw : iEn (aCons (eVar 0) aNil) (ini 4 [dK l, .str l[i].1]) S = some (.ok (wkE (l.map dC)) S) := rfl
  have go := place_go (S := S) (d := dK l) ok.nm (ok.nm _ (List.getElem_mem hi)) hi rfl (fun j hj e => by
    have := (List.getElem_inj (xs := l.map (·.1)) (i := j) (j := i) (h₀ := by simp; omega) (h₁ := by simp; omega) ok.nd).mp (by simp [e])
    omega) ((l.map dC).length + 1) 0 none none (Nat.zero_le _) (by simp; omega)
  have e := sFor_ok (g := tN2 2 3) hw go
  exact (sSeq_rt e)
/-! ## the doors -/
abbrev rs (K : PySem.W.Frag) (o : Option Str) (τ : Sl) (S : Sto) : Option (Fl × Sto) := match o with | none => some (Fl.nx τ, S) | some x => some (Fl.xx ⟨He.ga K x, none⟩ τ, S)
def stm (K : PySem.W.Frag) : Nat → SF
  | 0 => sEx (eCl (M_q_place_of K) 2 (aCons (eVar 1) (aCons (eVar 2) (aNil))))
  | 1 => sEx (eCl (M_q_is_home K) 2 (aCons (eVar 1) (aCons (eVar 2) (aNil))))
  | 2 => sEx (eCl (M_hand_at K) 2 (aCons (eVar 1) (aCons (eVar 2) (aNil))))
  | 3 => sEx (eCl (M_ring_at K) 2 (aCons (eVar 1) (aCons (eVar 2) (aNil))))
  | _ => sEx (fz (eLst (aCons (eCl (M_closed_place K) 1 (aCons (eVar 1) (aNil))) (aCons (eCl (M_away K) 1 (aCons (eVar 1) (aNil))) (aNil)))))
def Ask (K : PySem.W.Frag) (j : Nat) (t one : D) (o : Option Str) : Prop := ∀ (S : Sto) (τ : Sl), Wf S → τ[1]? = some (some t) → τ[2]? = some (some one) → stm K j τ S = rs K o τ S
theorem j5 {j : Nat} (h : j < 5) : j = 0 ∨ j = 1 ∨ j = 2 ∨ j = 3 ∨ j = 4 := by omega
theorem asked_ok {j : Nat} {t one : D} {o : Option Str} (hj : j < 5) (ho : ∀ x, o = some x → Cls K x ∧ ∃ m : Nat, wordN[m]? = some x) (w : Wf S) (h : Ask K j t one o) :
    M_law_asked K [.int (j : Nat), t, one] S = some (.ok (.str (o.getD "none")) S) := by
  let τ0 : Sl := [some (.int (j : Nat)), some t, some one, some .non, none]
  have ej : ∀ m : Nat, (tB (eB (gEq false) (eVar 0) (eC (.int (m : Nat))))) τ0 S = some (.ok (decide (j = m)) S) := fun m => tB_ok (eB_ok rfl rfl (gEq_nat (i := j) (j := m)))
  refine ask_run (n := 5) (i := 4) (j := 3) w (by show 3 < 5; decide) (by decide) (by show 4 < 5; decide) ho ?_
  have e := h S τ0 w rfl rfl
  have go : (sIf (tB (eB (gEq false) (eVar 0) (eC (.int 0)))) (stm K 0) (sIf (tB (eB (gEq false) (eVar 0) (eC (.int 1)))) (stm K 1) (sIf (tB (eB (gEq false) (eVar 0) (eC (.int 2)))) (stm K 2) (sIf (tB (eB (gEq false) (eVar 0) (eC (.int 3)))) (stm K 3) (stm K 4))))) τ0 S = stm K j τ0 S := by
    rcases j5 hj with rfl | rfl | rfl | rfl | rfl
    · exact sIf_t (ej 0)
    · exact (sIf_f (ej 0)).trans (sIf_t (ej 1))
    · exact (sIf_f (ej 0)).trans ((sIf_f (ej 1)).trans (sIf_t (ej 2)))
    · exact (sIf_f (ej 0)).trans ((sIf_f (ej 1)).trans ((sIf_f (ej 2)).trans (sIf_t (ej 3))))
    · exact (sIf_f (ej 0)).trans ((sIf_f (ej 1)).trans ((sIf_f (ej 2)).trans (sIf_f (ej 3))))
  cases o <;> exact go.trans e
theorem a2v {τ : Sl} {t one : D} (h1 : τ[1]? = some (some t)) (h2 : τ[2]? = some (some one)) : (aCons (eVar 1) (aCons (eVar 2) (aNil))) τ S = some (.ok [t, one] S) := a2_ok (eVar_at h1) (eVar_at h2)
theorem nd {t one : D} {j : Nat} (h : NoD K t) (hj : j < 5) : Ask K j t one (some "NoDeck") := fun S τ w h1 h2 => by
  rcases j5 hj with rfl | rfl | rfl | rfl | rfl
  · exact sEx_xx (eCl_ok (a2v h1 h2) rfl (fnM_xx (sRt_xx (eCl_xx (aCons_xx (fdn w h rfl))))))
  · exact sEx_xx (eCl_ok (a2v h1 h2) rfl (open_no w h rfl))
  · exact sEx_xx (eCl_ok (a2v h1 h2) rfl (hand_nd w h))
  · exact sEx_xx (eCl_ok (a2v h1 h2) rfl (ring_nd w h))
  · exact sEx_xx (fz_xx0 w (eLst_xx (aCons_xx (eCl_ok (a1_ok (eVar_at h1)) rfl (closed_nd w h)))))
section
variable {l : List Card}
theorem ask0 {i : Nat} (ok : DeckOk l) (hi : i < l.length) : Ask K 0 (dK l) (.str l[i].1) none := fun S τ w h1 h2 =>
  sEx_ok (eCl_ok (a2v h1 h2) rfl (fnM_rt (sRt_ok (eCl_ok (a2_ok (deck_fz w (isDeck_dK l) ok (a1_ok rfl)) rfl) rfl (find_place_ok ok hi)))))
theorem ask1 {i : Nat} (ok : DeckOk l) (hi : i < l.length) : Ask K 1 (dK l) (.str l[i].1) none := fun S τ w h1 h2 =>
  sEx_ok (eCl_ok (a2v h1 h2) rfl (fnM_rt ((sSeq_nx (sSet_ok (deck_fz w (isDeck_dK l) ok (a1_ok rfl)))).trans (sRt_ok (eCl_ok (a2_ok rfl (eCl_ok (a2_ok rfl rfl) rfl (find_place_ok ok hi))) rfl (home_at_ok ok hi))))))
theorem ask0n {e : D} (ok : DeckOk l) (h : NoW l e) : Ask K 0 (dK l) e (some "NoName") := fun S τ w h1 h2 =>
  sEx_xx (eCl_ok (a2v h1 h2) rfl (fnM_xx (sRt_xx (eCl_ok (a2_ok (deck_fz w (isDeck_dK l) ok (a1_ok rfl)) rfl) rfl (find_no h)))))
theorem ask1n {e : D} (ok : DeckOk l) (h : NoW l e) : Ask K 1 (dK l) e (some "NoName") := fun S τ w h1 h2 =>
  sEx_xx (eCl_ok (a2v h1 h2) rfl (fnM_xx ((sSeq_nx (sSet_ok (deck_fz w (isDeck_dK l) ok (a1_ok rfl)))).trans (sRt_xx (eCl_xx (aCons_xx2 rfl (aCons_xx (eCl_ok (a2_ok rfl rfl) rfl (find_no h)))))))))
theorem ask2 {m : Nat} (ok : DeckOk l) (h : m < clo l) : Ask K 2 (dK l) (.int (m : Nat)) none := fun S τ w h1 h2 => sEx_ok (eCl_ok (a2v h1 h2) rfl (hand_at_ok w (isDeck_dK l) ok h))
theorem ask3 {m : Nat} (ok : DeckOk l) (h : m < clo l) : Ask K 3 (dK l) (.int (m : Nat)) none := fun S τ w h1 h2 => sEx_ok (eCl_ok (a2v h1 h2) rfl (ring_at_ok w (isDeck_dK l) ok h))
theorem ask2n {e : D} (ok : DeckOk l) (h : IsN ((clo l : Int) - 1) e) : Ask K 2 (dK l) e (some "NoLevel") := fun S τ w h1 h2 => sEx_xx (eCl_ok (a2v h1 h2) rfl (hand_nl w (isDeck_dK l) ok h))
theorem ask3n {e : D} (ok : DeckOk l) (h : IsN ((clo l : Int) - 1) e) : Ask K 3 (dK l) e (some "NoLevel") := fun S τ w h1 h2 => sEx_xx (eCl_ok (a2v h1 h2) rfl (ring_nl w (isDeck_dK l) ok h))
theorem awn_bds {k : Nat} : bds k ((awn l).map D.str) = true := bds_map fun _ _ => rfl
theorem ask4 {e : D} (ok : DeckOk l) : Ask K 4 (dK l) e none := fun S τ w h1 h2 =>
  sEx_ok (fz_list (ds := [.int (clo l : Nat), .fl ((awn l).map D.str)]) (S1 := S) (a2_ok (eCl_ok (a1_ok (eVar_at h1)) rfl (closed_place_ok w (isDeck_dK l) ok)) (eCl_ok (a1_ok (eVar_at h1)) rfl (away_ok w (isDeck_dK l) ok))) rfl w (by simp) (by simp only [bds, bd, awn_bds, Bool.and_self]))
end
/-! ## what is asked -/
def w6 (k : Nat) : Str := wrd "x" "abcdefghi" "abcdef" 6 k
theorem w6_nm : ∀ k, k < 41 → Nm (w6 k) := fun k hk => by
  have : ∀ k, k < 41 → nmB (w6 k) = true := by decide +kernel
  exact nm_of (this k hk)
theorem w6_nd : ((List.range 41).map w6).Nodup := by decide +kernel
def things (c : Card) : List D := [.str "", .str "A", .non, .int 0, .bl true, .fl [.str "a"], .fd [] [], .str "abcdefghi", dC c]
theorem things_no {l : List Card} {c : Card} (ok : DeckOk l) (hc : c ∈ l) : ∀ d ∈ things c, NoW l d ∧ ∀ k, bd k d = true := fun d hd => by
  have na : Nm "a" := nm_of (by decide +kernel)
  simp only [things, List.mem_cons, List.not_mem_nil, or_false] at hd
  rcases hd with rfl | rfl | rfl | rfl | rfl | rfl | rfl | rfl | rfl
  · exact ⟨noW_of (noN_e ok) (fun _ _ z => by cases z), fun _ => rfl⟩
  · exact ⟨noW_of (noN_A ok) (fun _ _ z => by cases z), fun _ => rfl⟩
  · exact ⟨noW_of (noN_non ok) (fun _ _ z => by cases z), fun _ => rfl⟩
  · exact ⟨noW_of (noN_int ok) (fun _ _ z => by cases z), fun _ => rfl⟩
  · exact ⟨noW_of (noN_bl ok) (fun _ _ z => by cases z), fun _ => rfl⟩
  · exact ⟨noW_of (noN_fl ok na) (fun _ _ z => by cases z), fun _ => rfl⟩
  · exact ⟨noW_fd, fun _ => rfl⟩
  · exact ⟨noW_of (noN_9 ok) (fun _ _ z => by cases z), fun _ => rfl⟩
  · exact ⟨noW_of (noN_card ok (ok.nm c hc)) (fun _ _ z => by cases z), fun _ => rfl⟩
def levs : List D := [.int (-1), .bl true, .bl false, .non, .str "0", .fl [.int 0], .tup [], .str "", .fd [] []]
theorem levs_no {m : Int} (hm : 0 ≤ m) : ∀ d ∈ levs, IsN m d ∧ ∀ k, bd k d = true := fun d hd => by
  simp only [levs, List.mem_cons, List.not_mem_nil, or_false] at hd
  rcases hd with rfl | rfl | rfl | rfl | rfl | rfl | rfl | rfl | rfl
  · exact ⟨isN_rng (.inl (by decide)), fun _ => rfl⟩
  · exact ⟨isN_nw (k := "bool") (fun _ => rfl) (by simp), fun _ => rfl⟩
  · exact ⟨isN_nw (k := "bool") (fun _ => rfl) (by simp), fun _ => rfl⟩
  · exact ⟨isN_nw (k := "NoneType") (fun _ => rfl) (by simp), fun _ => rfl⟩
  · exact ⟨isN_nw (k := "str") (fun _ => rfl) (by simp), fun _ => rfl⟩
  · exact ⟨isN_nw (k := "list") (fun _ => rfl) (by simp), fun _ => rfl⟩
  · exact ⟨isN_nw (k := "tuple") (fun _ => rfl) (by simp), fun _ => rfl⟩
  · exact ⟨isN_nw (k := "str") (fun _ => rfl) (by simp), fun _ => rfl⟩
  · exact ⟨isN_nw (k := "dict") (fun _ => rfl) (by simp), fun _ => rfl⟩
abbrev cls : List Str := ["NoDeck", "NoName", "NoLevel"]
/-- pairs to be asked at two doors -/
def Prs (K : PySem.W.Frag) (l : List Card) (a b : Nat) (r : List D) : Prop := ∀ d ∈ r, ∃ one o, d = .tup [one, .str (o.getD "none")] ∧ (∀ x, o = some x → x ∈ cls) ∧ Ask K a (dK l) one o ∧ Ask K b (dK l) one o ∧ ∀ k, bd k one = true
theorem Prs.bds {l : List Card} {a b : Nat} {r : List D} (h : Prs K l a b r) (k : Nat) : Sb.bds k r = true := bds_all.mpr fun d hd => by
  obtain ⟨one, o, rfl, _, _, _, hb⟩ := h d hd
  simp only [Sb.bd, Sb.bds, hb, Bool.and_self]
theorem Prs.app {l : List Card} {a b : Nat} {r q : List D} (h : Prs K l a b r) (h2 : Prs K l a b q) : Prs K l a b (r ++ q) := fun d hd => (List.mem_append.mp hd).elim (h d) (h2 d)
/-- pairs made of things and a word -/
theorem with_ok {ds : List D} {x : Str} {τ : Sl} {f : EF} (hi : 13 < τ.length) (w : Wf S) (hl : ds.length ≤ 1000) (hf : f τ S = some (.ok (.fl ds) S)) (hb : ∀ d ∈ ds, ∀ k, bd k d = true) :
    fz (eLc (iSeq f) (tN 13) (tAll) (eTup (aCons (eVar 13) (aCons (eC (.str x)) (aNil)))) [13]) τ S = some (.ok (.fl (ds.map fun d => .tup [d, .str x])) S) := by
  have e := lc_pu (fi := iSeq f) (g := tN 13) (t := tAll) (fe := eTup (aCons (eVar 13) (aCons (eC (.str x)) (aNil)))) (vs := [13]) (τ := τ) (S := S) (ds := ds)
    (fun _ => true) (fun d => .tup [d, .str x]) w (iSeq_ok hf wk_fl) wks_ds (by omega) (fun d hd _ => by simp only [Sb.bd, Sb.bds, hb d hd, Bool.and_self])
    (fun d hd S'' _ _ => by
      have g : ((wipeD τ [13]).set 13 (some d))[13]? = some (some d) := by rw [List.getElem?_set_self (by simpa [wipeD] using hi)]
      exact ⟨_, rfl, rfl, fun _ => eTup_ok (a2_ok (eVar_at g) rfl) (by simp)⟩)
  rw [filter_tt] at e
  exact e
/-- all pairs asked -/
theorem pairs_ok {l : List Card} {a b i : Nat} {r : List D} {x0 x1 x2 x4 x5 x6 x7 x8 x9 x10 x11 x12 x13 x14 x15 x16 : Option D} {rest : SF} {Q : Fl → Sto → Prop} (wd : ∀ x : Str, x ∈ cls → Cls K x ∧ ∃ m : Nat, wordN[m]? = some x)
    (w : Wf S) (ha : a < 5) (hb : b < 5) (h : Prs K l a b r) (hv : ∀ y13 y14, [x0, x1, x2, some (dN l), x4, x5, x6, x7, x8, x9, x10, x11, x12, y13, y14, x15, x16][i]? = some (some (.fl r)))
    (k : ∀ y13 y14, Ws (rest [x0, x1, x2, some (dN l), x4, x5, x6, x7, x8, x9, x10, x11, x12, y13, y14, x15, x16] S) Q) :
    Ws (sSeq (sFor (iSeq (eVar i)) (tN2 13 14) (sIf (tB (eB (gEq true) (fz (eLst (aCons (eCl (M_law_asked K) 3 (aCons (eC (.int (a : Nat))) (aCons (fg (eVar 3)) (aCons (eVar 13) (aNil))))) (aCons (eCl (M_law_asked K) 3 (aCons (eC (.int (b : Nat))) (aCons (fg (eVar 3)) (aCons (eVar 13) (aNil))))) (aNil))))) (fz (eLst (aCons (eVar 14) (aCons (eVar 14) (aNil))))))) (sRt (eC (.bl false))) (sNop))) rest [x0, x1, x2, some (dN l), x4, x5, x6, x7, x8, x9, x10, x11, x12, x13, x14, x15, x16] S) Q := by
  refine ws_for r.length (fun k τ S' => S' = S ∧ ∃ y13 y14, τ = [x0, x1, x2, some (dN l), x4, x5, x6, x7, x8, x9, x10, x11, x12, y13, y14, x15, x16]) (fun k => r.getD k .non) (iSeq_ok (eVar_at (hv _ _)) wk_fl) (Nat.le_refl _) ⟨rfl, _, _, rfl⟩ ?_ (fun _ _ _ => by show some (r[r.length]?) = _; simp) ?_
  · rintro q τ S' hk ⟨rfl, y13, y14, rfl⟩
    have g1 : r[q]? = some r[q] := List.getElem?_eq_getElem hk
    have e4 : r.getD q .non = r[q] := by rw [List.getD_eq_getElem?_getD, g1]; rfl
    rw [e4]
    obtain ⟨one, o, ero, hm, h1, h2, _⟩ := h _ (List.getElem_mem hk)
    rw [ero] at g1 ⊢
    refine ⟨congrArg some g1, _, rfl, ?_⟩
    have ho : ∀ x, o = some x → Cls K x ∧ ∃ m : Nat, wordN[m]? = some x := fun x hx => wd x (hm x hx)
    have sh : SeqAt.shaped (.list [.str (o.getD "none"), .str (o.getD "none")]) = true := by
      have all : ∀ x ∈ ("none" : Str) :: cls, SeqAt.shaped (.list [.str x, .str x]) = true := by decide +kernel
      cases o with
      | none => exact all _ (by simp)
      | some x => exact all x (List.mem_cons_of_mem _ (hm x rfl))
    exact bif_f (tB_ok (eB_ok (fz_list (ds := [.str (o.getD "none"), .str (o.getD "none")]) (S1 := S') (a2_ok (eCl_ok (a3_ok rfl (fg_dk rfl) rfl) rfl (asked_ok ha ho w h1)) (eCl_ok (a3_ok rfl (fg_dk rfl) rfl) rfl (asked_ok hb ho w h2))) rfl w (by simp) rfl) (fz_list (S1 := S') (a2_ok rfl rfl) rfl w (by simp) rfl) (two_words (neg := true) sh))) (ws_nop ⟨rfl, _, _, rfl⟩)
  · rintro τ S' ⟨rfl, y13, y14, rfl⟩
    exact k _ _
theorem names_lc {i : Nat} {l : List Card} {τ : Sl} {fd : EF} (hi : i < τ.length) (w : Wf S) (ok : DeckOk l) (hd : fd τ S = some (.ok (dK l) S)) : fz (eLc (iSeq fd) (tN i) (tAll) (eB gIx (eVar i) (eC (.int 0))) [i]) τ S = some (.ok (.fl ((l.map (·.1)).map D.str)) S) := by
  have e := lc_pu (fi := iSeq fd) (g := tN i) (t := tAll) (fe := eB gIx (eVar i) (eC (.int 0))) (vs := [i]) (τ := τ) (S := S) (ds := l.map dC)
    (fun _ => true) (fun d => match d with | D.tup [.str x, _] => .str x | _ => .non) w (iSeq_ok hd wk_tup) wks_ds (by simp; have := ok.hi; omega) (fun d hd _ => by obtain ⟨c, _, rfl⟩ := List.mem_map.mp hd; rfl)
    (fun d hd S'' _ _ => by
      obtain ⟨c, hc, rfl⟩ := List.mem_map.mp hd
      exact ⟨_, rfl, rfl, fun _ => eB_ok (eVar_at (by rw [List.getElem?_set_self (by simpa [wipeD] using hi)])) rfl ix_name⟩)
  rw [filter_tt, List.map_map] at e
  rw [List.map_map]
  exact e
theorem fresh_ok {l : List Card} {τ : Sl} (w : Wf S) (ok : DeckOk l) (h7 : τ[7]? = some (some (.fl ((l.map (·.1)).map D.str)))) (hl : τ.length = 17) : ∃ f, (eB gIx (fz (eLc (iSeq (fz (eLc (iRg1 (aCons (eC (.int 41)) (aNil))) (tN 11) (tAll) (eB gAdd (eB gAdd (eC (.str "x")) (eB gIx (eC (.str "abcdefghi")) (eB gDiv (eVar 11) (eC (.int 6))))) (eB gIx (eC (.str "abcdef")) (eB gMod (eVar 11) (eC (.int 6))))) [11]))) (tN 10) (tB (eB (gIn true) (eVar 10) (eVar 7))) (eVar 10) [10])) (eC (.int 0))) τ S = some (.ok (.str f) S) ∧ Nm f ∧ f ∉ l.map (·.1) := by
  obtain ⟨k, hk, hf, hn⟩ := first_none (wd := w6) (n := 41) (names := l.map (·.1)) w6_nd (by rw [List.length_map]; have := ok.hi; omega)
  refine ⟨w6 k, ?_, w6_nm k hk, hn⟩
  have e := lc_pu (fi := iRg1 (aCons (eC (.int 41)) (aNil))) (g := tN 11) (t := tAll) (fe := (eB gAdd (eB gAdd (eC (.str "x")) (eB gIx (eC (.str "abcdefghi")) (eB gDiv (eVar 11) (eC (.int 6))))) (eB gIx (eC (.str "abcdef")) (eB gMod (eVar 11) (eC (.int 6)))))) (vs := [11]) (τ := τ) (S := S) (ds := (List.range 41).map fun i : Nat => D.int i)
    (fun _ => true) (fun d => match d with | D.int k => .str (w6 k.toNat) | _ => .non) w (iRg1_ok (n := 41) (a1_ok rfl) (by omega)) wks_rg (by simp) (fun d hd _ => by obtain ⟨i, _, rfl⟩ := List.mem_map.mp hd; rfl)
    (fun d hd S'' _ _ => by
      obtain ⟨i, hi, rfl⟩ := List.mem_map.mp hd
      have := List.mem_range.mp hi
      have g : ((wipeD τ [11]).set 11 (some (D.int (i : Nat))))[11]? = some (some (.int (i : Nat))) := by rw [List.getElem?_set_self (by simp [wipeD, hl])]
      exact ⟨_, rfl, rfl, fun _ => letters_ok (m := 6) (k := i) g (by omega) (by omega) (by decide) (by decide) (by decide) (by show i / 6 < 9; omega) (by show i % 6 < 6; omega)⟩)
  have e2 : (((List.range 41).map fun i : Nat => D.int i).filter fun _ => true).map (fun d => match d with | D.int k => .str (w6 k.toNat) | _ => .non) = ((List.range 41).map w6).map D.str := by
    rw [filter_tt, List.map_map, List.map_map]; rfl
  rw [e2] at e
  have nmL : ∀ x ∈ l.map (·.1), Nm x := fun x hx => by
    obtain ⟨y, hy, rfl⟩ := List.mem_map.mp hx
    exact ok.nm y hy
  have e3 := lc_pu (fi := iSeq (fz (eLc (iRg1 (aCons (eC (.int 41)) (aNil))) (tN 11) (tAll) (eB gAdd (eB gAdd (eC (.str "x")) (eB gIx (eC (.str "abcdefghi")) (eB gDiv (eVar 11) (eC (.int 6))))) (eB gIx (eC (.str "abcdef")) (eB gMod (eVar 11) (eC (.int 6))))) [11]))) (g := tN 10) (t := tB (eB (gIn true) (eVar 10) (eVar 7))) (fe := eVar 10) (vs := [10]) (τ := τ) (S := S) (ds := ((List.range 41).map w6).map D.str)
    (fun d => match d with | D.str x => !decide (x ∈ l.map (·.1)) | _ => false) id w (iSeq_ok e wk_fl) wks_ds (by simp) (fun d hd _ => by obtain ⟨c, _, rfl⟩ := List.mem_map.mp hd; rfl)
    (fun d hd S'' _ _ => by
      obtain ⟨x, hx, rfl⟩ := List.mem_map.mp hd
      obtain ⟨i, hi, rfl⟩ := List.mem_map.mp hx
      have g : ((wipeD τ [10]).set 10 (some (D.str (w6 i))))[10]? = some (some (.str (w6 i))) := by rw [List.getElem?_set_self (by simp [wipeD, hl])]
      have g7 : ((wipeD τ [10]).set 10 (some (D.str (w6 i))))[7]? = some (some (.fl ((l.map (·.1)).map D.str))) := by rw [List.getElem?_set_ne (by decide), wipeD, wipeD, List.getElem?_set_ne (by decide), h7]
      exact ⟨_, rfl, tB_ok (eB_ok (eVar_at g) (eVar_at g7) (gIn_fl (neg := true) (w6_nm i (List.mem_range.mp hi)) nmL)), fun _ => eVar_at g⟩)
  rw [List.map_id, List.filter_map] at e3
  refine eB_ok e3 rfl (ix_seq' (c := "list") (i := 0) rfl rfl (x := .str (w6 k)) ?_)
  rw [List.getElem?_map]
  have : (fun x => !decide (x ∈ l.map (·.1))) = ((fun d => match d with | D.str x => !decide (x ∈ l.map (·.1)) | _ => false) ∘ D.str) := rfl
  rw [← this, hf]; rfl
theorem law_ok (hc : clsB ["NoDeck", "NoName", "NoLevel"] K = true) {d : D} {ns : List Int} (hd : seqD S d = some (ns.map D.int)) (hs : ∀ X, seqD (S ++ X) d = some (ns.map D.int)) (ht : ∀ ds, d ≠ .tup ds ∧ d ≠ .fl ds) (hx : ∀ X, gLenX [d] (S ++ X) = some (.int ns.length, S ++ X)) (w : Wf S) : ∃ S', M_law K [d] S = some (.ok (.bl true) S') := by
  have wd : ∀ x : Str, x ∈ cls → Cls K x ∧ ∃ m : Nat, wordN[m]? = some x := fun x hx => by
    refine ⟨cls_of hc hx, ?_⟩
    have : ∀ y, y ∈ cls → (List.range 13).any (fun m => wordN[m]? == some y) = true := by decide +kernel
    obtain ⟨m, _, hm⟩ := List.any_eq_true.mp (this x hx)
    exact ⟨m, by simpa using hm⟩
  have hn0 : ∀ x, some ("NoDeck" : Str) = some x → Cls K x ∧ ∃ m : Nat, wordN[m]? = some x := fun x e => by cases e; exact wd _ (by simp)
  obtain ⟨n, X, e1, sp, hn, wX⟩ := spring_wf w hd hs ht
  refine law_ws ?_
  refine ws_set (eCl_ok (a1_ok rfl) rfl e1) ?_
  let T : Option D → Option D → Option D → Option D → Option D → Option D → Option D → Option D → Option D → Option D → Option D → Sl :=
    fun x2 x3 x4 x5 x6 x7 x9 x12 x13 x14 x15 => [some d, some (.loc n), x2, x3, x4, x5, x6, x7, none, x9, none, none, x12, x13, x14, x15, none]
  obtain ⟨R, hR, eR⟩ := turns_ok (τ := T none none none none none none none none none none none) (i := 0) 2 6 (by decide) (hx X) rfl
  refine ws_for R (fun i τ S' => (∃ x2 x3 x4 x5 x6 x7 x9 x12 x13 x14 x15, τ = T x2 x3 x4 x5 x6 x7 x9 x12 x13 x14 x15) ∧ Spr n (8000 * i) S' ∧ Wf S') (fun i => .int (i : Nat)) eR (Nat.le_refl _) ⟨⟨none, none, none, none, none, none, none, none, none, none, none, rfl⟩, sp, wX⟩ ?_ (fun _ _ _ => rg_end) ?_
  · rintro i τ S1 hi ⟨⟨x2, x3, x4, x5, x6, x7, x9, x12, x13, x14, x15, rfl⟩, sp1, w1⟩
    refine ⟨rg_nxt hi, _, rfl, ?_⟩
    obtain ⟨S2, l, e2, ok, _, big, sp2, sm2, w2⟩ := deck_frN (S := S1) (most := 40) (τ := T (some (.int (i : Nat))) x3 x4 x5 x6 x7 x9 x12 x13 x14 x15) (a := aCons (eVar 1) (aCons (eC (.int 40)) (aNil))) w1 sp1 (by omega) (by omega) (by omega) (a2_ok rfl rfl)
    refine ws_set e2 ?_
    have hl1 := ok.lo
    have hl2 := ok.hi
    obtain ⟨S3, bad, e3, hbad, sp3, sm3, w3⟩ := no_deck_fzS (K := K) (τ := T (some (.int (i : Nat))) (some (dN l)) x4 x5 x6 x7 x9 x12 x13 x14 x15) (a := aCons (eVar 1) (aCons (eVar 3) (aNil))) w2 sp2 (by omega) ok big (a2_ok rfl rfl)
    refine ws_set e3 ?_
    have hrp : Rp (.fl [dK l, bad]) 100002 5 := (Rp.seq (w := 50000) (k := 4) (n := 2) (ds := [dK l, bad]) (fun y hy => by
      simp only [List.mem_cons, List.not_mem_nil, or_false] at hy
      rcases hy with rfl | rfl
      · exact (Rp.deck ok big).mono (by omega) (by omega)
      · exact hbad.rp) (by simp)).2
    obtain ⟨tr, etr⟩ := hrp.repr (by omega) (by omega) (.inr (.inl ⟨_, rfl⟩))
    have ers : ∀ {τ : Sl} {S : Sto}, Wf S → τ[3]? = some (some (dN l)) → τ[4]? = some (some bad) → eCB gReprX (aCons (fz (eLst (aCons (fg (eVar 3)) (aCons (eVar 4) (aNil))))) (aNil)) τ S = some (.ok (.str tr) S) := fun {τ S} w h3 h4 =>
      eCB_ok (a1_ok (fz_list (ds := [dK l, bad]) (a2_ok (fg_dk h3) (eVar_at h4)) rfl w (by simp) (by simp only [bds, bd_dK, hbad.bd, Bool.and_self]))) (etr _)
    refine ws_set (ers w3 rfl rfl) ?_
    refine ws_set (eCl_ok (a1_ok (fg_dk rfl)) rfl (closed_place_ok w3 (isDeck_dK l) ok)) ?_
    have hcl : 1 ≤ clo l := (clo_is ok.lo).lo
    have hcu := clo_le ok
    refine ws_set (names_lc (l := l) (by show 8 < 17; decide) w3 ok (fg_dk rfl)) ?_
    obtain ⟨f, ef, nf, hf⟩ := fresh_ok (S := S3) (l := l) (τ := T (some (.int (i : Nat))) (some (dN l)) (some bad) (some (.str tr)) (some (.int (clo l : Nat))) (some (.fl ((l.map (·.1)).map D.str))) x9 x12 x13 x14 x15) w3 ok rfl rfl
    refine ws_set ef ?_
    -- good names and others
    have nmL : (l.map (·.1)).length = l.length := List.length_map _
    obtain ⟨v, S4, e4, v0, v1, sp4, fr4, ln4⟩ := draw_ok (m := ((l.map (·.1)).length : Int)) sp3 (by omega) (by omega) (by omega)
    have w4 : Wf S4 := (Sm.of fr4 ln4).wf w3 sp4
    obtain ⟨u, rfl⟩ : ∃ u : Nat, v = u := ⟨v.toNat, by omega⟩
    have hu : u < l.length := by omega
    have g7 : gIx (.fl ((l.map (·.1)).map D.str)) (.int (u : Nat)) S4 = some (.str l[u].1, S4) := ix_seq' (c := "list") rfl rfl (by rw [List.getElem?_map, List.getElem?_map, List.getElem?_eq_getElem hu]; rfl)
    have elen : eCB gLenX (aCons (eVar 7) (aNil)) (T (some (.int (i : Nat))) (some (dN l)) (some bad) (some (.str tr)) (some (.int (clo l : Nat))) (some (.fl ((l.map (·.1)).map D.str))) (some (.str f)) x12 x13 x14 x15) S3 = some (.ok (.int (l.map (·.1)).length) S3) := eCB_ok (a1_ok rfl) (len_fl.trans (by rw [List.length_map (as := l.map (·.1))]))
    refine ws_set (fz_list (ds := [.tup [.str l[u].1, .str "none"], .tup [.str f, .str "NoName"]]) (S1 := S4) (a2_ok (S1 := S4) (eTup_ok (a2_ok (S1 := S4) (eB_ok rfl (eCl_ok (a2_ok rfl elen) rfl e4) g7) rfl) (by simp)) (eTup_ok (a2_ok rfl rfl) (by simp))) ln4 w4 (by simp) rfl) ?_
    have g00 : gIx (dK l) (.int 0) S4 = some (dC l[0], S4) := ix_deck (i := 0) (List.getElem?_eq_getElem (show 0 < l.length by omega))
    have eth : ∀ {x12 : Option D}, (fz (eLst (aCons (eC (.str "")) (aCons (eC (.str "A")) (aCons (eC .non) (aCons (eC (.int 0)) (aCons (eC (.bl true)) (aCons (fz (eLst (aCons (eC (.str "a")) (aNil)))) (aCons (fz (eDct0)) (aCons (eC (.str "abcdefghi")) (aCons (eB gIx (fg (eVar 3)) (eC (.int 0))) (aNil)))))))))))) (T (some (.int (i : Nat))) (some (dN l)) (some bad) (some (.str tr)) (some (.int (clo l : Nat))) (some (.fl ((l.map (·.1)).map D.str))) (some (.str f)) x12 x13 x14 x15) S4 = some (.ok (.fl (things l[0])) S4) := fun {x12} =>
      fz_list (ds := things l[0]) (S1 := S4) (aCons_ok (S1 := S4) rfl (aCons_ok (S1 := S4) rfl (aCons_ok (S1 := S4) rfl (aCons_ok (S1 := S4) rfl (aCons_ok (S1 := S4) rfl (aCons_ok (S1 := S4) (fz_list (a1_ok rfl) rfl w4 (by simp) rfl) (aCons_ok (S1 := S4) (fz_dct0 w4) (aCons_ok (S1 := S4) rfl (a1_ok (eB_ok (fg_dk rfl) rfl g00)))))))))) rfl w4 (by show 9 ≤ 1000; decide) rfl
    have hth := things_no ok (List.getElem_mem (show 0 < l.length by omega))
    refine ws_set (eB_ok rfl (with_ok (by show 13 < 17; decide) w4 (by show 9 ≤ 1000; decide) eth (fun d hd => (hth d hd).2)) (fl_add (by show 2 + 9 ≤ 1000; decide))) ?_
    have m0 : ∀ x, (none : Option Str) = some x → x ∈ cls := fun x e => by cases e
    have mS : ∀ y, y ∈ cls → ∀ x, some y = some x → x ∈ cls := fun y hy x e => by cases e; exact hy
    have nfW : NoW l (.str f) := noW_of (noN_str ok (shp_str nf) fun c hc e => hf (by rw [← e]; exact List.mem_map_of_mem hc)) (fun _ _ z => by cases z)
    have hp : Prs K l 0 1 ([.tup [.str l[u].1, .str "none"], .tup [.str f, .str "NoName"]] ++ (things l[0]).map fun d => .tup [d, .str "NoName"]) := by
      refine Prs.app (fun d hd => ?_) fun d hd => ?_
      · simp only [List.mem_cons, List.not_mem_nil, or_false] at hd
        rcases hd with rfl | rfl
        · exact ⟨_, none, rfl, m0, ask0 ok hu, ask1 ok hu, fun _ => rfl⟩
        · exact ⟨_, some "NoName", rfl, mS _ (by simp), ask0n ok nfW, ask1n ok nfW, fun _ => rfl⟩
      · obtain ⟨y, hy, rfl⟩ := List.mem_map.mp hd
        obtain ⟨h1, h2⟩ := hth y hy
        exact ⟨_, some "NoName", rfl, mS _ (by simp), ask0n ok h1, ask1n ok h1, h2⟩
    refine pairs_ok (a := 0) (b := 1) wd w4 (by decide) (by decide) hp (fun _ _ => rfl) fun y13 y14 => ?_
    -- levels
    obtain ⟨q, S5, e5, q0, q1, sp5, fr5, ln5⟩ := draw_ok (m := (clo l : Int)) sp4 (by omega) (by omega) (by omega)
    have w5 : Wf S5 := (Sm.of fr5 ln5).wf w4 sp5
    obtain ⟨z, rfl⟩ : ∃ u : Nat, q = u := ⟨q.toNat, by omega⟩
    have hz : z < clo l := by omega
    refine ws_set (fz_list (ds := [.tup [.int (z : Nat), .str "none"], .tup [.int (clo l : Nat), .str "NoLevel"], .tup [.int ((clo l : Nat) + 10 ^ 29), .str "NoLevel"]]) (S1 := S5) (a3_ok (S1 := S5) (eTup_ok (a2_ok (S1 := S5) (eCl_ok (a2_ok rfl rfl) rfl e5) rfl) (by simp)) (eTup_ok (a2_ok rfl rfl) (by simp)) (eTup_ok (a2_ok (eB_ok rfl (eB_ok rfl rfl pow29) gAdd_i) rfl) (by simp))) ln5 w5 (by simp) rfl) ?_
    have elv : ∀ {x12 x13 x14 x15 : Option D}, (fz (eLst (aCons (eNeg (eC (.int 1))) (aCons (eC (.bl true)) (aCons (eC (.bl false)) (aCons (eC .non) (aCons (eC (.str "0")) (aCons (fz (eLst (aCons (eC (.int 0)) (aNil)))) (aCons (eTup (aNil)) (aCons (eC (.str "")) (aCons (fz (eDct0)) (aNil)))))))))))) (T (some (.int (i : Nat))) (some (dN l)) (some bad) (some (.str tr)) (some (.int (clo l : Nat))) (some (.fl ((l.map (·.1)).map D.str))) (some (.str f)) x12 x13 x14 x15) S5 = some (.ok (.fl levs) S5) := fun {x12 x13 x14 x15} =>
      fz_list (ds := levs) (S1 := S5) (aCons_ok (S1 := S5) rfl (aCons_ok (S1 := S5) rfl (aCons_ok (S1 := S5) rfl (aCons_ok (S1 := S5) rfl (aCons_ok (S1 := S5) rfl (aCons_ok (S1 := S5) (fz_list (a1_ok rfl) rfl w5 (by simp) rfl) (aCons_ok (S1 := S5) (eTup_ok aNil_ok (by simp)) (aCons_ok (S1 := S5) rfl (a1_ok (fz_dct0 w5)))))))))) rfl w5 (by show 9 ≤ 1000; decide) rfl
    have hlv := levs_no (m := (clo l : Int) - 1) (by omega)
    refine ws_set (eB_ok rfl (with_ok (by show 13 < 17; decide) w5 (by show 9 ≤ 1000; decide) elv (fun d hd => (hlv d hd).2)) (fl_add (by show 3 + 9 ≤ 1000; decide))) ?_
    have n1 : IsN ((clo l : Int) - 1) (.int (clo l : Nat)) := isN_rng (.inr (by omega))
    have n2 : IsN ((clo l : Int) - 1) (.int ((clo l : Nat) + 10 ^ 29)) := isN_rng (.inr (by omega))
    have hp2 : Prs K l 2 3 ([.tup [.int (z : Nat), .str "none"], .tup [.int (clo l : Nat), .str "NoLevel"], .tup [.int ((clo l : Nat) + 10 ^ 29), .str "NoLevel"]] ++ levs.map fun d => .tup [d, .str "NoLevel"]) := by
      refine Prs.app (fun d hd => ?_) fun d hd => ?_
      · simp only [List.mem_cons, List.not_mem_nil, or_false] at hd
        rcases hd with rfl | rfl | rfl
        · exact ⟨_, none, rfl, m0, ask2 ok hz, ask3 ok hz, fun _ => rfl⟩
        · exact ⟨_, some "NoLevel", rfl, mS _ (by simp), ask2n ok n1, ask3n ok n1, fun _ => rfl⟩
        · exact ⟨_, some "NoLevel", rfl, mS _ (by simp), ask2n ok n2, ask3n ok n2, fun _ => rfl⟩
      · obtain ⟨y, hy, rfl⟩ := List.mem_map.mp hd
        obtain ⟨h1, h2⟩ := hlv y hy
        exact ⟨_, some "NoLevel", rfl, mS _ (by simp), ask2n ok h1, ask3n ok h1, h2⟩
    refine pairs_ok (a := 2) (b := 3) wd w5 (by decide) (by decide) hp2 (fun _ _ => rfl) fun y13 y14 => ?_
    -- what is no deck
    have g0 : gIx (.fl ((l.map (·.1)).map D.str)) (.int 0) S5 = some (.str l[0].1, S5) := ix_seq' (c := "list") (i := 0) rfl rfl (by rw [List.getElem?_map, List.getElem?_map, List.getElem?_eq_getElem (by omega)]; rfl)
    let five : List D := [.str l[0].1, .int 0, .non, .str f, .int (clo l : Nat)]
    refine ws_for five.length (fun k τ S' => S' = S5 ∧ ∃ y13, τ = T (some (.int (i : Nat))) (some (dN l)) (some bad) (some (.str tr)) (some (.int (clo l : Nat))) (some (.fl ((l.map (·.1)).map D.str))) (some (.str f)) (some (.fl ([.tup [.str l[u].1, .str "none"], .tup [.str f, .str "NoName"]] ++ (things l[0]).map fun d => .tup [d, .str "NoName"]))) y13 y14 (some (.fl ([.tup [.int (z : Nat), .str "none"], .tup [.int (clo l : Nat), .str "NoLevel"], .tup [.int ((clo l : Nat) + 10 ^ 29), .str "NoLevel"]] ++ levs.map fun d => .tup [d, .str "NoLevel"])))) (fun k => five.getD k .non)
      (iSeq_ok (fz_list (ds := five) (S1 := S5) (aCons_ok (S1 := S5) (eB_ok rfl rfl g0) (aCons_ok (S1 := S5) rfl (a3_ok rfl rfl rfl))) rfl w5 (by show 5 ≤ 1000; decide) rfl) wk_fl) (Nat.le_refl _) ⟨rfl, _, rfl⟩ ?_ (fun _ _ _ => by show some (five[five.length]?) = _; simp) ?_
    · rintro k τ S' hk ⟨rfl, y13, rfl⟩
      have g1 : five[k]? = some five[k] := List.getElem?_eq_getElem hk
      have e4 : five.getD k .non = five[k] := by rw [List.getD_eq_getElem?_getD, g1]; rfl
      rw [e4]
      refine ⟨congrArg some g1, _, rfl, ?_⟩
      generalize five[k] = c
      have q := none_left (n := 5) (i := 16) (t := tB (eB (gEq true) (eCl (M_law_asked K) 3 (aCons (eVar 16) (aCons (eVar 4) (aCons (eVar 13) (aNil))))) (eC (.str "NoDeck")))) (τ := T (some (.int (i : Nat))) (some (dN l)) (some bad) (some (.str tr)) (some (.int (clo l : Nat))) (some (.fl ((l.map (·.1)).map D.str))) (some (.str f)) (some (.fl ([.tup [.str l[u].1, .str "none"], .tup [.str f, .str "NoName"]] ++ (things l[0]).map fun d => .tup [d, .str "NoName"]))) (some c) y14 (some (.fl ([.tup [.int (z : Nat), .str "none"], .tup [.int (clo l : Nat), .str "NoLevel"], .tup [.int ((clo l : Nat) + 10 ^ 29), .str "NoLevel"]] ++ levs.map fun d => .tup [d, .str "NoLevel"])))) (by show 16 < 17; decide) (by decide) w5 fun Y k hk wY => tB_ok (eB_ok (eCl_ok (a3_ok rfl rfl rfl) rfl (asked_ok (o := some "NoDeck") hk hn0 wY (nd hbad.no hk))) rfl (gEq_word (neg := true) (o := some "NoDeck") fun x hx => (hn0 x hx).2))
      exact bif_f (tB_ok (eB_ok q (fz_list aNil_ok rfl w5 (by simp) rfl) eq0)) (ws_nop ⟨rfl, _, rfl⟩)
    · rintro τ S' ⟨rfl, y13, rfl⟩
      refine bif_f (or_f (tB_ok (eB_ok (eCl_ok (a3_ok rfl (fg_dk rfl) rfl) rfl (asked_ok (j := 4) (o := none) (by decide) (fun x e => by cases e) w5 (ask4 ok))) rfl (gEq_word (neg := true) (o := none) fun x e => by cases e))) (tB_ok (eB_ok (ers w5 rfl rfl) rfl gEqS_same))) (ws_nop ⟨⟨_, _, _, _, _, _, _, _, _, _, _, rfl⟩, sp5.mono (by omega), w5⟩)
  · rintro τ S1 _
    exact ws_rt rfl rfl
end K14
end
section
set_option Elab.async false
set_option linter.all false
set_option maxRecDepth 100000
set_option maxHeartbeats 4000000
namespace Sb
open PySem PySem.Spec PyProof.Rows L2
theorem bds_ints {k : Nat} : ∀ ns : List Int, bds k (ns.map D.int) = true
  | [] => rfl
  | n :: ns => by simp only [List.map_cons, bds, bd, bds_ints ns, Bool.and_self]
/-- the script in the heap, as data -/
theorem script_in {T : Tb} {H : Hp} {a : Addr} {ns : List Int} (hS : SqL T.K H a (ns.map V.int)) (ht : ∀ p ∈ T.tabs, H p = some (.tbl #[])) : ∃ (φ : List Addr) (S : Sto) (d : D), Rel T φ S H ∧ RDs T H φ [d] [.ref a] ∧
    seqD S d = some (ns.map D.int) ∧ (∀ X, seqD (S ++ X) d = some (ns.map D.int)) ∧ (∀ ds, d ≠ .tup ds ∧ d ≠ .fl ds) ∧ (∀ X, gLenX [d] (S ++ X) = some (.int ns.length, S ++ X)) ∧ wfk S.length S = true := by
  have tab : ∀ p ∈ T.tabs, GxR.TabG H p := fun p hp => ⟨#[], ht p hp, trivial⟩
  have rest : Scr T H a ns → ∃ (φ : List Addr) (S : Sto) (d : D), Rel T φ S H ∧ RDs T H φ [d] [.ref a] ∧
    seqD S d = some (ns.map D.int) ∧ (∀ X, seqD (S ++ X) d = some (ns.map D.int)) ∧ (∀ ds, d ≠ .tup ds ∧ d ≠ .fl ds) ∧ (∀ X, gLenX [d] (S ++ X) = some (.int ns.length, S ++ X)) ∧ wfk S.length S = true := fun z =>
    ⟨[], [], .scr ns, ⟨rfl, List.nodup_nil, fun n o b h => by simp at h, tab⟩, ⟨_, [], rfl, ⟨a, rfl, z⟩, rfl⟩, rfl, fun _ => rfl, (fun _ => ⟨fun e => (by cases e), fun e => (by cases e)⟩), (fun X => by simp [gLenX, gLen, seqD]), rfl⟩
  rcases hS with (h | ⟨o, h⟩) | h
  · have e1 : ∀ X : Sto, seqD ([.lst (ns.map D.int)] ++ X) (.loc 0) = some (ns.map D.int) := fun X => by simp [seqD]
    refine ⟨[a], [.lst (ns.map D.int)], .loc 0, ⟨rfl, by simp, fun n o b h1 h2 => ?_, tab⟩, ⟨_, [], rfl, ⟨a, rfl, rfl⟩, rfl⟩, by simp [seqD], e1, (fun _ => ⟨fun e => (by cases e), fun e => (by cases e)⟩), (fun X => by simp [gLenX, gLen, seqD]), by simp [wfk, bdO, bds_ints]⟩
    cases n with
    | zero =>
      simp at h1 h2
      subst h1 h2
      exact ⟨_, h, ints_rds ns⟩
    | succ n => simp at h1
  · exact rest (.inl ⟨o, h⟩)
  · exact rest (.inr h)
theorem cx_false {P : Program} {w : World} {H : Hp} {s : Shared} {e : Value} {s' : Shared} : L2.CX P w [] H s (fun _ _ _ => False) e s' → False := by
  rintro ⟨_, _, _, _, _, _, _, _, _, _, _, _, z⟩
  exact z
end Sb
end
section
set_option Elab.async false
set_option linter.all false
set_option maxRecDepth 100000
set_option maxHeartbeats 4000000
namespace Sb
open PySem PySem.Spec PyProof.Rows L2 LamX
/-- the law's call, its def promised where no print is under way -/
theorem law_callH {P : Program} {w : World} {K : PySem.W.Frag} {mg mb : Str → Option Value} {CX : CXT} {k : Nat} {fa a : Addr} {cs : List (Addr × Addr)} {fd : FuncData} {x : Str} {sp : Sp} {s1 : Shared} {vs : List Value} {ns : List Int}
    (inK : K.In s1.heap) (nsM : s1.heap.Ns mainGlobals mg) (nsB : s1.heap.Ns builtinsNs mb) (boot : ∀ x : Str, x ≠ "__name__" → mb x = bootBuiltins x) (noLim : s1.heap.NoLimit) (noGen : s1.gens = #[])
    (tabs : ∀ p ∈ cs, s1.heap.get? p.2 = some { cls := .none, data := .fields #[] }) (outK : ∀ p ∈ cs, K.lookup p.2 = none) (heads : ∀ p ∈ cs, PySem.W.CodeHd s1.heap p.1 p.2)
    (blt : ∃ (bm : Addr) (ob : Obj), mg "__builtins__" = some (.ref bm) ∧ bm ≠ builtinsNs ∧ s1.heap.get? bm = some ob ∧ ob.cls = .type "module" ∧ ob.dict = some builtinsNs ∧ ob.data = .plain)
    (isL : s1.heap.get? a = some { cls := .type "list", data := .seq vs.toArray }) (areInts : IntsAre vs ns) (short : ns.length ≤ sizeLine) (hsys : ∃ o es ep, s1.heap.get? sysModules = some o ∧ o.data = .dict es ep) (room : Room k callerA) (quiet : callerA.guards = some [])
    (F : ∀ base : Heap, K.In base → base.Ns mainGlobals mg → (∀ p ∈ cs, TabB base mg p.1 p.2) → (∃ o, base.get? sysModules = some o) → FnOkG P w K mg base CX k fa fd [x] sp) (bind : ∀ (s : Shared) (u : Value), BindsTo s fd ⟨[u], []⟩ [(x, u)])
    (wish : ∀ H : Hp, (∀ p ∈ cs, H p.2 = some (.tbl #[])) → SqL K H a (ns.map V.int) → sp [.ref a] H (fun v _ => v = .bl true) fun _ _ _ => False)
    (noX : ∀ H e s', CX [] H s1 (fun _ _ _ => False) e s' → False) :
    codeAny (model P w) callerA (.call (.ref fa) ⟨[.ref a], []⟩) (fun r s' => r = .ok (.ret (.bool true)) ∧ PySem.OldK s1.heap s'.heap ∧ s'.os = s1.os ∧ AllBare s'.gens) s1 := by
  have rel := vals_ints areInts
  have lenV := areInts.length
  have tabAt : ∀ b : Addr, b ∈ cs.map (·.2) → s1.heap.get? b = some { cls := .none, data := .fields #[] } := fun b hb => by
    obtain ⟨p, hp, rfl⟩ := List.mem_map.mp hb
    exact tabs p hp
  have notT : a ∉ cs.map (·.2) := fun z => by
    have z1 := congrArg (Option.map Obj.data) (isL.symm.trans (tabAt a z))
    cases z1
  have inT : ∀ p ∈ cs, p.2 ∈ cs.map (·.2) := fun p hp => List.mem_map_of_mem (f := (·.2)) hp
  have main : ∀ H : Hp, (∀ p ∈ cs, H p.2 = some (.tbl #[])) → (∀ b, H b = none ∨ b ∈ cs.map (·.2) ∨ ∃ o xs, H b = some (.frz o (.lst xs))) → SqL K H a (ns.map V.int) → HOk P w H s1.heap → (∀ b, H b ≠ none → b = a ∨ b ∈ cs.map (·.2)) → (H a ≠ none → K.lookup a = none) →
      codeAny (model P w) callerA (.call (.ref fa) ⟨[.ref a], []⟩) (fun r s' => r = .ok (.ret (.bool true)) ∧ PySem.OldK s1.heap s'.heap ∧ s'.os = s1.os ∧ AllBare s'.gens) s1 := by
    intro H tH oneOf sq okH only aK
    have free : ∀ {b : Addr} {o : Obj}, s1.heap.get? b = some o → (∀ vs n, o.data ≠ .seq vs n) → o.data ≠ .fields #[] → H b = none := fun {b o} e h1 h2 => by
      by_cases q : H b = none
      · exact q
      · rcases only b q with z | z
        · rw [z, isL] at e
          exact absurd (congrArg Obj.data (Option.some.inj e)).symm (h1 _ _)
        · rw [tabAt b z] at e
          exact absurd (congrArg Obj.data (Option.some.inj e)).symm h2
    have freeD : ∀ {b : Addr} {o : Obj} {es : Array DictEntry} {ep : Nat}, s1.heap.get? b = some o → o.data = .dict es ep → H b = none := fun {b o es ep} e d =>
      free e (fun vs n z => by rw [d] at z; cases z) fun z => by rw [d] at z; cases z
    have nsKept : ∀ {b : Addr} {m : Str → Option Value}, s1.heap.Ns b m → (hidT s1.heap H).Ns b m := fun {b m} ⟨o, es, ep, e, d, r⟩ => ⟨o, es, ep, hidT_get e (freeD e d), d, r⟩
    have inKb : K.In (hidT s1.heap H) := fun b o e => hidT_get (inK b o e) (by
      by_cases q : H b = none
      · exact q
      · rcases only b q with z | z
        · rw [z] at e q
          rw [aK q] at e; cases e
        · obtain ⟨p, hp, rfl⟩ := List.mem_map.mp z
          rw [outK p hp] at e; cases e)
    have md : L2.Mod K mg (hidT s1.heap H) := ⟨inKb, nsKept nsM, ⟨mb, nsKept nsB, boot⟩, let ⟨mc, h1, h2⟩ := noLim; ⟨mc, nsKept h1, h2⟩⟩
    have tb : ∀ p ∈ cs, TabB (hidT s1.heap H) mg p.1 p.2 := fun p hp => by
      have atP := tabs p hp
      refine ⟨?_, ?_, fun z => ?_⟩
      · obtain ⟨o, us, file, tf, flags, tg, inF, text, tt, e1, r1, r2, r3, rest⟩ := heads p hp
        refine ⟨o, us, file, tf, flags, tg, inF, text, tt, hidT_get e1 (free e1 (fun vs n z => by rw [r2] at z; cases z) fun z => ?_), r1, r2, r3, rest⟩
        rw [r2] at z
        cases z
        simp at r3
      · obtain ⟨bm, ob, b1, b2, b3, b4, b5, b6⟩ := blt
        have n1 : bm ≠ mainGlobals := fun q => by
          obtain ⟨o, es, ep, e, hd, _⟩ := nsM
          rw [q, e] at b3
          cases b3
          rw [hd] at b6; cases b6
        have n2 : bm ≠ p.2 := fun q => by
          rw [q, atP] at b3
          cases b3
          cases b6
        exact ⟨bm, ob, b1, b2, n1, n2, hidT_get b3 (free b3 (fun vs n z => by rw [b6] at z; cases z) fun z => by rw [b6] at z; cases z), b4, b5, b6⟩
      · obtain ⟨o, es, ep, e, hd, _⟩ := nsM
        rw [z, atP] at e
        cases e
        cases hd
    have env0 : Env0 P w K mg (hidT s1.heap H) callerA [] s1 H := ⟨rfl, md, fun b o e => of_hidT e, Nat.le_of_eq (hidT_size _ _), trivial, fun b hb => absurd (show b ∈ ([] : List Addr) from hb) (by simp), okH, .of_eq noGen⟩
    refine codeAny_mono ((F _ inKb (nsKept nsM) tb (let ⟨o, es, ep, e, d⟩ := hsys; ⟨o, hidT_get e (freeD e d)⟩)).run callerA [] s1 H ⟨[.ref a], []⟩ [.ref a] [.ref a] _ _ room quiet env0 (bind s1 (.ref a)) (.cons rfl .nil) (wish H tH sq)) fun r s' h => ?_
    cases r with
    | error e => exact (noX H e s' h).elim
    | ok fl =>
      cases fl with
      | next => exact False.elim h
      | brk => exact False.elim h
      | cont => exact False.elim h
      | ret u =>
        obtain ⟨v, H', os, bare, un, ok', r', q⟩ := h
        obtain rfl : v = .bl true := q
        obtain rfl : u = Value.bool true := r'
        have stay : ∀ b o, b ∉ cs.map (·.2) → s1.heap.get? b = some o → s'.heap.get? b = some o := fun b o nb e => by
          rcases oneOf b with z | z | ⟨ob, xs, z⟩
          · exact un.keep b o e z (fun y => absurd (show b ∈ ([] : List Addr) from y) (by simp)) (by simp)
          · exact absurd z nb
          · have o1 := (okH b _ z).1
            have o2 := (ok' b _ (un.frzs b ob _ z)).1
            rw [e] at o1; cases o1
            exact o2
        have more : ∀ p ∈ cs, ∃ ps : Array Value, s'.heap.get? p.2 = some { cls := .none, data := .fields ps } := fun p hp => by
          obtain ⟨ps, z⟩ := un.tbls p.2 #[] (tH p hp)
          exact ⟨_, ok' p.2 _ z⟩
        refine ⟨rfl, ⟨fun b o e => ?_, fun b o e => ?_⟩, os, bare⟩
        · by_cases hb : b ∈ cs.map (·.2)
          · obtain ⟨p, hp, rfl⟩ := List.mem_map.mp hb
            obtain ⟨ps, hm⟩ := more p hp
            rw [tabs p hp] at e
            cases e
            exact .inr (.inl ⟨((heads p hp).tab (tabs p hp)).isCodeTable, rfl, #[], ps, rfl, by rw [Array.empty_append]; exact hm⟩)
          · exact .inl (stay b o hb e)
        · by_cases hb : b ∈ cs.map (·.2)
          · obtain ⟨p, hp, rfl⟩ := List.mem_map.mp hb
            obtain ⟨ps, hm⟩ := more p hp
            exact ⟨_, hm⟩
          · exact ⟨o, stay b o hb e⟩
  cases hk : K.lookup a with
  | some o =>
    have e := inK a o hk
    rw [isL] at e
    cases e
    have hT : ∀ b, b ∈ cs.map (·.2) → (fun b => if b ∈ cs.map (·.2) then some (HO.tbl #[]) else none : Hp) b = some (.tbl #[]) := fun b hb => if_pos hb
    have hN : ∀ b, b ∉ cs.map (·.2) → (fun b => if b ∈ cs.map (·.2) then some (HO.tbl #[]) else none : Hp) b = none := fun b hb => if_neg hb
    refine main (fun b => if b ∈ cs.map (·.2) then some (HO.tbl #[]) else none) (fun p hp => hT _ (inT p hp)) (fun b => ?_) (.inr ⟨_, vs.toArray, _, hk, rfl, rfl, rfl, by rw [List.size_toArray, lenV]; exact short, by simpa using rel⟩) (fun b u z => ?_) (fun b z => ?_) fun z => absurd (hN a notT) z
    · by_cases hb : b ∈ cs.map (·.2)
      · exact .inr (.inl hb)
      · exact .inl (hN b hb)
    · by_cases hb : b ∈ cs.map (·.2)
      · rw [hT b hb] at z
        cases z
        exact tabAt b hb
      · rw [hN b hb] at z; cases z
    · by_cases hb : b ∈ cs.map (·.2)
      · exact .inr hb
      · exact absurd (hN b hb) z
  | none =>
    let He0 : Hp := fun b => if b = a then some (.frz { cls := .type "list", data := .seq vs.toArray } (.lst (ns.map V.int))) else if b ∈ cs.map (·.2) then some (.tbl #[]) else none
    have hA : He0 a = some (.frz { cls := .type "list", data := .seq vs.toArray } (.lst (ns.map V.int))) := if_pos rfl
    have hT : ∀ b, b ∈ cs.map (·.2) → He0 b = some (.tbl #[]) := fun b hb => (if_neg fun z => notT (by rw [← z]; exact hb)).trans (if_pos hb)
    have hN : ∀ b, b ≠ a → b ∉ cs.map (·.2) → He0 b = none := fun b h1 h2 => (if_neg h1).trans (if_neg h2)
    refine main He0 (fun p hp => hT _ (inT p hp)) (fun b => ?_) (.inl (.inr ⟨_, hA⟩)) (fun b u z => ?_) (fun b z => ?_) fun _ => hk
    · by_cases h1 : b = a
      · exact .inr (.inr ⟨_, _, by rw [h1]; exact hA⟩)
      · by_cases h2 : b ∈ cs.map (·.2)
        · exact .inr (.inl h2)
        · exact .inl (hN b h1 h2)
    · by_cases h1 : b = a
      · rw [h1, hA] at z
        cases z
        rw [h1]
        exact ⟨isL, by rw [List.length_map]; exact short, vs, _, rel, isL⟩
      · by_cases h2 : b ∈ cs.map (·.2)
        · rw [hT b h2] at z
          cases z
          exact tabAt b h2
        · rw [hN b h1 h2] at z; cases z
    · by_cases h1 : b = a
      · exact .inl h1
      · by_cases h2 : b ∈ cs.map (·.2)
        · exact .inr h2
        · exact absurd (hN b h1 h2) z
/-- what is known of the law at the head's heap -/
def LawAtH (l : PySem.W.OpenLaw) (w : World) (K : PySem.W.Frag) (CX : CXT) (k n : Nat) (x : Str) (mg : Str → Option Value) (fa : Addr) (h : Heap) : Prop :=
  ∃ (fd : FuncData) (cs : List (Addr × Addr)) (sp : Sp), (∀ p ∈ cs, h.get? p.2 = some { cls := .none, data := .fields #[] }) ∧ (∀ p ∈ cs, K.lookup p.2 = none) ∧ (∀ p ∈ cs, PySem.W.CodeHd h p.1 p.2) ∧ (∀ (s : Shared) (u : Value), BindsTo s fd ⟨[u], []⟩ [(x, u)]) ∧
    (∀ (H : Hp) (a : Addr) (ns : List Int), ns.length ≤ n → (∀ z ∈ ns, Builtin.Int.intBits z ≤ 1048576) → (∀ p ∈ cs, H p.2 = some (.tbl #[])) → SqL K H a (ns.map V.int) → sp [.ref a] H (fun v _ => v = .bl true) fun _ _ _ => False) ∧
    ∀ base : Heap, K.In base → base.Ns mainGlobals mg → (∀ p ∈ cs, TabB base mg p.1 p.2) → (∃ o, base.get? sysModules = some o) → FnOkG l.prog w K mg base CX k fa fd [x] sp
theorem walk_H {l : PySem.W.OpenLaw} {n k : Nat} {q : Program} {loose : List Str} {XP : (Str → Option Value) → Heap → Prop} {YP : World → Heap → Prop} {d : DefRec} {CX : World → CXT} {x : Str} (hn : l.most = some n) (hn2 : n ≤ sizeLine) (hdf : d.params.defaults = []) (room : Room k callerA) (quiet : callerA.guards = some [])
    (F : ∀ (w : World) (mg : Str → Option Value) (fa : Addr) (h : Heap), YP w h → h.Ns mainGlobals mg → mg d.name = some (.ref fa) → ∃ K : PySem.W.Frag, K.In h ∧ (∃ o es ep, h.get? sysModules = some o ∧ o.data = .dict es ep) ∧ LawAtH l w K (CX w) k n x mg fa h)
    (noX : ∀ (w : World) (H : Hp) (s : Shared) (e : Value) (s' : Shared), CX w [] H s (fun _ _ _ => False) e s' → False) : PySem.W.WalkO q loose XP YP l.row.toRowW d [] (fun f vs => PySem.call f vs) := by
  refine Att.attach_callB hn hdf fun w s0 s1 mg mb fa o pm cd doc a vs ns G Y ho hd hcd hmg hobj hints hlen hbits hg => ?_
  obtain ⟨K, inK, hsys, fd, cs, sp, h1, h2, h3, h4, h5, h6⟩ := F w mg fa _ Y G.T.g hmg
  exact law_callH inK G.T.g G.T.b G.T.builtins G.T.nolimit hg h1 h2 h3 G.T.bmain hobj hints (Nat.le_trans hlen hn2) hsys room quiet h6 h4 (fun H tH sq => h5 H a ns hlen hbits tH sq) fun H e s' => noX w H s1 e s'
end Sb
end
set_option Elab.async false
set_option linter.all false
set_option maxRecDepth 100000
set_option maxHeartbeats 0
namespace K14
open PySem PySem.Spec PyProof.Rows L2 Sb
theorem at_law {w : World} {K : PySem.W.Frag} {h : Heap} {mg : Str → Option Value} {f : Addr} (X : K.In h) (G : h.Ns mainGlobals mg) (hfa : mg "law" = some (.ref f)) (c : He.SaysX fa fn [] tf (Sb.clsB ["NoDeck", "NoName", "NoLevel"]) w h K) :
    Sb.LawAtH PySem.Challenge.rw_slideback_k14_levels_refused w K (L2.CX (PySem.Challenge.rw_slideback_k14_levels_refused).prog w) lv_law 63 "script" mg f h := by
  have cd := c.t.d
  obtain ⟨fd, F⟩ := cd.def_ 29 (d := d_law) rfl
  have gl := He.glo_ok X G (cd.fact 29 (f := .glo "law") rfl)
  have ef := hfa.symm.trans gl
  cases ef
  refine ⟨fd, tf.map (He.cT K), spM (TT (PySem.Challenge.rw_slideback_k14_levels_refused).prog w K) (M_law K) 1, fun p hp => ?_, fun p hp => ?_, fun p hp => ?_, ?_, fun H a ns _ _ hT hS => ?_, fun base Kb Gb hT Hs => ?_⟩
  · obtain ⟨q, hq, rfl⟩ := List.mem_map.mp hp
    exact c.empty q hq
  · obtain ⟨q, hq, rfl⟩ := List.mem_map.mp hp
    exact c.out q hq
  · obtain ⟨q, hq, rfl⟩ := List.mem_map.mp hp
    exact PySem.W.codeHd_of_K X (c.hd q hq)
  · have b := FunD.bindsA (ps := ["script"]) F fun _ _ _ _ _ _ us hl => match us, hl with | [_], _ => rfl
    exact fun s u => b s [u] rfl
  · obtain ⟨φ, S, d, R, r, h1, h2, h3, h4, h5⟩ := script_in (T := TT (PySem.Challenge.rw_slideback_k14_levels_refused).prog w K) hS fun p hp => by
      obtain ⟨q, hq, rfl⟩ := List.mem_map.mp hp
      exact hT q hq
    obtain ⟨S', e⟩ := law_ok (K := K) c.more h1 h2 h3 h4 h5
    exact ⟨φ, S, [d], _, R, r, rfl, e, fun φ' H' v _ _ z => z⟩
  · exact fo_law ⟨cd, Kb, Gb, fun p hp => ⟨(hT p hp).code, (hT p hp).bm, (hT p hp).gP⟩, Hs⟩ F
end K14
open PySem PySem.W PySem.Calls PyProof.Rows
set_option maxRecDepth 100000 in
set_option maxHeartbeats 0 in
theorem PySem.Challenge.cw_slideback_k14_levels_refused_holds : PySem.Challenge.rw_slideback_k14_levels_refused.Holds := by
  w_on; o_law
  refine HandSHeadRun.head_any (r := K14.R) (q := view K14.R.prog [K14.lawAt]) (H := K14.hk) (ob := K14.ob) (M := K14.steps) (loose := K14.loose) (d := HandSHeadRun.topDef K14.R.prog K14.lawAt) (kwd := []) K14.ob_eq
    (by kernel_rfl) (fun s => by kernel_rfl) K14.run (by kernel_rfl) (by kernel_rfl) (by kernel_rfl) (by rfl) (by first | assumption | decide +kernel) (by decide +kernel) ⟨rfl, rfl, rfl, rfl, rfl, by decide +kernel⟩ ?hw ?hc
  case hw => w_witness2
  case hc =>
    refine Sb.walk_H (l := PySem.Challenge.rw_slideback_k14_levels_refused) (n := 63) (k := K14.lv_law) (x := "script") (CX := L2.CX (PySem.Challenge.rw_slideback_k14_levels_refused).prog) rfl (by decide) (by kernel_rfl) ⟨rfl, by decide, by decide⟩ rfl ?F (fun _ _ _ _ _ z => Sb.cx_false z)
    intro w mg fa h Y G hmg0
    obtain ⟨⟨K, KX, c⟩, Hs⟩ := Y
    have hmg : mg ("law" : PySem.Str) = some (.ref fa) := by
      have e : (HandSHeadRun.topDef K14.R.prog K14.lawAt).name = ("law" : PySem.Str) := by kernel_rfl
      rw [← e]
      exact hmg0
    exact ⟨K, KX, Hs, K14.at_law KX G hmg c⟩

