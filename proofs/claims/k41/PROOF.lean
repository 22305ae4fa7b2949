import PyProof.Rows.All
import Wide.All
import OpenK.AllK
import Wide.FinOn
import PyProof.EqAt
import PyProof.EqKinds
import PyProof.TupleCall
import HandS.ForMost
import HandS.ForExc
import HandS.Flow
import HandS.Wide
import HandS.TupAny
import HandS.AnyAll
import HandS.SetKeys
import HandS.IsInst
import HandS.Deep
import HandS.Text
import HandS.More
import HandS.SetFor
import HandS.GenList
import HandS.Defaults
import HandS.HeadHook4
import HandS.WordsExc
import HandS.ExcOwn
import HandS.SetBool
import HandS.Iter
import KE.GoesMore
import HandS.Sort
import KE.SortData
import PyProof.ReprRoads
import HandS.MakeKwOnly
import HandS.Exc
import HandS.ExcIs
import HandS.Dict
import PyProof.StrBlock2
import HandS.Style
import HandS.WideBits
import HandS.EndTab
import HandS.HeadWalk
import HandS.Rev
import HandS.DictComp
import KE.KDictZip
import KE.GoesZip
import HandS.List
import PyProof.ListStr
import HandS.Small
import HandS.Gcd
import HandS.TupMul
import HandS.Nested
import PyProof.Rows.StrMeet
import PyProof.Rows.TmSorted
import HandS.Zip
import KE.KStateDown
import HandS.Head0
import HandS.Head1
import HandS.Head2
import HandS.HeadEnd
import HandS.HeadHook1
import HandS.HeadHook2
import HandS.HeadHook3
import HandS.Head3
import PyProof.ReprLen
import PySem.Challenge.RW_slideback_k41_steps_to_near_decks
section
set_option Elab.async false
set_option linter.all false
set_option maxRecDepth 100000
namespace Sb
open PySem PySem.Spec PyProof.Rows L2

/-! ## data, store, outcome -/
inductive D where
  | non | bl (b : Bool) | int (i : Int) | str (x : Str) | tup (ds : List D) | loc (n : Nat) | scr (ns : List Int) | fl (ds : List D) | exn (c : Addr) | fd (ks : List Key) (ds : List D)
  deriving Inhabited
inductive Ob where
  | lst (ds : List D) | dct (kvs : List (Key × D)) | ks (s : Key → Bool) (n : Nat)
  deriving Inhabited
abbrev Sto := List Ob
structure Exn where
  cls : Addr
  fs : Option (List (Str × V))
inductive Rs (α : Type) where
  | ok (a : α) (S : Sto)
  | ex (x : Exn) (S : Sto)
abbrev M (α : Type) := Sto → Option (Rs α)
def M.ret {α : Type} (a : α) : M α := fun S => some (.ok a S)
def M.bnd {α β : Type} (m : M α) (k : α → M β) : M β := fun S => match m S with
  | none => none
  | some (.ex x S1) => some (.ex x S1)
  | some (.ok a S1) => k a S1

/-! ## how data lie in the heap -/
/-- the written part, the tables of code objects that may grow -/
structure Tb where
  P : Program
  w : World
  K : PySem.W.Frag
  tabs : List Addr
/-- the script, an object that stands -/
def Scr (T : Tb) (H : Hp) (a : Addr) (ns : List Int) : Prop := (∃ o, H a = some (.frz o (.lst (ns.map V.int)))) ∨
  ∃ (o : Obj) (its : Array Value) (n : Nat), T.K.lookup a = some o ∧ o.cls = .type "list" ∧ o.dict = none ∧ o.data = .seq its n ∧ its.size ≤ sizeLine ∧ Vals (ns.map V.int) its.toList
theorem Scr.seq {T : Tb} {H : Hp} {a : Addr} {ns : List Int} (h : Scr T H a ns) : SqL T.K H a (ns.map V.int) := by
  rcases h with ⟨o, h⟩ | h
  · exact .inl (.inr ⟨o, h⟩)
  · exact .inr h
mutual
def RD (T : Tb) (H : Hp) (φ : List Addr) : D → V → Prop
  | .non, v => v = .non
  | .bl b, v => v = .bl b
  | .int i, v => v = .int i
  | .str x, v => v = .str x
  | .tup ds, v => ∃ a vs, v = .ref a ∧ H a = some (.tup vs) ∧ RDs T H φ ds vs
  | .loc n, v => ∃ a, v = .ref a ∧ φ[n]? = some a
  | .scr ns, v => ∃ a, v = .ref a ∧ Scr T H a ns
  | .fl ds, v => ∃ a vs, v = .ref a ∧ a ∉ φ ∧ H a = some (.lst vs) ∧ RDs T H φ ds vs
  | .exn c, v => ∃ (a : Addr) (oe : Obj) (vs : Array Value), v = .ref a ∧ H a = some (.frz oe (.own a)) ∧ oe.cls = .ref c ∧ oe.dict = none ∧ oe.data = .fields vs
  | .fd ks ds, v => ∃ a ws, v = .ref a ∧ a ∉ φ ∧ Rd H a (.dK ws) ∧ ws.map (·.1) = ks ∧ RDs T H φ ds (ws.map (·.2))
def RDs (T : Tb) (H : Hp) (φ : List Addr) : List D → List V → Prop
  | [], vs => vs = []
  | d :: ds, vs => ∃ v r, vs = v :: r ∧ RD T H φ d v ∧ RDs T H φ ds r
end
def RO (T : Tb) (H : Hp) (φ : List Addr) (a : Addr) : Ob → Prop
  | .lst ds => ∃ vs, H a = some (.lst vs) ∧ RDs T H φ ds vs
  | .dct kvs => ∃ ws, H a = some (.dK ws) ∧ ws.map (·.1) = kvs.map (·.1) ∧ RDs T H φ (kvs.map (·.2)) (ws.map (·.2))
  | .ks s n => H a = some (SetK T.P T.w a s n)
/-- the store lies in the heap at φ; the tables at T stand -/
structure Rel (T : Tb) (φ : List Addr) (S : Sto) (H : Hp) : Prop where
  len : φ.length = S.length
  nd : φ.Nodup
  obj : ∀ (n : Nat) o a, S[n]? = some o → φ[n]? = some a → RO T H φ a o
  tab : ∀ p ∈ T.tabs, GxR.TabG H p
structure Ext (φ : List Addr) (H : Hp) (φ' : List Addr) (H' : Hp) : Prop where
  pre : ∃ ψ, φ' = φ ++ ψ
  tup : ∀ a vs, H a = some (.tup vs) → H' a = some (.tup vs)
  frz : ∀ a o u, H a = some (.frz o u) → H' a = some (.frz o u)
  lst : ∀ a vs, a ∉ φ → H a = some (.lst vs) → H' a = some (.lst vs)
  dic : ∀ a ws, a ∉ φ → H a = some (.dK ws) → Rd H' a (.dK ws)
  nw : ∀ a, a ∈ φ' → a ∈ φ ∨ H a = none
  ded : ∀ a, H' a = none → H a = none
theorem Ext.refl {φ : List Addr} {H : Hp} : Ext φ H φ H := ⟨⟨[], by simp⟩, fun _ _ h => h, fun _ _ _ h => h, fun _ _ _ h => h, fun _ _ _ h => .inl h, fun _ h => .inl h, fun _ h => h⟩
theorem Ext.out {φ : List Addr} {H : Hp} {φ' : List Addr} {H' : Hp} (e : Ext φ H φ' H') {a : Addr} {u : HO} (ha : a ∉ φ) (h : H a = some u) : a ∉ φ' := fun z => (e.nw a z).elim ha fun q => by rw [h] at q; cases q
theorem Ext.trans {φ φ1 φ2 : List Addr} {H H1 H2 : Hp} (a : Ext φ H φ1 H1) (b : Ext φ1 H1 φ2 H2) : Ext φ H φ2 H2 := by
  have a0 := a
  obtain ⟨⟨x, rfl⟩, t1, f1, l1, k1, n1, d1⟩ := a
  obtain ⟨⟨y, rfl⟩, t2, f2, l2, k2, n2, d2⟩ := b
  exact ⟨⟨x ++ y, by simp⟩, fun p vs h => t2 p vs (t1 p vs h), fun p o u h => f2 p o u (f1 p o u h), fun p vs ha h => l2 p vs (a0.out ha h) (l1 p vs ha h), fun p ws ha h => (k1 p ws ha h).elim (fun z => k2 p ws (fun y => (n1 p y).elim ha fun q => by rw [h] at q; cases q) z) fun ⟨o, z⟩ => .inr ⟨o, f2 _ _ _ z⟩,
    fun p h => (n2 p h).elim (n1 p) fun q => .inr (d1 p q), fun p h => d1 p (d2 p h)⟩
theorem Ext.get {φ φ1 : List Addr} {H H1 : Hp} (e : Ext φ H φ1 H1) {n : Nat} {a : Addr} (h : φ[n]? = some a) : φ1[n]? = some a := by
  obtain ⟨⟨x, rfl⟩, _⟩ := e
  rw [List.getElem?_append_left (List.getElem?_eq_some_iff.mp h).1]
  exact h
mutual
theorem RD.ext {T : Tb} {φ φ1 : List Addr} {H H1 : Hp} (e : Ext φ H φ1 H1) : ∀ (d : D) (v : V), RD T H φ d v → RD T H1 φ1 d v
  | .non, v, h => h
  | .bl b, v, h => h
  | .int i, v, h => h
  | .str x, v, h => h
  | .tup ds, v, h => by
    obtain ⟨a, vs, e1, e2, e3⟩ := h
    exact ⟨a, vs, e1, e.tup a vs e2, RDs.ext e ds vs e3⟩
  | .loc n, v, h => by
    obtain ⟨a, e1, e2⟩ := h
    exact ⟨a, e1, e.get e2⟩
  | .scr ns, v, h => by
    obtain ⟨a, e1, e2⟩ := h
    exact ⟨a, e1, e2.imp (fun ⟨o, z⟩ => ⟨o, e.frz _ _ _ z⟩) id⟩
  | .fl ds, v, h => by
    obtain ⟨a, vs, e1, e2, e3, e4⟩ := h
    exact ⟨a, vs, e1, e.out e2 e3, e.lst a vs e2 e3, RDs.ext e ds vs e4⟩
  | .exn c, v, h => by
    obtain ⟨a, oe, vs, e1, e2, e3⟩ := h
    exact ⟨a, oe, vs, e1, e.frz _ _ _ e2, e3⟩
  | .fd ks ds, v, h => by
    obtain ⟨a, ws, e1, e2, e3, e4, e5⟩ := h
    refine ⟨a, ws, e1, ?_, ?_, e4, RDs.ext e ds _ e5⟩
    · rcases e3 with e3 | ⟨o, e3⟩
      · exact e.out e2 e3
      · exact e.out e2 e3
    · rcases e3 with e3 | ⟨o, e3⟩
      · exact e.dic a ws e2 e3
      · exact .inr ⟨o, e.frz _ _ _ e3⟩
theorem RDs.ext {T : Tb} {φ φ1 : List Addr} {H H1 : Hp} (e : Ext φ H φ1 H1) : ∀ (ds : List D) (vs : List V), RDs T H φ ds vs → RDs T H1 φ1 ds vs
  | [], vs, h => h
  | d :: ds, vs, h => by
    obtain ⟨v, r, e1, e2, e3⟩ := h
    exact ⟨v, r, e1, RD.ext e d v e2, RDs.ext e ds r e3⟩
end
section
variable {T : Tb} {H : Hp} {φ : List Addr}
theorem RDs.length : ∀ {ds : List D} {vs : List V}, RDs T H φ ds vs → ds.length = vs.length
  | [], _, h => by cases h; rfl
  | d :: ds, _, h => by
    obtain ⟨v, r, rfl, _, h3⟩ := h
    simp [RDs.length h3]
theorem RDs.get : ∀ {ds : List D} {vs : List V} {i : Nat} {d : D}, RDs T H φ ds vs → ds[i]? = some d → ∃ v, vs[i]? = some v ∧ RD T H φ d v
  | [], _, i, d, h, e => by simp at e
  | d0 :: ds, _, 0, d, h, e => by
    obtain ⟨v, r, rfl, h2, h3⟩ := h
    simp at e; subst e
    exact ⟨v, by simp, h2⟩
  | d0 :: ds, _, i + 1, d, h, e => by
    obtain ⟨v, r, rfl, h2, h3⟩ := h
    obtain ⟨w, e1, e2⟩ := RDs.get (i := i) (d := d) h3 (by simpa using e)
    exact ⟨w, by simpa using e1, e2⟩
theorem RDs.app : ∀ {ds es : List D} {vs ws : List V}, RDs T H φ ds vs → RDs T H φ es ws → RDs T H φ (ds ++ es) (vs ++ ws)
  | [], es, vs, ws, h, h2 => by cases h; exact h2
  | d :: ds, es, vs, ws, h, h2 => by
    obtain ⟨v, r, rfl, e2, e3⟩ := h
    exact ⟨v, r ++ ws, rfl, e2, RDs.app e3 h2⟩
theorem RDs.one {d : D} {v : V} (h : RD T H φ d v) : RDs T H φ [d] [v] := ⟨v, [], rfl, h, rfl⟩
theorem RDs.take : ∀ {ds : List D} {vs : List V} (n : Nat), RDs T H φ ds vs → RDs T H φ (ds.take n) (vs.take n)
  | _, _, 0, h => by simp; rfl
  | [], _, n + 1, h => by cases h; simp; rfl
  | d :: ds, _, n + 1, h => by
    obtain ⟨v, r, rfl, h2, h3⟩ := h
    exact ⟨v, r.take n, by simp, h2, RDs.take n h3⟩
theorem RDs.drop : ∀ {ds : List D} {vs : List V} (n : Nat), RDs T H φ ds vs → RDs T H φ (ds.drop n) (vs.drop n)
  | _, _, 0, h => h
  | [], _, n + 1, h => by cases h; simp; rfl
  | d :: ds, _, n + 1, h => by
    obtain ⟨v, r, rfl, h2, h3⟩ := h
    exact RDs.drop n h3
theorem RDs.set : ∀ {ds : List D} {vs : List V} {d : D} {v : V} (i : Nat), RDs T H φ ds vs → RD T H φ d v → RDs T H φ (ds.set i d) (vs.set i v)
  | [], _, _, _, _, h, _ => by cases h; simp; rfl
  | d0 :: ds, _, d, v, 0, h, hd => by
    obtain ⟨w, r, rfl, h2, h3⟩ := h
    exact ⟨v, r, rfl, hd, h3⟩
  | d0 :: ds, _, d, v, i + 1, h, hd => by
    obtain ⟨w, r, rfl, h2, h3⟩ := h
    exact ⟨w, r.set i v, rfl, h2, RDs.set i h3 hd⟩
theorem RDs.eraseIdx : ∀ {ds : List D} {vs : List V} (i : Nat), RDs T H φ ds vs → RDs T H φ (ds.eraseIdx i) (vs.eraseIdx i)
  | [], _, i, h => by cases h; simp; rfl
  | d0 :: ds, _, 0, h => by
    obtain ⟨w, r, rfl, h2, h3⟩ := h
    exact h3
  | d0 :: ds, _, i + 1, h => by
    obtain ⟨w, r, rfl, h2, h3⟩ := h
    exact ⟨w, r.eraseIdx i, rfl, h2, RDs.eraseIdx i h3⟩
end
theorem RO.ext {T : Tb} {φ φ1 : List Addr} {H H1 : Hp} (e : Ext φ H φ1 H1) {a : Addr} (k : H1 a = H a) : ∀ {o : Ob}, RO T H φ a o → RO T H1 φ1 a o
  | .lst ds, ⟨vs, h, r⟩ => ⟨vs, k.trans h, r.ext e _ _⟩
  | .dct kvs, ⟨ws, h, q, r⟩ => ⟨ws, k.trans h, q, r.ext e _ _⟩
  | .ks s n, h => k.trans h
theorem RO.some {T : Tb} {H : Hp} {φ : List Addr} {a : Addr} : ∀ {o : Ob}, RO T H φ a o → ∃ u, H a = some u ∧ (∀ vs, u ≠ .tup vs) ∧ (∀ ps, u ≠ .tbl ps) ∧ ∀ o w, u ≠ .frz o w
  | .lst ds, ⟨vs, h, _⟩ => ⟨_, h, (fun _ z => by cases z), (fun _ z => by cases z), fun _ _ z => by cases z⟩
  | .dct kvs, ⟨ws, h, _, _⟩ => ⟨_, h, (fun _ z => by cases z), (fun _ z => by cases z), fun _ _ z => by cases z⟩
  | .ks s n, h => ⟨_, h, (fun _ z => by cases z), (fun _ z => by cases z), fun _ _ z => by cases z⟩
theorem upd_dead {H : Hp} {p a : Addr} {u : HO} (h : upd H p u a = none) : H a = none := by
  by_cases q : a = p
  · subst q; rw [upd_same] at h; cases h
  · rw [upd_ne q] at h; exact h
theorem Ext.fresh {φ : List Addr} {H : Hp} {p : Addr} {u : HO} (n : H p = none) : Ext φ H φ (upd H p u) :=
  ⟨⟨[], by simp⟩, fun a vs h => by rw [upd_ne (ne_of_none h n)]; exact h, fun a o w h => by rw [upd_ne (ne_of_none h n)]; exact h, fun a vs _ h => by rw [upd_ne (ne_of_none h n)]; exact h, fun a vs _ h => .inl (by rw [upd_ne (ne_of_none h n)]; exact h), fun _ h => .inl h, fun _ h => upd_dead h⟩
theorem Ext.freshL {φ : List Addr} {H : Hp} {p : Addr} {u : HO} (n : H p = none) : Ext φ H (φ ++ [p]) (upd H p u) :=
  ⟨⟨[p], rfl⟩, fun a vs h => by rw [upd_ne (ne_of_none h n)]; exact h, fun a o w h => by rw [upd_ne (ne_of_none h n)]; exact h, fun a vs _ h => by rw [upd_ne (ne_of_none h n)]; exact h, fun a vs _ h => .inl (by rw [upd_ne (ne_of_none h n)]; exact h),
    fun a h => (List.mem_append.mp h).imp id fun q => by simp at q; subst q; exact n, fun _ h => upd_dead h⟩
/-- a new object that the store does not see -/
theorem Rel.garb {T : Tb} {φ : List Addr} {S : Sto} {H : Hp} {p : Addr} {u : HO} (R : Rel T φ S H) (n : H p = none) : Rel T φ S (upd H p u) ∧ Ext φ H φ (upd H p u) := by
  have e : Ext φ H φ (upd H p u) := Ext.fresh n
  refine ⟨⟨R.len, R.nd, fun i o a h1 h2 => ?_, fun q hq => ?_⟩, e⟩
  · have r := R.obj i o a h1 h2
    obtain ⟨w, hw, _⟩ := r.some
    exact r.ext e (upd_ne (ne_of_none hw n))
  · obtain ⟨ps, h, t⟩ := R.tab q hq
    exact ⟨ps, by rw [upd_ne (ne_of_none h n)]; exact h, t⟩
theorem Rel.notin {T : Tb} {φ : List Addr} {S : Sto} {H : Hp} {p : Addr} (R : Rel T φ S H) (n : H p = none) : p ∉ φ := fun hm => by
  obtain ⟨i, hi, rfl⟩ := List.getElem_of_mem hm
  have hs : i < S.length := by rw [← R.len]; exact hi
  obtain ⟨w, hw, _⟩ := (R.obj i _ _ (List.getElem?_eq_getElem hs) (List.getElem?_eq_getElem hi)).some
  rw [n] at hw; cases hw
/-- a new object of the store -/
theorem Rel.new {T : Tb} {φ : List Addr} {S : Sto} {H : Hp} {p : Addr} {u : HO} {o : Ob} (R : Rel T φ S H) (n : H p = none) (ho : RO T (upd H p u) (φ ++ [p]) p o) : Rel T (φ ++ [p]) (S ++ [o]) (upd H p u) ∧ Ext φ H (φ ++ [p]) (upd H p u) := by
  have e : Ext φ H (φ ++ [p]) (upd H p u) := Ext.freshL n
  have hp : p ∉ φ := fun hm => by
    obtain ⟨i, hi, rfl⟩ := List.getElem_of_mem hm
    have hs : i < S.length := by rw [← R.len]; exact hi
    obtain ⟨w, hw, _⟩ := (R.obj i _ _ (List.getElem?_eq_getElem hs) (List.getElem?_eq_getElem hi)).some
    rw [n] at hw; cases hw
  refine ⟨⟨by simp [R.len], ?_, fun i q a h1 h2 => ?_, fun q hq => ?_⟩, e⟩
  · rw [List.nodup_append]
    exact ⟨R.nd, by simp, fun a ha b hb => by simp at hb; subst hb; exact fun z => hp (z ▸ ha)⟩
  · by_cases hi : i < S.length
    · rw [List.getElem?_append_left hi] at h1
      rw [List.getElem?_append_left (by rw [R.len]; exact hi)] at h2
      have r := R.obj i q a h1 h2
      obtain ⟨w, hw, _⟩ := r.some
      exact r.ext e (upd_ne (ne_of_none hw n))
    · have hl : i < (S ++ [o]).length := (List.getElem?_eq_some_iff.mp h1).1
      simp at hl
      have : i = S.length := by omega
      subst this
      simp at h1
      rw [← R.len] at h2
      simp at h2
      subst h1 h2
      exact ho
  · obtain ⟨ps, h, t⟩ := R.tab q hq
    exact ⟨ps, by rw [upd_ne (ne_of_none h n)]; exact h, t⟩
/-- an object of the store is written -/
theorem Rel.put {T : Tb} {φ : List Addr} {S : Sto} {H : Hp} {i : Nat} {a : Addr} {u : HO} {o : Ob} (R : Rel T φ S H) (hi : φ[i]? = some a) (hs : i < S.length) (ho : RO T (upd H a u) φ a o) :
    Rel T φ (S.set i o) (upd H a u) ∧ Ext φ H φ (upd H a u) := by
  obtain ⟨z, hz, hz1, hz2, hz3⟩ := (R.obj i _ _ (List.getElem?_eq_getElem hs) hi).some
  have e : Ext φ H φ (upd H a u) := ⟨⟨[], by simp⟩, fun b vs h => by
    by_cases hb : b = a
    · subst hb; rw [hz] at h; cases h; exact absurd rfl (hz1 vs)
    · rw [upd_ne hb]; exact h, fun b o' w h => by
    by_cases hb : b = a
    · subst hb; rw [hz] at h; cases h; exact absurd rfl (hz3 _ _)
    · rw [upd_ne hb]; exact h, fun b vs nb h => by rw [upd_ne fun q : b = a => nb (q ▸ List.mem_of_getElem? hi)]; exact h, fun b vs nb h => .inl (by rw [upd_ne fun q : b = a => nb (q ▸ List.mem_of_getElem? hi)]; exact h), fun _ h => .inl h, fun _ h => upd_dead h⟩
  refine ⟨⟨by simp [R.len], R.nd, fun j q b h1 h2 => ?_, fun q hq => ?_⟩, e⟩
  · by_cases hj : j = i
    · subst hj
      rw [List.getElem?_set_self hs] at h1
      cases h1
      rw [hi] at h2; cases h2
      exact ho
    · rw [List.getElem?_set_ne (Ne.symm hj)] at h1
      have r := R.obj j q b h1 h2
      refine r.ext e (upd_ne fun z => ?_)
      subst z
      obtain ⟨l1, e1⟩ := List.getElem?_eq_some_iff.mp hi
      obtain ⟨l2, e2⟩ := List.getElem?_eq_some_iff.mp h2
      exact hj ((List.getElem_inj R.nd).mp (e2.trans e1.symm))
  · obtain ⟨ps, h, t⟩ := R.tab q hq
    have : q ≠ a := fun z => by
      subst z
      rw [hz] at h; cases h
      exact hz2 ps rfl
    exact ⟨ps, by rw [upd_ne this]; exact h, t⟩

/-! ## slots -/
abbrev Sl := List (Option D)
structure RSl (T : Tb) (H : Hp) (φ : List Addr) (τ : Sl) (σ : L2.St) : Prop where
  len : τ.length = σ.length
  at_ : ∀ (i : Nat) (d : D), τ[i]? = some (some d) → ∃ v, σ[i]? = some (some v) ∧ RD T H φ d v
theorem RSl.ext {T : Tb} {φ φ1 : List Addr} {H H1 : Hp} (e : Ext φ H φ1 H1) {τ : Sl} {σ : L2.St} (r : RSl T H φ τ σ) : RSl T H1 φ1 τ σ := ⟨r.len, fun i d h => by
  obtain ⟨v, h1, h2⟩ := r.at_ i d h
  exact ⟨v, h1, h2.ext e _ _⟩⟩
theorem RSl.set {T : Tb} {φ : List Addr} {H : Hp} {τ : Sl} {σ : L2.St} {d : D} {v : V} (r : RSl T H φ τ σ) (i : Nat) (h : RD T H φ d v) : RSl T H φ (τ.set i (some d)) (σ.set i (some v)) := by
  refine ⟨by simp [r.len], fun j e hj => ?_⟩
  by_cases hij : i = j
  · subst hij
    have hl : i < τ.length := by
      have := (List.getElem?_eq_some_iff.mp hj).1
      simpa using this
    rw [List.getElem?_set_self hl] at hj
    cases hj
    exact ⟨v, by rw [List.getElem?_set_self (by rw [← r.len]; exact hl)], h⟩
  · rw [List.getElem?_set_ne hij] at hj
    obtain ⟨w, h1, h2⟩ := r.at_ j e hj
    exact ⟨w, by rw [List.getElem?_set_ne hij]; exact h1, h2⟩

/-! ## readings -/
def RX (x : Exn) (d : Option Addr) (H : Hp) : Prop := match x.fs with
  | none => d = none
  | some l => ∃ a, d = some a ∧ H a = some (.xd l)
/-- what is wanted of an outcome -/
def EndE (T : Tb) (φ : List Addr) (H : Hp) (o : Rs D) (Q : VK) (W : XK) : Prop := match o with
  | .ok d S' => ∀ φ' H' v, Ext φ H φ' H' → Rel T φ' S' H' → RD T H' φ' d v → Q v H'
  | .ex x S' => ∀ φ' H' d, Ext φ H φ' H' → Rel T φ' S' H' → RX x d H' → W (.ref x.cls) d H'
def EndEs (T : Tb) (φ : List Addr) (H : Hp) (o : Rs (List D)) (Q : List V → Hp → Prop) (W : XK) : Prop := match o with
  | .ok ds S' => ∀ φ' H' vs, Ext φ H φ' H' → Rel T φ' S' H' → RDs T H' φ' ds vs → Q vs H'
  | .ex x S' => ∀ φ' H' d, Ext φ H φ' H' → Rel T φ' S' H' → RX x d H' → W (.ref x.cls) d H'
def EndB (T : Tb) (φ : List Addr) (H : Hp) (o : Rs Bool) (Q : Bool → Hp → Prop) (W : XK) : Prop := match o with
  | .ok b S' => ∀ φ' H', Ext φ H φ' H' → Rel T φ' S' H' → Q b H'
  | .ex x S' => ∀ φ' H' d, Ext φ H φ' H' → Rel T φ' S' H' → RX x d H' → W (.ref x.cls) d H'
theorem EndE.mono {T : Tb} {φ φ1 : List Addr} {H H1 : Hp} {o : Rs D} {Q : VK} {W : XK} (h : EndE T φ H o Q W) (e : Ext φ H φ1 H1) : EndE T φ1 H1 o Q W := by
  cases o with
  | ok d S => exact fun φ' H' v e' => h φ' H' v (e.trans e')
  | ex x S => exact fun φ' H' v e' => h φ' H' v (e.trans e')
theorem EndEs.mono {T : Tb} {φ φ1 : List Addr} {H H1 : Hp} {o : Rs (List D)} {Q : List V → Hp → Prop} {W : XK} (h : EndEs T φ H o Q W) (e : Ext φ H φ1 H1) : EndEs T φ1 H1 o Q W := by
  cases o with
  | ok d S => exact fun φ' H' v e' => h φ' H' v (e.trans e')
  | ex x S => exact fun φ' H' v e' => h φ' H' v (e.trans e')
theorem EndB.mono {T : Tb} {φ φ1 : List Addr} {H H1 : Hp} {o : Rs Bool} {Q : Bool → Hp → Prop} {W : XK} (h : EndB T φ H o Q W) (e : Ext φ H φ1 H1) : EndB T φ1 H1 o Q W := by
  cases o with
  | ok d S => exact fun φ' H' e' => h φ' H' (e.trans e')
  | ex x S => exact fun φ' H' v e' => h φ' H' v (e.trans e')
abbrev EF := Sl → M D
abbrev AF := Sl → M (List D)
abbrev BF := Sl → M Bool
def rdE (T : Tb) (W : WX) (f : EF) : TE := fun σ H Q => ∃ φ S τ o, Rel T φ S H ∧ RSl T H φ τ σ ∧ f τ S = some o ∧ EndE T φ H o Q fun c d H' => W c d σ H'
def rdA (T : Tb) (W : WX) (f : AF) : TA := fun σ H Q => ∃ φ S τ o, Rel T φ S H ∧ RSl T H φ τ σ ∧ f τ S = some o ∧ EndEs T φ H o Q fun c d H' => W c d σ H'
def rdT (T : Tb) (W : WX) (f : BF) : TT := fun σ H Q => ∃ φ S τ o, Rel T φ S H ∧ RSl T H φ τ σ ∧ f τ S = some o ∧ EndB T φ H o Q fun c d H' => W c d σ H'
theorem _root_.L2.PE.imp {X : Cx} {e : Expr} {t t' : TE} (h : PE X e t) (i : ∀ σ H Q, t' σ H Q → t σ H Q) : PE X e t' := ⟨fun pins s σ H Q I hq => h.run pins s σ H Q I (i σ H Q hq)⟩
theorem _root_.L2.PT.imp {X : Cx} {e : Expr} {t t' : TT} (h : PT X e t) (i : ∀ σ H Q, t' σ H Q → t σ H Q) : PT X e t' := ⟨fun pins s σ H Q I hq => h.run pins s σ H Q I (i σ H Q hq)⟩
theorem _root_.L2.PW.imp {X : Cx} {e : Expr} {t t' : TT} (h : PW X e t) (i : ∀ σ H Q, t' σ H Q → t σ H Q) : PW X e t' := ⟨fun wh pins s σ H Q I hq => h.run wh pins s σ H Q I (i σ H Q hq)⟩
theorem _root_.L2.PA.imp {X : Cx} {e : List Expr} {t t' : TA} (h : PA X e t) (i : ∀ σ H Q, t' σ H Q → t σ H Q) : PA X e t' := ⟨fun p pins s σ H Q I hq => h.run p pins s σ H Q I (i σ H Q hq)⟩
theorem _root_.L2.PS.imp {X : Cx} {e : Stmt} {t t' : TS} (h : PS X e t) (i : ∀ D σ H, t' D σ H → t D σ H) : PS X e t' := ⟨fun pins s σ H D I hq => h.run pins s σ H D I (i D σ H hq)⟩
theorem _root_.L2.PSs.imp {X : Cx} {e : List Stmt} {t t' : TS} (h : PSs X e t) (i : ∀ D σ H, t' D σ H → t D σ H) : PSs X e t' := ⟨fun pins s σ H D I hq => h.run pins s σ H D I (i D σ H hq)⟩

/-- the state behind a part -/
def At (T : Tb) (φ : List Addr) (H : Hp) (d : D) (S : Sto) (v : V) (H1 : Hp) (φ1 : List Addr) : Prop := Ext φ H φ1 H1 ∧ Rel T φ1 S H1 ∧ RD T H1 φ1 d v
theorem rdE_bnd {T : Tb} {W : WX} {a : EF} {k : D → M D} {φ : List Addr} {S : Sto} {τ : Sl} {o : Rs D} {σ : L2.St} {H : Hp} {Q : VK} (R : Rel T φ S H) (r : RSl T H φ τ σ) (h : (a τ).bnd k S = some o) (q : EndE T φ H o Q fun c d H' => W c d σ H') {Q' : VK}
    (n : ∀ d S1 v H1 φ1, At T φ H d S1 v H1 φ1 → k d S1 = some o → EndE T φ1 H1 o Q (fun c d H' => W c d σ H') → Q' v H1) : rdE T W a σ H Q' := by
  unfold M.bnd at h
  cases e : a τ S with
  | none => rw [e] at h; cases h
  | some x =>
    rw [e] at h
    refine ⟨φ, S, τ, x, R, r, e, ?_⟩
    cases x with
    | ok d S1 => exact fun φ' H' v e1 e2 e3 => n d S1 v H' φ' ⟨e1, e2, e3⟩ h (q.mono e1)
    | ex x S1 =>
      cases h
      exact q
theorem rdA_bnd {T : Tb} {W : WX} {a : AF} {k : List D → M D} {φ : List Addr} {S : Sto} {τ : Sl} {o : Rs D} {σ : L2.St} {H : Hp} {Q : VK} (R : Rel T φ S H) (r : RSl T H φ τ σ) (h : (a τ).bnd k S = some o) (q : EndE T φ H o Q fun c d H' => W c d σ H') {Q' : List V → Hp → Prop}
    (n : ∀ d S1 v H1 φ1, Ext φ H φ1 H1 → Rel T φ1 S1 H1 → RDs T H1 φ1 d v → k d S1 = some o → EndE T φ1 H1 o Q (fun c d H' => W c d σ H') → Q' v H1) : rdA T W a σ H Q' := by
  unfold M.bnd at h
  cases e : a τ S with
  | none => rw [e] at h; cases h
  | some x =>
    rw [e] at h
    refine ⟨φ, S, τ, x, R, r, e, ?_⟩
    cases x with
    | ok d S1 => exact fun φ' H' v e1 e2 e3 => n d S1 v H' φ' e1 e2 e3 h (q.mono e1)
    | ex x S1 =>
      cases h
      exact q
theorem rdT_bnd {T : Tb} {W : WX} {a : BF} {k : Bool → M D} {φ : List Addr} {S : Sto} {τ : Sl} {o : Rs D} {σ : L2.St} {H : Hp} {Q : VK} (R : Rel T φ S H) (r : RSl T H φ τ σ) (h : (a τ).bnd k S = some o) (q : EndE T φ H o Q fun c d H' => W c d σ H') {Q' : Bool → Hp → Prop}
    (n : ∀ d S1 H1 φ1, Ext φ H φ1 H1 → Rel T φ1 S1 H1 → k d S1 = some o → EndE T φ1 H1 o Q (fun c d H' => W c d σ H') → Q' d H1) : rdT T W a σ H Q' := by
  unfold M.bnd at h
  cases e : a τ S with
  | none => rw [e] at h; cases h
  | some x =>
    rw [e] at h
    refine ⟨φ, S, τ, x, R, r, e, ?_⟩
    cases x with
    | ok d S1 => exact fun φ' H' e1 e2 => n d S1 H' φ' e1 e2 h (q.mono e1)
    | ex x S1 =>
      cases h
      exact q
end Sb
end
section
set_option Elab.async false
set_option linter.all false
set_option maxRecDepth 100000
namespace Sb
open PySem PySem.Spec PyProof.Rows L2
/-! ## what is told is kept apart from the store -/
mutual
/-- all places named lie below k -/
def bd (k : Nat) : D → Bool
  | .loc n => decide (n < k)
  | .tup ds => bds k ds
  | .fl ds => bds k ds
  | .fd _ ds => bds k ds
  | _ => true
def bds (k : Nat) : List D → Bool
  | [] => true
  | d :: ds => bd k d && bds k ds
end
def bdO (k : Nat) : Ob → Bool
  | .lst ds => bds k ds
  | .dct kvs => bds k (kvs.map (·.2))
  | .ks _ _ => true
def wfk (k : Nat) (S : Sto) : Bool := S.all (bdO k)
/-- read out, lists and all -/
def rb (S : Sto) (k : Nat) : Nat → D → Option D
  | 0, d => if bd k d = true then some d else none
  | m + 1, d => if bd k d = true then some d else match d with
    | .tup ds => (ds.mapM (rb S k m)).map .tup
    | .fl ds => (ds.mapM (rb S k m)).map .fl
    | .fd ks ds => (ds.mapM (rb S k m)).map (.fd ks)
    | .loc n => match S[n]? with
      | some (.lst ds) => (ds.mapM (rb S k m)).map .fl
      | some (.dct kvs) => ((kvs.map (·.2)).mapM (rb S k m)).map (.fd (kvs.map (·.1)))
      | _ => none
    | _ => none
def fz (f : EF) : EF := fun τ S => match f τ S with
  | none => none
  | some (.ok d S1) => if wfk S.length (S1.take S.length) = true then (rb S1 S.length 8 d).map fun d' => .ok d' (S1.take S.length) else none
  | some (.ex x S1) => if wfk S.length (S1.take S.length) = true then some (.ex x (S1.take S.length)) else none
section
variable {T : Tb} {H : Hp} {φ ψ : List Addr}
mutual
theorem RD.cut : ∀ (d : D) (v : V), bd φ.length d = true → RD T H (φ ++ ψ) d v → RD T H φ d v
  | .non, v, _, h => h
  | .bl b, v, _, h => h
  | .int i, v, _, h => h
  | .str x, v, _, h => h
  | .tup ds, v, b, h => by
    obtain ⟨a, vs, e1, e2, e3⟩ := h
    exact ⟨a, vs, e1, e2, RDs.cut ds vs (by simpa [bd] using b) e3⟩
  | .loc n, v, b, h => by
    obtain ⟨a, e1, e2⟩ := h
    have hn : n < φ.length := by simpa [bd] using b
    exact ⟨a, e1, by rw [List.getElem?_append_left hn] at e2; exact e2⟩
  | .scr ns, v, _, h => h
  | .fl ds, v, b, h => by
    obtain ⟨a, vs, e1, e2, e3, e4⟩ := h
    exact ⟨a, vs, e1, fun z => e2 (List.mem_append_left _ z), e3, RDs.cut ds vs (by simpa [bd] using b) e4⟩
  | .exn c, v, _, h => h
  | .fd ks ds, v, b, h => by
    obtain ⟨a, ws, e1, e2, e3, e4, e5⟩ := h
    exact ⟨a, ws, e1, fun z => e2 (List.mem_append_left _ z), e3, e4, RDs.cut ds _ (by simpa [bd] using b) e5⟩
theorem RDs.cut : ∀ (ds : List D) (vs : List V), bds φ.length ds = true → RDs T H (φ ++ ψ) ds vs → RDs T H φ ds vs
  | [], vs, _, h => h
  | d :: ds, vs, b, h => by
    obtain ⟨v, r, e1, e2, e3⟩ := h
    simp only [bds, Bool.and_eq_true] at b
    exact ⟨v, r, e1, RD.cut d v b.1 e2, RDs.cut ds r b.2 e3⟩
end
theorem RO.cut {a : Addr} : ∀ {o : Ob}, bdO φ.length o = true → RO T H (φ ++ ψ) a o → RO T H φ a o
  | .lst ds, b, ⟨vs, h, r⟩ => ⟨vs, h, RDs.cut _ _ b r⟩
  | .dct kvs, b, ⟨ws, h, q, r⟩ => ⟨ws, h, q, RDs.cut _ _ b r⟩
  | .ks s n, _, h => h
theorem Rel.cut {S : Sto} (R : Rel T (φ ++ ψ) S H) (w : wfk φ.length (S.take φ.length) = true) : Rel T φ (S.take φ.length) H := by
  have l := R.len
  rw [List.length_append] at l
  refine ⟨by rw [List.length_take]; omega, (List.nodup_append.mp R.nd).1, fun n o a h1 h2 => ?_, R.tab⟩
  have hn : n < φ.length := (List.getElem?_eq_some_iff.mp h2).1
  have hb : bdO φ.length o = true := List.all_eq_true.mp w o (List.mem_of_getElem? h1)
  rw [List.getElem?_take_of_lt hn] at h1
  exact RO.cut hb (R.obj n o a h1 (by rw [List.getElem?_append_left hn]; exact h2))
theorem rbs_ok {S : Sto} {m : Nat} {k : Nat} (ih : ∀ (d d' : D) (v : V), rb S k m d = some d' → RD T H (φ ++ ψ) d v → RD T H φ d' v) : ∀ (ds ds' : List D) (vs : List V), ds.mapM (rb S k m) = some ds' → RDs T H (φ ++ ψ) ds vs → RDs T H φ ds' vs
  | [], ds', vs, e, h => by
    simp at e; subst e
    exact h
  | d :: ds, ds', vs, e, h => by
    obtain ⟨v, r, rfl, h1, h2⟩ := h
    rw [List.mapM_cons] at e
    simp only [Option.bind_eq_bind, Option.bind_eq_some_iff, Option.pure_def, Option.some.injEq] at e
    obtain ⟨p, e1, qs, e2, rfl⟩ := e
    exact ⟨v, r, rfl, ih d p v e1 h1, rbs_ok ih ds qs r e2 h2⟩
theorem rb_ok {S : Sto} (R : Rel T (φ ++ ψ) S H) : ∀ (m : Nat) (d d' : D) (v : V), rb S φ.length m d = some d' → RD T H (φ ++ ψ) d v → RD T H φ d' v
  | 0, d, d', v, e, h => by
    simp only [rb] at e
    split at e
    · rename_i b; cases e; exact RD.cut d v b h
    · cases e
  | m + 1, d, d', v, e, h => by
    unfold rb at e
    split at e
    · rename_i b; cases e; exact RD.cut d v b h
    · rename_i nb
      cases d with
      | tup ds =>
        simp only [Option.map_eq_some_iff] at e
        obtain ⟨ds', e1, rfl⟩ := e
        obtain ⟨a, vs, h1, h2, h3⟩ := h
        exact ⟨a, vs, h1, h2, rbs_ok (rb_ok R m) ds ds' vs e1 h3⟩
      | fl ds =>
        simp only [Option.map_eq_some_iff] at e
        obtain ⟨ds', e1, rfl⟩ := e
        obtain ⟨a, vs, h1, h2, h3, h4⟩ := h
        exact ⟨a, vs, h1, fun z => h2 (List.mem_append_left _ z), h3, rbs_ok (rb_ok R m) ds ds' vs e1 h4⟩
      | fd ks ds =>
        simp only [Option.map_eq_some_iff] at e
        obtain ⟨ds', e1, rfl⟩ := e
        obtain ⟨a, ws, h1, h2, h3, h4, h5⟩ := h
        exact ⟨a, ws, h1, fun z => h2 (List.mem_append_left _ z), h3, h4, rbs_ok (rb_ok R m) ds ds' _ e1 h5⟩
      | loc n =>
        obtain ⟨a, h1, h2⟩ := h
        simp only at e
        split at e
        · rename_i ds q
          simp only [Option.map_eq_some_iff] at e
          obtain ⟨ds', e1, rfl⟩ := e
          obtain ⟨vs, h3, h4⟩ := R.obj n _ a q h2
          refine ⟨a, vs, h1, fun z => nb ?_, h3, rbs_ok (rb_ok R m) ds ds' vs e1 h4⟩
          obtain ⟨i, hi, ei⟩ := List.getElem_of_mem z
          obtain ⟨hn, en⟩ := List.getElem?_eq_some_iff.mp h2
          have hi' : i < (φ ++ ψ).length := by rw [List.length_append]; omega
          have ei' : (φ ++ ψ)[i] = a := by rw [List.getElem_append_left hi]; exact ei
          have : i = n := (List.getElem_inj R.nd).mp (ei'.trans en.symm)
          subst this
          simp only [bd, decide_eq_true_eq]; exact hi
        · rename_i kvs q
          simp only [Option.map_eq_some_iff] at e
          obtain ⟨ds', e1, rfl⟩ := e
          obtain ⟨ws, h3, hk, h4⟩ := R.obj n _ a q h2
          refine ⟨a, ws, h1, fun z => nb ?_, .inl h3, hk, rbs_ok (rb_ok R m) _ ds' _ e1 h4⟩
          obtain ⟨i, hi, ei⟩ := List.getElem_of_mem z
          obtain ⟨hn, en⟩ := List.getElem?_eq_some_iff.mp h2
          have hi' : i < (φ ++ ψ).length := by rw [List.length_append]; omega
          have ei' : (φ ++ ψ)[i] = a := by rw [List.getElem_append_left hi]; exact ei
          have : i = n := (List.getElem_inj R.nd).mp (ei'.trans en.symm)
          subst this
          simp only [bd, decide_eq_true_eq]; exact hi
        · cases e
      | _ => cases e
end
theorem Ext.cut {φ φ' : List Addr} {H H' : Hp} (e : Ext φ H φ' H') : Ext φ H φ H' := ⟨⟨[], by simp⟩, e.tup, e.frz, e.lst, e.dic, fun _ h => .inl h, e.ded⟩
theorem fz_imp {T : Tb} {W : WX} {f : EF} {σ : L2.St} {H : Hp} {Q : VK} (h : rdE T W (fz f) σ H Q) : rdE T W f σ H Q := by
  obtain ⟨φ, S, τ, o, R, r, e, q⟩ := h
  unfold fz at e
  cases e1 : f τ S with
  | none => rw [e1] at e; cases e
  | some x =>
    rw [e1] at e
    refine ⟨φ, S, τ, x, R, r, e1, ?_⟩
    cases x with
    | ok d S1 =>
      simp only at e
      split at e
      · rename_i w
        simp only [Option.map_eq_some_iff] at e
        obtain ⟨d', e2, rfl⟩ := e
        intro φ' H' v E R' r'
        have E' := E
        obtain ⟨⟨ψ, rfl⟩, _⟩ := E'
        rw [← R.len] at w e2
        have R2 := R'.cut w
        rw [R.len] at R2
        exact q φ H' v E.cut R2 (rb_ok R' 8 d d' v e2 r')
      · cases e
    | ex x S1 =>
      simp only at e
      split at e
      · rename_i w
        cases e
        intro φ' H' v E R' r'
        have E' := E
        obtain ⟨⟨ψ, rfl⟩, _⟩ := E'
        rw [← R.len] at w
        have R2 := R'.cut w
        rw [R.len] at R2
        exact q φ H' v E.cut R2 r'
      · cases e
theorem d_fz {X : Cx} {T : Tb} {W : WX} {e : Expr} {f : EF} (h : PE X e (rdE T W f)) : PE X e (rdE T W (fz f)) := h.imp fun _ _ _ h => fz_imp h
end Sb
end
section
set_option Elab.async false
set_option linter.all false
set_option maxRecDepth 100000
set_option maxHeartbeats 4000000
namespace Sb
open PySem PySem.Spec PyProof.Rows L2

abbrev G2 := D → D → Sto → Option (D × Sto)
abbrev GN := List D → Sto → Option (D × Sto)
def lft (o : Option (D × Sto)) : Option (Rs D) := match o with
  | some (d, S) => some (.ok d S)
  | none => none
/-- what a value's rule wants, by data -/
def Fin (T : Tb) (φ : List Addr) (H : Hp) (o : Option (D × Sto)) (Q : VK) : Prop := ∃ d S', o = some (d, S') ∧ ∀ φ' H' v, Ext φ H φ' H' → Rel T φ' S' H' → RD T H' φ' d v → Q v H'
theorem Fin.of {T : Tb} {φ : List Addr} {H : Hp} {o : Option (D × Sto)} {o' : Rs D} {Q : VK} {W : XK} (h : lft o = some o') (q : EndE T φ H o' Q W) : Fin T φ H o Q := by
  cases o with
  | none => cases h
  | some p =>
    obtain ⟨d, S⟩ := p
    cases h
    exact ⟨d, S, rfl, q⟩
theorem Fin.val {T : Tb} {φ : List Addr} {S : Sto} {H : Hp} {d : D} {v : V} {Q : VK} (f : Fin T φ H (some (d, S)) Q) (R : Rel T φ S H) (r : RD T H φ d v) : Q v H := by
  obtain ⟨d', S', e, q⟩ := f
  cases e
  exact q φ H v .refl R r
/-- a new tuple -/
theorem Fin.tup {T : Tb} {φ : List Addr} {S : Sto} {H : Hp} {ds : List D} {vs : List V} {Q : VK} (f : Fin T φ H (some (.tup ds, S)) Q) (R : Rel T φ S H) (r : RDs T H φ ds vs) (p : Addr) (hp : H p = none) : Q (.ref p) (upd H p (.tup vs)) := by
  obtain ⟨d', S', e, q⟩ := f
  cases e
  obtain ⟨R1, E1⟩ := R.garb (u := .tup vs) hp
  exact q φ _ _ E1 R1 ⟨p, vs, rfl, upd_same, r.ext E1 _ _⟩
/-- a new list -/
theorem Fin.lst {T : Tb} {φ : List Addr} {S : Sto} {H : Hp} {ds : List D} {vs : List V} {Q : VK} (f : Fin T φ H (some (.loc S.length, S ++ [.lst ds])) Q) (R : Rel T φ S H) (r : RDs T H φ ds vs) (p : Addr) (hp : H p = none) : Q (.ref p) (upd H p (.lst vs)) := by
  obtain ⟨d', S', e, q⟩ := f
  cases e
  obtain ⟨R1, E1⟩ := R.garb (u := .lst vs) hp
  have E2 : Ext φ H (φ ++ [p]) (upd H p (.lst vs)) := Ext.freshL hp
  obtain ⟨R2, _⟩ := R.new (o := .lst ds) hp ⟨vs, upd_same, r.ext E2 _ _⟩
  exact q _ _ _ E2 R2 ⟨p, rfl, by rw [← R.len]; simp⟩
theorem Fin.fl {T : Tb} {φ : List Addr} {S : Sto} {H : Hp} {ds : List D} {vs : List V} {Q : VK} (f : Fin T φ H (some (.fl ds, S)) Q) (R : Rel T φ S H) (r : RDs T H φ ds vs) (p : Addr) (hp : H p = none) : Q (.ref p) (upd H p (.lst vs)) := by
  obtain ⟨d', S', e, q⟩ := f
  cases e
  obtain ⟨R1, E1⟩ := R.garb (u := .lst vs) hp
  exact q φ _ _ E1 R1 ⟨p, vs, rfl, R.notin hp, upd_same, r.ext E1 _ _⟩
theorem Ext.put {φ : List Addr} {H : Hp} {a : Addr} {us : List V} {u : HO} (hm : a ∈ φ) (ha : H a = some (.lst us)) : Ext φ H φ (upd H a u) := ⟨⟨[], by simp⟩, fun b vs h => by
    by_cases hb : b = a
    · subst hb; rw [ha] at h; cases h
    · rw [upd_ne hb]; exact h, fun b o w h => by
    by_cases hb : b = a
    · subst hb; rw [ha] at h; cases h
    · rw [upd_ne hb]; exact h, fun b vs nb h => by rw [upd_ne fun q : b = a => nb (q ▸ hm)]; exact h, fun b vs nb h => .inl (by rw [upd_ne fun q : b = a => nb (q ▸ hm)]; exact h), fun _ h => .inl h, fun _ h => upd_dead h⟩
/-- a list written -/
theorem Fin.put {T : Tb} {φ : List Addr} {S : Sto} {H : Hp} {d : D} {n : Nat} {a : Addr} {ds : List D} {vs us : List V} {v : V} {Q : VK} (f : Fin T φ H (some (d, S.set n (.lst ds))) Q) (R : Rel T φ S H) (hn : φ[n]? = some a) (hs : n < S.length) (ha : H a = some (.lst us))
    (r : RDs T H φ ds vs) (rd : RD T H φ d v) : Q v (upd H a (.lst vs)) := by
  obtain ⟨d', S', e, q⟩ := f
  cases e
  have E1 := Ext.put (φ := φ) (u := .lst vs) (List.mem_of_getElem? hn) ha
  obtain ⟨R2, _⟩ := R.put (o := .lst ds) (u := .lst vs) hn hs ⟨vs, upd_same, r.ext E1 _ _⟩
  exact q _ _ _ E1 R2 (rd.ext E1 _ _)

/-! ## sequences -/
def seqD (S : Sto) : D → Option (List D)
  | .tup ds => some ds
  | .loc n => match S[n]? with
    | some (.lst ds) => some ds
    | _ => none
  | .scr ns => some (ns.map .int)
  | .fl ds => some ds
  | _ => none
theorem ints_rds {T : Tb} {H : Hp} {φ : List Addr} : ∀ ns : List Int, RDs T H φ (ns.map D.int) (ns.map V.int)
  | [] => rfl
  | n :: ns => ⟨.int n, ns.map V.int, rfl, rfl, ints_rds ns⟩
theorem seq_sq {T : Tb} {φ : List Addr} {S : Sto} {H : Hp} {d : D} {v : V} {ds : List D} (R : Rel T φ S H) (r : RD T H φ d v) (h : seqD S d = some ds) : ∃ a vs, v = .ref a ∧ (SqL T.K H a vs ∨ SqT T.K H a vs) ∧ RDs T H φ ds vs := by
  cases d with
  | tup es =>
    cases h
    obtain ⟨a, vs, e1, e2, e3⟩ := r
    exact ⟨a, vs, e1, .inr (.of e2), e3⟩
  | loc n =>
    obtain ⟨a, e1, e2⟩ := r
    simp only [seqD] at h
    split at h
    · rename_i q
      cases h
      obtain ⟨vs, h1, h2⟩ := R.obj n _ a q e2
      exact ⟨a, vs, e1, .inl (.of h1), h2⟩
    · cases h
  | scr ns =>
    obtain ⟨a, e1, e2⟩ := r
    cases h
    exact ⟨a, _, e1, .inl e2.seq, ints_rds ns⟩
  | fl es =>
    cases h
    obtain ⟨a, vs, e1, e2, e3, e4⟩ := r
    exact ⟨a, vs, e1, .inl (.of e3), e4⟩
  | _ => cases h
def listD (S : Sto) : D → Option (List D)
  | .loc n => match S[n]? with
    | some (.lst ds) => some ds
    | _ => none
  | _ => none
theorem list_sq {T : Tb} {φ : List Addr} {S : Sto} {H : Hp} {d : D} {v : V} {ds : List D} (R : Rel T φ S H) (r : RD T H φ d v) (h : listD S d = some ds) : ∃ n a vs, d = .loc n ∧ v = .ref a ∧ S[n]? = some (.lst ds) ∧ φ[n]? = some a ∧ H a = some (.lst vs) ∧ RDs T H φ ds vs := by
  cases d with
  | loc n =>
    obtain ⟨a, e1, e2⟩ := r
    simp only [listD] at h
    split at h
    · rename_i q
      cases h
      obtain ⟨vs, h1, h2⟩ := R.obj n _ a q e2
      exact ⟨n, a, vs, rfl, e1, q, e2, h1, h2⟩
    · cases h
  | _ => cases h

/-! ## names, constants -/
section
variable {X : Cx} {T : Tb} {W : WX} {pos : Pos}
def eVar (i : Nat) : EF := fun τ S => match τ[i]? with
  | some (some d) => some (.ok d S)
  | _ => none
theorem d_var (i : Nat) {x : Str} (hN : X.N[i]? = some x := by rfl) (hv : Vis X.env.scope x := by first | exact Or.inl rfl | exact Or.inr (Or.inl rfl) | exact Or.inr (Or.inr rfl)) (hd : (x == ("__debug__" : Str)) = false := by decide)
    (hcd : (x == ("__classdict__" : Str)) = false := by decide) : PE X (.Name x pos) (rdE T W (eVar i)) :=
  (pe_var hN hv hd hcd).imp fun σ H Q h => by
    obtain ⟨φ, S, τ, o, R, r, e, q⟩ := h
    unfold eVar at e
    split at e
    · rename_i d hd
      cases e
      obtain ⟨v, h1, h2⟩ := r.at_ i d hd
      exact ⟨v, h1, q φ H v .refl R h2⟩
    · cases e
def eC (d : D) : EF := fun _ S => some (.ok d S)
theorem d_of_c {e : Expr} {v : V} (d : D) (h : PE X e (tC v)) (hd : ∀ H φ, RD T H φ d v) : PE X e (rdE T W (eC d)) := h.imp fun σ H Q h => by
  obtain ⟨φ, S, τ, o, R, r, e, q⟩ := h
  cases e
  exact q φ H v .refl R (hd H φ)
theorem d_int {i j} : PE X (.Constant (.int i) j pos) (rdE T W (eC (.int i))) := d_of_c _ pe_int fun _ _ => rfl
theorem d_bl {b j} : PE X (.Constant (.bool b) j pos) (rdE T W (eC (.bl b))) := d_of_c _ pe_bl fun _ _ => rfl
theorem d_non {j} : PE X (.Constant .none j pos) (rdE T W (eC .non)) := d_of_c _ pe_non fun _ _ => rfl
theorem d_str {x j} : PE X (.Constant (.str x) j pos) (rdE T W (eC (.str x))) := d_of_c _ pe_str fun _ _ => rfl
/-- a module's number -/
theorem d_num {x : Str} {i : Int} {t : Tok} (hg : Gl X x) (hm : X.mg x = some (.int i t)) (hd : (x == ("__debug__" : Str)) = false := by decide) : PE X (.Name x pos) (rdE T W (eC (.int i))) :=
  d_of_c _ (pe_glob (v := .int i) hg hm ⟨t, rfl⟩ hd) fun _ _ => rfl

/-! ## operators -/
variable {a b c : Expr} {fa fb fc : EF}
def eB (g : G2) (fa fb : EF) : EF := fun τ => (fa τ).bnd fun x => (fb τ).bnd fun y S => lft (g x y S)
def rG2 (T : Tb) (g : G2) : R2 := fun x y H Q => ∃ φ S d1 d2, Rel T φ S H ∧ RD T H φ d1 x ∧ RD T H φ d2 y ∧ Fin T φ H (g d1 d2 S) Q
theorem two_of {g : G2} {σ : L2.St} {H : Hp} {Q : VK} (h : rdE T W (eB g fa fb) σ H Q) : rdE T W fa σ H fun x H1 => rdE T W fb σ H1 fun y H2 => rG2 T g x y H2 Q := by
  obtain ⟨φ, S, τ, o, R, r, e, q⟩ := h
  refine rdE_bnd R r e q fun d1 S1 v1 H1 φ1 ⟨E1, R1, r1⟩ e1 q1 => ?_
  refine rdE_bnd R1 (r.ext E1) e1 q1 fun d2 S2 v2 H2 φ2 ⟨E2, R2, r2⟩ e2 q2 => ?_
  exact ⟨φ2, S2, d1, d2, R2, r1.ext E2 _ _, r2, Fin.of e2 q2⟩
theorem d_bin {op : Operator} {g : G2} (ho : OpR X (binaryOp op) (rG2 T g)) (ha : PE X a (rdE T W fa)) (hb : PE X b (rdE T W fb)) : PE X (.BinOp a op b pos) (rdE T W (eB g fa fb)) :=
  (pe_op ho ha hb).imp fun _ _ _ h => two_of h
theorem d_cmp {op : CmpOp} {g : G2} (ho : OpR X (compareOp op) (rG2 T g)) (ha : PE X a (rdE T W fa)) (hb : PE X b (rdE T W fb)) (hm : behindInMarks op b = false) : PE X (.Compare a [op] [b] pos) (rdE T W (eB g fa fb)) :=
  (pe_cmpR ho ha hb hm).imp fun _ _ _ h => two_of h
theorem OpR.imp {f : Value → Value → Sem Value} {r r' : R2} (h : OpR X f r) (i : ∀ x y H Q, r' x y H Q → r x y H Q) : OpR X f r' := fun pins s σ H x y v u Q I rx ry q => h pins s σ H x y v u Q I rx ry (i x y H Q q)

/-- the things of a list, kept or not -/
def flD (S : Sto) : D → Option (List D)
  | .fl ds => some ds
  | d => listD S d
theorem fl_sq {T : Tb} {φ : List Addr} {S : Sto} {H : Hp} {d : D} {v : V} {ds : List D} (R : Rel T φ S H) (r : RD T H φ d v) (h : flD S d = some ds) : ∃ a vs, v = .ref a ∧ H a = some (.lst vs) ∧ RDs T H φ ds vs := by
  unfold flD at h
  split at h
  · cases h
    obtain ⟨a, vs, e1, _, e2, e3⟩ := r
    exact ⟨a, vs, e1, e2, e3⟩
  · obtain ⟨n, a, vs, _, e1, _, _, e2, e3⟩ := list_sq R r h
    exact ⟨a, vs, e1, e2, e3⟩
def gAdd : G2 := fun x y S => match x, y with
  | .int i, .int j => some (.int (i + j), S)
  | .str s, .str t => if s.length + t.length ≤ sizeLine then some (.str (s ++ t), S) else none
  | .tup ds, .tup es => if ds.length + es.length ≤ sizeLine then some (.tup (ds ++ es), S) else none
  | .loc m, .loc n => match S[m]?, S[n]? with
    | some (.lst ds), some (.lst es) => if ds.length + es.length ≤ sizeLine then some (.loc S.length, S ++ [.lst (ds ++ es)]) else none
    | _, _ => none
  | .fl ds, y => (flD S y).bind fun es => if ds.length + es.length ≤ sizeLine then some (.fl (ds ++ es), S) else none
  | .loc m, .fl es => (flD S (.loc m)).bind fun ds => if ds.length + es.length ≤ sizeLine then some (.fl (ds ++ es), S) else none
  | _, _ => none
theorem o_add : OpR X (binaryOp .Add) (rG2 T gAdd) :=
  OpR.imp (OpR.or op_add (OpR.or op_add_str (OpR.or op_catA op_cat))) fun x y H Q h => by
    obtain ⟨φ, S, d1, d2, R, r1, r2, f⟩ := h
    cases d1 with
    | int i =>
      cases d2 with
      | int j => cases r1; cases r2; exact .inl ⟨i, j, rfl, rfl, f.val R rfl⟩
      | _ => obtain ⟨_, _, e, _⟩ := f; cases e
    | str s =>
      cases d2 with
      | str t =>
        cases r1; cases r2
        simp only [gAdd] at f
        split at f
        · rename_i hl
          exact .inr (.inl ⟨s, t, rfl, rfl, hl, f.val R rfl⟩)
        · obtain ⟨_, _, e, _⟩ := f; cases e
      | _ => obtain ⟨_, _, e, _⟩ := f; cases e
    | tup ds =>
      cases d2 with
      | tup es =>
        simp only [gAdd] at f
        split at f
        · rename_i hl
          have r1' := r1
          have r2' := r2
          obtain ⟨p, vs, rfl, h1, s1⟩ := r1
          obtain ⟨q, ws, rfl, h2, s2⟩ := r2
          have l1 := s1.length
          have l2 := s2.length
          refine .inr (.inr (.inl ⟨p, q, vs, ws, rfl, rfl, .of h1, .of h2, by omega, fun e => ?_, fun _ e => ?_, fun _ _ z hz => ?_⟩))
          · subst e
            have : ds = [] := List.eq_nil_of_length_eq_zero (by simpa using l1)
            subst this
            exact f.val R (by simpa using r2')
          · subst e
            have : es = [] := List.eq_nil_of_length_eq_zero (by simpa using l2)
            subst this
            exact f.val R (by simpa using r1')
          · exact f.tup R (s1.app s2) z hz
        · obtain ⟨_, _, e, _⟩ := f; cases e
      | _ => obtain ⟨_, _, e, _⟩ := f; cases e
    | loc m =>
      cases d2 with
      | loc n =>
        simp only [gAdd] at f
        split at f
        · rename_i ds es h1 h2
          split at f
          · rename_i hl
            obtain ⟨p, rfl, e1⟩ := r1
            obtain ⟨q, rfl, e2⟩ := r2
            obtain ⟨vs, k1, s1⟩ := R.obj m _ p h1 e1
            obtain ⟨ws, k2, s2⟩ := R.obj n _ q h2 e2
            have l1 := s1.length
            have l2 := s2.length
            exact .inr (.inr (.inr ⟨p, q, vs, ws, rfl, rfl, k1, k2, by omega, fun z hz => f.lst R (s1.app s2) z hz⟩))
          · obtain ⟨_, _, e, _⟩ := f; cases e
        · obtain ⟨_, _, e, _⟩ := f; cases e
      | fl es =>
        simp only [gAdd] at f
        cases e : flD S (.loc m) with
        | none => rw [e] at f; obtain ⟨_, _, e, _⟩ := f; cases e
        | some ds =>
          rw [e] at f
          simp only [Option.bind_some] at f
          split at f
          · obtain ⟨p, vs, rfl, k1, s1⟩ := fl_sq R r1 e
            obtain ⟨q, ws, rfl, _, k2, s2⟩ := r2
            have l1 := s1.length
            have l2 := s2.length
            exact .inr (.inr (.inr ⟨p, q, vs, ws, rfl, rfl, k1, k2, by omega, fun z hz => f.fl R (s1.app s2) z hz⟩))
          · obtain ⟨_, _, e, _⟩ := f; cases e
      | _ => obtain ⟨_, _, e, _⟩ := f; cases e
    | fl ds =>
      simp only [gAdd] at f
      cases e : flD S d2 with
      | none => rw [e] at f; obtain ⟨_, _, e, _⟩ := f; cases e
      | some es =>
        rw [e] at f
        simp only [Option.bind_some] at f
        split at f
        · obtain ⟨p, vs, rfl, _, k1, s1⟩ := r1
          obtain ⟨q, ws, rfl, k2, s2⟩ := fl_sq R r2 e
          have l1 := s1.length
          have l2 := s2.length
          exact .inr (.inr (.inr ⟨p, q, vs, ws, rfl, rfl, k1, k2, by omega, fun z hz => f.fl R (s1.app s2) z hz⟩))
        · obtain ⟨_, _, e, _⟩ := f; cases e
    | _ => obtain ⟨_, _, e, _⟩ := f; cases e
/-- two whole numbers under a condition -/
def gI (C : Int → Int → Bool) (g : Int → Int → D) : G2 := fun x y S => match x, y with
  | .int i, .int j => if C i j = true then some (g i j, S) else none
  | _, _ => none
theorem o_int {f : Value → Value → Sem Value} {C : Int → Int → Prop} {gv : Int → Int → V} (h : OpR X f (rI C gv)) {c : Int → Int → Bool} {g : Int → Int → D} (hc : ∀ i j, c i j = true → C i j) (hg : ∀ i j H φ, RD T H φ (g i j) (gv i j)) : OpR X f (rG2 T (gI c g)) :=
  OpR.imp h fun x y H Q h => by
    obtain ⟨φ, S, d1, d2, R, r1, r2, f⟩ := h
    cases d1 with
    | int i =>
      cases d2 with
      | int j =>
        cases r1; cases r2
        simp only [gI] at f
        split at f
        · rename_i k
          exact ⟨i, j, rfl, rfl, hc i j k, f.val R (hg _ _ _ _)⟩
        · obtain ⟨_, _, e, _⟩ := f; cases e
      | _ => obtain ⟨_, _, e, _⟩ := f; cases e
    | _ => obtain ⟨_, _, e, _⟩ := f; cases e
theorem o_int0 {f : Value → Value → Sem Value} {gv : Int → Int → V} (h : OpR X f (rI0 gv)) {g : Int → Int → D} (hg : ∀ i j H φ, RD T H φ (g i j) (gv i j)) : OpR X f (rG2 T (gI (fun _ _ => true) g)) :=
  OpR.imp h fun x y H Q h => by
    obtain ⟨φ, S, d1, d2, R, r1, r2, f⟩ := h
    cases d1 with
    | int i =>
      cases d2 with
      | int j => cases r1; cases r2; exact ⟨i, j, rfl, rfl, f.val R (hg _ _ _ _)⟩
      | _ => obtain ⟨_, _, e, _⟩ := f; cases e
    | _ => obtain ⟨_, _, e, _⟩ := f; cases e
def gSub : G2 := gI (fun _ _ => true) fun i j => .int (i - j)
theorem o_sub : OpR X (binaryOp .Sub) (rG2 T gSub) := o_int0 op_sub fun _ _ _ _ => rfl
def gMul : G2 := gI (fun i j => decide (i.natAbs.log2 + j.natAbs.log2 < 1000000)) fun i j => .int (i * j)
theorem o_mul : OpR X (binaryOp .Mult) (rG2 T gMul) := o_int op_mulW (fun i j h => show i.natAbs.log2 + j.natAbs.log2 < 1000000 from of_decide_eq_true h) fun _ _ _ _ => rfl
/-- a divisor above 0 -/
def gMod : G2 := gI (fun _ j => decide (0 < j)) fun i j => .int (i % j)
theorem o_mod : OpR X (binaryOp .Mod) (rG2 T gMod) := o_int op_mod (fun _ _ h => of_decide_eq_true h) fun _ _ _ _ => rfl
def gDiv : G2 := gI (fun _ j => decide (0 < j ∧ j.natAbs.log2 < 9000)) fun i j => .int (i / j)
theorem o_div : OpR X (binaryOp .FloorDiv) (rG2 T gDiv) := o_int op_fdivW (fun i j h => show 0 < j ∧ j.natAbs.log2 < 9000 from of_decide_eq_true h) fun _ _ _ _ => rfl
def gPow : G2 := gI (fun i j => decide (0 ≤ j ∧ j ≤ 1000000 ∧ i.natAbs < 2 ^ 64)) fun i j => .int (i ^ j.toNat)
theorem o_pow : OpR X (binaryOp .Pow) (rG2 T gPow) := o_int op_pow (fun i j h => show 0 ≤ j ∧ j ≤ 1000000 ∧ i.natAbs < 2 ^ 64 from of_decide_eq_true h) fun _ _ _ _ => rfl
def gLtI : G2 := gI (fun _ _ => true) fun i j => .bl (decide (i < j))
def gGtI : G2 := gI (fun _ _ => true) fun i j => .bl (decide (j < i))
def gGeI : G2 := gI (fun _ _ => true) fun i j => .bl (decide (j ≤ i))
theorem o_lt : OpR X (compareOp .Lt) (rG2 T gLtI) := o_int0 op_lt fun _ _ _ _ => rfl
theorem o_gt : OpR X (compareOp .Gt) (rG2 T gGtI) := o_int0 op_gt fun _ _ _ _ => rfl
theorem o_ge : OpR X (compareOp .GtE) (rG2 T gGeI) := o_int0 op_ge fun _ _ _ _ => rfl
/-- <= of whole numbers and of texts -/
def gLe : G2 := fun x y S => match x, y with
  | .int i, .int j => some (.bl (decide (i ≤ j)), S)
  | .str i, .str j => some (.bl (!decide (j.cps.toList < i.cps.toList)), S)
  | _, _ => none
theorem o_le : OpR X (compareOp .LtE) (rG2 T gLe) := OpR.imp (OpR.or op_le op_le_str) fun x y H Q h => by
  obtain ⟨φ, S, d1, d2, R, r1, r2, f⟩ := h
  cases d1 with
  | int i =>
    cases d2 with
    | int j => cases r1; cases r2; exact .inl ⟨i, j, rfl, rfl, f.val R rfl⟩
    | _ => obtain ⟨_, _, e, _⟩ := f; cases e
  | str i =>
    cases d2 with
    | str j => cases r1; cases r2; exact .inr ⟨i, j, rfl, rfl, f.val R rfl⟩
    | _ => obtain ⟨_, _, e, _⟩ := f; cases e
  | _ => obtain ⟨_, _, e, _⟩ := f; cases e

/-! ## equality of data -/
def toPy : Nat → Sto → D → Option PyData
  | 0, _, _ => none
  | n + 1, S, d => match d with
    | .non => some .none
    | .bl b => some (.bool b)
    | .int i => some (.int i)
    | .str x => some (.str x)
    | .tup ds => (ds.mapM (toPy n S)).map .tuple
    | .loc k => match S[k]? with
      | some (.lst ds) => (ds.mapM (toPy n S)).map .list
      | _ => none
    | .scr _ => none
    | .fl ds => (ds.mapM (toPy n S)).map .list
    | .exn _ => none
    | .fd _ _ => none
theorem all_dp {T : Tb} {K : PySem.W.Frag} {φ : List Addr} {S : Sto} {H : Hp} {n : Nat} (ih : ∀ d v p, RD T H φ d v → toPy n S d = some p → Dp K H v p) : ∀ (ds : List D) (vs : List V) (ps : List PyData), RDs T H φ ds vs → ds.mapM (toPy n S) = some ps → DpAll K H vs ps
  | [], vs, ps, h, e => by
    cases h
    simp at e
    subst e
    exact .nil
  | d :: ds, vs, ps, h, e => by
    obtain ⟨v, r, rfl, h1, h2⟩ := h
    rw [List.mapM_cons] at e
    simp only [Option.bind_eq_bind, Option.bind_eq_some_iff, Option.pure_def, Option.some.injEq] at e
    obtain ⟨p, e1, qs, e2, rfl⟩ := e
    exact .cons (ih d v p h1 e1) (all_dp ih ds r qs h2 e2)
theorem py_dp {K : PySem.W.Frag} {T : Tb} {φ : List Addr} {S : Sto} {H : Hp} (R : Rel T φ S H) : ∀ (n : Nat) (d : D) (v : V) (p : PyData), RD T H φ d v → toPy n S d = some p → Dp K H v p
  | 0, d, v, p, _, e => by cases e
  | n + 1, d, v, p, r, e => by
    cases d with
    | non => cases r; cases e; exact .non
    | bl b => cases r; cases e; exact .bl b
    | int i => cases r; cases e; exact .int i
    | str x => cases r; cases e; exact .str x
    | tup ds =>
      obtain ⟨a, vs, rfl, h1, h2⟩ := r
      simp only [toPy, Option.map_eq_some_iff] at e
      obtain ⟨ps, e1, rfl⟩ := e
      exact .tup (.of h1) (all_dp (py_dp R n) ds vs ps h2 e1)
    | loc k =>
      simp only [toPy] at e
      obtain ⟨a, rfl, h1⟩ := r
      split at e
      · rename_i q
        simp only [Option.map_eq_some_iff] at e
        obtain ⟨ps, e1, rfl⟩ := e
        obtain ⟨vs, k1, k2⟩ := R.obj k _ a q h1
        exact .lst (.of k1) (all_dp (py_dp R n) _ vs ps k2 e1)
      · cases e
    | scr ns => cases e
    | exn c => cases e
    | fd ks ds => cases e
    | fl ds =>
      obtain ⟨a, vs, rfl, _, h1, h2⟩ := r
      simp only [toPy, Option.map_eq_some_iff] at e
      obtain ⟨ps, e1, rfl⟩ := e
      exact .lst (.of h1) (all_dp (py_dp R n) ds vs ps h2 e1)
def gEq (neg : Bool) : G2 := fun x y S => match toPy 8 S x, toPy 8 S y with
  | some d, some e => if SeqAt.shaped d = true ∧ SeqAt.shaped e = true then some (.bl (if neg then !PyData.eqv d e else PyData.eqv d e), S) else none
  | _, _ => none
theorem eq_of {K : PySem.W.Frag} {neg : Bool} {x y : V} {H : Hp} {Q : VK} (h : rG2 T (gEq neg) x y H Q) : ∃ d e, Dp K H x d ∧ Dp K H y e ∧ SeqAt.shaped d = true ∧ SeqAt.shaped e = true ∧ Q (.bl (if neg then !PyData.eqv d e else PyData.eqv d e)) H := by
  obtain ⟨φ, S, d1, d2, R, r1, r2, f⟩ := h
  simp only [gEq] at f
  split at f
  · rename_i d e h1 h2
    split at f
    · rename_i hs
      exact ⟨d, e, py_dp R _ _ _ _ r1 h1, py_dp R _ _ _ _ r2 h2, hs.1, hs.2, f.val R rfl⟩
    · obtain ⟨_, _, z, _⟩ := f; cases z
  · obtain ⟨_, _, z, _⟩ := f; cases z
theorem o_eq (hu : X.A.units + 64 < cLine) : OpR X (compareOp .Eq) (rG2 T (gEq false)) := OpR.imp (op_eqD hu) fun _ _ _ _ h => eq_of h
theorem o_ne (hu : X.A.units + 64 < cLine) : OpR X (compareOp .NotEq) (rG2 T (gEq true)) := OpR.imp (op_neD hu) fun _ _ _ _ h => eq_of h
/-- in, not in: over a list of data -/
def gIn (neg : Bool) : G2 := fun x y S => match toPy 8 S x, toPy 8 S y with
  | some d, some (.list es) => if SeqAt.shaped d = true ∧ SeqAt.shaped (.list es) = true then some (.bl (if neg then !es.any fun z => PyData.eqv z d else es.any fun z => PyData.eqv z d), S) else none
  | _, _ => none
theorem in_of {K : PySem.W.Frag} {neg : Bool} {x y : V} {H : Hp} {Q : VK} (h : rG2 T (gIn neg) x y H Q) : ∃ d es, Dp K H x d ∧ Dp K H y (.list es) ∧ SeqAt.shaped d = true ∧ SeqAt.shaped (.list es) = true ∧ Q (.bl (if neg then !es.any fun z => PyData.eqv z d else es.any fun z => PyData.eqv z d)) H := by
  obtain ⟨φ, S, d1, d2, R, r1, r2, f⟩ := h
  simp only [gIn] at f
  split at f
  · rename_i d e h1 h2
    split at f
    · rename_i hs
      exact ⟨d, e, py_dp R _ _ _ _ r1 h1, py_dp R _ _ _ _ r2 h2, hs.1, hs.2, f.val R rfl⟩
    · obtain ⟨_, _, z, _⟩ := f; cases z
  · obtain ⟨_, _, z, _⟩ := f; cases z
theorem o_in (hu : X.A.units + 65 < cLine) : OpR X (compareOp .In) (rG2 T (gIn false)) := OpR.imp (op_inD hu) fun _ _ _ _ h => in_of h
def isNonD : D → Bool
  | .non => true
  | _ => false
theorem isNonD_ok {T : Tb} {H : Hp} {φ : List Addr} {d : D} {v : V} (r : RD T H φ d v) : decide (v = .non) = isNonD d := by
  cases d with
  | non => cases r; rfl
  | bl _ => cases r; rfl
  | int _ => cases r; rfl
  | str _ => cases r; rfl
  | tup _ => obtain ⟨a, vs, rfl, _⟩ := r; rfl
  | loc _ => obtain ⟨a, rfl, _⟩ := r; rfl
  | scr _ => obtain ⟨a, rfl, _⟩ := r; rfl
  | fl _ => obtain ⟨a, vs, rfl, _⟩ := r; rfl
  | exn _ => obtain ⟨a, oe, vs, rfl, _⟩ := r; rfl
  | fd _ _ => obtain ⟨a, ws, rfl, _⟩ := r; rfl
def gIsN (neg : Bool) : G2 := fun x y S => match y with
  | .non => some (.bl (if neg then !isNonD x else isNonD x), S)
  | _ => none
theorem isN_of {neg : Bool} {x y : V} {H : Hp} {Q : VK} (h : rG2 T (gIsN neg) x y H Q) : y = .non ∧ Q (.bl (if neg then !decide (x = .non) else decide (x = .non))) H := by
  obtain ⟨φ, S, d1, d2, R, r1, r2, f⟩ := h
  cases d2 with
  | non => cases r2; rw [isNonD_ok r1]; exact ⟨rfl, f.val R rfl⟩
  | _ => obtain ⟨_, _, z, _⟩ := f; cases z
theorem o_isN : OpR X (compareOp .Is) (rG2 T (gIsN false)) := OpR.imp op_isN fun _ _ _ _ h => isN_of h
theorem o_notN : OpR X (compareOp .IsNot) (rG2 T (gIsN true)) := OpR.imp op_notN fun _ _ _ _ h => isN_of h
end
end Sb
end
section
set_option Elab.async false
set_option linter.all false
set_option maxRecDepth 100000
set_option maxHeartbeats 4000000
namespace Sb
open PySem PySem.Spec PyProof.Rows L2

section
variable {X : Cx} {T : Tb} {W : WX} {pos : Pos}
/-! ## arguments, displays -/
def aNil : AF := fun _ S => some (.ok [] S)
def aCons (f : EF) (r : AF) : AF := fun τ => (f τ).bnd fun d => (r τ).bnd fun ds S => some (.ok (d :: ds) S)
theorem rdA_bndA {a : AF} {k : List D → M (List D)} {φ : List Addr} {S : Sto} {τ : Sl} {o : Rs (List D)} {σ : L2.St} {H : Hp} {Q : List V → Hp → Prop} (R : Rel T φ S H) (r : RSl T H φ τ σ) (h : (a τ).bnd k S = some o) (q : EndEs T φ H o Q fun c d H' => W c d σ H') {Q' : List V → Hp → Prop}
    (n : ∀ d S1 v H1 φ1, Ext φ H φ1 H1 → Rel T φ1 S1 H1 → RDs T H1 φ1 d v → k d S1 = some o → EndEs T φ1 H1 o Q (fun c d H' => W c d σ H') → Q' v H1) : rdA T W a σ H Q' := by
  unfold M.bnd at h
  cases e : a τ S with
  | none => rw [e] at h; cases h
  | some x =>
    rw [e] at h
    refine ⟨φ, S, τ, x, R, r, e, ?_⟩
    cases x with
    | ok d S1 => exact fun φ' H' v e1 e2 e3 => n d S1 v H' φ' e1 e2 e3 h (q.mono e1)
    | ex x S1 => cases h; exact q
theorem rdE_bndA {a : EF} {k : D → M (List D)} {φ : List Addr} {S : Sto} {τ : Sl} {o : Rs (List D)} {σ : L2.St} {H : Hp} {Q : List V → Hp → Prop} (R : Rel T φ S H) (r : RSl T H φ τ σ) (h : (a τ).bnd k S = some o) (q : EndEs T φ H o Q fun c d H' => W c d σ H') {Q' : VK}
    (n : ∀ d S1 v H1 φ1, At T φ H d S1 v H1 φ1 → k d S1 = some o → EndEs T φ1 H1 o Q (fun c d H' => W c d σ H') → Q' v H1) : rdE T W a σ H Q' := by
  unfold M.bnd at h
  cases e : a τ S with
  | none => rw [e] at h; cases h
  | some x =>
    rw [e] at h
    refine ⟨φ, S, τ, x, R, r, e, ?_⟩
    cases x with
    | ok d S1 => exact fun φ' H' v e1 e2 e3 => n d S1 v H' φ' ⟨e1, e2, e3⟩ h (q.mono e1)
    | ex x S1 => cases h; exact q
variable {a b c e : Expr} {es : List Expr} {fa fb fc : EF} {ra : AF}
theorem d_nil : PA X [] (rdA T W aNil) := pa_nil.imp fun σ H Q h => by
  obtain ⟨φ, S, τ, o, R, r, e, q⟩ := h
  cases e
  exact q φ H [] .refl R rfl
theorem d_cons (ha : PE X e (rdE T W fa)) (hr : PA X es (rdA T W ra)) (hs : starEach (e :: es) X.env = (false, eval e X.env) :: starEach es X.env := by rfl) : PA X (e :: es) (rdA T W (aCons fa ra)) :=
  (pa_cons ha hr hs).imp fun σ H Q h => by
    obtain ⟨φ, S, τ, o, R, r, e, q⟩ := h
    refine rdE_bndA R r e q fun d1 S1 v1 H1 φ1 ⟨E1, R1, r1⟩ e1 q1 => ?_
    refine rdA_bndA R1 (r.ext E1) e1 q1 fun d2 S2 v2 H2 φ2 E2 R2 r2 e2 q2 => ?_
    cases e2
    exact q2 φ2 H2 _ .refl R2 ⟨v1, v2, rfl, r1.ext E2 _ _, r2⟩
def eTup (r : AF) : EF := fun τ => (r τ).bnd fun ds S => if ds.length ≤ sizeLine then some (.ok (.tup ds) S) else none
def eLst (r : AF) : EF := fun τ => (r τ).bnd fun ds S => if ds.length ≤ sizeLine then some (.ok (.loc S.length) (S ++ [.lst ds])) else none
theorem d_tup {x1} (h : PA X es (rdA T W ra)) : PE X (.Tuple es x1 pos) (rdE T W (eTup ra)) := (pe_tup h).imp fun σ H Q h => by
  obtain ⟨φ, S, τ, o, R, r, e, q⟩ := h
  refine rdA_bnd R r e q fun ds S1 vs H1 φ1 E1 R1 r1 e1 q1 => ?_
  split at e1
  · rename_i hl
    cases e1
    exact ⟨by rw [← r1.length]; exact hl, fun p hp => Fin.tup (S := S1) ⟨_, _, rfl, q1⟩ R1 r1 p hp⟩
  · cases e1
theorem d_lst (h : PA X es (rdA T W ra)) : PE X (.List es pos) (rdE T W (eLst ra)) := (pe_lst h).imp fun σ H Q h => by
  obtain ⟨φ, S, τ, o, R, r, e, q⟩ := h
  refine rdA_bnd R r e q fun ds S1 vs H1 φ1 E1 R1 r1 e1 q1 => ?_
  split at e1
  · rename_i hl
    cases e1
    exact ⟨by rw [← r1.length]; exact hl, fun p hp => Fin.lst (S := S1) ⟨_, _, rfl, q1⟩ R1 r1 p hp⟩
  · cases e1

/-! ## built-ins called -/
def rGN (T : Tb) (g : GN) : List V → Hp → VK → Prop := fun xs H Q => ∃ φ S ds, Rel T φ S H ∧ RDs T H φ ds xs ∧ Fin T φ H (g ds S) Q
def eCB (g : GN) (r : AF) : EF := fun τ => (r τ).bnd fun ds S => lft (g ds S)
theorem cb_of {g : GN} {σ : L2.St} {H : Hp} {Q : VK} (h : rdE T W (eCB g ra) σ H Q) : tCB (rGN T g) (rdA T W ra) σ H Q := by
  obtain ⟨φ, S, τ, o, R, r, e, q⟩ := h
  refine rdA_bnd R r e q fun ds S1 vs H1 φ1 E1 R1 r1 e1 q1 => ?_
  exact ⟨φ1, S1, ds, R1, r1, Fin.of e1 q1⟩
theorem d_callB {id : String} {x : Str} {p : Pos} {g : GN} (hc : CallR X (.builtin id) (rGN T g)) (hg : Gl X x) (hm : X.mg x = none) (hv : bootBuiltins x = some (.builtin id)) (ha : PA X (e :: es) (rdA T W ra)) (hn : x ≠ "__name__" := by decide) (hdb : (x == ("__debug__" : Str)) = false := by decide)
    (he : starEach (e :: es) X.env = (false, eval e X.env) :: starEach es X.env := by rfl) (hpl : (backTo pos (starEach es X.env)).any (·.1) = false := by rfl) : PE X (.Call (.Name x p) (e :: es) [] pos) (rdE T W (eCB g ra)) :=
  (pe_callB hc hg hm hv ha hn hdb he hpl).imp fun _ _ _ h => cb_of h
theorem d_callTy {n : String} {x : Str} {p : Pos} {g : GN} (hc : CallR X (.type n) (rGN T g)) (hg : Gl X x) (hm : X.mg x = none) (hv : bootBuiltins x = some (.type n)) (ha : PA X (e :: es) (rdA T W ra)) (hn : x ≠ "__name__" := by decide) (hdb : (x == ("__debug__" : Str)) = false := by decide)
    (he : starEach (e :: es) X.env = (false, eval e X.env) :: starEach es X.env := by rfl) (hpl : (backTo pos (starEach es X.env)).any (·.1) = false := by rfl) : PE X (.Call (.Name x p) (e :: es) [] pos) (rdE T W (eCB g ra)) :=
  (pe_callTy hc hg hm hv ha hn hdb he hpl).imp fun _ _ _ h => cb_of h
theorem CallR.imp {f : Value} {r r' : List V → Hp → VK → Prop} (h : CallR X f r) (i : ∀ xs H Q, r' xs H Q → r xs H Q) : CallR X f r' := fun pins s σ H xs us Q I rx q => h pins s σ H xs us Q I rx (i xs H Q q)
theorem MtR.imp {f : String} {r r' : V → List V → Hp → VK → Prop} (h : MtR X f r) (i : ∀ x xs H Q, r' x xs H Q → r x xs H Q) : MtR X f r' := fun pins s σ H x xs v us Q I rx rxs q => h pins s σ H x xs v us Q I rx rxs (i x xs H Q q)
theorem IxR.imp {r r' : R2} (h : IxR X r) (i : ∀ x y H Q, r' x y H Q → r x y H Q) : IxR X r' := fun va sl pins s σ H x y v u Q I rx ry q => h va sl pins s σ H x y v u Q I rx ry (i x y H Q q)
/-- one argument -/
theorem one_of {g : D → Sto → Option (D × Sto)} {xs : List V} {H : Hp} {Q : VK} (h : rGN T (fun ds S => match ds with | [d] => g d S | _ => none) xs H Q) : ∃ φ S d v, xs = [v] ∧ Rel T φ S H ∧ RD T H φ d v ∧ Fin T φ H (g d S) Q := by
  obtain ⟨φ, S, ds, R, r, f⟩ := h
  match ds, r, f with
  | [], _, f => obtain ⟨_, _, z, _⟩ := f; cases z
  | [d], r, f =>
    obtain ⟨v, l, rfl, r1, r2⟩ := r
    cases r2
    exact ⟨φ, S, d, v, rfl, R, r1, f⟩
  | _ :: _ :: _, _, f => obtain ⟨_, _, z, _⟩ := f; cases z
theorem two_args {g : D → D → Sto → Option (D × Sto)} {xs : List V} {H : Hp} {Q : VK} (h : rGN T (fun ds S => match ds with | [d, e] => g d e S | _ => none) xs H Q) : ∃ φ S d e v w, xs = [v, w] ∧ Rel T φ S H ∧ RD T H φ d v ∧ RD T H φ e w ∧ Fin T φ H (g d e S) Q := by
  obtain ⟨φ, S, ds, R, r, f⟩ := h
  match ds, r, f with
  | [], _, f => obtain ⟨_, _, z, _⟩ := f; cases z
  | [d], _, f => obtain ⟨_, _, z, _⟩ := f; cases z
  | [d, e], r, f =>
    obtain ⟨v, l, rfl, r1, w, l2, rfl, r2, r3⟩ := r
    cases r3
    exact ⟨φ, S, d, e, v, w, rfl, R, r1, r2, f⟩
  | _ :: _ :: _ :: _, _, f => obtain ⟨_, _, z, _⟩ := f; cases z
def gLen : GN := fun ds S => match ds with
  | [d] => (fun d S => match d with
    | .str x => if x.length ≤ sizeLine then some (.int x.length, S) else none
    | d => (seqD S d).bind fun es => some (.int es.length, S)) d S
  | _ => none
theorem c_len (hK : T.K = X.K) : CallR X (.builtin "len") (rGN T gLen) := CallR.imp call_len fun xs H Q h => by
  obtain ⟨φ, S, d, v, rfl, R, r, f⟩ := one_of h
  refine ⟨v, ?_⟩
  split at f
  · rename_i x
    cases r
    split at f
    · rename_i hl
      exact ⟨x.length, rfl, ⟨hl, rfl⟩, f.val R rfl⟩
    · obtain ⟨_, _, z, _⟩ := f; cases z
  · cases e : seqD S d with
    | none => rw [e] at f; obtain ⟨_, _, z, _⟩ := f; cases z
    | some es =>
      rw [e] at f
      obtain ⟨p, vs, rfl, k, s⟩ := seq_sq R r e
      rw [hK] at k
      have l := s.length
      refine ⟨vs.length, rfl, ?_, f.val R (by rw [← l]; rfl)⟩
      rcases k with k | k
      · exact .inl ⟨vs, k, rfl⟩
      · exact .inr ⟨vs, k, rfl⟩
def gAbs : GN := fun ds S => match ds with
  | [d] => (fun d S => match d with | .int i => some (.int (if i < 0 then -i else i), S) | _ => none) d S
  | _ => none
/-- int(n), int(truth) -/
def gInt : GN := fun ds S => match ds with
  | [d] => (fun d S => match d with | .int i => some (.int i, S) | .bl b => some (.int (if b then 1 else 0), S) | _ => none) d S
  | _ => none
theorem c_int : CallR X (.type "int") (rGN T gInt) := CallR.imp call_int1 fun xs H Q h => by
  obtain ⟨φ, S, d, v, rfl, R, r, f⟩ := one_of h
  split at f
  · cases r; exact .inl ⟨_, rfl, f.val R rfl⟩
  · cases r; exact .inr ⟨_, rfl, f.val R rfl⟩
  · obtain ⟨_, _, z, _⟩ := f; cases z
def gMax2 : GN := fun ds S => match ds with
  | [d, e] => (fun d e S => match d, e with | .int i, .int j => some (.int (if j > i then j else i), S) | _, _ => none) d e S
  | _ => none
theorem c_max2 (hc : X.calm = true) : CallR X (.builtin "max") (rGN T gMax2) := CallR.imp (call_max2 hc) fun xs H Q h => by
  obtain ⟨φ, S, d, e, v, w, rfl, R, r, r2, f⟩ := two_args h
  split at f
  · cases r; cases r2; exact ⟨_, _, rfl, f.val R rfl⟩
  · obtain ⟨_, _, z, _⟩ := f; cases z
def gMin2 : GN := fun ds S => match ds with
  | [d, e] => (fun d e S => match d, e with | .int i, .int j => some (.int (if j < i then j else i), S) | _, _ => none) d e S
  | _ => none
theorem c_min2 (hc : X.calm = true) : CallR X (.builtin "min") (rGN T gMin2) := CallR.imp (call_min2 hc) fun xs H Q h => by
  obtain ⟨φ, S, d, e, v, w, rfl, R, r, r2, f⟩ := two_args h
  split at f
  · cases r; cases r2; exact ⟨_, _, rfl, f.val R rfl⟩
  · obtain ⟨_, _, z, _⟩ := f; cases z
def gTuple : GN := fun ds S => match ds with
  | [d] => (fun d S => (seqD S d).bind fun es => some (.tup es, S)) d S
  | _ => none
theorem c_tuple (hK : T.K = X.K) : CallR X (.type "tuple") (rGN T gTuple) := CallR.imp call_tuple_of fun xs H Q h => by
  obtain ⟨φ, S, d, v, rfl, R, r, f⟩ := one_of h
  cases d with
  | tup ds =>
    have r' := r
    obtain ⟨a, vs, rfl, k, s⟩ := r
    exact ⟨a, vs, rfl, .inr ⟨.of k, f.val R r'⟩⟩
  | loc n =>
    cases e : seqD S (.loc n) with
    | none => rw [e] at f; obtain ⟨_, _, z, _⟩ := f; cases z
    | some es =>
      rw [e] at f
      simp only [seqD] at e
      obtain ⟨a, rfl, h1⟩ := r
      split at e
      · rename_i q
        cases e
        obtain ⟨vs, k1, k2⟩ := R.obj n _ a q h1
        exact ⟨a, vs, rfl, .inl ⟨.of k1, fun p hp => f.tup R k2 p hp⟩⟩
      · cases e
  | scr ns =>
    obtain ⟨a, rfl, h1⟩ := r
    have q := h1.seq
    rw [hK] at q
    exact ⟨a, _, rfl, .inl ⟨q, fun p hp => f.tup R (ints_rds ns) p hp⟩⟩
  | fl es =>
    obtain ⟨a, vs, rfl, _, k, s⟩ := r
    exact ⟨a, vs, rfl, .inl ⟨.of k, fun p hp => f.tup R s p hp⟩⟩
  | _ => obtain ⟨_, _, z, _⟩ := f; cases z
def gList : GN := fun ds S => match ds with
  | [d] => (fun d S => (seqD S d).bind fun es => some (.loc S.length, S ++ [.lst es])) d S
  | _ => none
theorem c_list (hK : T.K = X.K) : CallR X (.type "list") (rGN T gList) := CallR.imp call_list_of fun xs H Q h => by
  obtain ⟨φ, S, d, v, rfl, R, r, f⟩ := one_of h
  cases e : seqD S d with
  | none => rw [e] at f; obtain ⟨_, _, z, _⟩ := f; cases z
  | some es =>
    rw [e] at f
    obtain ⟨a, vs, rfl, k, s⟩ := seq_sq R r e
    rw [hK] at k
    exact ⟨a, vs, rfl, k, fun l hl => f.lst R s l hl⟩
def intsD : List D → Option (List Int)
  | [] => some []
  | .int i :: r => (intsD r).map (i :: ·)
  | _ => none
theorem ints_ok {H : Hp} {φ : List Addr} : ∀ {ds : List D} {vs : List V} {ns : List Int}, RDs T H φ ds vs → intsD ds = some ns → vs = ns.map V.int
  | [], vs, ns, h, e => by cases h; cases e; rfl
  | d :: ds, vs, ns, h, e => by
    obtain ⟨v, r, rfl, h1, h2⟩ := h
    cases d with
    | int i =>
      cases h1
      simp only [intsD, Option.map_eq_some_iff] at e
      obtain ⟨ms, e1, rfl⟩ := e
      rw [ints_ok h2 e1]; rfl
    | _ => cases e
def maxI : List Int → Int
  | [] => 0
  | [i] => i
  | i :: r => max i (maxI r)
theorem maxI_is : ∀ (ns : List Int) (m : Int), m ∈ ns → (∀ y, y ∈ ns → y ≤ m) → m = maxI ns
  | [], m, h, _ => by cases h
  | [i], m, h, k => by
    simp at h
    exact h
  | i :: j :: r, m, h, k => by
    show m = max i (maxI (j :: r))
    rcases List.mem_cons.mp h with e | e
    · subst e
      have q : ∀ (l : List Int), l ≠ [] → maxI l ∈ l := by
        intro l
        induction l with
        | nil => intro z; exact absurd rfl z
        | cons x xs ih =>
          intro _
          cases xs with
          | nil => simp [maxI]
          | cons y ys =>
            show max x (maxI (y :: ys)) ∈ _
            by_cases hh : x ≤ maxI (y :: ys)
            · rw [Int.max_eq_right hh]; exact List.mem_cons_of_mem _ (ih (by simp))
            · rw [Int.max_eq_left (by omega)]; exact List.mem_cons_self
      have := k _ (List.mem_cons_of_mem _ (q (j :: r) (by simp)))
      omega
    · have h1 := maxI_is (j :: r) m e fun y hy => k y (List.mem_cons_of_mem _ hy)
      have h2 := k i List.mem_cons_self
      rw [← h1]; omega
/-- max of a list of whole numbers -/
def gMax1 : GN := fun ds S => match ds with
  | [d] => (fun d S => match d with
    | .loc n => (seqD S (.loc n)).bind fun es => (intsD es).bind fun ns => if ns = [] then none else some (.int (maxI ns), S)
    | .fl es => (intsD es).bind fun ns => if ns = [] then none else some (.int (maxI ns), S)
    | _ => none) d S
  | _ => none
theorem c_max1 (hK : T.K = X.K) (hc : X.calm = true) : CallR X (.builtin "max") (rGN T gMax1) := CallR.imp (cr_max hc) fun xs H Q h => by
  obtain ⟨φ, S, d, v, rfl, R, r, f⟩ := one_of h
  split at f
  · rename_i n
    cases e : seqD S (.loc n) with
    | none => rw [e] at f; obtain ⟨_, _, z, _⟩ := f; cases z
    | some es =>
      rw [e] at f
      simp only [Option.bind_some] at f
      cases e2 : intsD es with
      | none => rw [e2] at f; obtain ⟨_, _, z, _⟩ := f; cases z
      | some ns =>
        rw [e2] at f
        simp only [Option.bind_some] at f
        split at f
        · obtain ⟨_, _, z, _⟩ := f; cases z
        · rename_i hne
          obtain ⟨a, rfl, h1⟩ := r
          have key : ∃ vs, SqL X.K H a vs ∧ RDs T H φ es vs := by
            simp only [seqD] at e
            split at e
            · rename_i q
              cases e
              obtain ⟨vs, k1, k2⟩ := R.obj n _ a q h1
              exact ⟨vs, .of k1, k2⟩
            · cases e
          obtain ⟨vs, k1, k2⟩ := key
          rw [ints_ok k2 e2] at k1
          exact ⟨a, ns, rfl, k1, List.length_pos_iff.mpr hne, fun m h1 h2 => by rw [maxI_is ns m h1 h2]; exact f.val R rfl⟩
  · rename_i es
    cases e2 : intsD es with
    | none => rw [e2] at f; obtain ⟨_, _, z, _⟩ := f; cases z
    | some ns =>
      rw [e2] at f
      simp only [Option.bind_some] at f
      split at f
      · obtain ⟨_, _, z, _⟩ := f; cases z
      · rename_i hne
        obtain ⟨a, vs, rfl, _, k1, k2⟩ := r
        rw [ints_ok k2 e2] at k1
        exact ⟨a, ns, rfl, .of k1, List.length_pos_iff.mpr hne, fun m h1 h2 => by rw [maxI_is ns m h1 h2]; exact f.val R rfl⟩
  · obtain ⟨_, _, z, _⟩ := f; cases z
/-- of two numbers, or of a list -/
def gMax : GN := fun ds S => match ds with
  | [d] => gMax1 [d] S
  | ds => gMax2 ds S
theorem c_max (hK : T.K = X.K) (hc : X.calm = true) : CallR X (.builtin "max") (rGN T gMax) := CallR.imp (CallR.or (c_max1 (T := T) hK hc) (c_max2 (T := T) hc)) fun xs H Q h => by
  obtain ⟨φ, S, ds, R, r, f⟩ := h
  unfold gMax at f
  split at f
  · exact .inl ⟨φ, S, _, R, r, f⟩
  · exact .inr ⟨φ, S, _, R, r, f⟩

/-! ## subscripts, slices -/
def gIx : G2 := fun x y S => match y with
  | .int i => match x with
    | .str z => if z.length ≤ sizeLine then (atI z.cps.toList i).bind fun c => some (.str ⟨#[c]⟩, S) else none
    | x => (seqD S x).bind fun ds => (atI ds i).bind fun d => some (d, S)
  | _ => none
theorem atI_rds {H : Hp} {φ : List Addr} {ds : List D} {vs : List V} {i : Int} {d : D} (r : RDs T H φ ds vs) (h : atI ds i = some d) : ∃ v, atI vs i = some v ∧ RD T H φ d v := by
  unfold atI at h ⊢
  rw [← r.length]
  cases e : ixN ds.length i with
  | none => rw [e] at h; cases h
  | some j =>
    rw [e] at h
    exact r.get (i := j) h
theorem x_ix (hK : T.K = X.K) : IxR X (rG2 T gIx) := IxR.imp ix_seq fun x y H Q h => by
  obtain ⟨φ, S, d1, d2, R, r1, r2, f⟩ := h
  simp only [gIx] at f
  split at f
  · rename_i i
    cases r2
    split at f
    · rename_i z
      cases r1
      split at f
      · rename_i hl
        cases e : atI z.cps.toList i with
        | none => rw [e] at f; obtain ⟨_, _, z, _⟩ := f; cases z
        | some c => rw [e] at f; exact .inr (.inr ⟨z, i, c, rfl, rfl, hl, e, f.val R rfl⟩)
      · obtain ⟨_, _, z, _⟩ := f; cases z
    · cases e : seqD S d1 with
      | none => rw [e] at f; obtain ⟨_, _, z, _⟩ := f; cases z
      | some ds =>
        rw [e] at f
        simp only [Option.bind_some] at f
        cases e2 : atI ds i with
        | none => rw [e2] at f; obtain ⟨_, _, z, _⟩ := f; cases z
        | some d =>
          rw [e2] at f
          obtain ⟨a, vs, rfl, k, s⟩ := seq_sq R r1 e
          rw [hK] at k
          obtain ⟨v, h1, h2⟩ := atI_rds s e2
          rcases k with k | k
          · exact .inl ⟨a, vs, i, v, rfl, rfl, k, h1, f.val R h2⟩
          · exact .inr (.inl ⟨a, vs, i, v, rfl, rfl, k, h1, f.val R h2⟩)
  · obtain ⟨_, _, z, _⟩ := f; cases z
theorem d_ix {g : G2} (hr : IxR X (rG2 T g)) (ha : PE X a (rdE T W fa)) (hb : PE X b (rdE T W fb)) (hs : PlainIx b := by exact fun _ _ => rfl) : PE X (.Subscript a b pos) (rdE T W (eB g fa fb)) :=
  (pe_ix hr ha hb hs).imp fun _ _ _ h => two_of h
/-- an end of a slice -/
abbrev OF := Sl → M (Option Int)
def EndO (T : Tb) (φ : List Addr) (H : Hp) (o : Rs (Option Int)) (Q : Option Int → Hp → Prop) (W : XK) : Prop := match o with
  | .ok b S' => ∀ φ' H', Ext φ H φ' H' → Rel T φ' S' H' → Q b H'
  | .ex x S' => ∀ φ' H' d, Ext φ H φ' H' → Rel T φ' S' H' → RX x d H' → W (.ref x.cls) d H'
def rdO (T : Tb) (W : WX) (f : OF) : TO := fun σ H Q => ∃ φ S τ o, Rel T φ S H ∧ RSl T H φ τ σ ∧ f τ S = some o ∧ EndO T φ H o Q fun c d H' => W c d σ H'
theorem _root_.L2.PO.imp {e : Option Expr} {t t' : TO} (h : PO X e t) (i : ∀ σ H Q, t' σ H Q → t σ H Q) : PO X e t' := ⟨fun pins s σ H Q I hq => h.run pins s σ H Q I (i σ H Q hq)⟩
def oNo : OF := fun _ S => some (.ok none S)
def oSo (f : EF) : OF := fun τ => (f τ).bnd fun d S => match d with | .int i => some (.ok (some i) S) | _ => none
theorem d_noPart : PO X none (rdO T W oNo) := po_none.imp fun σ H Q h => by
  obtain ⟨φ, S, τ, o, R, r, e, q⟩ := h
  cases e
  exact q φ H .refl R
theorem d_part (h : PE X e (rdE T W fa)) : PO X (some e) (rdO T W (oSo fa)) := (po_some h).imp fun σ H Q h => by
  obtain ⟨φ, S, τ, o, R, r, e, q⟩ := h
  unfold oSo M.bnd at e
  cases e1 : fa τ S with
  | none => rw [e1] at e; cases e
  | some x =>
    rw [e1] at e
    refine ⟨φ, S, τ, x, R, r, e1, ?_⟩
    cases x with
    | ex x S1 => cases e; exact q
    | ok d S1 =>
      simp only at e
      split at e
      · cases e
        rename_i i
        exact fun φ' H' v E R' r' => by cases r'; exact ⟨i, rfl, q φ' H' E R'⟩
      · cases e
def cutD (ds : List D) (lo hi : Option Int) : List D := (ds.drop (HT.sIx ds.length 0 lo)).take (HT.sIx ds.length ds.length hi - HT.sIx ds.length 0 lo)
theorem cut_rds {H : Hp} {φ : List Addr} {ds : List D} {vs : List V} (r : RDs T H φ ds vs) (lo hi : Option Int) : RDs T H φ (cutD ds lo hi) (cutV vs lo hi) := by
  unfold cutD cutV
  rw [r.length]
  exact (r.drop _).take _
abbrev GS := D → Option Int → Option Int → Sto → Option (D × Sto)
def gSl : GS := fun x lo hi S => match x with
  | .tup ds => some (.tup (cutD ds lo hi), S)
  | .fl ds => some (.fl (cutD ds lo hi), S)
  | x => (seqD S x).bind fun ds => some (.loc S.length, S ++ [.lst (cutD ds lo hi)])
def rGS (T : Tb) (g : GS) : V → Option Int → Option Int → Hp → VK → Prop := fun x lo hi H Q => ∃ φ S d, Rel T φ S H ∧ RD T H φ d x ∧ Fin T φ H (g d lo hi S) Q
theorem SlR.imp {r r' : V → Option Int → Option Int → Hp → VK → Prop} (h : SlR X r) (i : ∀ x lo hi H Q, r' x lo hi H Q → r x lo hi H Q) : SlR X r' := by
  intro pins s σ H x v vl vu lo hi sl Q I rx hs pl pu q
  exact h pins s σ H x v vl vu lo hi sl Q I rx hs pl pu (i x lo hi H Q q)
theorem cutD_whole {ds : List D} {lo hi : Option Int} (h : HT.sIx ds.length 0 lo = 0 ∧ HT.sIx ds.length ds.length hi = ds.length) : cutD ds lo hi = ds := by
  unfold cutD
  rw [h.1, h.2]; simp
theorem s_sl (hK : T.K = X.K) : SlR X (rGS T gSl) := SlR.imp (SlR.or sl_list sl_tupA) fun x lo hi H Q h => by
  obtain ⟨φ, S, d, R, r, f⟩ := h
  simp only [gSl] at f
  split at f
  · rename_i ds
    have r' := r
    obtain ⟨a, vs, rfl, k, s⟩ := r
    have l := s.length
    refine .inr ⟨a, vs, rfl, .of k, fun hw => ?_, fun hw p hp => f.tup R (cut_rds s lo hi) p hp⟩
    rw [← l] at hw
    rw [cutD_whole hw] at f
    exact f.val R r'
  · rename_i ds
    obtain ⟨a, vs, rfl, _, k, s⟩ := r
    exact .inl ⟨a, vs, rfl, .of k, fun p hp => f.fl R (cut_rds s lo hi) p hp⟩
  · rename_i hn hn2
    cases e : seqD S d with
    | none => rw [e] at f; obtain ⟨_, _, z, _⟩ := f; cases z
    | some ds =>
      rw [e] at f
      cases d with
      | loc n =>
        obtain ⟨a, rfl, h1⟩ := r
        simp only [seqD] at e
        split at e
        · rename_i q
          cases e
          obtain ⟨vs, k1, k2⟩ := R.obj n _ a q h1
          exact .inl ⟨a, vs, rfl, .of k1, fun p hp => f.lst R (cut_rds k2 lo hi) p hp⟩
        · cases e
      | tup ds => exact absurd rfl (hn ds)
      | fl ds => exact absurd rfl (hn2 ds)
      | scr ns =>
        cases e
        obtain ⟨a, rfl, h1⟩ := r
        have q := h1.seq
        rw [hK] at q
        exact .inl ⟨a, _, rfl, q, fun p hp => f.lst R (cut_rds (ints_rds ns) lo hi) p hp⟩
      | _ => cases e
def eSl (fe : EF) (lo hi : OF) : EF := fun τ => (fe τ).bnd fun x => (lo τ).bnd fun l => (hi τ).bnd fun u S => lft (gSl x l u S)
theorem rdO_bnd {a : OF} {k : Option Int → M D} {φ : List Addr} {S : Sto} {τ : Sl} {o : Rs D} {σ : L2.St} {H : Hp} {Q : VK} (R : Rel T φ S H) (r : RSl T H φ τ σ) (h : (a τ).bnd k S = some o) (q : EndE T φ H o Q fun c d H' => W c d σ H') {Q' : Option Int → Hp → Prop}
    (n : ∀ d S1 H1 φ1, Ext φ H φ1 H1 → Rel T φ1 S1 H1 → k d S1 = some o → EndE T φ1 H1 o Q (fun c d H' => W c d σ H') → Q' d H1) : rdO T W a σ H Q' := by
  unfold M.bnd at h
  cases e : a τ S with
  | none => rw [e] at h; cases h
  | some x =>
    rw [e] at h
    refine ⟨φ, S, τ, x, R, r, e, ?_⟩
    cases x with
    | ok d S1 => exact fun φ' H' e1 e2 => n d S1 H' φ' e1 e2 h (q.mono e1)
    | ex x S1 => cases h; exact q
theorem d_sl (hK : T.K = X.K) {lo hi : Option Expr} {p2 : Pos} {fl fh : OF} (he : PE X e (rdE T W fa)) (hl : PO X lo (rdO T W fl)) (hu : PO X hi (rdO T W fh)) : PE X (.Subscript e (.Slice lo hi none p2) pos) (rdE T W (eSl fa fl fh)) :=
  (pe_slice (s_sl (T := T) hK) he hl hu).imp fun σ H Q h => by
    obtain ⟨φ, S, τ, o, R, r, e, q⟩ := h
    refine rdE_bnd R r e q fun d1 S1 v1 H1 φ1 ⟨E1, R1, r1⟩ e1 q1 => ?_
    refine rdO_bnd R1 (r.ext E1) e1 q1 fun l S2 H2 φ2 E2 R2 e2 q2 => ?_
    refine rdO_bnd R2 ((r.ext E1).ext E2) e2 q2 fun u S3 H3 φ3 E3 R3 e3 q3 => ?_
    exact ⟨φ3, S3, d1, R3, (r1.ext E2 _ _).ext E3 _ _, Fin.of e3 q3⟩

/-! ## methods of built-in types -/
abbrev GM := D → List D → Sto → Option (D × Sto)
def rGM (T : Tb) (g : GM) : V → List V → Hp → VK → Prop := fun x xs H Q => ∃ φ S d ds, Rel T φ S H ∧ RD T H φ d x ∧ RDs T H φ ds xs ∧ Fin T φ H (g d ds S) Q
/-- what has the type -/
def tyD (S : Sto) (n : String) : D → Bool
  | .str _ => decide (n = "str")
  | .loc k => match S[k]? with
    | some (.lst _) => decide (n = "list")
    | some (.dct _) => decide (n = "dict")
    | _ => false
  | .fl _ => decide (n = "list")
  | _ => false
theorem ty_ok {K : PySem.W.Frag} {φ : List Addr} {S : Sto} {H : Hp} {n : String} {d : D} {v : V} (R : Rel T φ S H) (r : RD T H φ d v) (h : tyD S n d = true) : tyV K n v H := by
  cases d with
  | str x => cases r; exact (of_decide_eq_true h : n = "str")
  | loc k =>
    obtain ⟨a, rfl, h1⟩ := r
    simp only [tyD] at h
    split at h
    · rename_i q
      obtain ⟨vs, k1, k2⟩ := R.obj k _ a q h1
      exact .inl ⟨of_decide_eq_true h, vs, .of k1⟩
    · rename_i q
      obtain ⟨ws, k1, _⟩ := R.obj k _ a q h1
      exact .inr (.inr (.inl ⟨of_decide_eq_true h, .inl ⟨ws, k1⟩⟩))
    · cases h
  | fl ds =>
    obtain ⟨a, vs, rfl, _, k1, k2⟩ := r
    exact .inl ⟨of_decide_eq_true h, vs, .of k1⟩
  | _ => cases h
def eBM (n : String) (g : GM) (fo : EF) (r : AF) : EF := fun τ => (fo τ).bnd fun x S => if tyD S n x = true then (r τ).bnd (fun ds S => lft (g x ds S)) S else none
variable {o : Expr} {fo : EF} {name : Str} {apos cpos : Pos} {n id : String} {g : GM}
theorem d_bm (pa : PlainAttrs n) (slot : Slot n name id) (hty : typeOf (.builtin id) = pure (.type "method_descriptor")) (hm : MtR X id (rGM T g)) (ho : PE X o (rdE T W fo)) (ha : PA X (e :: es) (rdA T W ra))
    (hbase : attributeBase o name X.env (eval o X.env) = eval o X.env := by rfl)
    (hfew : ((backTo cpos (starEach (e :: es) X.env)).all (fun x => !x.1) && (backToKw cpos (keywordEach [] X.env)).all (fun x => x.1.isSome)
      && decide ((e :: es).length + ([] : List Keyword).length + (if ([] : List Keyword).isEmpty then 0 else 1) < 30)) = true := by rfl)
    (hline : (apos.endLine == cpos.line) = true := by rfl) (hs : starEach (e :: es) X.env = (false, eval e X.env) :: starEach es X.env := by rfl) (hplain : (backTo cpos (starEach es X.env)).any (·.1) = false := by rfl) :
    PE X (.Call (.Attribute o name apos) (e :: es) [] cpos) (rdE T W (eBM n g fo ra)) :=
  (pe_bm pa slot hty hm ho ha hbase hfew hline hs hplain).imp fun σ H Q h => by
    obtain ⟨φ, S, τ, o, R, r, e, q⟩ := h
    refine rdE_bnd R r e q fun d1 S1 v1 H1 φ1 ⟨E1, R1, r1⟩ e1 q1 => ?_
    split at e1
    · rename_i ht
      refine ⟨ty_ok R1 r1 ht, rdA_bnd R1 (r.ext E1) e1 q1 fun ds S2 vs H2 φ2 E2 R2 r2 e2 q2 => ?_⟩
      exact ⟨φ2, S2, d1, ds, R2, r1.ext E2 _ _, r2, Fin.of e2 q2⟩
    · cases e1
theorem mem_lt {S : Sto} {n : Nat} {o : Ob} (h : S[n]? = some o) : n < S.length := (List.getElem?_eq_some_iff.mp h).1
def gAppend : GM := fun x ds S => match x, ds with
  | .loc n, [d] => (listD S (.loc n)).bind fun es => if es.length < sizeLine then some (.non, S.set n (.lst (es ++ [d]))) else none
  | _, _ => none
theorem m_append : MtR X "list.append" (rGM T gAppend) := MtR.imp mt_append fun x xs H Q h => by
  obtain ⟨φ, S, d, ds, R, r1, r2, f⟩ := h
  simp only [gAppend] at f
  split at f
  · rename_i k y
    cases e : listD S (.loc k) with
    | none => rw [e] at f; obtain ⟨_, _, z, _⟩ := f; cases z
    | some es =>
      rw [e] at f
      simp only [Option.bind_some] at f
      split at f
      · rename_i hl
        obtain ⟨m, a, vs, e1, rfl, hS, hφ, hH, s⟩ := list_sq R r1 e
        cases e1
        obtain ⟨v, l, rfl, r3, r4⟩ := r2
        cases r4
        refine ⟨a, vs, v, rfl, rfl, hH, by rw [← s.length]; exact hl, ?_⟩
        exact f.put R hφ (mem_lt hS) hH (s.app (RDs.one r3)) rfl
      · obtain ⟨_, _, z, _⟩ := f; cases z
  · obtain ⟨_, _, z, _⟩ := f; cases z
/-- xs.pop(i) -/
def gPopAt : GM := fun x ds S => match x, ds with
  | .loc n, [.int i] => (listD S (.loc n)).bind fun es => if -(2 ^ 63) ≤ i ∧ i < 2 ^ 63 then (seqIndex? i es.length).bind fun k => (es[k]?).bind fun d => some (d, S.set n (.lst (es.eraseIdx k))) else none
  | _, _ => none
theorem m_popAt : MtR X "list.pop" (rGM T gPopAt) := MtR.imp mt_popAt fun x xs H Q h => by
  obtain ⟨φ, S, d, ds, R, r1, r2, f⟩ := h
  simp only [gPopAt] at f
  split at f
  · rename_i k i
    cases e : listD S (.loc k) with
    | none => rw [e] at f; obtain ⟨_, _, z, _⟩ := f; cases z
    | some es =>
      rw [e] at f
      simp only [Option.bind_some] at f
      split at f
      · rename_i hi
        cases e2 : seqIndex? i es.length with
        | none => rw [e2] at f; obtain ⟨_, _, z, _⟩ := f; cases z
        | some j =>
          rw [e2] at f
          simp only [Option.bind_some] at f
          cases e3 : es[j]? with
          | none => rw [e3] at f; obtain ⟨_, _, z, _⟩ := f; cases z
          | some y =>
            rw [e3] at f
            obtain ⟨m, a, vs, e1, rfl, hS, hφ, hH, s⟩ := list_sq R r1 e
            cases e1
            obtain ⟨v, l, rfl, r3, r4⟩ := r2
            cases r3
            cases r4
            obtain ⟨w, h1, h2⟩ := s.get e3
            refine ⟨a, vs, i, j, w, rfl, rfl, hH, hi.1, hi.2, by rw [← s.length]; exact e2, h1, ?_⟩
            exact f.put R hφ (mem_lt hS) hH (s.eraseIdx j) h2
      · obtain ⟨_, _, z, _⟩ := f; cases z
  · obtain ⟨_, _, z, _⟩ := f; cases z
def gInsert : GM := fun x ds S => match x, ds with
  | .loc n, [.int i, d] => (listD S (.loc n)).bind fun es => if es.length < sizeLine ∧ 0 ≤ i ∧ i < 2 ^ 63 then some (.non, S.set n (.lst (es.take i.toNat ++ [d] ++ es.drop i.toNat))) else none
  | _, _ => none
end
end Sb
end
section
set_option Elab.async false
set_option linter.all false
set_option maxRecDepth 100000
set_option maxHeartbeats 4000000
namespace Sb
open PySem PySem.Spec PyProof.Rows L2

section
variable {X : Cx} {T : Tb} {W : WX} {pos : Pos}
variable {a b c e : Expr} {es rest : List Expr} {fa fb fc : EF} {ra : AF} {ta tb : BF}
/-! ## truth, tests -/
def truD (S : Sto) : D → Option Bool
  | .non => some false
  | .bl b => some b
  | .int i => some (i != 0)
  | .str x => if x.length ≤ sizeLine then some ((x.length : Int) != 0) else none
  | .tup ds => some (!ds.isEmpty)
  | .loc n => match S[n]? with
    | some (.lst ds) => some (!ds.isEmpty)
    | some (.dct kvs) => some (!kvs.isEmpty)
    | _ => none
  | .scr _ => none
  | .fl ds => some (!ds.isEmpty)
  | .exn _ => none
  | .fd _ _ => none
theorem emp_rds {H : Hp} {φ : List Addr} {ds : List D} {vs : List V} (r : RDs T H φ ds vs) : ds.isEmpty = vs.isEmpty := by
  have l := r.length
  cases ds <;> cases vs <;> simp_all
theorem tru_of {K : PySem.W.Frag} {φ : List Addr} {S : Sto} {H : Hp} {d : D} {v : V} {k : Bool} (R : Rel T φ S H) (r : RD T H φ d v) (h : truD S d = some k) : TruV K v H k := by
  cases d with
  | non => cases r; cases h; exact rfl
  | bl b => cases r; cases h; exact rfl
  | int i => cases r; cases h; exact rfl
  | str x =>
    cases r
    simp only [truD] at h
    split at h
    · rename_i hl; cases h; exact ⟨hl, rfl⟩
    · cases h
  | tup ds =>
    obtain ⟨p, vs, rfl, k1, s⟩ := r
    cases h
    exact .inr (.inl ⟨vs, .of k1, by rw [emp_rds s]⟩)
  | loc n =>
    obtain ⟨p, rfl, h1⟩ := r
    simp only [truD] at h
    split at h
    · rename_i q
      cases h
      obtain ⟨vs, k1, k2⟩ := R.obj n _ p q h1
      exact .inl ⟨vs, .of k1, by rw [emp_rds k2]⟩
    · rename_i q
      cases h
      rename_i kvs
      obtain ⟨ws, k1, k2, _⟩ := R.obj n _ p q h1
      refine .inr (.inr ⟨ws, k1, ?_⟩)
      cases ws <;> cases kvs <;> simp_all
    · cases h
  | scr ns => cases h
  | exn c => cases h
  | fd ks ds => cases h
  | fl ds =>
    obtain ⟨p, vs, rfl, _, k1, s⟩ := r
    cases h
    exact .inl ⟨vs, .of k1, by rw [emp_rds s]⟩
/-- a test by a truth -/
def tB (f : EF) : BF := fun τ => (f τ).bnd fun d S => match d with | .bl b => some (.ok b S) | _ => none
/-- a test by any value's truth -/
def tTr (f : EF) : BF := fun τ => (f τ).bnd fun d S => (truD S d).bind fun b => some (.ok b S)
theorem rdE_bndB {a : EF} {k : D → M Bool} {φ : List Addr} {S : Sto} {τ : Sl} {o : Rs Bool} {σ : L2.St} {H : Hp} {Q : Bool → Hp → Prop} (R : Rel T φ S H) (r : RSl T H φ τ σ) (h : (a τ).bnd k S = some o) (q : EndB T φ H o Q fun c d H' => W c d σ H') {Q' : VK}
    (n : ∀ d S1 v H1 φ1, At T φ H d S1 v H1 φ1 → k d S1 = some o → EndB T φ1 H1 o Q (fun c d H' => W c d σ H') → Q' v H1) : rdE T W a σ H Q' := by
  unfold M.bnd at h
  cases e : a τ S with
  | none => rw [e] at h; cases h
  | some x =>
    rw [e] at h
    refine ⟨φ, S, τ, x, R, r, e, ?_⟩
    cases x with
    | ok d S1 => exact fun φ' H' v e1 e2 e3 => n d S1 v H' φ' ⟨e1, e2, e3⟩ h (q.mono e1)
    | ex x S1 => cases h; exact q
theorem rdT_bndB {a : BF} {k : Bool → M Bool} {φ : List Addr} {S : Sto} {τ : Sl} {o : Rs Bool} {σ : L2.St} {H : Hp} {Q : Bool → Hp → Prop} (R : Rel T φ S H) (r : RSl T H φ τ σ) (h : (a τ).bnd k S = some o) (q : EndB T φ H o Q fun c d H' => W c d σ H') {Q' : Bool → Hp → Prop}
    (n : ∀ d S1 H1 φ1, Ext φ H φ1 H1 → Rel T φ1 S1 H1 → k d S1 = some o → EndB T φ1 H1 o Q (fun c d H' => W c d σ H') → Q' d H1) : rdT T W a σ H Q' := by
  unfold M.bnd at h
  cases e : a τ S with
  | none => rw [e] at h; cases h
  | some x =>
    rw [e] at h
    refine ⟨φ, S, τ, x, R, r, e, ?_⟩
    cases x with
    | ok d S1 => exact fun φ' H' e1 e2 => n d S1 H' φ' e1 e2 h (q.mono e1)
    | ex x S1 => cases h; exact q
theorem rdT_at {a : BF} {φ : List Addr} {S : Sto} {τ : Sl} {o : Rs Bool} {σ : L2.St} {H : Hp} {Q : Bool → Hp → Prop} (R : Rel T φ S H) (r : RSl T H φ τ σ) (h : a τ S = some o) (q : EndB T φ H o Q fun c d H' => W c d σ H') : rdT T W a σ H Q := ⟨φ, S, τ, o, R, r, h, q⟩
theorem rdE_at {a : EF} {φ : List Addr} {S : Sto} {τ : Sl} {o : Rs D} {σ : L2.St} {H : Hp} {Q : VK} (R : Rel T φ S H) (r : RSl T H φ τ σ) (h : a τ S = some o) (q : EndE T φ H o Q fun c d H' => W c d σ H') : rdE T W a σ H Q := ⟨φ, S, τ, o, R, r, h, q⟩
theorem tB_of {σ : L2.St} {H : Hp} {Q : Bool → Hp → Prop} (h : rdT T W (tB fa) σ H Q) : rdE T W fa σ H fun x H1 => ∃ c, x = .bl c ∧ Q c H1 := by
  obtain ⟨φ, S, τ, o, R, r, e, q⟩ := h
  refine rdE_bndB R r e q fun d1 S1 v1 H1 φ1 ⟨E1, R1, r1⟩ e1 q1 => ?_
  split at e1
  · cases e1; cases r1; exact ⟨_, rfl, q1 φ1 H1 .refl R1⟩
  · cases e1
theorem t_val (h : PE X e (rdE T W fa)) (he : ∀ whole, isTrue e X.env whole = (do let v ← whole; standAt e.pos; holding [v] (truthy v)) := by intro _; rfl) : PT X e (rdT T W (tB fa)) :=
  (pt_val h he).imp fun _ _ _ h => tB_of h
theorem t_tru (h : PE X e (rdE T W fa)) (he : ∀ whole, isTrue e X.env whole = (do let v ← whole; standAt e.pos; holding [v] (truthy v)) := by intro _; rfl) : PT X e (rdT T W (tTr fa)) :=
  (pt_truth h he).imp fun σ H Q h => by
    obtain ⟨φ, S, τ, o, R, r, e, q⟩ := h
    refine rdE_bndB R r e q fun d1 S1 v1 H1 φ1 ⟨E1, R1, r1⟩ e1 q1 => ?_
    simp only [Option.bind_eq_some_iff] at e1
    obtain ⟨k, e2, e3⟩ := e1
    cases e3
    exact ⟨k, tru_of R1 r1 e2, q1 φ1 H1 .refl R1⟩
theorem t_cmp {op : CmpOp} {g : G2} (ho : OpR X (compareOp op) (rG2 T g)) (ha : PE X a (rdE T W fa)) (hb : PE X b (rdE T W fb)) (hm : behindInMarks op b = false) : PT X (.Compare a [op] [b] pos) (rdT T W (tB (eB g fa fb))) :=
  (pt_cmpR ho ha hb hm).imp fun σ H Q h => two_of (tB_of h)
def tAn (t u : BF) : BF := fun τ => (t τ).bnd fun b => if b = true then u τ else fun S => some (.ok false S)
def tOr' (t u : BF) : BF := fun τ => (t τ).bnd fun b => if b = true then (fun S => some (.ok true S)) else u τ
def tNt (t : BF) : BF := fun τ => (t τ).bnd fun b S => some (.ok (!b) S)
theorem w_or1 (h : PT X a (rdT T W ta)) : PW X (.BoolOp .Or [a] pos) (rdT T W ta) := pw_or1 h
theorem w_or (h : PT X a (rdT T W ta)) (h2 : PW X (.BoolOp .Or (b :: rest) pos) (rdT T W tb)) : PW X (.BoolOp .Or (a :: b :: rest) pos) (rdT T W (tOr' ta tb)) := (pw_or h h2).imp fun σ H Q h => by
  obtain ⟨φ, S, τ, o, R, r, e, q⟩ := h
  refine rdT_bndB R r e q fun k S1 H1 φ1 E1 R1 e1 q1 => ?_
  cases k with
  | true => cases e1; exact q1 φ1 H1 .refl R1
  | false => exact rdT_at R1 (r.ext E1) e1 q1
theorem t_not (h : PT X a (rdT T W ta)) : PT X (.UnaryOp .Not a pos) (rdT T W (tNt ta)) := (pt_not h).imp fun σ H Q h => by
  obtain ⟨φ, S, τ, o, R, r, e, q⟩ := h
  refine rdT_bndB R r e q fun k S1 H1 φ1 E1 R1 e1 q1 => ?_
  cases e1
  exact q1 φ1 H1 .refl R1
/-! ## values by tests -/
def eIf (t : BF) (fa fb : EF) : EF := fun τ => (t τ).bnd fun b => if b = true then fa τ else fb τ
theorem d_if (h : PT X c (rdT T W ta)) (ha : PE X a (rdE T W fa)) (hb : PE X b (rdE T W fb)) : PE X (.IfExp c a b pos) (rdE T W (eIf ta fa fb)) := (pe_ifExp h ha hb).imp fun σ H Q h => by
  obtain ⟨φ, S, τ, o, R, r, e, q⟩ := h
  refine rdT_bnd R r e q fun k S1 H1 φ1 E1 R1 e1 q1 => ?_
  cases k with
  | true => exact rdE_at R1 (r.ext E1) e1 q1
  | false => exact rdE_at R1 (r.ext E1) e1 q1
def eAnd (fa fb : EF) : EF := fun τ => (fa τ).bnd fun d S => (truD S d).bind fun b => if b = true then fb τ S else some (.ok d S)
def eOr (fa fb : EF) : EF := fun τ => (fa τ).bnd fun d S => (truD S d).bind fun b => if b = true then some (.ok d S) else fb τ S
def eNot (fa : EF) : EF := fun τ => (fa τ).bnd fun d S => (truD S d).bind fun b => some (.ok (.bl (!b)) S)
theorem d_one {op} (h : PE X a (rdE T W fa)) : PE X (.BoolOp op [a] pos) (rdE T W fa) := pe_one h
theorem d_and (ha : PE X a (rdE T W fa)) (hb : PE X (.BoolOp .And (b :: rest) pos) (rdE T W fb)) : PE X (.BoolOp .And (a :: b :: rest) pos) (rdE T W (eAnd fa fb)) := (pe_andT ha hb).imp fun σ H Q h => by
  obtain ⟨φ, S, τ, o, R, r, e, q⟩ := h
  refine rdE_bnd R r e q fun d S1 v H1 φ1 ⟨E1, R1, r1⟩ e1 q1 => ?_
  simp only [Option.bind_eq_some_iff] at e1
  obtain ⟨k, e2, e3⟩ := e1
  refine ⟨k, tru_of R1 r1 e2, ?_⟩
  cases k with
  | true => exact rdE_at R1 (r.ext E1) e3 q1
  | false => cases e3; exact q1 φ1 H1 v .refl R1 r1
theorem d_not (ha : PE X a (rdE T W fa)) : PE X (.UnaryOp .Not a pos) (rdE T W (eNot fa)) := (pe_notT ha).imp fun σ H Q h => by
  obtain ⟨φ, S, τ, o, R, r, e, q⟩ := h
  refine rdE_bnd R r e q fun d S1 v H1 φ1 ⟨E1, R1, r1⟩ e1 q1 => ?_
  simp only [Option.bind_eq_some_iff] at e1
  obtain ⟨k, e2, e3⟩ := e1
  cases e3
  exact ⟨k, tru_of R1 r1 e2, q1 φ1 H1 _ .refl R1 rfl⟩
/-- a < b < c -/
def eCh (g g' : G2) (fa fb fc : EF) : EF := fun τ => (fa τ).bnd fun x => (fb τ).bnd fun y S => match g x y S with
  | some (.bl true, S1) => (fc τ).bnd (fun z S => lft (g' y z S)) S1
  | some (.bl false, S1) => some (.ok (.bl false) S1)
  | _ => none
theorem d_chain {op op' : CmpOp} {g g' : G2} (ho : OpR X (compareOp op) (rG2 T g)) (ho' : OpR X (compareOp op') (rG2 T g')) (ha : PE X a (rdE T W fa)) (hb : PE X b (rdE T W fb)) (hc : PE X c (rdE T W fc)) (hlm : lastMarks [op, op'] [b, c] = false := by with_unfolding_all rfl) :
    PE X (.Compare a [op, op'] [b, c] pos) (rdE T W (eCh g g' fa fb fc)) := (pe_chain ho ho' ha hb hc hlm).imp fun σ H Q h => by
  obtain ⟨φ, S, τ, o, R, r, e, q⟩ := h
  refine rdE_bnd R r e q fun d1 S1 v1 H1 φ1 ⟨E1, R1, r1⟩ e1 q1 => ?_
  refine rdE_bnd R1 (r.ext E1) e1 q1 fun d2 S2 v2 H2 φ2 ⟨E2, R2, r2⟩ e2 q2 => ?_
  split at e2
  · rename_i S3 eg
    refine ⟨φ2, S2, d1, d2, R2, r1.ext E2 _ _, r2, _, _, eg, fun φ3 H3 v3 E3 R3 r3 => ?_⟩
    cases r3
    refine ⟨true, rfl, ?_⟩
    rw [if_pos rfl]
    refine rdE_bnd R3 (((r.ext E1).ext E2).ext E3) e2 (q2.mono E3) fun d4 S4 v4 H4 φ4 ⟨E4, R4, r4⟩ e4 q4 => ?_
    exact ⟨φ4, S4, d2, d4, R4, (r2.ext E3 _ _).ext E4 _ _, r4, Fin.of e4 q4⟩
  · rename_i S3 eg
    cases e2
    refine ⟨φ2, S2, d1, d2, R2, r1.ext E2 _ _, r2, _, _, eg, fun φ3 H3 v3 E3 R3 r3 => ?_⟩
    cases r3
    refine ⟨false, rfl, ?_⟩
    rw [if_neg (by decide)]
    exact q2 φ3 H3 _ E3 R3 rfl
  · cases e2

/-! ## isinstance -/
def kindD (S : Sto) : D → Option String
  | .non => some "NoneType"
  | .bl _ => some "bool"
  | .int _ => some "int"
  | .str _ => some "str"
  | .tup _ => some "tuple"
  | .loc n => match S[n]? with
    | some (.lst _) => some "list"
    | some (.dct _) => some "dict"
    | _ => none
  | .scr _ => none
  | .fl _ => some "list"
  | .exn _ => none
  | .fd _ _ => some "dict"
theorem kind_ok {K : PySem.W.Frag} {φ : List Addr} {S : Sto} {H : Hp} {d : D} {v : V} {k : String} (R : Rel T φ S H) (r : RD T H φ d v) (h : kindD S d = some k) : TyX K H v (.type k) := by
  cases d with
  | non => cases r; cases h; exact .base .non
  | bl b => cases r; cases h; exact .base (.bl b)
  | int i => cases r; cases h; exact .base (.int i)
  | str x => cases r; cases h; exact .base (.str x)
  | tup ds => obtain ⟨p, vs, rfl, k1, s⟩ := r; cases h; exact .base (.tup k1)
  | loc n =>
    obtain ⟨p, rfl, h1⟩ := r
    simp only [kindD] at h
    split at h
    · rename_i q; cases h; obtain ⟨vs, k1, k2⟩ := R.obj n _ p q h1; exact .base (.lst k1)
    · rename_i q; cases h; obtain ⟨ws, k1, _⟩ := R.obj n _ p q h1; exact .base (.dK k1)
    · cases h
  | scr ns => cases h
  | exn c => cases h
  | fd ks ds =>
    obtain ⟨p, ws, rfl, _, k1, _⟩ := r
    cases h
    rcases k1 with k1 | ⟨o, k1⟩
    · exact .base (.dK k1)
    · exact .fDict k1
  | fl ds => obtain ⟨p, vs, rfl, _, k1, s⟩ := r; cases h; exact .base (.lst k1)
def eIs (n : String) (f : EF) : EF := fun τ => (f τ).bnd fun d S => (kindD S d).bind fun k => (kitB k n).bind fun b => some (.ok (.bl b) S)
theorem d_is {n : String} {y : Str} {p p2 : Pos} (hg : Gl X "isinstance") (hm : X.mg "isinstance" = none) (hg2 : Gl X y) (hm2 : X.mg y = none) (hv2 : bootBuiltins y = some (.type n)) (he : PE X e (rdE T W fa))
    (hn : y ≠ "__name__" := by decide) (hd : (y == ("__debug__" : Str)) = false := by decide)
    (hs : starEach [e, .Name y p2] X.env = (false, eval e X.env) :: starEach [.Name y p2] X.env := by rfl) (hpl : (backTo pos (starEach [.Name y p2] X.env)).any (·.1) = false := by rfl) :
    PE X (.Call (.Name "isinstance" p) [e, .Name y p2] [] pos) (rdE T W (eIs n fa)) :=
  (pe_callB call_isi hg hm (by decide +kernel) (pa_cons he (pa_cons (pe_bltn (v := .ty n) hg2 hm2 hv2 rfl hn hd) pa_nil) hs) (by decide) (by decide) hs hpl).imp fun σ H Q h => by
    obtain ⟨φ, S, τ, o, R, r, e, q⟩ := h
    refine rdE_bnd R r e q fun d S1 v H1 φ1 ⟨E1, R1, r1⟩ e1 q1 => ?_
    simp only [Option.bind_eq_some_iff] at e1
    obtain ⟨k, e2, b, e3, e4⟩ := e1
    cases e4
    exact ⟨v, .ty n, .type k, .type n, b, rfl, .ty n, kind_ok R1 r1 e2, kit_ty e3, q1 φ1 H1 _ .refl R1 rfl⟩
def eIs2 (n m : String) (f : EF) : EF := fun τ => (f τ).bnd fun d S => (kindD S d).bind fun k => (kitB k n).bind fun b => (kitB k m).bind fun b2 => some (.ok (.bl (b || b2)) S)
theorem d_is2 {n m : String} {y z : Str} {p p2 p3 p4 : Pos} {x1} (hg : Gl X "isinstance") (hm : X.mg "isinstance" = none) (hg2 : Gl X y) (hm2 : X.mg y = none) (hv2 : bootBuiltins y = some (.type n)) (hg3 : Gl X z) (hm3 : X.mg z = none) (hv3 : bootBuiltins z = some (.type m)) (he : PE X e (rdE T W fa))
    (hn : y ≠ "__name__" := by decide) (hd : (y == ("__debug__" : Str)) = false := by decide) (hn3 : z ≠ "__name__" := by decide) (hd3 : (z == ("__debug__" : Str)) = false := by decide)
    (hs : starEach [e, .Tuple [.Name y p2, .Name z p3] x1 p4] X.env = (false, eval e X.env) :: starEach [.Tuple [.Name y p2, .Name z p3] x1 p4] X.env := by rfl) (hpl : (backTo pos (starEach [.Tuple [.Name y p2, .Name z p3] x1 p4] X.env)).any (·.1) = false := by rfl) :
    PE X (.Call (.Name "isinstance" p) [e, .Tuple [.Name y p2, .Name z p3] x1 p4] [] pos) (rdE T W (eIs2 n m fa)) :=
  (pe_callB call_isiT hg hm (by decide +kernel) (pa_cons he (pa_cons (pe_tup (pa_cons (pe_bltn (v := .ty n) hg2 hm2 hv2 rfl hn hd) (pa_cons (pe_bltn (v := .ty m) hg3 hm3 hv3 rfl hn3 hd3) pa_nil))) pa_nil) hs) (by decide) (by decide) hs hpl).imp fun σ H Q h => by
    obtain ⟨φ, S, τ, o, R, r, e, q⟩ := h
    refine rdE_bnd R r e q fun d S1 v H1 φ1 ⟨E1, R1, r1⟩ e1 q1 => ?_
    simp only [Option.bind_eq_some_iff] at e1
    obtain ⟨k, e2, b, e3, b2, e4, e5⟩ := e1
    cases e5
    refine ⟨by show 2 ≤ sizeLine; rw [sizeLine_eq]; decide, fun t ht => ?_⟩
    obtain ⟨R2, E2⟩ := R1.garb (u := .tup [.ty n, .ty m]) ht
    refine ⟨v, t, [.ty n, .ty m], .type k, [.type n, .type m], b || b2, rfl, upd_same, .cons (.ty n) (.cons (.ty m) .nil), kind_ok R2 (r1.ext E2 _ _) (by exact e2), ?_, q1 φ1 _ _ E2 R2 rfl⟩
    refine kitAny_cons (kit_ty e3) (fun hb => ?_) fun hb => by rw [hb]; rfl
    refine kitAny_cons (kit_ty e4) (fun hb2 => ?_) fun hb2 => by rw [hb2]; simp
    rw [hb, hb2]; rfl

/-! ## a def called -/
/-- what a def promises: its meaning's outcome -/
def spM (T : Tb) (m : List D → M D) (n : Nat) : Sp := fun vs H Q E => ∃ φ S ds o, Rel T φ S H ∧ RDs T H φ ds vs ∧ ds.length = n ∧ m ds S = some o ∧ EndE T φ H o Q E
def eCl (m : List D → M D) (n : Nat) (r : AF) : EF := fun τ => (r τ).bnd fun ds S => if ds.length = n then m ds S else none
/-! ## statements -/
inductive Fl where
  | nx (τ : Sl) | rt (d : D) | bk (τ : Sl) | ct (τ : Sl) | xx (x : Exn) (τ : Sl)
abbrev SF := Sl → Sto → Option (Fl × Sto)
def EndS (T : Tb) (φ : List Addr) (H : Hp) (fl : Fl) (S' : Sto) (De : Ends) (W : WX) : Prop := match fl with
  | .nx τ' => ∀ φ' H' σ', Ext φ H φ' H' → Rel T φ' S' H' → RSl T H' φ' τ' σ' → De.nx σ' H'
  | .bk τ' => ∀ φ' H' σ', Ext φ H φ' H' → Rel T φ' S' H' → RSl T H' φ' τ' σ' → De.bk σ' H'
  | .ct τ' => ∀ φ' H' σ', Ext φ H φ' H' → Rel T φ' S' H' → RSl T H' φ' τ' σ' → De.ct σ' H'
  | .rt d => ∀ φ' H' v, Ext φ H φ' H' → Rel T φ' S' H' → RD T H' φ' d v → De.rt v H'
  | .xx x τ' => ∀ φ' H' σ' d, Ext φ H φ' H' → Rel T φ' S' H' → RSl T H' φ' τ' σ' → RX x d H' → W (.ref x.cls) d σ' H'
theorem EndS.mono {φ φ1 : List Addr} {H H1 : Hp} {fl : Fl} {S' : Sto} {De : Ends} (h : EndS T φ H fl S' De W) (e : Ext φ H φ1 H1) : EndS T φ1 H1 fl S' De W := by
  cases fl with
  | nx τ => exact fun φ' H' v e' => h φ' H' v (e.trans e')
  | bk τ => exact fun φ' H' v e' => h φ' H' v (e.trans e')
  | ct τ => exact fun φ' H' v e' => h φ' H' v (e.trans e')
  | rt τ => exact fun φ' H' v e' => h φ' H' v (e.trans e')
  | xx x τ => exact fun φ' H' v d e' => h φ' H' v d (e.trans e')
def rdS (T : Tb) (W : WX) (f : SF) : TS := fun De σ H => ∃ φ S τ fl S', Rel T φ S H ∧ RSl T H φ τ σ ∧ f τ S = some (fl, S') ∧ EndS T φ H fl S' De W
/-- an expression within a statement -/
def sx (m : M D) (τ : Sl) (k : D → Sto → Option (Fl × Sto)) : Sto → Option (Fl × Sto) := fun S => match m S with
  | none => none
  | some (.ex x S1) => some (.xx x τ, S1)
  | some (.ok d S1) => k d S1
def st' (m : M Bool) (τ : Sl) (k : Bool → Sto → Option (Fl × Sto)) : Sto → Option (Fl × Sto) := fun S => match m S with
  | none => none
  | some (.ex x S1) => some (.xx x τ, S1)
  | some (.ok d S1) => k d S1
theorem rdE_sx {φ : List Addr} {S S' : Sto} {τ : Sl} {fl : Fl} {k : D → Sto → Option (Fl × Sto)} {σ : L2.St} {H : Hp} {De : Ends} (R : Rel T φ S H) (r : RSl T H φ τ σ) (h : sx (fa τ) τ k S = some (fl, S')) (q : EndS T φ H fl S' De W) {Q' : VK}
    (n : ∀ d S1 v H1 φ1, At T φ H d S1 v H1 φ1 → k d S1 = some (fl, S') → EndS T φ1 H1 fl S' De W → Q' v H1) : rdE T W fa σ H Q' := by
  unfold sx at h
  cases e : fa τ S with
  | none => rw [e] at h; cases h
  | some x =>
    rw [e] at h
    refine ⟨φ, S, τ, x, R, r, e, ?_⟩
    cases x with
    | ok d S1 => exact fun φ' H' v e1 e2 e3 => n d S1 v H' φ' ⟨e1, e2, e3⟩ h (q.mono e1)
    | ex x S1 =>
      cases h
      exact fun φ' H' d E1 R1 hx => q φ' H' σ d E1 R1 (r.ext E1) hx
theorem rdT_st {φ : List Addr} {S S' : Sto} {τ : Sl} {fl : Fl} {k : Bool → Sto → Option (Fl × Sto)} {σ : L2.St} {H : Hp} {De : Ends} (R : Rel T φ S H) (r : RSl T H φ τ σ) (h : st' (ta τ) τ k S = some (fl, S')) (q : EndS T φ H fl S' De W) {Q' : Bool → Hp → Prop}
    (n : ∀ d S1 H1 φ1, Ext φ H φ1 H1 → Rel T φ1 S1 H1 → k d S1 = some (fl, S') → EndS T φ1 H1 fl S' De W → Q' d H1) : rdT T W ta σ H Q' := by
  unfold st' at h
  cases e : ta τ S with
  | none => rw [e] at h; cases h
  | some x =>
    rw [e] at h
    refine ⟨φ, S, τ, x, R, r, e, ?_⟩
    cases x with
    | ok d S1 => exact fun φ' H' e1 e2 => n d S1 H' φ' e1 e2 h (q.mono e1)
    | ex x S1 =>
      cases h
      exact fun φ' H' d E1 R1 hx => q φ' H' σ d E1 R1 (r.ext E1) hx
theorem rdS_at {f : SF} {φ : List Addr} {S S' : Sto} {τ : Sl} {fl : Fl} {σ : L2.St} {H : Hp} {De : Ends} (R : Rel T φ S H) (r : RSl T H φ τ σ) (h : f τ S = some (fl, S')) (q : EndS T φ H fl S' De W) : rdS T W f De σ H := ⟨φ, S, τ, fl, S', R, r, h, q⟩
variable {st : Stmt} {sts : List Stmt} {f g : SF}
def sNop : SF := fun τ S => some (.nx τ, S)
def sSeq (f g : SF) : SF := fun τ S => match f τ S with
  | some (.nx τ1, S1) => g τ1 S1
  | x => x
theorem b_nil : PSs X [] (rdS T W sNop) := pss_nil.imp fun De σ H h => by
  obtain ⟨φ, S, τ, fl, S', R, r, e, q⟩ := h
  cases e
  exact q φ H σ .refl R r
theorem b_one (h : PS X st (rdS T W f)) : PSs X [st] (rdS T W f) := pss_one h
theorem b_cons (h : PS X st (rdS T W f)) (h2 : PSs X sts (rdS T W g)) : PSs X (st :: sts) (rdS T W (sSeq f g)) := (pss_cons h h2).imp fun De σ H h => by
  obtain ⟨φ, S, τ, fl, S', R, r, e, q⟩ := h
  unfold sSeq at e
  cases e1 : f τ S with
  | none => rw [e1] at e; cases e
  | some p =>
    obtain ⟨fl1, S1⟩ := p
    rw [e1] at e
    refine ⟨φ, S, τ, fl1, S1, R, r, e1, ?_⟩
    cases fl1 with
    | nx τ1 => exact fun φ' H' σ' E1 R1 r1 => rdS_at R1 r1 e (q.mono E1)
    | bk τ1 => cases e; exact q
    | ct τ1 => cases e; exact q
    | rt τ1 => cases e; exact q
    | xx x τ1 => cases e; exact q
def sEx (fe : EF) : SF := fun τ => sx (fe τ) τ fun _ S => some (.nx τ, S)
theorem s_expr (he : PE X e (rdE T W fa)) (hs : swapsWith e none pos.line X.env = pure false := by rfl) : PS X (.Expr e pos) (rdS T W (sEx fa)) := (ps_expr he hs).imp fun De σ H h => by
  obtain ⟨φ, S, τ, fl, S', R, r, e, q⟩ := h
  refine rdE_sx R r e q fun d S1 v H1 φ1 ⟨E1, R1, r1⟩ e1 q1 => ?_
  cases e1
  exact q1 φ1 H1 σ .refl R1 (r.ext E1)
def sRt (fe : EF) : SF := fun τ => sx (fe τ) τ fun d S => some (.rt d, S)
theorem s_ret (he : PE X e (rdE T W fa)) : PS X (.Return (some e) pos) (rdS T W (sRt fa)) := (ps_ret he).imp fun De σ H h => by
  obtain ⟨φ, S, τ, fl, S', R, r, e, q⟩ := h
  refine rdE_sx R r e q fun d S1 v H1 φ1 ⟨E1, R1, r1⟩ e1 q1 => ?_
  cases e1
  exact q1 φ1 H1 v .refl R1 r1
def sIf (t : BF) (f g : SF) : SF := fun τ => st' (t τ) τ fun b S => if b = true then f τ S else g τ S
theorem s_if {as bs : List Stmt} (h : PT X c (rdT T W ta)) (h1 : PSs X as (rdS T W f)) (h2 : PSs X bs (rdS T W g)) : PS X (.If c as bs pos) (rdS T W (sIf ta f g)) := (ps_if h h1 h2).imp fun De σ H h => by
  obtain ⟨φ, S, τ, fl, S', R, r, e, q⟩ := h
  refine rdT_st R r e q fun b S1 H1 φ1 E1 R1 e1 q1 => ?_
  cases b with
  | true => exact rdS_at R1 (r.ext E1) e1 q1
  | false => exact rdS_at R1 (r.ext E1) e1 q1
def sSet (i : Nat) (fe : EF) : SF := fun τ => sx (fe τ) τ fun d S => some (.nx (τ.set i (some d)), S)
theorem s_set {i : Nat} {x : Str} {pos' : Pos} (hN : X.N.Nodup) (hi : X.N[i]? = some x) (hx : Loc X.env.scope x) (he : PE X e (rdE T W fa)) (hs : swapsWith e (some (.Name x pos')) pos.line X.env = pure false := by rfl)
    (hf : X.fn x = true ∨ X.env.scope.names.lookup x = some .local := by first | exact .inl rfl | exact .inr rfl | assumption) : PS X (.Assign [.Name x pos'] e pos) (rdS T W (sSet i fa)) := (ps_set hN hi hx he hs hf).imp fun De σ H h => by
  obtain ⟨φ, S, τ, fl, S', R, r, e, q⟩ := h
  refine rdE_sx R r e q fun d S1 v H1 φ1 ⟨E1, R1, r1⟩ e1 q1 => ?_
  cases e1
  exact q1 φ1 H1 _ .refl R1 ((r.ext E1).set i r1)
/-- xs[i] = e -/
def putD (x y d : D) (S : Sto) : Option Sto := match x, y with
  | .loc n, .int k => (listD S (.loc n)).bind fun es => (ixN es.length k).bind fun j => some (S.set n (.lst (es.set j d)))
  | _, _ => none
def sPut (fe fo fi : EF) : SF := fun τ => sx (fe τ) τ fun d => sx (fo τ) τ fun x => sx (fi τ) τ fun y S => (putD x y d S).bind fun S1 => some (.nx τ, S1)
theorem s_put {o i : Expr} {p : Pos} {fo fi : EF} (he : PE X e (rdE T W fa)) (ho : PE X o (rdE T W fo)) (hi : PE X i (rdE T W fi))
    (hs : swapsWithSole [.Subscript o i p] e pos.line X.env = pure false := by rfl) (hw : swappedStores [.Subscript o i p] e X.env = pure none := by rfl) (h1 : (assignEach [.Subscript o i p] X.env).map (·.2) = [assign (.Subscript o i p) X.env] := by rfl)
    (ha : ∀ v, assign (.Subscript o i p) X.env v = (do
      let ov ← holding [v] (eval o X.env)
      let iv ← holding [v, ov] (eval i X.env)
      standAt p
      holding [v, ov, iv] (setItem ov iv v)
      release [v, ov, iv] []) := by intro _; rfl) : PS X (.Assign [.Subscript o i p] e pos) (rdS T W (sPut fa fo fi)) := (ps_asg he (pg_sub ho hi set_list ha) hs hw h1).imp fun De σ H h => by
  obtain ⟨φ, S, τ, fl, S', R, r, e, q⟩ := h
  refine rdE_sx R r e q fun d S1 v H1 φ1 ⟨E1, R1, r1⟩ e1 q1 => ?_
  refine rdE_sx R1 (r.ext E1) e1 q1 fun x S2 v2 H2 φ2 ⟨E2, R2, r2⟩ e2 q2 => ?_
  refine rdE_sx R2 ((r.ext E1).ext E2) e2 q2 fun y S3 v3 H3 φ3 ⟨E3, R3, r3⟩ e3 q3 => ?_
  simp only [Option.bind_eq_some_iff] at e3
  obtain ⟨S4, e4, e5⟩ := e3
  cases e5
  unfold putD at e4
  split at e4
  · rename_i n kk _ _
    simp only [Option.bind_eq_some_iff] at e4
    obtain ⟨es, e6, j, e7, e8⟩ := e4
    cases e8
    obtain ⟨m, p, vs, ee, rfl, hS, hφ, hH, s⟩ := list_sq R3 (r2.ext E3 _ _) e6
    cases ee
    cases r3
    refine ⟨p, vs, kk, j, rfl, rfl, hH, by rw [← s.length]; exact e7, ?_⟩
    have rv : RD T H3 φ3 d v := (r1.ext E2 _ _).ext E3 _ _
    have E4 := Ext.put (φ := φ3) (u := .lst (vs.set j v)) (List.mem_of_getElem? hφ) hH
    obtain ⟨R4, _⟩ := R3.put (o := .lst (es.set j d)) (u := .lst (vs.set j v)) hφ (mem_lt hS) ⟨_, upd_same, (s.set j rv).ext E4 _ _⟩
    exact q3 φ3 _ σ E4 R4 ((((r.ext E1).ext E2).ext E3).ext E4)
  · cases e4
end
end Sb
end
section
set_option Elab.async false
set_option linter.all false
set_option maxRecDepth 100000
set_option maxHeartbeats 4000000
namespace Sb
open PySem PySem.Spec PyProof.Rows L2

/-! ## what is walked -/
structure Wk where
  bound : Nat
  nxt : Nat → Sto → Option (Option D)
abbrev IF := Sl → M Wk
def Serves (T : Tb) (φ0 : List Addr) (H0 : Hp) (wk : Wk) (J : It) : Prop := ∀ φ S H i, Ext φ0 H0 φ H → Rel T φ S H →
  (∀ d, wk.nxt i S = some (some d) → J.go i H ∧ ∀ x H', J.yld i H x H' → Ext φ H φ H' ∧ Rel T φ S H' ∧ RD T H' φ d x) ∧ (wk.nxt i S = some none → J.stop i H)
def EndI (T : Tb) (φ : List Addr) (H : Hp) (o : Rs Wk) (R : It → Hp → Prop) (W : XK) : Prop := match o with
  | .ok wk S' => ∀ φ' H' J, Ext φ H φ' H' → Rel T φ' S' H' → Serves T φ' H' wk J → R J H'
  | .ex x S' => ∀ φ' H' d, Ext φ H φ' H' → Rel T φ' S' H' → RX x d H' → W (.ref x.cls) d H'
theorem EndI.mono {T : Tb} {φ φ1 : List Addr} {H H1 : Hp} {o : Rs Wk} {R : It → Hp → Prop} {W : XK} (h : EndI T φ H o R W) (e : Ext φ H φ1 H1) : EndI T φ1 H1 o R W := by
  cases o with
  | ok d S => exact fun φ' H' v e' => h φ' H' v (e.trans e')
  | ex x S => exact fun φ' H' v e' => h φ' H' v (e.trans e')
def rdI (T : Tb) (W : WX) (f : IF) : TI := fun σ H R => ∃ φ S τ o, Rel T φ S H ∧ RSl T H φ τ σ ∧ f τ S = some o ∧ EndI T φ H o R fun c d H' => W c d σ H'
theorem _root_.L2.PI.imp {X : Cx} {tg e : Expr} {t t' : TI} (h : PI X tg e t) (i : ∀ σ H R, t' σ H R → t σ H R) : PI X tg e t' := ⟨fun pins s σ H R I hq => h.run pins s σ H R I (i σ H R hq)⟩
theorem _root_.L2.PI.or {X : Cx} {tg e : Expr} {t t' : TI} (h : PI X tg e t) (h' : PI X tg e t') : PI X tg e (fun σ H R => t σ H R ∨ t' σ H R) := ⟨fun pins s σ H R I hq => hq.elim (h.run pins s σ H R I) (h'.run pins s σ H R I)⟩
theorem _root_.L2.PG.imp {X : Cx} {e : Expr} {t t' : TG} (h : PG X e t) (i : ∀ v σ H Q, t' v σ H Q → t v σ H Q) : PG X e t' := ⟨fun pins s σ H v u Q I r hq => h.run pins s σ H v u Q I r (i v σ H Q hq)⟩
theorem _root_.L2.PG.or {X : Cx} {e : Expr} {t t' : TG} (h : PG X e t) (h' : PG X e t') : PG X e (fun v σ H Q => t v σ H Q ∨ t' v σ H Q) := ⟨fun pins s σ H v u Q I r hq => hq.elim (h.run pins s σ H v u Q I r) (h'.run pins s σ H v u Q I r)⟩

section
variable {X : Cx} {T : Tb} {W : WX} {pos : Pos}
variable {a b c e tg : Expr} {es rest : List Expr} {fa fb fc : EF} {ra : AF} {ta tb : BF}
theorem rdA_bndI {a : AF} {k : List D → M Wk} {φ : List Addr} {S : Sto} {τ : Sl} {o : Rs Wk} {σ : L2.St} {H : Hp} {Q : It → Hp → Prop} (R : Rel T φ S H) (r : RSl T H φ τ σ) (h : (a τ).bnd k S = some o) (q : EndI T φ H o Q fun c d H' => W c d σ H') {Q' : List V → Hp → Prop}
    (n : ∀ d S1 v H1 φ1, Ext φ H φ1 H1 → Rel T φ1 S1 H1 → RDs T H1 φ1 d v → k d S1 = some o → EndI T φ1 H1 o Q (fun c d H' => W c d σ H') → Q' v H1) : rdA T W a σ H Q' := by
  unfold M.bnd at h
  cases e : a τ S with
  | none => rw [e] at h; cases h
  | some x =>
    rw [e] at h
    refine ⟨φ, S, τ, x, R, r, e, ?_⟩
    cases x with
    | ok d S1 => exact fun φ' H' v e1 e2 e3 => n d S1 v H' φ' e1 e2 e3 h (q.mono e1)
    | ex x S1 => cases h; exact q
/-- a list, a tuple, a text -/
def wkD (S : Sto) : D → Option Wk
  | .tup ds => some ⟨ds.length, fun i _ => some ds[i]?⟩
  | .str x => some ⟨x.cps.size, fun i _ => some ((x.cps[i]?).map fun c => .str ⟨#[c]⟩)⟩
  | .loc n => (seqD S (.loc n)).map fun ds => ⟨ds.length, fun i S => (seqD S (.loc n)).map fun es => es[i]?⟩
  | .fl ds => some ⟨ds.length, fun i _ => some ds[i]?⟩
  | _ => none
def iSeq (fe : EF) : IF := fun τ => (fe τ).bnd fun d S => (wkD S d).bind fun wk => some (.ok wk S)
theorem rds_at {H : Hp} {φ : List Addr} {ds : List D} {vs : List V} {i : Nat} {x : V} (r : RDs T H φ ds vs) (h : vs[i]? = some x) {d : D} (hd : ds[i]? = some d) : RD T H φ d x := by
  obtain ⟨v, h1, h2⟩ := r.get hd
  rw [h] at h1; cases h1
  exact h2
theorem rds_none {H : Hp} {φ : List Addr} {ds : List D} {vs : List V} {i : Nat} (r : RDs T H φ ds vs) (h : ds[i]? = none) : vs.length ≤ i := by
  rw [← r.length]; exact List.getElem?_eq_none_iff.mp h
theorem sv_tup {φ0 : List Addr} {H0 : Hp} {ds : List D} {vs : List V} {p : Addr} {n : Nat} (h : H0 p = some (.tup vs)) (r : RDs T H0 φ0 ds vs) : Serves T φ0 H0 ⟨n, fun i _ => some ds[i]?⟩ (Itt X.K p) := by
  intro φ S H i E R
  have h' := E.tup _ _ h
  have r' := r.ext E _ _
  refine ⟨fun d hd => ?_, fun hn => ?_⟩
  · have hd' : ds[i]? = some d := Option.some.inj hd
    obtain ⟨v, h1, h2⟩ := r'.get hd'
    refine ⟨⟨vs, v, .of h', h1⟩, fun x H' y => ?_⟩
    obtain ⟨rfl, y⟩ := y
    have := y vs (.of h')
    exact ⟨.refl, R, rds_at r' this hd'⟩
  · have hn' : ds[i]? = none := Option.some.inj hn
    exact ⟨vs, .of h', rds_none r' hn'⟩
theorem sv_fl {φ0 : List Addr} {H0 : Hp} {ds : List D} {vs : List V} {p : Addr} {n : Nat} (hp : p ∉ φ0) (h : H0 p = some (.lst vs)) (r : RDs T H0 φ0 ds vs) : Serves T φ0 H0 ⟨n, fun i _ => some ds[i]?⟩ (Itl X.K p) := by
  intro φ S H i E R
  have h' := E.lst _ _ hp h
  have r' := r.ext E _ _
  refine ⟨fun d hd => ?_, fun hn => ?_⟩
  · have hd' : ds[i]? = some d := Option.some.inj hd
    obtain ⟨v, h1, h2⟩ := r'.get hd'
    refine ⟨⟨vs, v, .of h', h1⟩, fun x H' y => ?_⟩
    obtain ⟨rfl, y⟩ := y
    have := y vs (.of h')
    exact ⟨.refl, R, rds_at r' this hd'⟩
  · have hn' : ds[i]? = none := Option.some.inj hn
    exact ⟨vs, .of h', rds_none r' hn'⟩
theorem sv_list {φ0 : List Addr} {H0 : Hp} {k n : Nat} {p : Addr} (hp : φ0[k]? = some p) : Serves T φ0 H0 ⟨n, fun i S => (seqD S (.loc k)).map fun es => es[i]?⟩ (Itl X.K p) := by
  intro φ S H i E R
  have hp' := E.get hp
  have key : ∀ ds, seqD S (.loc k) = some ds → ∃ vs, SqL X.K H p vs ∧ RDs T H φ ds vs := fun ds e => by
    simp only [seqD] at e
    split at e
    · rename_i q
      cases e
      obtain ⟨vs, k1, k2⟩ := R.obj k _ p q hp'
      exact ⟨vs, .of k1, k2⟩
    · cases e
  refine ⟨fun d hd => ?_, fun hn => ?_⟩
  · simp only [Option.map_eq_some_iff] at hd
    obtain ⟨ds, e1, e2⟩ := hd
    obtain ⟨vs, k1, k2⟩ := key ds e1
    obtain ⟨v, h1, h2⟩ := k2.get e2
    refine ⟨⟨vs, v, k1, h1⟩, fun x H' y => ?_⟩
    obtain ⟨rfl, y⟩ := y
    exact ⟨.refl, R, rds_at k2 (y vs k1) e2⟩
  · simp only [Option.map_eq_some_iff] at hn
    obtain ⟨ds, e1, e2⟩ := hn
    obtain ⟨vs, k1, k2⟩ := key ds e1
    exact ⟨vs, k1, rds_none k2 e2⟩
theorem sv_str {φ0 : List Addr} {H0 : Hp} {n : Nat} {x : Str} : Serves T φ0 H0 ⟨n, fun i _ => some ((x.cps[i]?).map fun c => .str ⟨#[c]⟩)⟩ (Its x) := by
  intro φ S H i E R
  refine ⟨fun d hd => ?_, fun hn => ?_⟩
  · have hd' : (x.cps[i]?).map (fun c => D.str ⟨#[c]⟩) = some d := Option.some.inj hd
    simp only [Option.map_eq_some_iff] at hd'
    obtain ⟨c, e1, rfl⟩ := hd'
    refine ⟨(Array.getElem?_eq_some_iff.mp e1).1, fun y H' z => ?_⟩
    obtain ⟨rfl, c', e2, rfl⟩ := z
    rw [e1] at e2; cases e2
    exact ⟨.refl, R, rfl⟩
  · have hn' : (x.cps[i]?).map (fun c => D.str ⟨#[c]⟩) = none := Option.some.inj hn
    simp only [Option.map_eq_none_iff] at hn'
    exact Array.getElem?_eq_none_iff.mp hn'
theorem i_seq (he : PE X e (rdE T W fa)) : PI X tg e (rdI T W (iSeq fa)) :=
  ((pi_list he).or ((pi_tup he).or (pi_str he))).imp fun σ H Rr h => by
    obtain ⟨φ, S, τ, o, R, r, e, q⟩ := h
    have e0 := e
    unfold iSeq M.bnd at e0
    cases e1 : fa τ S with
    | none => rw [e1] at e0; cases e0
    | some x =>
      rw [e1] at e0
      cases x with
      | ex x S1 =>
        cases e0
        exact .inl ⟨φ, S, τ, _, R, r, e1, q⟩
      | ok d S1 =>
        simp only [Option.bind_eq_some_iff] at e0
        obtain ⟨wk, e2, e3⟩ := e0
        cases e3
        cases d with
        | tup ds =>
          cases e2
          refine .inr (.inl ⟨φ, S, τ, _, R, r, e1, fun φ1 H1 v E1 R1 r1 => ?_⟩)
          obtain ⟨p, vs, rfl, k1, s⟩ := r1
          exact ⟨p, rfl, ⟨vs, .of k1⟩, q φ1 H1 _ E1 R1 (sv_tup k1 s)⟩
        | str x =>
          cases e2
          refine .inr (.inr ⟨φ, S, τ, _, R, r, e1, fun φ1 H1 v E1 R1 r1 => ?_⟩)
          cases r1
          exact ⟨x, rfl, q φ1 H1 _ E1 R1 sv_str⟩
        | loc n =>
          simp only [wkD, Option.map_eq_some_iff] at e2
          obtain ⟨ds, e4, rfl⟩ := e2
          refine .inl ⟨φ, S, τ, _, R, r, e1, fun φ1 H1 v E1 R1 r1 => ?_⟩
          have r1' := r1
          obtain ⟨p, rfl, hp⟩ := r1
          have key : ∃ vs, SqL X.K H1 p vs := by
            simp only [seqD] at e4
            split at e4
            · rename_i q
              obtain ⟨vs, k1, k2⟩ := R1.obj n _ p q hp
              exact ⟨vs, .of k1⟩
            · cases e4
          exact ⟨p, rfl, key, q φ1 H1 _ E1 R1 (sv_list hp)⟩
        | fl ds =>
          cases e2
          refine .inl ⟨φ, S, τ, _, R, r, e1, fun φ1 H1 v E1 R1 r1 => ?_⟩
          obtain ⟨p, vs, rfl, hp, k1, s⟩ := r1
          exact ⟨p, rfl, ⟨vs, .of k1⟩, q φ1 H1 _ E1 R1 (sv_fl hp k1 s)⟩
        | _ => cases e2
/-- range(n), range(a, b) -/
def wkR (lo : Int) (n : Nat) : Wk := ⟨n, fun i _ => if i < n then some (some (.int (lo + (i : Nat)))) else some none⟩
def iRg1 (ra : AF) : IF := fun τ => (ra τ).bnd fun ds S => match ds with
  | [.int j] => if -(2 ^ 62) ≤ j ∧ j < 2 ^ 62 then some (.ok (wkR 0 j.toNat) S) else none
  | _ => none
def iRg2 (ra : AF) : IF := fun τ => (ra τ).bnd fun ds S => match ds with
  | [.int i, .int j] => if -(2 ^ 62) ≤ i ∧ i < 2 ^ 62 ∧ -(2 ^ 62) ≤ j ∧ j < 2 ^ 62 then some (.ok (wkR i (j - i).toNat) S) else none
  | _ => none
theorem sv_rng {φ0 : List Addr} {H0 : Hp} {lo : Int} {n : Nat} : Serves T φ0 H0 (wkR lo n) (Itr lo n) := by
  intro φ S H i E R
  refine ⟨fun d hd => ?_, fun hn => ?_⟩
  · simp only [wkR] at hd
    split at hd
    · rename_i hi
      cases hd
      exact ⟨hi, fun x H' y => by obtain ⟨rfl, rfl⟩ := y; exact ⟨.refl, R, rfl⟩⟩
    · cases hd
  · simp only [wkR] at hn
    split at hn
    · cases hn
    · rename_i hi; exact Nat.le_of_not_lt hi
theorem i_rg1 {p pos : Pos} (hg : Gl X "range") (hm : X.mg "range" = none) (ha : PA X [a] (rdA T W ra)) (hs : starEach [a] X.env = [(false, eval a X.env)] := by rfl) : PI X tg (.Call (.Name "range" p) [a] [] pos) (rdI T W (iRg1 ra)) :=
  (pi_range1 hg hm ha hs).imp fun σ H Rr h => by
    obtain ⟨φ, S, τ, o, R, r, e, q⟩ := h
    refine rdA_bndI R r e q fun ds S1 vs H1 φ1 E1 R1 r1 e1 q1 => ?_
    split at e1
    · rename_i j
      split at e1
      · rename_i hj
        cases e1
        obtain ⟨v, l, rfl, r2, r3⟩ := r1
        cases r2; cases r3
        exact ⟨j, rfl, hj.1, hj.2, q1 φ1 H1 _ .refl R1 sv_rng⟩
      · cases e1
    · cases e1
theorem i_rg2 {p pos : Pos} (hg : Gl X "range") (hm : X.mg "range" = none) (ha : PA X [a, b] (rdA T W ra)) (hs : starEach [a, b] X.env = [(false, eval a X.env), (false, eval b X.env)] := by rfl) (hs2 : starEach [b] X.env = [(false, eval b X.env)] := by rfl) :
    PI X tg (.Call (.Name "range" p) [a, b] [] pos) (rdI T W (iRg2 ra)) :=
  (pi_range2 hg hm ha hs hs2).imp fun σ H Rr h => by
    obtain ⟨φ, S, τ, o, R, r, e, q⟩ := h
    refine rdA_bndI R r e q fun ds S1 vs H1 φ1 E1 R1 r1 e1 q1 => ?_
    split at e1
    · rename_i i j
      split at e1
      · rename_i hj
        cases e1
        obtain ⟨v, l, rfl, r2, w, l2, rfl, r3, r4⟩ := r1
        cases r2; cases r3; cases r4
        exact ⟨i, j, rfl, hj, q1 φ1 H1 _ .refl R1 sv_rng⟩
      · cases e1
    · cases e1

/-! ## targets of names -/
abbrev TF := D → Sto → Sl → Option Sl
def rdG (T : Tb) (vs : List Nat) (f : TF) : TG := fun v σ H Q => ∃ φ S τ d τ', Rel T φ S H ∧ RSl T H φ τ σ ∧ RD T H φ d v ∧ f d S τ = some τ' ∧ ∀ σ', RSl T H φ τ' σ' → (∀ k, k ∉ vs → σ'[k]? = σ[k]?) → σ'.length = σ.length → Q σ' H
def tN (i : Nat) : TF := fun d _ τ => some (τ.set i (some d))
theorem g_name {i : Nat} {x : Str} (hN : X.N.Nodup) (hi : X.N[i]? = some x) (hx : Loc X.env.scope x) (hf : X.fn x = true ∨ X.env.scope.names.lookup x = some .local := by first | exact .inl rfl | exact .inr rfl | assumption) : PG X (.Name x pos) (rdG T [i] (tN i)) :=
  (pg_name hN hi hx hf).imp fun v σ H Q h => by
    obtain ⟨φ, S, τ, d, τ', R, r, rd, e, q⟩ := h
    cases e
    exact q _ (r.set i rd) (fun k hk => List.getElem?_set_ne (by simpa using fun z => hk (by simp [z]))) (by simp)
/-- a, b -/
def tN2 (i j : Nat) : TF := fun d S τ => match seqD S d with
  | some [x, y] => some ((τ.set i (some x)).set j (some y))
  | _ => none
theorem g_two (hK : T.K = X.K) {i j : Nat} {x y : Str} {p1 p2 : Pos} {k : Nat} (hc : X.calm = true) (hN : X.N.Nodup) (hi : X.N[i]? = some x) (hx : Loc X.env.scope x) (hj : X.N[j]? = some y) (hy : Loc X.env.scope y)
    (hf : X.fn x = true ∨ X.env.scope.names.lookup x = some .local := by first | exact .inl rfl | exact .inr rfl | assumption) (hf2 : X.fn y = true ∨ X.env.scope.names.lookup y = some .local := by first | exact .inl rfl | exact .inr rfl | assumption) :
    PG X (.Tuple [.Name x p1, .Name y p2] k pos) (rdG T [i, j] (tN2 i j)) :=
  ((pg_lst (n := 2) hc (pgs_cons (pg_name hN hi hx hf) (pgs_cons (pg_name hN hj hy hf2) pgs_nil))).or (pg_tup (n := 2) hc (pgs_cons (pg_name hN hi hx hf) (pgs_cons (pg_name hN hj hy hf2) pgs_nil)))).imp fun v σ H Q h => by
    obtain ⟨φ, S, τ, d, τ', R, r, rd, e, q⟩ := h
    unfold tN2 at e
    split at e
    · rename_i d1 d2 es
      cases e
      obtain ⟨p, vs, rfl, kk, s⟩ := seq_sq R rd es
      rw [hK] at kk
      obtain ⟨v1, l1, rfl, s1, v2, l2, rfl, s2, s3⟩ := s
      cases s3
      have fin : Q ((σ.set i (some v1)).set j (some v2)) H := q _ ((r.set i s1).set j s2) (fun k hk => by
        simp only [List.mem_cons, not_or] at hk
        rw [List.getElem?_set_ne (Ne.symm hk.2.1), List.getElem?_set_ne (Ne.symm hk.1)]) (by simp)
      rcases kk with kk | kk
      · exact .inl ⟨p, _, rfl, kk, rfl, v1, _, rfl, v2, _, rfl, rfl, fin⟩
      · exact .inr ⟨p, _, rfl, kk, rfl, v1, _, rfl, v2, _, rfl, rfl, fin⟩
    · cases e
/-- a, b = e -/
def sAs (g : TF) (fe : EF) : SF := fun τ => sx (fe τ) τ fun d S => (g d S τ).bind fun τ1 => some (.nx τ1, S)
theorem s_asg {g : TF} {vs : List Nat} (he : PE X e (rdE T W fa)) (hg : PG X tg (rdG T vs g)) (hs : swapsWithSole [tg] e pos.line X.env = pure false := by rfl) (hw : swappedStores [tg] e X.env = pure none := by rfl)
    (h1 : (assignEach [tg] X.env).map (·.2) = [assign tg X.env] := by rfl) : PS X (.Assign [tg] e pos) (rdS T W (sAs g fa)) := (ps_asg he hg hs hw h1).imp fun De σ H h => by
  obtain ⟨φ, S, τ, fl, S', R, r, e, q⟩ := h
  refine rdE_sx R r e q fun d S1 v H1 φ1 ⟨E1, R1, r1⟩ e1 q1 => ?_
  simp only [Option.bind_eq_some_iff] at e1
  obtain ⟨τ1, e2, e3⟩ := e1
  cases e3
  exact ⟨φ1, _, τ, d, τ1, R1, r.ext E1, r1, e2, fun σ' r' _ _ => q1 φ1 H1 σ' .refl R1 r'⟩

/-! ## for -/
def goF (nxt : Nat → Sto → Option (Option D)) (g : TF) (fb : SF) : Nat → Nat → SF
  | 0, _, _, _ => none
  | m + 1, i, τ, S => match nxt i S with
    | none => none
    | some none => some (.nx τ, S)
    | some (some d) => match g d S τ with
      | none => none
      | some τ1 => match fb τ1 S with
        | some (.nx τ2, S2) => goF nxt g fb m (i + 1) τ2 S2
        | some (.ct τ2, S2) => goF nxt g fb m (i + 1) τ2 S2
        | some (.bk τ2, S2) => some (.nx τ2, S2)
        | x => x
def sFor (fi : IF) (g : TF) (fb : SF) : SF := fun τ S => match fi τ S with
  | none => none
  | some (.ex x S1) => some (.xx x τ, S1)
  | some (.ok wk S1) => goF wk.nxt g fb (wk.bound + 1) 0 τ S1
variable {body : List Stmt} {fi : IF} {g : TF} {vs : List Nat} {fbd : SF}
theorem s_for (hp : PassesOwn (model X.prog X.w) X.A X.env X.xe) (hc : X.calm = true) (hi : PI X tg e (rdI T W fi)) (hg : PG X tg (rdG T vs g)) (hb : PSs X body (rdS T W fbd))
    (hs : ∀ x, foldedSetIterable e X.env x = pure x := by intro _; rfl) : PS X (.For tg e body [] pos) (rdS T W (sFor fi g fbd)) := (ps_for hp hc hi hg hb hs).imp fun De σ H h => by
  obtain ⟨φ, S, τ, fl, S', R, r, e, q⟩ := h
  unfold sFor at e
  cases e1 : fi τ S with
  | none => rw [e1] at e; cases e
  | some x =>
    rw [e1] at e
    refine ⟨φ, S, τ, x, R, r, e1, ?_⟩
    cases x with
    | ex x S1 =>
      cases e
      exact fun φ' H' d E1 R1 hx => q φ' H' σ d E1 R1 (r.ext E1) hx
    | ok wk S1 =>
      intro φ1 H1 J E1 R1 sv
      refine ⟨fun i m σ H => ∃ φ2 S2 τ2, Ext φ1 H1 φ2 H ∧ Rel T φ2 S2 H ∧ RSl T H φ2 τ2 σ ∧ goF wk.nxt g fbd m i τ2 S2 = some (fl, S') ∧ EndS T φ2 H fl S' De W, ⟨wk.bound + 1, φ1, S1, τ, .refl, R1, r.ext E1, e, q.mono E1⟩, ?_⟩
      rintro i m σ2 H2 ⟨φ2, S2, τ2, E2, R2, r2, e2, q2⟩
      cases m with
      | zero => cases e2
      | succ m =>
        unfold goF at e2
        obtain ⟨sgo, sst⟩ := sv φ2 S2 H2 i E2 R2
        cases hn : wk.nxt i S2 with
        | none => rw [hn] at e2; cases e2
        | some od =>
          rw [hn] at e2
          cases od with
          | none =>
            cases e2
            exact .inl ⟨sst hn, q2 φ2 H2 σ2 .refl R2 r2⟩
          | some d =>
            obtain ⟨go, yl⟩ := sgo d hn
            refine .inr ⟨go, fun σ' H' => ∃ φ3 S3 τ3, Ext φ1 H1 φ3 H' ∧ Rel T φ3 S3 H' ∧ RSl T H' φ3 τ3 σ' ∧ goF wk.nxt g fbd m (i + 1) τ3 S3 = some (fl, S') ∧ EndS T φ3 H' fl S' De W, fun σ' H' h => ⟨m, Nat.lt_succ_self m, h⟩, fun x H' y => ?_⟩
            obtain ⟨E3, R3, r3⟩ := yl x H' y
            simp only at e2
            cases hg1 : g d S2 τ2 with
            | none => rw [hg1] at e2; cases e2
            | some τ3 =>
              rw [hg1] at e2
              refine ⟨φ2, S2, τ2, d, τ3, R3, r2.ext E3, r3, hg1, fun σ' r' _ _ => ?_⟩
              simp only at e2
              cases hb1 : fbd τ3 S2 with
              | none => rw [hb1] at e2; cases e2
              | some p =>
                obtain ⟨fl1, S3⟩ := p
                rw [hb1] at e2
                refine ⟨φ2, S2, τ3, fl1, S3, R3, r', hb1, ?_⟩
                cases fl1 with
                | nx τ4 => exact fun φ' H'' σ'' E4 R4 r4 => ⟨φ', S3, τ4, (E2.trans E3).trans E4, R4, r4, e2, (q2.mono E3).mono E4⟩
                | ct τ4 => exact fun φ' H'' σ'' E4 R4 r4 => ⟨φ', S3, τ4, (E2.trans E3).trans E4, R4, r4, e2, (q2.mono E3).mono E4⟩
                | bk τ4 => cases e2; exact fun φ' H'' σ'' E4 R4 r4 => (q2.mono E3) φ' H'' σ'' E4 R4 r4
                | rt d4 => cases e2; exact fun φ' H'' v E4 R4 r4 => (q2.mono E3) φ' H'' v E4 R4 r4
                | xx x4 τ4 => cases e2; exact fun φ' H'' σ'' d4 E4 R4 r4 hx => (q2.mono E3) φ' H'' σ'' d4 E4 R4 r4 hx

/-! ## list comprehensions -/
def wipeD (τ : Sl) : List Nat → Sl
  | [] => τ
  | v :: vs => (wipeD τ vs).set v none
theorem RSl.wipe {φ : List Addr} {H : Hp} {τ : Sl} {σ : L2.St} (r : RSl T H φ τ σ) : ∀ vs, RSl T H φ (wipeD τ vs) (wipe σ vs)
  | [] => r
  | v :: vs => by
    have ih := RSl.wipe r vs
    refine ⟨by simp [wipeD, L2.wipe, ih.len], fun j d hj => ?_⟩
    unfold wipeD at hj
    unfold L2.wipe
    by_cases hv : v = j
    · subst hv
      have hl : v < (wipeD τ vs).length := by have := (List.getElem?_eq_some_iff.mp hj).1; simpa using this
      rw [List.getElem?_set_self hl] at hj; cases hj
    · rw [List.getElem?_set_ne hv] at hj
      rw [List.getElem?_set_ne hv]
      exact ih.at_ j d hj
theorem wipe_get {σ : L2.St} : ∀ {vs : List Nat} {i : Nat}, i ∈ vs → i < σ.length → (wipe σ vs)[i]? = some none
  | v :: vs, i, h, hl => by
    unfold L2.wipe
    by_cases hv : v = i
    · subst hv; rw [List.getElem?_set_self (by rw [wipe_length]; exact hl)]
    · rw [List.getElem?_set_ne hv]
      exact wipe_get ((List.mem_cons.mp h).resolve_left fun z => hv z.symm) hl
theorem wipe_eq {σ σ' : L2.St} {vs : List Nat} (h : ∀ k, k ∉ vs → σ'[k]? = σ[k]?) (hl : σ'.length = σ.length) : wipe σ' vs = wipe σ vs := by
  refine List.ext_getElem? fun i => ?_
  by_cases hi : i ∈ vs
  · by_cases hlt : i < σ.length
    · rw [wipe_get hi hlt, wipe_get hi (by omega)]
    · rw [List.getElem?_eq_none (by rw [wipe_length]; omega), List.getElem?_eq_none (by rw [wipe_length]; omega)]
  · rw [wipe_out hi, wipe_out hi]
    exact h i hi
theorem wipe_wipe {σ : L2.St} {vs : List Nat} : wipe (wipe σ vs) vs = wipe σ vs := wipe_eq (fun k hk => wipe_out hk) (wipe_length σ vs)
abbrev W0 : WX := fun _ _ _ _ => False
def goC (nxt : Nat → Sto → Option (Option D)) (g : TF) (t : BF) (fe : EF) (n : Nat) (τ0 : Sl) : Nat → Nat → Sto → Option Sto
  | 0, _, _ => none
  | m + 1, i, S => match nxt i S with
    | none => none
    | some none => some S
    | some (some d) => match g d S τ0 with
      | none => none
      | some τ1 => match t τ1 S with
        | some (.ok false S1) => goC nxt g t fe n τ0 m (i + 1) S1
        | some (.ok true S1) => match fe τ1 S1 with
          | some (.ok d S2) => match S2[n]? with
            | some (.lst acc) => if acc.length < sizeLine then goC nxt g t fe n τ0 m (i + 1) (S2.set n (.lst (acc ++ [d]))) else none
            | _ => none
          | _ => none
        | _ => none
def eLc (fi : IF) (g : TF) (t : BF) (fe : EF) (vs : List Nat) : EF := fun τ S => match fi τ S with
  | none => none
  | some (.ex x S1) => some (.ex x S1)
  | some (.ok wk S1) => (goC wk.nxt g t fe S1.length (wipeD τ vs) (wk.bound + 1) 0 (S1 ++ [.lst []])).bind fun S2 => some (.ok (.loc S1.length) S2)
def tAll : BF := fun _ S => some (.ok true S)
theorem ts_nil : PTs X [] (rdT T W0 tAll) := by
  refine ⟨fun pins s σ H Q I h => ?_⟩
  obtain ⟨φ, S, τ, o, R, r, e, q⟩ := h
  cases e
  exact pts_nil.run pins s σ H Q I (q φ H .refl R)
theorem ts_one (h : PT X c (rdT T W0 ta)) : PTs X [c] (rdT T W0 ta) := pts_one h
theorem lc_of {t : BF} {fe : EF} (hv : ∀ k ∈ vs, True) {us : List Nat} (hus : ∀ k ∈ us, k ∈ vs) {σ : L2.St} {H : Hp} {Q : VK} (h : rdE T W (eLc fi g t fe vs) σ H Q) : tLc (rdI T W fi) (rdG T us g) (rdT T W0 t) (rdE T W0 fe) vs σ H Q := by
  obtain ⟨φ, S, τ, o, R, r, e, q⟩ := h
  unfold eLc at e
  cases e1 : fi τ S with
  | none => rw [e1] at e; cases e
  | some x =>
    rw [e1] at e
    refine ⟨φ, S, τ, x, R, r, e1, ?_⟩
    cases x with
    | ex x S1 => cases e; exact q
    | ok wk S1 =>
      intro φ1 H1 J E1 R1 sv L hL
      simp only [Option.bind_eq_some_iff] at e
      obtain ⟨S9, e2, e3⟩ := e
      cases e3
      obtain ⟨R2, E2⟩ := R1.new (u := .lst []) (o := .lst []) hL ⟨[], upd_same, rfl⟩
      have hL2 : (φ1 ++ [L])[S1.length]? = some L := by rw [← R1.len]; simp
      have r0 := ((r.ext E1).ext E2).wipe vs
      refine ⟨fun i m H => ∃ φ3 S3, Ext (φ1 ++ [L]) (upd H1 L (.lst [])) φ3 H ∧ Rel T φ3 S3 H ∧ goC wk.nxt g t fe S1.length (wipeD τ vs) m i S3 = some S9, ⟨wk.bound + 1, _, _, .refl, R2, e2⟩, ?_⟩
      rintro i m H3 ⟨φ3, S3, E3, R3, e3⟩
      cases m with
      | zero => cases e3
      | succ m =>
        unfold goC at e3
        obtain ⟨sgo, sst⟩ := sv φ3 S3 H3 i (E2.trans E3) R3
        cases hn : wk.nxt i S3 with
        | none => rw [hn] at e3; cases e3
        | some od =>
          rw [hn] at e3
          cases od with
          | none =>
            cases e3
            exact .inl ⟨sst hn, q φ3 H3 _ ((E1.trans E2).trans E3) R3 ⟨L, rfl, E3.get hL2⟩⟩
          | some d =>
            obtain ⟨go, yl⟩ := sgo d hn
            refine .inr ⟨go, fun H' => ∃ φ4 S4, Ext (φ1 ++ [L]) (upd H1 L (.lst [])) φ4 H' ∧ Rel T φ4 S4 H' ∧ goC wk.nxt g t fe S1.length (wipeD τ vs) m (i + 1) S4 = some S9, fun H' h => ⟨m, Nat.lt_succ_self m, h⟩, fun x H' y => ?_⟩
            obtain ⟨E4, R4, r4⟩ := yl x H' y
            simp only at e3
            cases hg1 : g d S3 (wipeD τ vs) with
            | none => rw [hg1] at e3; cases e3
            | some τ4 =>
              rw [hg1] at e3
              refine ⟨φ3, S3, wipeD τ vs, d, τ4, R4, (r0.ext E3).ext E4, r4, hg1, fun σ' r' ks kl => ?_⟩
              refine ⟨(wipe_eq (fun k hk => ks k fun z => hk (hus k z)) kl).trans wipe_wipe, ?_⟩
              simp only at e3
              cases ht : t τ4 S3 with
              | none => rw [ht] at e3; cases e3
              | some ob =>
                rw [ht] at e3
                cases ob with
                | ex x S5 => cases e3
                | ok bb S5 =>
                  refine ⟨φ3, S3, τ4, _, R4, r', ht, fun φ5 H5 E5 R5 => ?_⟩
                  cases bb with
                  | false => exact ⟨φ5, S5, (E3.trans E4).trans E5, R5, e3⟩
                  | true =>
                    rw [if_pos rfl]
                    simp only at e3
                    cases hf : fe τ4 S5 with
                    | none => rw [hf] at e3; cases e3
                    | some od =>
                      rw [hf] at e3
                      cases od with
                      | ex x S6 => cases e3
                      | ok d6 S6 =>
                        refine ⟨φ5, S5, τ4, _, R5, r'.ext E5, hf, fun φ6 H6 v6 E6 R6 r6 => ?_⟩
                        simp only at e3
                        split at e3
                        · rename_i acc hacc
                          split at e3
                          · rename_i hl
                            have hL6 : φ6[S1.length]? = some L := E6.get (E5.get (E4.get (E3.get hL2)))
                            obtain ⟨vs6, k1, k2⟩ := R6.obj _ _ L hacc hL6
                            have E7 := Ext.put (φ := φ6) (u := .lst (vs6 ++ [v6])) (List.mem_of_getElem? hL6) k1
                            obtain ⟨R7, _⟩ := R6.put (o := .lst (acc ++ [d6])) (u := .lst (vs6 ++ [v6])) hL6 (mem_lt hacc) ⟨_, upd_same, (k2.app (RDs.one r6)).ext E7 _ _⟩
                            exact ⟨vs6, k1, by rw [← k2.length]; exact hl, φ6, _, (((E3.trans E4).trans E5).trans E6).trans E7, R7, e3⟩
                          · cases e3
                        · cases e3
variable {elt iter : Expr} {ifs : List Expr} {scope : Scope} {own : List (Str × Nat)} {us : List Nat} {t : BF} {fe : EF}
theorem d_lc (hc : X.calm = true) (hN : X.N.Nodup) (hi : PI X tg iter (rdI T W fi)) (ok : BlkOk X.N X.env.scope scope own)
    (hg : ∀ (s : Shared) (H : Hp) (C : Addr) (cl : List (Str × Addr)) (fp : List Addr), PG (X.blk s H scope (compEnvC scope cl C X.env) fp) tg (rdG T us g))
    (ht : ∀ (s : Shared) (H : Hp) (C : Addr) (cl : List (Str × Addr)) (fp : List Addr), PTs (X.blk s H scope (compEnvC scope cl C X.env) fp) ifs (rdT T W0 t))
    (he : ∀ (s : Shared) (H : Hp) (C : Addr) (cl : List (Str × Addr)) (fp : List Addr), PE (X.blk s H scope (compEnvC scope cl C X.env) fp) elt (rdE T W0 fe))
    (hus : ∀ k ∈ us, k ∈ own.map (·.2) := by decide) (hs : ∀ x, foldedSetIterable iter X.env x = pure x := by intro _; rfl) :
    PE X (.ListComp elt [⟨tg, iter, ifs, 0⟩] scope pos) (rdE T W (eLc fi g t fe (own.map (·.2)))) :=
  (pe_lc hc hN hi ok hg ht he hs).imp fun _ _ _ h => lc_of (fun _ _ => trivial) hus h
theorem s_setLc {i : Nat} {y : Str} {py spos : Pos} (hc : X.calm = true) (hN : X.N.Nodup) (hy : X.N[i]? = some y) (hyl : X.env.scope.names.lookup y = some .local)
    (hsw : swapsWith (.ListComp elt [⟨tg, iter, ifs, 0⟩] scope pos) (some (.Name y py)) spos.line X.env = pure true) (hi : PI X tg iter (rdI T W fi)) (ok : BlkOk X.N X.env.scope scope own)
    (hg : ∀ (s : Shared) (H : Hp) (C : Addr) (cl : List (Str × Addr)) (fp : List Addr), PG (X.blk s H scope (compEnvC scope cl C X.env) fp) tg (rdG T us g))
    (ht : ∀ (s : Shared) (H : Hp) (C : Addr) (cl : List (Str × Addr)) (fp : List Addr), PTs (X.blk s H scope (compEnvC scope cl C X.env) fp) ifs (rdT T W0 t))
    (he : ∀ (s : Shared) (H : Hp) (C : Addr) (cl : List (Str × Addr)) (fp : List Addr), PE (X.blk s H scope (compEnvC scope cl C X.env) fp) elt (rdE T W0 fe))
    (hus : ∀ k ∈ us, k ∈ own.map (·.2) := by decide) (hs : ∀ x, foldedSetIterable iter X.env x = pure x := by intro _; rfl) :
    PS X (.Assign [.Name y py] (.ListComp elt [⟨tg, iter, ifs, 0⟩] scope pos) spos) (rdS T W (sSet i (eLc fi g t fe (own.map (·.2))))) :=
  (ps_setLc hc hN hy hyl hsw hi ok hg ht he hs).imp fun De σ H h => by
    obtain ⟨φ, S, τ, fl, S', R, r, e, q⟩ := h
    have h2 : rdE T W (eLc fi g t fe (own.map (·.2))) σ H (fun v H1 => De.nx (σ.set i (some v)) H1) := by
      refine rdE_sx R r e q fun d S1 v H1 φ1 ⟨E1, R1, r1⟩ e1 q1 => ?_
      cases e1
      exact q1 φ1 H1 _ .refl R1 ((r.ext E1).set i r1)
    exact lc_of (fun _ _ => trivial) hus h2
theorem s_setLcF {i : Nat} {y : Str} {py spos : Pos} (hc : X.calm = true) (hN : X.N.Nodup) (hy : X.N[i]? = some y) (hyl : X.env.scope.names.lookup y = some .local)
    (hsw : swapsWith (.ListComp elt [⟨tg, iter, ifs, 0⟩] scope pos) (some (.Name y py)) spos.line X.env = pure true) (hi : PI X tg iter (rdI T W fi)) (ok : BlkOk X.N X.env.scope scope own)
    (hg : ∀ (s : Shared) (H : Hp) (C : Addr) (cl : List (Str × Addr)) (fp : List Addr), PG (X.blk s H scope (compEnvC scope cl C X.env) fp) tg (rdG T us g))
    (ht : ∀ (s : Shared) (H : Hp) (C : Addr) (cl : List (Str × Addr)) (fp : List Addr), PTs (X.blk s H scope (compEnvC scope cl C X.env) fp) ifs (rdT T W0 t))
    (he : ∀ (s : Shared) (H : Hp) (C : Addr) (cl : List (Str × Addr)) (fp : List Addr), PE (X.blk s H scope (compEnvC scope cl C X.env) fp) elt (rdE T W0 fe))
    (hus : ∀ k ∈ us, k ∈ own.map (·.2) := by decide) (hs : ∀ x, foldedSetIterable iter X.env x = pure x := by intro _; rfl) :
    PS X (.Assign [.Name y py] (.ListComp elt [⟨tg, iter, ifs, 0⟩] scope pos) spos) (rdS T W (sSet i (fz (eLc fi g t fe (own.map (·.2)))))) :=
  (ps_setLc hc hN hy hyl hsw hi ok hg ht he hs).imp fun De σ H h => by
    obtain ⟨φ, S, τ, fl, S', R, r, e, q⟩ := h
    have h2 : rdE T W (fz (eLc fi g t fe (own.map (·.2)))) σ H (fun v H1 => De.nx (σ.set i (some v)) H1) := by
      refine rdE_sx R r e q fun d S1 v H1 φ1 ⟨E1, R1, r1⟩ e1 q1 => ?_
      cases e1
      exact q1 φ1 H1 _ .refl R1 ((r.ext E1).set i r1)
    exact lc_of (fun _ _ => trivial) hus (fz_imp h2)
end
end Sb
end
section
set_option Elab.async false
set_option linter.all false
set_option maxRecDepth 100000
set_option maxHeartbeats 4000000
namespace Sb
open PySem PySem.Spec PyProof.Rows L2

/-! ## all(e for x in xs): a generator over anything that is walked, its element any expression -/
/-- the generator's running code, walked as a body: its frame over the frames that run -/
def gcx (X : Cx) (s4 : Shared) (H4 : Hp) (cenv : Env) (fp : List Addr) (A3 : Around) (pn : List (Addr × Obj)) : Cx :=
  { X with A := A3, s_0 := s4, H_0 := H4, env := cenv, outer := X.stack, stack := cenv :: X.stack, ex := fp, fn := fun _ => true, calm := true, pn := pn, xe := fun _ _ => False }
def nones (n : Nat) : L2.St := List.replicate n none
def tGA (P : Addr) (n : Nat) (wi : TI) (g : TG) (te : TE) : TE := fun σ H Q => wi σ H fun J H1 => GxR.TabG H1 P ∧ ∀ H2, GxR.Tabbed P H1 H2 → ∃ W : Nat → Nat → Hp → Prop, (∃ m, W 0 m H2) ∧ ∀ i m H, W i m H →
  (J.stop i H ∧ Q (.bl true) H) ∨ (J.go i H ∧ ∃ Nx : Hp → Prop, (∀ H', Nx H' → ∃ m', m' < m ∧ W (i + 1) m' H') ∧ ∀ x H', J.yld i H x H' → g x (nones n) H' fun σ2 H2 => te σ2 H2 fun y H3 => ∃ b, y = .bl b ∧ if b = true then Nx H3 else Q (.bl false) H3)
/-- another state over the same heap -/
structure Sh (s s' : Shared) : Prop where
  heap : s'.heap = s.heap
  os : s'.os = s.os
  bare : AllBare s'.gens
theorem Sh.inv {X : Cx} {pins : List (Addr × Obj)} {σ : L2.St} {H : Hp} {s s' : Shared} (I : L2.Inv X pins σ H s) (h : Sh s s') : L2.Inv X pins σ H s' := by
  obtain ⟨hp, g, dr, tk, os⟩ := s'
  obtain ⟨e1, e2, e3⟩ := h
  have e1' : hp = s.heap := e1
  have e2' : os = s.os := e2
  subst e1' e2'
  exact ⟨I.ok, I.os, e3, I.base, I.loc, I.cell, I.free, I.freeC, I.pin, I.hok, I.len⟩
section
variable {X : Cx} {elt iter tg : Expr} {scope : Scope} {gpos : Pos}
abbrev GE (elt tg iter : Expr) (scope : Scope) (gpos : Pos) : Expr := .GeneratorExp elt [⟨tg, iter, [], 0⟩] scope gpos
/-- the end of the generator -/
def REx (Xg : Cx) (Q : VK) : GenEnd := fun _ _ r s1 => r = .ok .next ∧ ∃ σ H, L2.Inv Xg [] σ H s1 ∧ Q (.bl true) H
/-- a truth handed out -/
def YEx (Xg : Cx) (Q : VK) : Protocol := fun _ _ v s1 kap => ∃ b, v = Value.bool b ∧ ∃ σ H, L2.Inv Xg [] σ H s1 ∧ if b = true then ∀ s'', Sh s1 s'' → kap (.send .none) s'' else Q (.bl false) H
theorem seg_gen {A2 : Around} {Xg : Cx} {cenv : Env} {it : Addr} {fp : List Addr} {J : It} {tn : Nat → Heap → Prop} {g : TG} {te : TE} {Q : VK} {n0 : Nat} {W : Nat → Nat → Hp → Prop}
    (hA : Xg.A = A2.over (.compLoop (GE elt tg iter scope gpos) 0 (.ref it) .none cenv) []) (hE : Xg.env = cenv) (hcl : Xg.calm = true) (hxe : Xg.xe = fun _ _ => False) (hn0 : Xg.N.length = n0) (hco : cenv.scope.isCoroutine = false)
    (Tn : Turn Xg.prog Xg.w Xg.K tg J fp it tn) (hg : PG Xg tg g) (he : PE Xg elt te) (hfp : ∀ H, (∀ b ∈ fp, H b = none) → ∀ b ∈ fp, FpOk Xg [] H b)
    (turn : ∀ i m H, W i m H → (J.stop i H ∧ Q (.bl true) H) ∨ (J.go i H ∧ ∃ Nx : Hp → Prop, (∀ H', Nx H' → ∃ m', m' < m ∧ W (i + 1) m' H') ∧ ∀ x H', J.yld i H x H' → g x (nones n0) H' fun σ2 H2 => te σ2 H2 fun y H3 => ∃ b, y = .bl b ∧ if b = true then Nx H3 else Q (.bl false) H3)) :
    ∀ (n i m : Nat) (s₀ s : Shared) (σ : L2.St) (H : Hp), m < n → L2.Inv Xg [] σ H s → tn i s.heap → (∀ b ∈ fp, H b = none) → W i m H →
      Seg (model Xg.prog Xg.w) A2 (REx Xg Q) (YEx Xg Q) n s₀ (.compLoop (GE elt tg iter scope gpos) 0 (.ref it) .none cenv) ((model Xg.prog Xg.w).den (.compLoop (GE elt tg iter scope gpos) 0 (.ref it) .none cenv)) [] s := by
  intro n
  induction n with
  | zero => intro i m s₀ s σ H hm; exact absurd hm (Nat.not_lt_zero _)
  | succ n ih =>
    intro i m s₀ s σ H hm I st fr w
    show Seg _ A2 _ _ _ s₀ _ ((compTurn (GE elt tg iter scope gpos) 0 (.ref it) .none cenv).onRaise (leaving cenv)) [] s
    rw [compTurn_gen, Sem.onRaise_eq_wrap]
    refine seg_bind_wrap (wpAny_standAt ?_)
    rcases turn i m H w with ⟨stop, q⟩ | ⟨go, Nx, hN, step⟩
    · refine seg_bind_wrap ?_
      rw [← hA]
      refine thn (Tn.done Xg rfl rfl rfl hcl i [] s σ H _ I (hfp H fr) st stop) fun r s4 ⟨hr, I4⟩ => ?_
      subst hr
      exact seg_end (.ok .next) ⟨rfl, σ, H, I4, q⟩
    · refine seg_bind_wrap ?_
      rw [← hA]
      refine thn (Tn.item Xg rfl rfl rfl hcl i [] s σ H _ I (hfp H fr) st go) fun r s1 ⟨u, hr, h4⟩ => ?_
      subst hr
      refine seg_bind_wrap ?_
      rw [← hA]
      refine thn h4 fun _ s5 ⟨x, H5, I5, r5, y5, st5, fr5⟩ => ?_
      have I5' := (I5.pinned (hfp H5 fr5) (Tn.obj _ _ st5)).weak (σ' := nones n0) (by rw [I5.len, ← hn0]; simp [nones]) (fun j v hj => by
        unfold nones at hj
        rw [List.getElem?_replicate] at hj
        split at hj <;> cases hj)
      refine seg_bind_wrap ?_
      rw [← hA]
      have hgr := hg.run _ s5 (nones n0) H5 x u _ I5' r5 (step x H5 y5)
      rw [hE, hxe] at hgr
      refine wpAny_mono hgr (fun _ s6 ⟨σ6, H6, I6, q6⟩ => ?_) fun _ _ z => z.elim
      refine seg_bind_wrap (wpAny_tests_nil ?_)
      simp only [if_true]
      have hy : ∀ v, yieldOut cenv v = yieldValue v := fun v => by simp only [yieldOut, hco, Bool.false_eq_true, if_false]
      simp only [hy]
      rw [Sem.bind_eq_wrap', Sem.bind_eq_wrap', Sem.wrap_wrap, Sem.wrap_wrap]
      refine seg_wrap ?_
      rw [← hA]
      have her := he.run _ s6 σ6 H6 _ I6 q6
      rw [hE, hxe] at her
      refine wpAny_mono her (fun v s7 ⟨y, H7, I7, r7, b, hb, q7⟩ => ?_) fun _ _ z => z.elim
      subst hb
      obtain rfl : v = Value.bool b := r7
      refine seg_at (seg_yield rfl rfl rfl ⟨b, rfl, σ6, H7, I7.unpinned, ?_⟩)
      cases b with
      | false => exact q7
      | true =>
        intro s'' hs
        obtain ⟨m', hm', w'⟩ := hN H7 q7
        have keepIt : ∀ b ∈ fp, ∀ o, s5.heap.get? b = some o → s''.heap.get? b = some o := fun b hb o e => by
          rw [hs.heap]
          exact (I7.pin (b, o) (List.mem_append_right _ (List.mem_append_right _ (mem_pinsAt hb e)))).1
        refine seg_again rfl (ih (i + 1) m' _ s'' σ6 H7 (by omega) (hs.inv I7.unpinned) (Tn.keep _ _ _ st5 keepIt) (fun b hb => ?_) w')
        obtain ⟨o, e, d⟩ := Tn.obj _ _ st5 b hb
        exact (I7.pin (b, o) (List.mem_append_right _ (List.mem_append_right _ (mem_pinsAt hb e)))).2.1
theorem seg_gen0 {A2 : Around} {Xg : Cx} {cenv : Env} {it : Addr} {fp : List Addr} {J : It} {tn : Nat → Heap → Prop} {g : TG} {te : TE} {Q : VK} {n0 : Nat} {W : Nat → Nat → Hp → Prop}
    (hA : Xg.A = A2.over (.compLoop (GE elt tg iter scope gpos) 0 (.ref it) .none cenv) []) (hE : Xg.env = cenv) (hcl : Xg.calm = true) (hxe : Xg.xe = fun _ _ => False) (hn0 : Xg.N.length = n0) (hco : cenv.scope.isCoroutine = false)
    (Tn : Turn Xg.prog Xg.w Xg.K tg J fp it tn) (hg : PG Xg tg g) (he : PE Xg elt te) (hfp : ∀ H, (∀ b ∈ fp, H b = none) → ∀ b ∈ fp, FpOk Xg [] H b)
    (turn : ∀ i m H, W i m H → (J.stop i H ∧ Q (.bl true) H) ∨ (J.go i H ∧ ∃ Nx : Hp → Prop, (∀ H', Nx H' → ∃ m', m' < m ∧ W (i + 1) m' H') ∧ ∀ x H', J.yld i H x H' → g x (nones n0) H' fun σ2 H2 => te σ2 H2 fun y H3 => ∃ b, y = .bl b ∧ if b = true then Nx H3 else Q (.bl false) H3))
    {m : Nat} {s₀ s : Shared} {σ : L2.St} {H : Hp} (I : L2.Inv Xg [] σ H s) (st : tn 0 s.heap) (fr : ∀ b ∈ fp, H b = none) (w : W 0 m H) :
      Seg (model Xg.prog Xg.w) A2 (REx Xg Q) (YEx Xg Q) (m + 1) s₀ (.compStart (GE elt tg iter scope gpos) 0 (.ref it) .none cenv) ((model Xg.prog Xg.w).den (.compStart (GE elt tg iter scope gpos) 0 (.ref it) .none cenv)) [] s := by
  have loop := seg_gen hA hE hcl hxe hn0 hco Tn hg he hfp turn (m + 1) 0 m s₀ s σ H (Nat.lt_succ_self m) I st fr w
  show Seg _ A2 _ _ _ s₀ _ ((compStart (GE elt tg iter scope gpos) 0 (.ref it) .none cenv).onRaise (leaving cenv)) [] s
  unfold compStart
  rw [Sem.onRaise_eq_wrap]
  show Seg _ A2 _ _ _ s₀ _ ((ask >>= _).wrap _ _ _ _) [] s
  refine seg_bind_wrap (wpAny_askSetting ?_)
  split
  · exact seg_again rfl loop
  · refine seg_bind_wrap (wpAny_rule ?_)
    show Seg _ A2 _ _ _ s₀ _ ((standAt iter.pos >>= _).wrap _ _ _ _) [] s
    exact seg_bind_wrap (wpAny_standAt (seg_bind_wrap (Tn.self _ 0 s _ _ st (seg_again rfl loop))))

/-! ### the consumer -/
abbrev genObj (g : Nat) (nm qn : Str) (t1 t2 : Tok) : Obj := { cls := .type "generator", data := .fields #[.int g 0, .str nm t1, .str qn t2] }
theorem all_loop {P : Program} {w : World} {A : Around} {Xg : Cx} {a : Addr} {g : Nat} {nm qn : Str} {t1 t2 : Tok} {Q : VK} {Rz : Result → Shared → Prop} (hP : Xg.prog = P) (hw : Xg.w = w) (hh : A.handled = none) (hroom : A.depth < recursionLimit) (hpn : (a, genObj g nm qn t1 t2) ∈ Xg.pn)
    (hR : ∀ b σ H s' s'', L2.Inv Xg [] σ H s' → s''.os = s'.os → AllBare s''.gens → (∀ b o, s'.heap.get? b = some o → s''.heap.get? b = some o) → Q (.bl b) H → Rz (.ok (.ret (.bool b))) s'') :
    ∀ (n : Nat) (s : Shared) (gs : GenState), s.gens[g]? = some gs → (∃ σ H, L2.Inv Xg [] σ H s) → (∀ s'', Sh s s'' → gs.Goes (model P w) A.in1.in1 (REx Xg Q) (YEx Xg Q) n (.send .none) s'') →
      codeAny (model P w) A (.builtin "all.loop" ⟨[.ref a], []⟩) Rz s := by
  subst hP hw
  intro n
  induction n with
  | zero =>
    intro s gs hgs ⟨σ, H, I⟩ hgo
    have hlt : g < s.gens.size := by
      rcases Nat.lt_or_ge g s.gens.size with z | z
      · exact z
      · rw [Array.getElem?_eq_none z] at hgs; cases hgs
    have hpa := (I.pin _ (List.mem_append_left _ hpn)).1
    refine codeAny_builtin F.entry_all_loop ?_
    rw [Around.under_plainId F.plain_all_loop _]
    show wpAny _ A.in1 (pyNext (.ref a) >>= _) _ _ s
    refine wpAny_bind (wpAny_pyNext_genexpQ (A := A.in1) (P := fun _ s1 => fun s2 => ∃ σ H, L2.Inv Xg [] σ H s2 ∧ Q (.bl true) H) hh I.nolimit hroom ⟨_, _, _, hpa, rfl, rfl, rfl⟩ hgs
      (hgo _ ⟨rfl, rfl, allBare_setGen I.bare rfl⟩) (fun v s₁ gs' hb hy => ?_) fun s₁ ⟨σ1, H1, I1, q1⟩ h' kk => ?_)
    · obtain ⟨b, rfl, σ1, H1, I1, q1⟩ := hy
      refine wpAny_bind (wpAny_holding (wpAny_truthy_bool ?_))
      refine wpAny_bind (wpAny_letGo ?_)
      cases b with
      | true => exact (q1 s₁ ⟨rfl, rfl, I1.bare⟩).elim
      | false =>
        simp only [Bool.false_eq_true, if_false]
        exact wpAny_bind (wpAny_rule (wpAny_pure (hR false σ1 H1 s₁ _ I1 rfl (allBare_setGen I1.bare hb) (fun _ _ z => z) q1)))
    · exact wpAny_bind (wpAny_rule (wpAny_pure (hR true σ1 H1 s₁ _ I1 rfl (allBare_setGen I1.bare rfl) kk q1)))
  | succ n ih =>
    intro s gs hgs ⟨σ, H, I⟩ hgo
    have hlt : g < s.gens.size := by
      rcases Nat.lt_or_ge g s.gens.size with z | z
      · exact z
      · rw [Array.getElem?_eq_none z] at hgs; cases hgs
    have hpa := (I.pin _ (List.mem_append_left _ hpn)).1
    refine codeAny_builtin F.entry_all_loop ?_
    rw [Around.under_plainId F.plain_all_loop _]
    show wpAny _ A.in1 (pyNext (.ref a) >>= _) _ _ s
    refine wpAny_bind (GenW.wpAny_gsz (n := g + 1) hlt (wpAny_pyNext_genexpQ (A := A.in1) (P := fun _ s1 => fun s2 => ∃ σ H, L2.Inv Xg [] σ H s2 ∧ Q (.bl true) H) hh I.nolimit hroom ⟨_, _, _, hpa, rfl, rfl, rfl⟩ hgs
      (hgo _ ⟨rfl, rfl, allBare_setGen I.bare rfl⟩) (fun v s₁ gs' hb hy => ?_) fun s₁ ⟨σ1, H1, I1, q1⟩ h' kk => ?_))
    · intro hsz
      rw [GenW.setGen_size] at hsz
      obtain ⟨b, rfl, σ1, H1, I1, q1⟩ := hy
      refine wpAny_bind (wpAny_holding (wpAny_truthy_bool ?_))
      refine wpAny_bind (wpAny_letGo ?_)
      cases b with
      | true =>
        simp only [if_true] at q1 ⊢
        have sh : Sh s₁ (s₁.setGen g gs') := ⟨rfl, rfl, allBare_setGen I1.bare hb⟩
        refine wpAny_pure ⟨plainId_quiet F.plain_all_loop _, ih (s₁.setGen g gs') gs' (setGen_at hsz) ⟨σ1, H1, sh.inv I1⟩ fun s'' h2 => ?_⟩
        exact q1 s'' ⟨h2.heap, h2.os, h2.bare⟩
      | false =>
        simp only [Bool.false_eq_true, if_false] at q1 ⊢
        exact wpAny_bind (wpAny_rule (wpAny_pure (hR false σ1 H1 s₁ _ I1 rfl (allBare_setGen I1.bare hb) (fun _ _ z => z) q1)))
    · intro _
      exact wpAny_bind (wpAny_rule (wpAny_pure (hR true σ1 H1 s₁ _ I1 rfl (allBare_setGen I1.bare rfl) kk q1)))
end
end Sb
end
section
set_option Elab.async false
set_option linter.all false
set_option maxRecDepth 100000
set_option maxHeartbeats 4000000
namespace Sb
open PySem PySem.Spec PyProof.Rows L2

structure GenSc (scope : Scope) : Prop where
  kind : scope.kind = .function
  co : scope.isCoroutine = false
  cell : ∀ y ∈ scope.names, y.2 ≠ .cell
  free : ∀ y ∈ scope.names, y.2 ≠ .free
  dot : scope.names.lookup (".0" : Str) = some NameKind.local
theorem cloFrom_nil {cells : List (Str × Addr)} : ∀ {names : List (Str × NameKind)}, (∀ y ∈ names, y.2 ≠ .free) → cloFrom cells names [] = []
  | [], _ => rfl
  | (n, k) :: r, h => by
    unfold cloFrom
    have hk : (k == NameKind.free) = false := by
      have := h (n, k) List.mem_cons_self
      simpa using this
    rw [hk]
    exact cloFrom_nil fun y hy => h y (List.mem_cons_of_mem _ hy)
abbrev gEnv (scope : Scope) (C : Addr) (code : Value) (env : Env) : Env := genEnv scope [] C code builtinsNs env
section
variable {X : Cx} {elt iter tg : Expr} {scope : Scope} {gpos pos p : Pos} {k : Nat} {c P : Addr} {wi : TI} {g : TG} {te : TE}
/-- the contexts that the element may be asked in -/
def GenIn (X : Cx) (scope : Scope) (k : Nat) (Φ : Cx → Prop) : Prop := ∀ (s4 : Shared) (H4 : Hp) (C : Addr) (code : Value) (fp : List Addr) (A3 : Around) (pn : List (Addr × Obj)), Room k A3 → (X.A.guards = some [] → A3.guards = some []) → Φ (gcx X s4 H4 (gEnv scope C code X.env) fp A3 pn)
theorem lookup_kind {names : List (Str × NameKind)} {k : NameKind} (h : ∀ y ∈ names, y.2 ≠ k) (x : Str) : names.lookup x ≠ some k := fun e => h (x, k) (PySem.mem_of_lookup e) rfl

theorem gen_cont {pins : List (Addr × Obj)} {σ : L2.St} {H3 : Hp} {s3 : Shared} {Q : VK} {it : Addr} {fp : List Addr} {J : It} {tn : Nat → Heap → Prop} {code : Value} {W : Nat → Nat → Hp → Prop} (hcalm : X.calm = true) (hr : Room (k + 1) X.A) (S : GenSc scope)
    (hpg : GenIn X scope k fun Y => PG Y tg g) (hpe : GenIn X scope k fun Y => PE Y elt te) (I3 : L2.Inv X pins σ H3 s3) (Tn : Turn X.prog X.w X.K tg J fp it tn) (st3 : tn 0 s3.heap) (f3 : ∀ b ∈ fp, FpOk X pins H3 b) (hit : it ∈ fp)
    (hW : ∃ m, W 0 m H3)
    (turn : ∀ i m H, W i m H → (J.stop i H ∧ Q (.bl true) H) ∨ (J.go i H ∧ ∃ Nx : Hp → Prop, (∀ H', Nx H' → ∃ m', m' < m ∧ W (i + 1) m' H') ∧ ∀ x H', J.yld i H x H' → g x (nones X.N.length) H' fun σ2 H2 => te σ2 H2 fun y H3 => ∃ b, y = .bl b ∧ if b = true then Nx H3 else Q (.bl false) H3))
    {h' : Heap} (hn' : h'.Ns s3.heap.objs.size (fun y => if y = ".0" then some (.ref it) else none)) (hs' : Heap.SameBut s3.heap.objs.size (s3.heap.push { cls := .type "frame", data := .dict #[] }) h') {nm qn : Str} {t1 t2 : Tok} {tk : Nat} :
    wpAny (model X.prog X.w) X.A (call (.builtin "all") [.ref h'.objs.size]) (EP X pins σ Q) X.xe
      { s3 with gens := s3.gens.push (.fresh (.compStart (GE elt tg iter scope gpos) 0 (.ref it) .none (gEnv scope s3.heap.objs.size code X.env))), toks := tk, heap := h'.push (genObj s3.gens.size nm qn t1 t2) } := by
  obtain ⟨m, w0⟩ := hW
  have hsz : h'.objs.size = s3.heap.objs.size + 1 := by rw [hs'.1, Heap.size_push]
  have keep1 : ∀ b o, s3.heap.get? b = some o → h'.get? b = some o := fun b o e => hs'.extBut b o (Nat.ne_of_lt (Heap.lt_size e)) (Heap.get?_push_of_some _ e)
  have keep2 : ∀ b o, s3.heap.get? b = some o → (h'.push (genObj s3.gens.size nm qn t1 t2)).get? b = some o := fun b o e => Heap.get?_push_of_some _ (keep1 b o e)
  have hfpl : ∀ b ∈ fp, b < s3.heap.objs.size := fun b hb => by
    obtain ⟨o, e, _⟩ := Tn.obj _ _ st3 b hb
    exact Heap.lt_size e
  have hstk : ∀ b ∈ fp, b ∉ frs X.stack := fun b hb z => by
    rcases List.mem_cons.mp (I3.stkSub b z) with e | e
    · exact (f3 b hb).2.1 e
    · exact (f3 b hb).2.2.1 e
  let cenv : Env := gEnv scope s3.heap.objs.size code X.env
  let A3 : Around := X.A.in1.in1.over (.compLoop (GE elt tg iter scope gpos) 0 (.ref it) .none cenv) []
  have hA3 : Room k A3 := ⟨hr.hd, by
      have h1 := hr.dp
      have e : A3.depth = X.A.depth + 1 := rfl
      rw [e]; omega, by
      have h1 := hr.un
      have e : A3.units = X.A.units + 1 + 1 + 3 := rfl
      rw [e]; omega⟩
  have hgu : X.A.guards = some [] → A3.guards = some [] := fun z => by
    have e : A3.guards = pushGuards [] (pushGuards [] X.A.guards) := rfl
    rw [e, z]
    rfl
  have hfr : A3.frames = some (cenv :: X.stack) := by
    have e : A3.frames = pushEnvs [cenv] (pushEnvs [] X.A.frames) := rfl
    rw [e, I3.ok.frames]
    rfl
  let Xg : Cx := gcx X s3 H3 cenv fp A3 [(h'.objs.size, genObj s3.gens.size nm qn t1 t2)]
  have okG : Xg.Ok := by
    refine ⟨I3.ok.mod, S.kind, I3.ok.glob, rfl, Nat.le_refl _, fun x y c e => ?_, fun x hx => ?_, fun x c _ e => ?_, fun _ => hr.hd, hfr, .inr ⟨rfl, rfl⟩, fun b hb => ⟨Nat.ne_of_lt (hfpl b hb), fun x c e => ?_⟩, I3.bs, Nat.le_trans I3.ok.bsz I3.sz, fun b o e hb => ?_, hstk, I3.stack, I3.stkFree⟩
    · cases e
    · rcases hx with hx | hx
      · exact absurd hx (lookup_kind S.cell x)
      · exact absurd hx (lookup_kind S.free x)
    · cases e
    · cases e
    · rcases (f3 b hb).2.2.2.1 with z | z
      · exact I3.ok.noex b o e z
      · exact absurd (Nat.lt_of_lt_of_le (Heap.lt_size e) (Nat.le_trans I3.ok.bsz z)) (Nat.lt_irrefl _)
  have hCn : H3 s3.heap.objs.size = none := I3.hok.fresh (Nat.le_refl _)
  have han : H3 h'.objs.size = none := I3.hok.fresh (by rw [hsz]; exact Nat.le_succ _)
  have IG : L2.Inv Xg [] (nones X.N.length) H3 { s3 with gens := s3.gens.push (.fresh (.compStart (GE elt tg iter scope gpos) 0 (.ref it) .none cenv)), toks := tk, heap := h'.push (genObj s3.gens.size nm qn t1 t2) } := by
    refine ⟨okG, rfl, I3.bare.push rfl, Un.kept keep2, ⟨_, hn'.push _, fun i x v _ e _ => ?_⟩, fun x c e => ?_, hCn, fun x c e => ?_, fun q hq => ?_, I3.hok.kept keep2, ?_⟩
    · unfold nones at e
      rw [List.getElem?_replicate] at e
      split at e <;> cases e
    · cases e
    · cases e
    · have e : q = (h'.objs.size, genObj s3.gens.size nm qn t1 t2) := by simpa [Xg, gcx] using hq
      subst e
      refine ⟨Heap.get?_push_size _ rfl, han, ?_, fun z => ?_, fun v z => by cases z⟩
      · show h'.objs.size ≠ s3.heap.objs.size
        omega
      · have z' : h'.objs.size ∈ frs X.stack := z
        have h9 := I3.stkSub _ z'
        have h8 : h'.objs.size < s3.heap.objs.size := by
          rcases List.mem_cons.mp h9 with e | e
          · rw [e]; exact I3.lt
          · obtain ⟨_, o, ho, _⟩ := I3.ok.funs.mem e
            exact Nat.lt_of_lt_of_le (Heap.lt_size ho) I3.sz
        omega
    · show (nones X.N.length).length = X.N.length
      simp [nones]
  have hfpg : ∀ H, (∀ b ∈ fp, H b = none) → ∀ b ∈ fp, FpOk Xg [] H b := fun H hn b hb => by
    refine ⟨hn b hb, Nat.ne_of_lt (hfpl b hb), hstk b hb, .inl hb, fun x c e => ?_, fun q hq => ?_⟩
    · cases e
    · have e : q = (h'.objs.size, genObj s3.gens.size nm qn t1 t2) := by simpa [Xg, gcx] using hq
      subst e
      exact Nat.ne_of_gt (Nat.lt_of_lt_of_le (hfpl b hb) (by show s3.heap.objs.size ≤ h'.objs.size; rw [hsz]; exact Nat.le_succ _))
  have hpg' : PG Xg tg g := hpg s3 H3 _ code fp A3 _ hA3 hgu
  have hpe' : PE Xg elt te := hpe s3 H3 _ code fp A3 _ hA3 hgu
  refine call_function_tree F.kind_all F.plain_all F.entry_all (F.args_all1 _) ?_
  unfold Builtin.«all»
  refine wpAny_bind (m := oneArg "all" _) (wpAny_pure ?_)
  refine wpAny_bind (wpAny_pyIter_gen (g := s3.gens.size) ⟨_, _, _, Heap.get?_push_size _ rfl, rfl, rfl, rfl⟩ ?_)
  refine wpAny_pure ⟨plainId_quiet F.plain_all_loop _, ?_⟩
  refine all_loop (Xg := Xg) (g := s3.gens.size) (nm := nm) (qn := qn) (t1 := t1) (t2 := t2) (Q := Q) rfl rfl hr.hd (by have := hr.dp; show X.A.depth < _; omega) (by show _ ∈ [_]; exact List.mem_cons_self) (fun b σ' H' s' s'' J os bare kk q => ?_) (m + 1) _ _ (Array.getElem?_push_size ..) ⟨_, _, IG⟩ fun s'' sh => ?_
  · have U : Un (frs X.stack) fp H3 H' s3.heap s''.heap := Un.trans (show Un (frs X.stack) fp H3 H' s3.heap s'.heap from J.base) (Un.kept kk)
    have hc2 : ∀ b ∈ fp, (b ∈ X.ex ∨ X.s_0.heap.objs.size ≤ b) ∧ b ≠ X.env.locals ∧ (∀ x c, X.env.cells.lookup x = some c → c ≠ b) ∧ ∀ p ∈ X.pn ++ pins, p.1 ≠ b := fun b hb => by
      obtain ⟨_, f1, _, f4, f5, f6⟩ := f3 b hb
      exact ⟨f4, f1, f5, f6⟩
    exact ⟨.bl b, H', I3.call' (os.trans J.os) U (J.hok.kept kk) bare hc2, rfl, q⟩
  · exact ⟨rfl, seg_gen0 (Xg := Xg) (A2 := X.A.in1.in1) (cenv := cenv) rfl rfl rfl rfl rfl S.co Tn hpg' hpe' hfpg turn (sh.inv IG) (Tn.keep _ _ _ st3 fun b _ o e => by rw [sh.heap]; exact keep2 b o e) (fun b hb => (f3 b hb).1) w0⟩

theorem pe_allG (hcalm : X.calm = true) (hr : Room (k + 1) X.A) (hg : Gl X "all") (hm : X.mg "all" = none) (TB : GxR.TabB X.base X.mg c P) (hcode : X.env.code = .ref c) (S : GenSc scope) (hi : PI X tg iter wi)
    (hpg : GenIn X scope k fun Y => PG Y tg g) (hpe : GenIn X scope k fun Y => PE Y elt te) (hs : ∀ v, genFold iter X.env v = pure v)
    (he : starEach [GE elt tg iter scope gpos] X.env = (false, eval (GE elt tg iter scope gpos) X.env) :: starEach [] X.env := by rfl) :
    PE X (.Call (.Name "all" p) [GE elt tg iter scope gpos] [] pos) (tGA P X.N.length wi g te) := by
  refine ⟨fun pins s σ H Q I h => ?_⟩
  have hb : bootBuiltins "all" = some (.builtin "all") := by decide +kernel
  refine wpAny_Call_Name_kw (ld_blt I hg hm hb ?_)
  refine PyProof.Rows.callWith_builtin1 ?_ he (by rfl)
  rw [he]
  show wpAny _ _ (spliced ((false, eval (GE elt tg iter scope gpos) X.env) :: backTo pos (starEach [] X.env))) _ _ s
  refine Calls.spliced_cons ?_
  have hclo : closureFor scope X.env = pure [] := by
    rw [closure_ok fun y hy e => absurd e (S.free y hy), cloFrom_nil S.free]
  refine wpAny_GeneratorExp_make S.co hclo S.cell S.dot S.kind (by have := hr.dp; omega) ?_ hs
  refine thn (hi.run pins s σ H _ I h) fun xv s1 h1 => thn h1 fun itv s2 hp2 => ?_
  obtain ⟨it, fp, tn, J, H2, e2, I2, Tn, st2, f2, ⟨ps, hP, ht⟩, allT⟩ := hp2
  subst e2
  refine ⟨I2.nolimit, ?_⟩
  have hPs : s2.heap.get? P = some { cls := .none, data := .fields ps } := I2.hok P _ hP
  have cd : PySem.W.CodeHd s2.heap c P := TB.code.keeps fun b u e => I2.bk b u e
  have nfP : ∀ b ∈ fp, b ≠ P := fun b hb z => by
    have := (f2 b hb).1
    rw [z, hP] at this
    cases this
  have cont : ∀ (code : Value) (s3 : Shared) (H3 : Hp), L2.Inv X pins σ H3 s3 → GxR.Tabbed P H2 H3 → (∀ b o, b ≠ P → s2.heap.get? b = some o → s3.heap.get? b = some o) →
      wpAny (model X.prog X.w) X.A (builtinsFor X.env.globals X.env.builtins) (fun bi s₄ => ∀ h', h'.Ns s₄.heap.objs.size (fun y => if y = ".0" then some (.ref it) else none) → Heap.SameBut s₄.heap.objs.size (s₄.heap.push { cls := .type "frame", data := .dict #[] }) h' →
        wpAny (model X.prog X.w) X.A (spliced (backTo pos (starEach [] X.env))) (fun vs s' => wpAny (model X.prog X.w) X.A (call (.builtin "all") (.ref h'.objs.size :: vs)) (EP X pins σ Q) X.xe s') X.xe { s₄ with
            gens := s₄.gens.push (.fresh (.compStart (GE elt tg iter scope gpos) 0 (.ref it) .none (genEnv scope [] s₄.heap.objs.size code bi X.env))),
            toks := s₄.toks + 1 + 1 + 1,
            heap := h'.push { cls := .type "generator", data := .fields #[.int s₄.gens.size 0, .str "<genexpr>" (s₄.toks + 1), .str (X.env.qual ++ "<genexpr>") (s₄.toks + 1 + 1)] } }) X.xe s3 := by
    intro code s3 H3 I3 tb kp
    obtain ⟨bm, ob, e1, b2, b3, e4, e5, e6, e7, e8⟩ := TB.bm
    refine wpAny_builtinsFor (m := X.mg) (by rw [I3.ok.glob]; exact I3.mod.glob.keeps I3.bk) e1 b2 (I3.bk _ _ e5) e6 e7 e8 ?_
    intro h' hn' hs'
    refine Calls.spliced_nil ?_
    exact gen_cont hcalm hr S hpg hpe I3 Tn (Tn.keep _ _ _ st2 fun b hb o e => kp b o (nfP b hb) e) (fun b hb => by
      obtain ⟨f0, fr⟩ := f2 b hb
      exact ⟨by rw [tb.2 b (nfP b hb)]; exact f0, fr⟩) Tn.mem (allT H3 tb).choose_spec.1 (allT H3 tb).choose_spec.2 hn' hs'
  cases hf : codeAmong gpos ps.toList with
  | none =>
    refine wpAny_genexprCodeX hcode (cd.code hPs ht) (cd.tab hPs) hf fun c' h' tk hx hge hlt hco' _ htab' _ => ?_
    obtain ⟨o1, vs, f1, tf, fl, tgk, inF, tx, tt, op, _, _, _, _, _, _, _, _, _, htr, _⟩ := hco'
    have I3 := GxR.inv_tab (more := #[rawInt gpos.line, rawInt gpos.col, .ref c']) (h' := h') (g' := s2.gens) (d' := s2.drawn) (t' := tk) I2 hP (fun b o hb e => hx b o hb e) htab'.2 I2.bare
    exact cont _ _ _ I3 ⟨⟨_, upd_same, htr⟩, fun b hb => upd_ne hb⟩ fun b o hb e => hx b o hb e
  | some cv =>
    refine wpAny_genexprCode_hit hcode (cd.code hPs ht) hf ?_
    exact cont cv s2 H2 I2 ⟨⟨ps, hP, ht⟩, fun _ _ => rfl⟩ fun b o _ e => e
end
end Sb
end
section
set_option Elab.async false
set_option linter.all false
set_option maxRecDepth 100000
set_option maxHeartbeats 4000000
namespace Sb
open PySem PySem.Spec PyProof.Rows L2

/-! ## a def by its body -/
def ini (n : Nat) (ds : List D) : Sl := ds.map some ++ List.replicate (n - ds.length) none
def fnM (n : Nat) (f : SF) : List D → M D := fun ds S => match f (ini n ds) S with
  | some (.rt d, S1) => some (.ok d S1)
  | some (.nx _, S1) => some (.ok .non S1)
  | some (.xx x _, S1) => some (.ex x S1)
  | _ => none
theorem ini_rsl {T : Tb} {H : Hp} {φ : List Addr} {N : List Str} {ds : List D} {vs : List V} (r : RDs T H φ ds vs) : RSl T H φ (ini N.length ds) (L2.start N vs) := by
  have l := r.length
  refine ⟨by unfold ini L2.start; simp [l], fun i d h => ?_⟩
  unfold ini at h
  unfold L2.start
  by_cases hi : i < ds.length
  · rw [List.getElem?_append_left (by simpa using hi), List.getElem?_map] at h
    cases e : ds[i]? with
    | none => rw [e] at h; cases h
    | some d0 =>
      rw [e] at h
      cases h
      obtain ⟨v, h1, h2⟩ := r.get e
      exact ⟨v, by rw [List.getElem?_append_left (by simp; omega), List.getElem?_map, h1]; rfl, h2⟩
  · rw [List.getElem?_append_right (by simpa using hi), List.getElem?_replicate] at h
    split at h <;> cases h
section
variable {P : Program} {w : World} {mg : Str → Option Value} {base : Heap} {x qual : Str} {params : Arguments} {body : List Stmt} {scope : Scope} {f : Addr} {fd : FuncData} {T : Tb} {k : Nat}
/-- the wish of a def's body about what is raised -/
abbrev eW (E : XK) : WX := fun c d _ H => E c d H
abbrev bX (P : Program) (w : World) (K : PySem.W.Frag) (mg : Str → Option Value) (base : Heap) (N : List Str) (qual : Str) (scope : Scope) (f : Addr) (cdv : Value) (A : Around) (outer : List Env) (s : Shared) (H : Hp) (E : XK) : Cx := cxOf (L2.CX P w) P w K mg base N qual scope f cdv A outer s H E
theorem bX_takes {K : PySem.W.Frag} {N : List Str} {cdv : Value} {A : Around} {outer : List Env} {s : Shared} {H : Hp} {E : XK} : Takes (bX P w K mg base N qual scope f cdv A outer s H E) (eW E) := takes_of rfl rfl rfl rfl
theorem bX_passes {K : PySem.W.Frag} {N : List Str} {cdv : Value} {A : Around} {outer : List Env} {s : Shared} {H : Hp} {E : XK} : PassesOwn (model P w) (bX P w K mg base N qual scope f cdv A outer s H E).A (bX P w K mg base N qual scope f cdv A outer s H E).env (bX P w K mg base N qual scope f cdv A outer s H E).xe := passes_of rfl
end
section
variable {X : Cx} {T : Tb} {W : WX} {pos : Pos} {e : Expr} {es : List Expr} {ra : AF} {fa fb : EF}
/-! ## raise C('..') -/
def sRaise (C : Addr) : SF := fun τ S => some (.xx ⟨C, none⟩ τ, S)
theorem s_raise {C : Addr} {x m : Str} {j : Nat} {p p2 pos' : Pos} (hc : X.calm = true) (tk : Takes X W) (gC : X.mg x = some (.ref C)) (q : PySem.W.excIn X.K C He.veBase "ValueError.__new__" = true ∧ PySem.W.keepIn X.K (.ref C) = true ∧ PySem.W.subIn X.K (.ref C) (.type "BaseException") = some true ∧ PySem.W.typeIn X.K (.ref C) = some (.type "type"))
    (hg : Gl X x := by rfl) (hdb : (x == ("__debug__" : Str)) = false := by decide) : PS X (.Raise (some (.Call (.Name x p) [.Constant (.str m) j p2] [] pos')) none pos) (rdS T W (sRaise C)) :=
  (ps_raise hc tk (pmk_own PySem.F.excBase_ValueError q.1 gC q.2.1 (raises_own q.2.2.1 q.2.2.2) hg hdb)).imp fun De σ H h => by
    obtain ⟨φ, S, τ, fl, S', R, r, e, q⟩ := h
    cases e
    exact q φ H σ none .refl R r rfl
end
end Sb
end
section
set_option Elab.async false
set_option linter.all false
set_option maxRecDepth 100000
set_option maxHeartbeats 4000000
namespace Sb
open PySem PySem.Spec PyProof.Rows L2
section
variable {X : Cx} {T : Tb} {W : WX} {pos : Pos} {elt tg iter : Expr} {fi : IF} {g : TF} {fe : EF} {scope : Scope}
/-! ## all(..) over data -/
def goA (nxt : Nat → Sto → Option (Option D)) (g : TF) (fe : EF) (n : Nat) : Nat → Nat → Sto → Option (Bool × Sto)
  | 0, _, _ => none
  | m + 1, i, S => match nxt i S with
    | none => none
    | some none => some (true, S)
    | some (some d) => match g d S (List.replicate n none) with
      | none => none
      | some τ1 => match fe τ1 S with
        | some (.ok (.bl true) S1) => goA nxt g fe n m (i + 1) S1
        | some (.ok (.bl false) S1) => some (false, S1)
        | _ => none
def eAll (n : Nat) (fi : IF) (g : TF) (fe : EF) : EF := fun τ S => match fi τ S with
  | none => none
  | some (.ex x S1) => some (.ex x S1)
  | some (.ok wk S1) => (goA wk.nxt g fe n (wk.bound + 1) 0 S1).bind fun r => some (.ok (.bl r.1) r.2)
theorem tabbed_rel {φ : List Addr} {S : Sto} {H1 H2 : Hp} {P : Addr} (hP : P ∈ T.tabs) (R : Rel T φ S H1) (t : GxR.Tabbed P H1 H2) : Rel T φ S H2 ∧ Ext φ H1 φ H2 := by
  obtain ⟨tg2, keep⟩ := t
  obtain ⟨ps, h1, _⟩ := R.tab P hP
  have ne : ∀ {b : Addr} {u : HO}, H1 b = some u → (∀ qs, u ≠ .tbl qs) → b ≠ P := fun hb hu z => by
    rw [z, h1] at hb
    cases hb
    exact hu ps rfl
  have E : Ext φ H1 φ H2 := ⟨⟨[], by simp⟩, fun a vs h => by rw [keep a (ne h fun _ z => by cases z)]; exact h, fun a o u h => by rw [keep a (ne h fun _ z => by cases z)]; exact h, fun a vs _ h => by rw [keep a (ne h fun _ z => by cases z)]; exact h, fun a vs _ h => .inl (by rw [keep a (ne h fun _ z => by cases z)]; exact h), fun _ h => .inl h, fun a h => by
    by_cases q : a = P
    · subst q; obtain ⟨_, h2, _⟩ := tg2; rw [h2] at h; cases h
    · rw [keep a q] at h; exact h⟩
  refine ⟨⟨R.len, R.nd, fun n o a h2 h3 => ?_, fun p hp => ?_⟩, E⟩
  · have r := R.obj n o a h2 h3
    obtain ⟨u, hu, _, n2, _⟩ := r.some
    exact r.ext E (keep a (ne hu n2))
  · by_cases q : p = P
    · subst q; exact tg2
    · obtain ⟨qs, h4, h5⟩ := R.tab p hp
      exact ⟨qs, by rw [keep p q]; exact h4, h5⟩
theorem nones_rsl {H : Hp} {φ : List Addr} {n : Nat} : RSl T H φ (List.replicate n none) (nones n) := ⟨by simp [nones], fun i d h => by
  rw [List.getElem?_replicate] at h
  split at h <;> cases h⟩
theorem all_of {P : Addr} (hP : P ∈ T.tabs) {us : List Nat} {n : Nat} {σ : L2.St} {H : Hp} {Q : VK} (h : rdE T W (eAll n fi g fe) σ H Q) : tGA P n (rdI T W fi) (rdG T us g) (rdE T W0 fe) σ H Q := by
  obtain ⟨φ, S, τ, o, R, r, e, q⟩ := h
  unfold eAll at e
  cases e1 : fi τ S with
  | none => rw [e1] at e; cases e
  | some x =>
    rw [e1] at e
    refine ⟨φ, S, τ, x, R, r, e1, ?_⟩
    cases x with
    | ex x S1 => cases e; exact q
    | ok wk S1 =>
      intro φ1 H1 J E1 R1 sv
      refine ⟨R1.tab P hP, fun H2 t => ?_⟩
      obtain ⟨R2, E2⟩ := tabbed_rel hP R1 t
      simp only [Option.bind_eq_some_iff] at e
      obtain ⟨⟨rb, S9⟩, e2, e3⟩ := e
      cases e3
      refine ⟨fun i m H => ∃ φ3 S3, Ext φ1 H2 φ3 H ∧ Rel T φ3 S3 H ∧ goA wk.nxt g fe n m i S3 = some (rb, S9), ⟨wk.bound + 1, _, _, .refl, R2, e2⟩, ?_⟩
      rintro i m H3 ⟨φ3, S3, E3, R3, e3⟩
      cases m with
      | zero => cases e3
      | succ m =>
        unfold goA at e3
        obtain ⟨sgo, sst⟩ := sv φ3 S3 H3 i (E2.trans E3) R3
        cases hn : wk.nxt i S3 with
        | none => rw [hn] at e3; cases e3
        | some od =>
          rw [hn] at e3
          cases od with
          | none =>
            cases e3
            exact .inl ⟨sst hn, q φ3 H3 _ ((E1.trans E2).trans E3) R3 rfl⟩
          | some d =>
            obtain ⟨go, yl⟩ := sgo d hn
            refine .inr ⟨go, fun H' => ∃ φ4 S4, Ext φ1 H2 φ4 H' ∧ Rel T φ4 S4 H' ∧ goA wk.nxt g fe n m (i + 1) S4 = some (rb, S9), fun H' h => ⟨m, Nat.lt_succ_self m, h⟩, fun x H' y => ?_⟩
            obtain ⟨E4, R4, r4⟩ := yl x H' y
            simp only at e3
            cases hg1 : g d S3 (List.replicate n none) with
            | none => rw [hg1] at e3; cases e3
            | some τ4 =>
              rw [hg1] at e3
              refine ⟨φ3, S3, _, d, τ4, R4, nones_rsl, r4, hg1, fun σ' r' _ _ => ?_⟩
              simp only at e3
              split at e3
              · rename_i S5 hf
                refine ⟨φ3, S3, τ4, _, R4, r', hf, fun φ5 H5 v5 E5 R5 r5 => ?_⟩
                cases r5
                exact ⟨true, rfl, by rw [if_pos rfl]; exact ⟨φ5, S5, (E3.trans E4).trans E5, R5, e3⟩⟩
              · rename_i S5 hf
                cases e3
                refine ⟨φ3, S3, τ4, _, R4, r', hf, fun φ5 H5 v5 E5 R5 r5 => ?_⟩
                cases r5
                exact ⟨false, rfl, by rw [if_neg (by decide)]; exact q φ5 H5 _ ((((E1.trans E2).trans E3).trans E4).trans E5) R5 rfl⟩
              · cases e3
theorem d_all {k : Nat} {c P : Addr} {us : List Nat} {gpos p : Pos} (hcalm : X.calm = true) (hr : Room (k + 1) X.A) (hg : Gl X "all") (hm : X.mg "all" = none) (TB : GxR.TabB X.base X.mg c P) (hP : P ∈ T.tabs) (hcode : X.env.code = .ref c) (S : GenSc scope)
    (hi : PI X tg iter (rdI T W fi)) (hpg : GenIn X scope k fun Y => PG Y tg (rdG T us g)) (hpe : GenIn X scope k fun Y => PE Y elt (rdE T W0 fe)) (hs : ∀ v, genFold iter X.env v = pure v := by intro _; rfl)
    (he : starEach [GE elt tg iter scope gpos] X.env = (false, eval (GE elt tg iter scope gpos) X.env) :: starEach [] X.env := by rfl) :
    PE X (.Call (.Name "all" p) [GE elt tg iter scope gpos] [] pos) (rdE T W (eAll X.N.length fi g fe)) :=
  (pe_allG hcalm hr hg hm TB hcode S hi hpg hpe hs he).imp fun _ _ _ h => all_of hP h
end
end Sb
end
section
set_option Elab.async false
set_option linter.all false
set_option maxRecDepth 100000
set_option maxHeartbeats 4000000
namespace Sb
open PySem PySem.Spec PyProof.Rows L2 PpSet
section
variable {X : Cx} {T : Tb} {W : WX} {pos : Pos} {elt tg iter : Expr} {scope : Scope} {own : List (Str × Nat)}
/-! ## {e for x in xs}: texts and whole numbers -/
def tKs (P : Program) (w : World) (wi : TI) (g : TG) (te : TE) (vs : List Nat) : TE := fun σ H Q => wi σ H fun J H1 => ∀ B, H1 B = none → ∃ Z : Nat → Nat → Hp → Prop, (∃ m, Z 0 m (upd H1 B (SetK P w B (fun _ => false) 0))) ∧ ∀ i m H, Z i m H →
  (J.stop i H ∧ Q (.ref B) H) ∨ (J.go i H ∧ ∃ Nx : Hp → Prop, (∀ H', Nx H' → ∃ m', m' < m ∧ Z (i + 1) m' H') ∧ ∀ x H', J.yld i H x H' → g x (wipe σ vs) H' fun σ2 H2 => wipe σ2 vs = wipe σ vs ∧
    te σ2 H2 fun y H4 => ∃ (k : Key) (M : Key → Bool) (n : Nat), y = kV k ∧ H4 B = some (SetK P w B M n) ∧ n + 1 < scanBound ∧ Nx (upd H4 B (SetK P w B (fun j => M j || decide (j = k)) (if M k = true then n else n + 1))))
theorem pe_ks {wi : TI} {g : TG} {te : TE} (hcalm : X.calm = true) (hnd : X.N.Nodup) (hiter : PI X tg iter wi) (hblk : BlkOk X.N X.env.scope scope own)
    (htg : ∀ (s : Shared) (H : Hp) (C : Addr) (cl : List (Str × Addr)) (fp : List Addr), PG (X.blk s H scope (compEnvC scope cl C X.env) fp) tg g)
    (helt : ∀ (s : Shared) (H : Hp) (C : Addr) (cl : List (Str × Addr)) (fp : List Addr), PE (X.blk s H scope (compEnvC scope cl C X.env) fp) elt te)
    (hfold : ∀ x, foldedSetIterable iter X.env x = pure x := by intro _; rfl) : PE X (.SetComp elt [⟨tg, iter, [], 0⟩] scope pos) (tKs X.prog X.w wi g te (own.map (·.2))) := by
  refine ⟨fun pins s0 σ H0 Q I0 hq0 => ?_⟩
  rw [eval_SetComp]
  have cells : ∀ y ∈ scope.names, y.2 = .free → ∃ c, X.env.cells.lookup y.1 = some c := fun y hy e => (hblk.free y hy e).elim (fun k => I0.ok.has _ (.inl k)) fun k => I0.ok.has _ (.inr k)
  refine wpAny_comprehension_free (use := none) rfl hfold (closure_ok cells) hblk.kind (fun y hy e => by rw [hblk.uniq y hy, e]) ?_
  refine thn (hiter.run pins s0 σ H0 _ I0 hq0) fun xv sa hxa => thn hxa fun itv sb hsb => ?_
  obtain ⟨it, fp, tn, J, H2, eit, Ib, Tn, stb, fb, q⟩ := hsb
  subst eit
  refine newSet_ok (newEnv_comp ?_)
  generalize hB : sb.heap.objs.size = B
  have hBn : H2 B = none := Ib.hok.fresh (Nat.le_of_eq hB)
  obtain ⟨Z, ⟨mm, z0⟩, turn⟩ := q B hBn
  generalize hsc : ({ sb with heap := sb.heap.push { cls := .type "set", dict := none, data := .set #[] 0 (.fresh 0 0 (!X.w.params.followText "set-order")) } } : Shared) = sc
  have hpc : sc.heap = sb.heap.push { cls := .type "set", dict := none, data := .set #[] 0 (.fresh 0 0 (!X.w.params.followText "set-order")) } := by rw [← hsc]
  have isnew : sc.heap.SetOf (mixKind X.prog X.w) B (fun _ => false) 0 := by
    rw [hpc, ← hB]
    exact ⟨_, #[], 0, _, Heap.get?_push_size _ rfl, ⟨rfl, rfl, rfl⟩, rfl, (fun e he => by simp at he), (fun k => by simp), (by decide), (by rfl), rfl⟩
  have Ic : L2.Inv X pins σ (upd H2 B (SetK X.prog X.w B (fun _ => false) 0)) sc := by
    rw [← hsc]
    refine Ib.laid (t' := sb.toks) (fun b o e => Heap.get?_push_of_some _ e) (Nat.le_of_eq hB) ?_
    have z := setK_new (H := upd H2 B (SetK X.prog X.w B (fun _ => false) 0)) isnew
    rw [hpc] at z
    exact z
  have small : ∀ b ∈ fp, b < sb.heap.objs.size := fun b hb => by
    obtain ⟨o, e, _⟩ := Tn.obj _ _ stb b hb
    exact Heap.lt_size e
  have fc : ∀ b ∈ fp, FpOk X pins (upd H2 B (SetK X.prog X.w B (fun _ => false) 0)) b ∧ b < sc.heap.objs.size := fun b hb => by
    have lt := small b hb
    refine ⟨⟨?_, (fb b hb).2⟩, by rw [hpc, Heap.size_push]; exact Nat.lt_succ_of_lt lt⟩
    rw [upd_ne (by rw [← hB]; exact Nat.ne_of_lt lt)]
    exact (fb b hb).1
  have stc : tn 0 sc.heap := Tn.keep _ _ _ stb fun b _ o e => by
    rw [hpc]
    exact Heap.get?_push_of_some _ e
  have Id := block_start Ic hblk hnd fc
  generalize hHc : upd H2 B (SetK X.prog X.w B (fun _ => false) 0) = Hc at Ic Id fc z0
  have g1 := htg sc Hc sc.heap.objs.size (cellsFrom (sc.heap.objs.size + 1) scope.names (cloFrom X.env.cells scope.names [])) fp
  have g3 := helt sc Hc sc.heap.objs.size (cellsFrom (sc.heap.objs.size + 1) scope.names (cloFrom X.env.cells scope.names [])) fp
  show codeAny _ _ (.compStart (.SetComp elt [⟨tg, iter, [], 0⟩] scope pos) 0 (.ref it) (.ref B) (compEnvC scope (cellsFrom (sc.heap.objs.size + 1) scope.names (cloFrom X.env.cells scope.names [])) sc.heap.objs.size X.env)) (compPost (model X.prog X.w) X.A X.xe none _ (.ref B) sc.heap.objs.size) { sc with heap := pushCells (sc.heap.push { cls := .type "dict", data := .dict #[] }) scope.names }
  have free0 : ∀ b ∈ fp, Hc b = none := fun b hb => (fc b hb).1.1
  generalize hce : compEnvC scope (cellsFrom (sc.heap.objs.size + 1) scope.names (cloFrom X.env.cells scope.names [])) sc.heap.objs.size X.env = ce at Id g1 g3 ⊢
  have cL : ce.locals = sc.heap.objs.size := by subst hce; rfl
  generalize hsd : ({ sc with heap := pushCells (sc.heap.push { cls := .type "dict", data := .dict #[] }) scope.names } : Shared) = sd at Id ⊢
  have std : tn 0 sd.heap := Tn.keep _ _ _ stc fun b _ o e => by
    rw [← hsd]
    exact pushCells_keeps _ _ _ _ (Heap.get?_push_of_some _ e)
  have okfp : ∀ {σ' : L2.St} {H' : Hp} {s' : Shared}, L2.Inv (X.blk sc Hc scope ce fp) [] σ' H' s' → (∀ b ∈ fp, H' b = none) → ∀ b ∈ fp, FpOk (X.blk sc Hc scope ce fp) [] H' b := fun {σ' H' s'} I' hn b hb =>
    ⟨hn b hb, (I'.ok.exf b hb).1, I'.ok.exfs b hb, .inl hb, fun x c e => (I'.ok.exf b hb).2 x c e, fun p hp => absurd (show p ∈ ([] : List (Addr × Obj)) ++ [] from hp) (by simp)⟩
  let Stn : Nat → Shared → Prop := fun n s' => ∃ i H', L2.Inv (X.blk sc Hc scope ce fp) [] (wipe σ (own.map (·.2))) H' s' ∧ tn i s'.heap ∧ (∀ b ∈ fp, H' b = none) ∧ Z i n H'
  have loop : codeAny (model X.prog X.w) X.A (.compLoop (.SetComp elt [⟨tg, iter, [], 0⟩] scope pos) 0 (.ref it) (.ref B) ce) (compPost (model X.prog X.w) X.A X.xe none (fun v s' => ∃ (y : V) (H' : Hp), L2.Inv X pins σ H' s' ∧ RelV y v ∧ Q y H') (.ref B) sc.heap.objs.size) sd := by
    refine compLoopS_any Stn ?_ mm ⟨0, Hc, Id, std, free0, z0⟩
    rintro n s5 ⟨i, H5, I5, st5, n5, z5⟩
    rcases turn i n H5 z5 with ⟨stop, qq⟩ | ⟨go, Nx, hNx, step⟩
    · have fin := Tn.done (X.blk sc Hc scope ce fp) rfl rfl rfl hcalm i [] s5 _ H5 (fun _ _ => False) I5 (okfp I5 n5) st5 stop
      refine thnF fin fun r s6 ⟨hr, I6⟩ => ?_
      subst hr
      have I7 : L2.Inv X pins σ H5 s6 := Ic.call' (ch := fp) I6.os I6.base I6.hok I6.bare fun b hb => ⟨(fc b hb).1.2.2.2.1, (fc b hb).1.2.1, (fc b hb).1.2.2.2.2.1, (fc b hb).1.2.2.2.2.2⟩
      have nC : H5 sc.heap.objs.size = none := by
        have z : H5 ce.locals = none := I6.free
        rwa [cL] at z
      obtain ⟨m, hn, _⟩ := I6.loc
      have hn' : s6.heap.Ns ce.locals m := hn
      rw [cL] at hn'
      obtain ⟨f0, f1, f2, f3, f4, f5⟩ := Ic.fpOk (Nat.le_refl _) nC
      refine ⟨m, hn', fun h'' same => ?_⟩
      exact ⟨.ref B, H5, I7.turned (t' := s6.toks) (fun b o hb e => (same.2 b hb).trans e) f0 f1 f3 f4 f5, rfl, qq⟩
    · have nxt := Tn.item (X.blk sc Hc scope ce fp) rfl rfl rfl hcalm i [] s5 _ H5 (fun _ _ => False) I5 (okfp I5 n5) st5 go
      refine thnF nxt fun r s6 ⟨u, hr, h6⟩ => ?_
      subst hr
      refine thnF h6 fun _ s7 ⟨x, H7, I7, r7, y7, st7, n7⟩ => ?_
      have I7' := I7.pinned (okfp I7 n7) (Tn.obj _ _ st7)
      refine thnF (g1.run _ s7 _ H7 x u _ I7' r7 (step x H7 y7)) fun _ s8 ⟨σ8, H8, I8, hw8, q8⟩ => ?_
      refine wpAny_tests_nil ?_
      simp only [if_true]
      refine thnF (g3.run _ s8 σ8 H8 _ I8 q8) fun vv s9 ⟨yv, H9, I9, r9, k, M, num, ey, hB9, room, nx⟩ => ?_
      subst ey
      refine thnF (mt_saddK (X := X.blk sc Hc scope ce fp) _ s9 σ8 H9 (.ref B) [kV k] (.ref B) [vv] (fun _ H' => Nx H') I9 rfl (.cons r9 .nil) ⟨B, k, M, num, rfl, rfl, hB9, room, nx⟩) fun _ s10 ⟨_, H10, I10, _, nx10⟩ => ?_
      obtain ⟨m', hm', z'⟩ := hNx H10 nx10
      have kept : ∀ b ∈ fp, ∀ o, s7.heap.get? b = some o → s10.heap.get? b = some o ∧ H10 b = none := fun b hb o e => by
        have z := I10.pin (b, o) (List.mem_append_right _ (List.mem_append_right _ (mem_pinsAt hb e)))
        exact ⟨z.1, z.2.1⟩
      have len8 : (wipe σ (own.map (·.2))).length = σ8.length := by rw [← hw8, L2.wipe_length]
      refine ⟨m', hm', i + 1, H10, (I10.unpinned (pins := [])).weak len8 (fun j v e => ?_), Tn.keep _ _ _ st7 fun b hb o e => (kept b hb o e).1, fun b hb => ?_, z'⟩
      · rw [← hw8] at e
        exact (wipe_some e).1
      · obtain ⟨o, e, _⟩ := Tn.obj _ _ st7 b hb
        exact (kept b hb o e).2
  exact codeAny_compStart_set loop (Tn.self X.A 0 _ _ _ std loop)
end
end Sb
end
section
set_option Elab.async false
set_option linter.all false
set_option maxRecDepth 100000
set_option maxHeartbeats 4000000
namespace Sb
open PySem PySem.Spec PyProof.Rows L2 PpSet
section
variable {X : Cx} {T : Tb} {W : WX} {pos : Pos} {a b elt tg iter : Expr} {fi : IF} {g : TF} {fe fa fb : EF} {scope : Scope} {own : List (Str × Nat)}
def keyD : D → Option Key
  | .int i => some (.inl i)
  | .str x => some (.inr x)
  | _ => none
theorem keyD_ok {H : Hp} {φ : List Addr} {d : D} {v : V} {k : Key} (r : RD T H φ d v) (h : keyD d = some k) : v = kV k := by
  cases d with
  | int i => cases r; cases h; rfl
  | str x => cases r; cases h; rfl
  | _ => cases h
def goK (nxt : Nat → Sto → Option (Option D)) (g : TF) (fe : EF) (n : Nat) (τ0 : Sl) : Nat → Nat → Sto → Option Sto
  | 0, _, _ => none
  | m + 1, i, S => match nxt i S with
    | none => none
    | some none => some S
    | some (some d) => match g d S τ0 with
      | none => none
      | some τ1 => match fe τ1 S with
        | some (.ok y S2) => match keyD y, S2[n]? with
          | some k, some (.ks M num) => if num + 1 < scanBound then goK nxt g fe n τ0 m (i + 1) (S2.set n (.ks (fun j => M j || decide (j = k)) (if M k = true then num else num + 1))) else none
          | _, _ => none
        | _ => none
def eSc (fi : IF) (g : TF) (fe : EF) (vs : List Nat) : EF := fun τ S => match fi τ S with
  | none => none
  | some (.ex x S1) => some (.ex x S1)
  | some (.ok wk S1) => (goK wk.nxt g fe S1.length (wipeD τ vs) (wk.bound + 1) 0 (S1 ++ [.ks (fun _ => false) 0])).bind fun S2 => some (.ok (.loc S1.length) S2)
theorem Ext.putK {φ : List Addr} {H : Hp} {p : Addr} {u0 u : HO} (ha : H p = some u0) (h1 : ∀ vs, u0 ≠ .tup vs) (h2 : ∀ o w, u0 ≠ .frz o w) (h3 : ∀ vs, u0 ≠ .lst vs) (h4 : ∀ ws, u0 ≠ .dK ws) : Ext φ H φ (upd H p u) := ⟨⟨[], by simp⟩, fun c vs h => by
  by_cases hb : c = p
  · subst hb; rw [ha] at h; cases h; exact absurd rfl (h1 vs)
  · rw [upd_ne hb]; exact h, fun c o w h => by
  by_cases hb : c = p
  · subst hb; rw [ha] at h; cases h; exact absurd rfl (h2 o w)
  · rw [upd_ne hb]; exact h, fun c vs _ h => by
  by_cases hb : c = p
  · subst hb; rw [ha] at h; cases h; exact absurd rfl (h3 vs)
  · rw [upd_ne hb]; exact h, fun c vs _ h => .inl (by
  by_cases hb : c = p
  · subst hb; rw [ha] at h; cases h; exact absurd rfl (h4 vs)
  · rw [upd_ne hb]; exact h), fun _ h => .inl h, fun _ h => upd_dead h⟩
theorem sc_of {vs us : List Nat} (hus : ∀ k ∈ us, k ∈ vs) {σ : L2.St} {H : Hp} {Q : VK} (h : rdE T W (eSc fi g fe vs) σ H Q) : tKs T.P T.w (rdI T W fi) (rdG T us g) (rdE T W0 fe) vs σ H Q := by
  obtain ⟨φ, S, τ, o, R, r, e, q⟩ := h
  unfold eSc at e
  cases e1 : fi τ S with
  | none => rw [e1] at e; cases e
  | some x =>
    rw [e1] at e
    refine ⟨φ, S, τ, x, R, r, e1, ?_⟩
    cases x with
    | ex x S1 => cases e; exact q
    | ok wk S1 =>
      intro φ1 H1 J E1 R1 sv B hB
      simp only [Option.bind_eq_some_iff] at e
      obtain ⟨S9, e2, e3⟩ := e
      cases e3
      obtain ⟨R2, E2⟩ := R1.new (u := SetK T.P T.w B (fun _ => false) 0) (o := .ks (fun _ => false) 0) hB upd_same
      have hB2 : (φ1 ++ [B])[S1.length]? = some B := by rw [← R1.len]; simp
      have r0 := ((r.ext E1).ext E2).wipe vs
      refine ⟨fun i m H => ∃ φ3 S3, Ext (φ1 ++ [B]) (upd H1 B (SetK T.P T.w B (fun _ => false) 0)) φ3 H ∧ Rel T φ3 S3 H ∧ goK wk.nxt g fe S1.length (wipeD τ vs) m i S3 = some S9, ⟨wk.bound + 1, _, _, .refl, R2, e2⟩, ?_⟩
      rintro i m H3 ⟨φ3, S3, E3, R3, e3⟩
      cases m with
      | zero => cases e3
      | succ m =>
        unfold goK at e3
        obtain ⟨sgo, sst⟩ := sv φ3 S3 H3 i (E2.trans E3) R3
        cases hn : wk.nxt i S3 with
        | none => rw [hn] at e3; cases e3
        | some od =>
          rw [hn] at e3
          cases od with
          | none =>
            cases e3
            exact .inl ⟨sst hn, q φ3 H3 _ ((E1.trans E2).trans E3) R3 ⟨B, rfl, E3.get hB2⟩⟩
          | some d =>
            obtain ⟨go, yl⟩ := sgo d hn
            refine .inr ⟨go, fun H' => ∃ φ4 S4, Ext (φ1 ++ [B]) (upd H1 B (SetK T.P T.w B (fun _ => false) 0)) φ4 H' ∧ Rel T φ4 S4 H' ∧ goK wk.nxt g fe S1.length (wipeD τ vs) m (i + 1) S4 = some S9, fun H' h => ⟨m, Nat.lt_succ_self m, h⟩, fun x H' y => ?_⟩
            obtain ⟨E4, R4, r4⟩ := yl x H' y
            simp only at e3
            cases hg1 : g d S3 (wipeD τ vs) with
            | none => rw [hg1] at e3; cases e3
            | some τ4 =>
              rw [hg1] at e3
              refine ⟨φ3, S3, wipeD τ vs, d, τ4, R4, (r0.ext E3).ext E4, r4, hg1, fun σ' r' ks kl => ?_⟩
              refine ⟨(wipe_eq (fun k hk => ks k fun z => hk (hus k z)) kl).trans wipe_wipe, ?_⟩
              simp only at e3
              split at e3
              · rename_i y6 S6 hf
                refine ⟨φ3, S3, τ4, _, R4, r', hf, fun φ6 H6 v6 E6 R6 r6 => ?_⟩
                split at e3
                · rename_i k M num hk hacc
                  split at e3
                  · rename_i room
                    have hB6 : φ6[S1.length]? = some B := E6.get (E4.get (E3.get hB2))
                    have hH6 : H6 B = some (SetK T.P T.w B M num) := R6.obj _ _ B hacc hB6
                    have E7 := Ext.putK (φ := φ6) (u := SetK T.P T.w B (fun j => M j || decide (j = k)) (if M k = true then num else num + 1)) hH6 (fun _ z => by cases z) (fun _ _ z => by cases z) (fun _ z => by cases z) (fun _ z => by cases z)
                    obtain ⟨R7, _⟩ := R6.put (o := .ks (fun j => M j || decide (j = k)) (if M k = true then num else num + 1)) (u := SetK T.P T.w B (fun j => M j || decide (j = k)) (if M k = true then num else num + 1)) hB6 (mem_lt hacc) upd_same
                    exact ⟨k, M, num, keyD_ok r6 hk, hH6, room, φ6, _, ((E3.trans E4).trans E6).trans E7, R7, e3⟩
                  · cases e3
                · cases e3
              · cases e3
theorem d_sc {us : List Nat} (hP : T.P = X.prog) (hw : T.w = X.w) (hc : X.calm = true) (hN : X.N.Nodup) (hi : PI X tg iter (rdI T W fi)) (ok : BlkOk X.N X.env.scope scope own)
    (hg : ∀ (s : Shared) (H : Hp) (C : Addr) (cl : List (Str × Addr)) (fp : List Addr), PG (X.blk s H scope (compEnvC scope cl C X.env) fp) tg (rdG T us g))
    (he : ∀ (s : Shared) (H : Hp) (C : Addr) (cl : List (Str × Addr)) (fp : List Addr), PE (X.blk s H scope (compEnvC scope cl C X.env) fp) elt (rdE T W0 fe))
    (hus : ∀ k ∈ us, k ∈ own.map (·.2) := by decide) (hs : ∀ x, foldedSetIterable iter X.env x = pure x := by intro _; rfl) :
    PE X (.SetComp elt [⟨tg, iter, [], 0⟩] scope pos) (rdE T W (eSc fi g fe (own.map (·.2)))) :=
  (pe_ks hc hN hi ok hg he hs).imp fun _ _ _ h => by
    rw [← hP, ← hw]
    exact sc_of hus h
/-! ## len of a set too -/
def gLenX : GN := fun ds S => match ds with
  | [.loc n] => match S[n]? with
    | some (.ks _ m) => if (m : Int) < 2 ^ 63 then some (.int m, S) else none
    | _ => gLen ds S
  | _ => gLen ds S
theorem call_lenK : CallR X (.builtin "len") (fun xs H Q => ∃ p M n, xs = [.ref p] ∧ H p = some (SetK X.prog X.w p M n) ∧ (n : Int) < 2 ^ 63 ∧ Q (.int n) H) := by
  intro pins s σ H xs us Q I r ⟨p, M, n, ex, hp, hn, q⟩
  subst ex
  cases r with
  | cons r1 r2 =>
    cases r1; cases r2
    obtain ⟨o, es, ep, t, ho, hex, hd, _, _, _, hf, hl⟩ := setK_get I hp
    exact call_len_set ho hex hd hf (by rw [hl]; exact hn) ⟨.int n, H, I.tok _, ⟨_, by rw [← hl]⟩, q⟩
theorem c_lenX (hP : T.P = X.prog) (hw : T.w = X.w) (hK : T.K = X.K) : CallR X (.builtin "len") (rGN T gLenX) := CallR.imp (CallR.or (c_len (T := T) hK) call_lenK) fun xs H Q h => by
  obtain ⟨φ, S, ds, R, r, f⟩ := h
  unfold gLenX at f
  split at f
  · rename_i n
    split at f
    · rename_i M m hS
      split at f
      · rename_i hm
        obtain ⟨v, l, rfl, r1, r2⟩ := r
        cases r2
        obtain ⟨p, rfl, hφ⟩ := r1
        have := R.obj n _ p hS hφ
        exact .inr ⟨p, M, m, rfl, by rw [← hP, ← hw]; exact this, hm, f.val R rfl⟩
      · obtain ⟨_, _, z, _⟩ := f; cases z
    · exact .inl ⟨φ, S, _, R, r, f⟩
  · exact .inl ⟨φ, S, ds, R, r, f⟩
/-! ## dict(pairs), d[k] -/
def putD' (kvs : List (Key × D)) (k : Key) (v : D) : List (Key × D) := if (kvs.any fun kv => decide (kv.1 = k)) = true then kvs.map (fun kv => if kv.1 = k then (kv.1, v) else kv) else kvs ++ [(k, v)]
/-- the same keys, values that stand for them -/
def KVs (T : Tb) (H : Hp) (φ : List Addr) (kvs : List (Key × D)) (ws : List (Key × V)) : Prop := ws.map (·.1) = kvs.map (·.1) ∧ RDs T H φ (kvs.map (·.2)) (ws.map (·.2))
theorem KVs.cons {H : Hp} {φ : List Addr} {k : Key × D} {kvs : List (Key × D)} {w : List (Key × V)} : KVs T H φ (k :: kvs) w ↔ ∃ v r, w = (k.1, v) :: r ∧ RD T H φ k.2 v ∧ KVs T H φ kvs r := by
  constructor
  · rintro ⟨h1, h2⟩
    cases w with
    | nil => cases h1
    | cons p r =>
      obtain ⟨pk, pv⟩ := p
      simp only [List.map_cons, List.cons.injEq] at h1
      obtain ⟨v, l, h3, h4, h5⟩ := h2
      simp only [List.map_cons, List.cons.injEq] at h3
      obtain ⟨rfl, rfl⟩ := h3
      exact ⟨pv, r, by rw [← h1.1], h4, h1.2, h5⟩
  · rintro ⟨v, r, rfl, h1, h2, h3⟩
    exact ⟨by simp [h2], ⟨v, _, rfl, h1, h3⟩⟩
theorem KVs.any {H : Hp} {φ : List Addr} {k : Key} : ∀ {kvs : List (Key × D)} {w : List (Key × V)}, KVs T H φ kvs w → (w.any fun kv => decide (kv.1 = k)) = kvs.any fun kv => decide (kv.1 = k)
  | [], w, h => by
    obtain ⟨h1, _⟩ := h
    cases w with
    | nil => rfl
    | cons _ _ => cases h1
  | p :: kvs, w, h => by
    obtain ⟨v, r, rfl, h1, h2⟩ := KVs.cons.mp h
    simp only [List.any_cons, KVs.any h2]
theorem KVs.setv {H : Hp} {φ : List Addr} {k : Key} {d : D} {v : V} (rd : RD T H φ d v) : ∀ {kvs : List (Key × D)} {w : List (Key × V)}, KVs T H φ kvs w → KVs T H φ (kvs.map fun kv => if kv.1 = k then (kv.1, d) else kv) (w.map fun kv => if kv.1 = k then (kv.1, v) else kv)
  | [], w, h => by
    obtain ⟨h1, _⟩ := h
    cases w with
    | nil => exact ⟨rfl, rfl⟩
    | cons _ _ => cases h1
  | p :: kvs, w, h => by
    obtain ⟨v1, r, rfl, h1, h2⟩ := KVs.cons.mp h
    simp only [List.map_cons]
    by_cases e : p.1 = k
    · simp only [if_pos e]
      exact KVs.cons.mpr ⟨v, _, rfl, rd, KVs.setv rd h2⟩
    · simp only [if_neg e]
      exact KVs.cons.mpr ⟨v1, _, rfl, h1, KVs.setv rd h2⟩
theorem KVs.app {H : Hp} {φ : List Addr} {k : Key} {d : D} {v : V} (rd : RD T H φ d v) {kvs : List (Key × D)} {w : List (Key × V)} (h : KVs T H φ kvs w) : KVs T H φ (kvs ++ [(k, d)]) (w ++ [(k, v)]) := by
  obtain ⟨h1, h2⟩ := h
  exact ⟨by simp [h1], by simp only [List.map_append, List.map_cons, List.map_nil]; exact h2.app (RDs.one rd)⟩
theorem KVs.put {H : Hp} {φ : List Addr} {k : Key} {d : D} {v : V} (rd : RD T H φ d v) {kvs : List (Key × D)} {w : List (Key × V)} (h : KVs T H φ kvs w) : KVs T H φ (putD' kvs k d) (putK w k v) := by
  unfold putD' L2.putK
  rw [h.any]
  split
  · exact h.setv rd
  · exact h.app rd
/-- d[k] -/
def valD (kvs : List (Key × D)) (k : Key) : Option D := (kvs.find? fun kv => decide (kv.1 = k)).map (·.2)
theorem KVs.val {H : Hp} {φ : List Addr} {k : Key} {d : D} : ∀ {kvs : List (Key × D)} {w : List (Key × V)}, KVs T H φ kvs w → valD kvs k = some d → ∃ v, valV w k = some v ∧ RD T H φ d v
  | [], w, h, e => by cases e
  | p :: kvs, w, h, e => by
    obtain ⟨v, r, rfl, h1, h2⟩ := KVs.cons.mp h
    by_cases q : p.1 = k
    · rw [valV_pos (p := (p.1, v)) q]
      simp only [valD, List.find?_cons, q, decide_true, Option.map_some] at e
      cases e
      exact ⟨v, rfl, h1⟩
    · rw [valV_neg (p := (p.1, v)) q]
      have e' : valD kvs k = some d := by
        simpa [valD, List.find?_cons, q] using e
      exact KVs.val h2 e'
end
end Sb
namespace Sb
open PySem PySem.Spec PyProof.Rows L2
theorem t_chain {X : Cx} {T : Tb} {W : WX} {pos : Pos} {a b c : Expr} {fa fb fc : EF} {op op' : CmpOp} {g g' : G2} (ho : OpR X (compareOp op) (rG2 T g)) (ho' : OpR X (compareOp op') (rG2 T g')) (ha : PE X a (rdE T W fa)) (hb : PE X b (rdE T W fb)) (hc : PE X c (rdE T W fc)) (hlm : lastMarks [op, op'] [b, c] = false := by with_unfolding_all rfl) :
    PT X (.Compare a [op, op'] [b, c] pos) (rdT T W (tB (eCh g g' fa fb fc))) := (pt_chain ho ho' ha hb hc hlm).imp fun σ H Q h0 => by
  have h := tB_of h0
  obtain ⟨φ, S, τ, o, R, r, e, q⟩ := h
  refine rdE_bnd R r e q fun d1 S1 v1 H1 φ1 ⟨E1, R1, r1⟩ e1 q1 => ?_
  refine rdE_bnd R1 (r.ext E1) e1 q1 fun d2 S2 v2 H2 φ2 ⟨E2, R2, r2⟩ e2 q2 => ?_
  split at e2
  · rename_i S3 eg
    refine ⟨φ2, S2, d1, d2, R2, r1.ext E2 _ _, r2, _, _, eg, fun φ3 H3 v3 E3 R3 r3 => ?_⟩
    cases r3
    refine ⟨true, rfl, ?_⟩
    rw [if_pos rfl]
    refine rdE_bnd R3 (((r.ext E1).ext E2).ext E3) e2 (q2.mono E3) fun d4 S4 v4 H4 φ4 ⟨E4, R4, r4⟩ e4 q4 => ?_
    exact ⟨φ4, S4, d2, d4, R4, (r2.ext E3 _ _).ext E4 _ _, r4, Fin.of e4 q4⟩
  · rename_i S3 eg
    cases e2
    refine ⟨φ2, S2, d1, d2, R2, r1.ext E2 _ _, r2, _, _, eg, fun φ3 H3 v3 E3 R3 r3 => ?_⟩
    cases r3
    refine ⟨false, rfl, ?_⟩
    rw [if_neg (by decide)]
    exact q2 φ3 H3 _ E3 R3 rfl
  · cases e2
theorem _root_.L2.Room.u64 {k : Nat} {A : Around} (r : Room k A) : A.units + 64 < cLine := by have := r.un; omega
theorem _root_.L2.Room.u65 {k : Nat} {A : Around} (r : Room k A) : A.units + 65 < cLine := by have := r.un; omega
theorem _root_.L2.Room.u1 {k : Nat} {A : Around} (r : Room k A) : A.units + 1 < cLine := by have := r.un; omega
theorem ptw {X : Cx} {e : Expr} {t : TT} (h : PW X e t) : PT X e t := h.pt
end Sb
end
section
set_option Elab.async false
set_option linter.all false
set_option maxRecDepth 100000
set_option maxHeartbeats 4000000
namespace Sb
open PySem PySem.Spec PyProof.Rows L2
/-! ## enumerate of a tuple -/
theorem enum_new_tup (q : Addr) (xs : Array Value) (dc : Option Addr) (cnt : Nat) (sl : Array (Option Value)) :
    Meets (Builtin.«enumerate.__new__» ⟨[.type "enumerate", .ref q], []⟩) (fun _ R s => s.heap.get? q = some { cls := .type "tuple", dict := dc, data := .seq xs cnt, slots := sl } ∧
      R (.ok (.ret (.ref (s.heap.push { cls := .type "tuple_iterator", data := .fields #[.ref q, .int 0 0] }).objs.size)))
        { s with heap := (s.heap.push { cls := .type "tuple_iterator", data := .fields #[.ref q, .int 0 0] }).push { cls := .type "enumerate", data := .fields #[.none, .bool false, .ref s.heap.objs.size, rawInt 0, .none, .none] } }) :=
  .of_wp fun prog w A R s h => by
    obtain ⟨hp, gs, dr, tk, os⟩ := s
    obtain ⟨at_q, fin⟩ := h
    have subs := sub_enumerate
    have isT : Heap.IsTuple (Shared.heap ⟨hp, gs, dr, tk, os⟩) q xs := ⟨_, at_q, rfl, cnt, rfl⟩
    wp_walk using AutoSeq1.wpAny_loadPart' at_q
    refine wpAny_stack_any fun st => wpAny_pure ?_
    split
    · rename_i c _ _ _ _ _
      cases (c == Value.type "enumerate")
      · wp_walk using AutoSeq1.wpAny_loadPart' at_q, wpAny_pyIter_tuple isT
        exact ⟨_, rfl, fin⟩
      · wp_walk using AutoSeq1.wpAny_loadPart' at_q, wpAny_pyIter_tuple isT
        exact ⟨_, rfl, fin⟩
    · wp_walk using AutoSeq1.wpAny_loadPart' at_q, wpAny_pyIter_tuple isT
      exact ⟨_, rfl, fin⟩
theorem call_enum_tup {prog : Program} {w : World} {A : Around} {E : Value → Shared → Prop} {s : Shared} {q : Addr} {xs : Array Value} {Q : Value → Shared → Prop} (isT : s.heap.IsTuple q xs)
    (h : ∀ h', IsEnum h' (s.heap.objs.size + 1) s.heap.objs.size 0 .none → h'.IsTupleIter s.heap.objs.size q 0 → (∀ b o, s.heap.get? b = some o → h'.get? b = some o) → Q (.ref (s.heap.objs.size + 1)) { s with heap := h' }) :
    wpAny (model prog w) A (call (.type "enumerate") [.ref q]) Q E s := by
  obtain ⟨⟨c, dct, dt, sl⟩, at_q, hc, cnt, hd⟩ := isT
  replace hc : c = .type "tuple" := hc
  replace hd : dt = .seq xs cnt := hd
  subst hc hd
  refine callType_new F.called_enumerate (by decide) (F.typeCall_enumerate_1 _) (F.newCall_enumerate_1 _) (fun obj => F.args_object_init_2 obj _) F.entry_enumerate_new (enum_new_tup q xs dct cnt sl) ⟨at_q, ?_⟩
  have size1 : (s.heap.push { cls := .type "tuple_iterator", data := .fields #[.ref q, .int 0 0] }).objs.size = s.heap.objs.size + 1 := Heap.size_push ..
  show _ ∧ _
  rw [size1]
  have isE : IsEnum ((s.heap.push { cls := .type "tuple_iterator", data := .fields #[.ref q, .int 0 0] }).push
      { cls := .type "enumerate", data := .fields #[.none, .bool false, .ref s.heap.objs.size, rawInt 0, .none, .none] }) (s.heap.objs.size + 1) s.heap.objs.size 0 .none := by
    have z := Heap.get?_push_size (s.heap.push { cls := .type "tuple_iterator", data := .fields #[.ref q, .int 0 0] })
      (o := { cls := .type "enumerate", data := .fields #[.none, .bool false, .ref s.heap.objs.size, rawInt 0, .none, .none] }) rfl
    rw [size1] at z; exact z
  exact ⟨⟨_, isE, rfl⟩, h _ isE ⟨_, Heap.get?_push_of_some _ (Heap.get?_push_size _ rfl), rfl, rfl⟩ fun b o x => Heap.get?_push_of_some _ (Heap.get?_push_of_some _ x)⟩
/-- the tuple at a, each item in a new pair -/
def IteT (K : PySem.W.Frag) (a : Addr) : It :=
  ⟨fun i H => ∃ (xs : List V) (x : V), SqT K H a xs ∧ xs[i]? = some x, fun i H v H' => ∃ P x, v = .ref P ∧ H P = none ∧ H' = upd H P (.tup [.int (i : Nat), x]) ∧ ∀ xs, SqT K H a xs → xs[i]? = some x, fun i H => ∃ xs : List V, SqT K H a xs ∧ xs.length ≤ i⟩
theorem turn_enumT {P : Program} {w : World} {K : PySem.W.Frag} {elts : List Expr} {kk : Nat} {tpos : Pos} (a e it : Addr) :
    Turn P w K (.Tuple elts kk tpos) (IteT K a) [e, it] e (fun i h => (∃ old, IsEnum h e it ((i : Nat) : Int) old) ∧ h.IsTupleIter it a i ∧ e ≠ it) where
  mem := by simp
  obj := fun i h st b hb => by
    obtain ⟨⟨old, isE⟩, ⟨o, ho, hc, hd⟩, _⟩ := st
    have cases2 : b = e ∨ b = it := by simpa using hb
    rcases cases2 with z | z
    · rw [z]; exact ⟨_, isE, fun v q => nomatch q⟩
    · rw [z]; exact ⟨o, ho, fun v q => by rw [hd] at q; cases q⟩
  keep := fun i h h' st k => let ⟨⟨old, isE⟩, isI, ne⟩ := st; ⟨⟨old, k e (by simp) _ isE⟩, isI.at fun o q => k it (by simp) o q, ne⟩
  item := by
    intro X hP hw hK hc i pins s σ H E I hf st hg
    subst hP hw hK
    obtain ⟨⟨old, isE⟩, isI, ne⟩ := st
    obtain ⟨xs, x, hq, hx⟩ := hg
    obtain ⟨its, rv, isT, hz⟩ := I.tuple hq
    obtain ⟨u, hu, ru⟩ := rv.get hx
    have ltE : e < s.heap.objs.size := Heap.lt_size isE
    have ltI : it < s.heap.objs.size := by obtain ⟨_, q, _⟩ := isI; exact Heap.lt_size q
    have neA : a ≠ it := by
      rintro rfl
      obtain ⟨o1, h1, h2, _⟩ := isI
      obtain ⟨o2, h3, h4, _⟩ := isT
      rw [h1] at h3
      cases h3
      rw [h2] at h4
      exact absurd h4 (by decide)
    have neEA : e ∉ [it, a] := by
      intro z
      rcases List.mem_cons.mp z with z | z
      · exact ne z
      · have z' : e = a := by simpa using z
        rw [← z'] at isT
        obtain ⟨o2, h3, h4, _⟩ := isT
        rw [isE] at h3
        have h5 := Option.some.inj h3
        rw [← h5] at h4
        have h6 : Value.type "enumerate" = Value.type "tuple" := h4
        injection h6 with h7
        exact absurd h7 (by decide)
    have ltn : i < its.toArray.size := by
      have := (List.getElem?_eq_some_iff.mp hu).1
      simpa using this
    refine wpAny_pyNext_enum_itemD (Draws.tuple (A := X.A.in1) (I.ok.hd hc) it a neA its.toArray) isE ⟨isI, isT⟩ ltn ne neEA fun y h' tk hy hout hst hnew hsz hk => ?_
    obtain ⟨hit', _⟩ := hst
    have ey : y = u := by
      have : its[i]? = some y := by simpa using hy
      rw [hu] at this
      exact (Option.some.inj this).symm
    subst ey
    refine ⟨_, rfl, wpAny_letOwnedTupleGo_enum (s := { s with heap := h', toks := tk + 1 }) hout fun h'' isE' sb => ?_⟩
    have hnew2 : h''.get? s.heap.objs.size = some { cls := .type "tuple", data := .seq #[.int i tk, y] } := (sb.2 _ (Nat.ne_of_gt ltE)).trans hnew
    have okN : ObjOk X.prog X.w (upd H s.heap.objs.size (.tup [.int (i : Nat), x])) h'' s.heap.objs.size (.tup [.int (i : Nat), x]) :=
      ⟨by show 2 ≤ sizeLine; decide, [.int i tk, y], .cons ⟨_, rfl⟩ (.cons ru .nil), ⟨_, hnew2, rfl, _, rfl⟩⟩
    have I1 : L2.Inv X pins σ (upd H s.heap.objs.size (.tup [.int (i : Nat), x])) { s with heap := h'', toks := tk + 1 } :=
      I.turnedNew (ch := [e, it]) (fun b ob hb q => (sb.2 b (fun z => hb (by simp [z]))).trans (hk b ob (fun z => hb (by simp [z])) (fun z => hb (by simp [z])) q)) hf (Nat.le_refl _) okN
    refine ⟨.ref s.heap.objs.size, _, I1, rfl, ⟨_, x, rfl, I.hok.fresh (Nat.le_refl _), rfl, fun ys hy => by rw [I.tuple_inj hy hq]; exact hx⟩, ⟨⟨y, ?_⟩, hit'.at fun o q => (sb.2 it (Ne.symm ne)).trans q, ne⟩, fun b hb => ?_⟩
    · rw [show ((i + 1 : Nat) : Int) = (i : Int) + 1 by omega]
      exact isE'
    · have ltb : b < s.heap.objs.size := by
        have cases2 : b = e ∨ b = it := by simpa using hb
        rcases cases2 with z | z
        · rw [z]; exact ltE
        · rw [z]; exact ltI
      rw [upd_ne (Nat.ne_of_lt ltb)]
      exact (hf b hb).1
  done := by
    intro X hP hw hK hc i pins s σ H E I hf st hg
    subst hP hw hK
    obtain ⟨⟨old, isE⟩, isI, ne⟩ := st
    obtain ⟨xs, hq, hx⟩ := hg
    obtain ⟨its, rv, isT, hz⟩ := I.tuple hq
    obtain ⟨f0, f1, f2, f3, f4, f5⟩ := hf it (by simp)
    have len := rv.length
    have neA : a ≠ it := by
      rintro rfl
      obtain ⟨o1, h1, h2, _⟩ := isI
      obtain ⟨o2, h3, h4, _⟩ := isT
      rw [h1] at h3
      cases h3
      rw [h2] at h4
      exact absurd h4 (by decide)
    unfold pyNext
    have tyE : s.TypeIs (.ref e) "enumerate" := ⟨_, isE, rfl⟩
    refine wpAny_bind (wpAny_attempt (wpAny_callSpecial?_slot (name := Str.ofString "__next__") tyE F.slot_enumerate_next
      (wpAny_call_entry F.slot_enumerate_next tyE F.entry_enumerate_next ?_ (F.args_enumerate_next_1 _))))
    show wpAny _ _ (field (.ref e) 2 >>= _) _ _ _
    refine wpAny_bind (wpAny_field isE rfl (x := .ref it) rfl ?_)
    refine wpAny_bind (wpAny_nextOf_tuple_end (I.ok.hd hc) isI isT (by simp; omega) fun h' xv eb hxv => ?_)
    obtain ⟨ob, hob, hcl⟩ := hxv
    refine wpAny_bind (wpAny_isInstance (T := "StopIteration") (b := true) ⟨ob, hob, hcl⟩ isSubtype_stop ?_)
    exact wpAny_pure ⟨rfl, I.turned (t' := s.toks) (fun b o hb q => eb b o hb q) f0 f1 f3 f4 f5⟩
  self := fun A i s Q E st h => let ⟨⟨_, isE⟩, _⟩ := st; wpAny_pyIter_enum isE h
def iEnumT (K : PySem.W.Frag) (ta : TA) : TI := fun σ H R => ta σ H fun vs H1 => ∃ a xs, vs = [.ref a] ∧ SqT K H1 a xs ∧ R (IteT K a) H1
theorem pi_enumT {X : Cx} {e : Expr} {ta : TA} {p pos tpos : Pos} {elts : List Expr} {kk : Nat} (hg : Gl X "enumerate") (hm : X.mg "enumerate" = none) (ha : PA X [e] ta) (hs : starEach [e] X.env = [(false, eval e X.env)] := by rfl) :
    PI X (.Tuple elts kk tpos) (.Call (.Name "enumerate" p) [e] [] pos) (iEnumT X.K ta) := by
  refine ⟨fun pins s σ H Rr I hh => ?_⟩
  refine Call_ (ld_blt I hg hm boot_enumerate (PyProof.Rows.callWith_type1 (thn (ha.run pos pins s σ H _ I hh) fun us s1 ⟨vs, H1, I1, r1, q1⟩ => ?_) hs rfl))
  obtain ⟨a, xs, ex, hq, q⟩ := q1
  subst ex
  cases r1 with
  | cons r rr =>
    cases rr
    cases r
    obtain ⟨its, rv, isT, hz⟩ := I1.tuple hq
    refine call_enum_tup isT fun h' isE isI hk => wpAny_pyIter_enum isE ?_
    have I2 : L2.Inv X pins σ H1 { s1 with heap := h' } := I1.kept (t' := s1.toks) hk
    refine ⟨s1.heap.objs.size + 1, [s1.heap.objs.size + 1, s1.heap.objs.size], _, _, H1, rfl, I2, turn_enumT a (s1.heap.objs.size + 1) s1.heap.objs.size, ⟨⟨.none, isE⟩, isI, Nat.succ_ne_self _⟩, fun b hb => ?_, q⟩
    have above : s1.heap.objs.size ≤ b := by
      rcases (show b = s1.heap.objs.size + 1 ∨ b = s1.heap.objs.size by simpa using hb) with z | z
      · rw [z]; exact Nat.le_add_right _ _
      · rw [z]; exact Nat.le_refl _
    exact I1.fpOk above (I1.hok.fresh above)
end Sb
end
section
set_option Elab.async false
set_option linter.all false
set_option maxRecDepth 100000
set_option maxHeartbeats 4000000
namespace Sb
open PySem PySem.Spec PyProof.Rows L2 PySem.W
mutual
theorem reads_in {h : Heap} : ∀ (d : PyData) (v : Value) (as : List Addr), alike d d = true → Reads h v d as → ∀ x ∈ as, ∃ o, h.get? x = some o
  | .none, _, _, _, r, x, hx => by cases r; cases hx
  | .bool _, _, _, _, r, x, hx => by cases r; cases hx
  | .int _, _, _, _, r, x, hx => by cases r; cases hx
  | .str _, _, _, _, r, x, hx => by cases r; cases hx
  | .list xs, _, _, hal, r, x, hx => by
    cases r with
    | list h1 h2 h3 h4 =>
      rcases List.mem_cons.mp hx with e | e
      · rw [e]; exact ⟨_, h1⟩
      · exact reads_ins xs _ _ (by simpa [alike] using hal) h4 x e
  | .tuple xs, _, _, hal, r, x, hx => by
    cases r with
    | tuple h1 h2 h3 h4 => exact reads_ins xs _ _ (by simpa [alike] using hal) h4 x hx
  | .dict _, _, _, hal, _, _, _ => absurd hal (by simp [alike])
theorem reads_ins {h : Heap} : ∀ (ds : List PyData) (vs : List Value) (as : List Addr), alikeAll ds ds = true → ReadsAll h vs ds as → ∀ x ∈ as, ∃ o, h.get? x = some o
  | [], _, _, _, r, x, hx => by cases r; cases hx
  | d :: ds, _, _, hal, r, x, hx => by
    cases r with
    | cons h1 h2 =>
      rcases List.mem_append.mp hx with e | e
      · exact reads_in d _ _ (alike_all_cons hal).1 h1 x e
      · exact reads_ins ds _ _ (alike_all_cons hal).2 h2 x e
end
abbrev VP := V × D × PyData
theorem each_vals {bs : List VP} {its : List Value} (r : Vals (bs.map (·.1)) its) : EachIs (fun (v : Value) (b : VP) => RelV b.1 v) its bs := by
  induction bs generalizing its with
  | nil => cases r; exact .nil
  | cons b bs ih =>
    cases r with
    | cons h t => exact .cons h (ih t)
theorem vals_each {bs : List VP} {its : List Value} (e : EachIs (fun (v : Value) (b : VP) => RelV b.1 v) its bs) : Vals (bs.map (·.1)) its := by
  induction e with
  | nil => exact .nil
  | cons h t ih => exact .cons h ih
theorem each_imp {α β : Type} {R R' : α → β → Prop} : ∀ {as : List α} {bs : List β}, EachIs R as bs → (∀ a b, b ∈ bs → R a b → R' a b) → EachIs R' as bs
  | _, _, .nil, _ => .nil
  | _, _, .cons h t, f => .cons (f _ _ List.mem_cons_self h) (each_imp t fun a b hb => f a b (List.mem_cons_of_mem _ hb))
abbrev leP : VP → VP → Bool := dataLe false fun b => b.2.2
/-- the new list that collects the items, the heap told -/
theorem collect_told {prog : Program} {w : World} {A : Around} {E : Value → Shared → Prop} {s : Shared} {Q : List Value → Shared → Prop} (a : Addr) {T : String} {o : Obj} {its : Array Value} {n : Nat} (hT : T = "list" ∨ T = "tuple") (ho : s.heap.get? a = some o) (hc : o.cls = .type T) (hd : o.data = .seq its n)
    (hQ : Q its.toList { s with heap := (s.heap.push { cls := .type "list", data := .seq ([] : List Value).toArray }).update s.heap.objs.size (Obj.mapSeq (· ++ its)) }) (small : its.size ≤ sizeLine) : wpAny (model prog w) A (collect (.ref a)) Q E s := by
  have new1 : (s.heap.push { cls := .type "list", data := .seq ([] : List Value).toArray }).get? s.heap.objs.size = some { cls := .type "list", data := .seq #[] 0 } := Heap.get?_push_size _ rfl
  have new2 := Heap.get?_update_self (Obj.mapSeq (· ++ its)) new1 rfl
  unfold collect
  refine wpAny_bind (wpAny_runValue (codeAny_builtin F.entry_proto_collect ?_))
  rw [Around.under_plainId F.plain_proto_collect _]
  show wpAny _ A.in1 (newList [] >>= fun l => again (.builtin "list.__iadd__" ⟨[l, .ref a], []⟩)) _ _ s
  refine wpAny_bind (wpAny_newObj_type (wpAny_pure ⟨plainId_quiet F.plain_list_iadd _, codeAny_builtin F.entry_list_iadd ?_⟩))
  rw [Around.under_plainId F.plain_list_iadd _]
  show wpAny _ A.in1 (Builtin.List.listExtendWith (.ref s.heap.objs.size) (.ref a) (.ref s.heap.objs.size)) _ _ _
  have rest : wpAny (model prog w) A (match Value.ref s.heap.objs.size with
      | Value.ref b => do
        match (← load b).data with
          | Data.seq xs _ => pure xs.toList
          | _ => unsupported "internal:collect"
      | _ => unsupported "internal:collect") Q E { s with heap := (s.heap.push { cls := .type "list", data := .seq ([] : List Value).toArray }).update s.heap.objs.size (Obj.mapSeq (· ++ its)) } := by
    show wpAny _ A (load s.heap.objs.size >>= _) _ _ _
    refine wpAny_bind (wpAny_load new2 (wpAny_pure ?_))
    show Q ((#[] : Array Value) ++ its).toList _
    rw [show ((#[] : Array Value) ++ its).toList = its.toList from by simp]
    exact hQ
  refine wpAny_mono (wpAny_extend_seq (hsz := small) (A := A) (R := fun r s' => r = .ok (.ret (.ref s.heap.objs.size)) ∧ s' = { s with heap := (s.heap.push { cls := .type "list", data := .seq ([] : List Value).toArray }).update s.heap.objs.size (Obj.mapSeq (· ++ its)) })
    (s := { s with heap := s.heap.push { cls := .type "list", data := .seq ([] : List Value).toArray } }) _ a _ 0 hT new1 (Heap.get?_push_of_some _ ho) hc hd ⟨rfl, rfl⟩) (fun fin s' hh => ?_) (fun e s' hh => absurd hh.1 (by simp))
  cases fin with
  | done f =>
    obtain ⟨e, rfl⟩ := hh
    cases e
    exact rest
  | again c' => exact ⟨hh.1, codeAny_mono hh.2 fun r s'' hr => by obtain ⟨rfl, rfl⟩ := hr; exact rest⟩
theorem call_sortedQ {X : Cx} (hu : X.A.units + 64 < cLine) : CallR X (.builtin "sorted") (fun xs H Q => ∃ (a : Addr) (bs : List VP), xs = [.ref a] ∧ (SqL X.K H a (bs.map (·.1)) ∨ SqT X.K H a (bs.map (·.1))) ∧ (∀ b ∈ bs, Dp X.K H b.1 b.2.2) ∧
    AllAlike (bs.map (·.2.2)) ∧ Sortable (bs.map (·.2.2)) ∧ (∀ b ∈ bs, b.2.2.depth ≤ 8) ∧ ∀ p, H p = none → Q (.ref p) (upd H p (.lst ((bs.mergeSort leP).map (·.1))))) := by
  intro pins s σ H xs us Q I r ⟨a, bs, ex, hs, hd, hal, hso, hdep, q⟩
  subst ex
  obtain ⟨u, rfl, ru⟩ := vals1 r
  obtain rfl : u = Value.ref a := ru
  obtain ⟨its, rv, T, hT, o, n, ho, hc, hdt, hz⟩ : ∃ (its : List Value) (_ : Vals (bs.map (·.1)) its) (T : String) (_ : T = "list" ∨ T = "tuple") (o : Obj) (n : Nat), s.heap.get? a = some o ∧ o.cls = .type T ∧ o.data = .seq its.toArray n ∧ (bs.map (·.1)).length ≤ sizeLine := by
    rcases hs with hs | hs
    · obtain ⟨its, rv, hl, hz⟩ := I.list hs
      obtain ⟨o, ho, hc, n, hd⟩ := hl.isList
      exact ⟨its, rv, "list", .inl rfl, o, n, ho, hc, hd, hz⟩
    · obtain ⟨its, rv, hl, hz⟩ := I.tuple hs
      obtain ⟨o, ho, hc, n, hd⟩ := hl
      exact ⟨its, rv, "tuple", .inr rfl, o, n, ho, hc, hd, hz⟩
  have hlen : its.length = bs.length := by have := rv.length; simp at this; omega
  have hz' : its.length ≤ sizeLine := by rw [hlen]; simpa using hz
  refine call_function_entry_kw kind_sorted plain_sorted entry_sorted (args_sorted1 _) ?_
  unfold Builtin.«sorted»
  refine wpAny_bind (m := checkCount "sorted" 1 1 _) (wpAny_pure ?_)
  refine wpAny_bind (collect_told a hT ho hc hdt ?_ (by simpa using hz'))
  rw [show its.toArray.toList = its from List.toList_toArray ..]
  generalize hh1 : (s.heap.push { cls := .type "list", data := .seq ([] : List Value).toArray }).update s.heap.objs.size (Obj.mapSeq (· ++ its.toArray)) = h1
  have size1 : h1.objs.size = s.heap.objs.size + 1 := by rw [← hh1, Heap.size_update, Heap.size_push]
  have keep1 : ∀ b o, s.heap.get? b = some o → h1.get? b = some o := fun b o e => by
    rw [← hh1, Heap.get?_update_ne _ _ _ _ (Nat.ne_of_lt (Heap.lt_size e))]
    exact Heap.get?_push_of_some _ e
  refine wpAny_bind (wpAny_newList ?_ hz')
  generalize hs2 : ({ s with heap := h1.push { cls := .type "list", data := .seq its.toArray } } : Shared) = s2
  have e2 : s2.heap = h1.push { cls := .type "list", data := .seq its.toArray } := by rw [← hs2]
  have keep2 : ∀ b o, s.heap.get? b = some o → s2.heap.get? b = some o := fun b o e => by rw [e2]; exact Heap.get?_push_of_some _ (keep1 b o e)
  have at2 : s2.heap.get? h1.objs.size = some (seqObj "list" its.toArray 0) := by rw [e2]; exact Heap.get?_push_size _ rfl
  have big : s.heap.objs.size ≤ h1.objs.size := by omega
  have hold : EachIs (fun (v : Value) (b : VP) => ∃ as, Reads s2.heap v b.2.2 as ∧ h1.objs.size ∉ as) its bs := each_imp (each_vals rv) fun v b hb rb => by
    obtain ⟨as, hr⟩ := Dp.reads I b.2.2 b.1 v (hd b hb) rb
    refine ⟨as, PyProof.Rows.Reads.keeps keep2 hr, fun hm => ?_⟩
    have al : alike b.2.2 b.2.2 = true := hal _ (List.mem_map_of_mem (f := fun b : VP => b.2.2) hb) _ (List.mem_map_of_mem (f := fun b : VP => b.2.2) hb)
    obtain ⟨o', ho'⟩ := reads_in b.2.2 v as al hr _ hm
    have z : h1.objs.size < s.heap.objs.size := Heap.lt_size ho'
    exact Nat.lt_irrefl _ (Nat.lt_of_lt_of_le z big)
  have us2 : X.A.in1.units = X.A.units + 1 := rfl
  refine wpAny_bind (wpAny_holding (list_sort_data (enc := fun b : VP => b.2.2) at2 (each_vals rv) hold hal hso (by rw [← hlen]; exact hz') (fun b hb => ?_) fun out hol eo => ?_))
  · have := hdep b hb
    show X.A.in1.units + 1 + b.2.2.depth < cLine
    rw [us2]; omega
  · refine wpAny_pure ⟨_, rfl, ?_⟩
    obtain ⟨e, hat⟩ := sortedHeap_at (out := out.toArray) at2
    have keep3 : ∀ b o, s.heap.get? b = some o → (sortedHeap s2.heap h1.objs.size its out.toArray).get? b = some o := fun b o hb => by
      have lt0 : b < h1.objs.size := Nat.lt_of_lt_of_le (Heap.lt_size hb) big
      have ne1 : b ≠ h1.objs.size := Nat.ne_of_lt lt0
      have lt2 : b < s2.heap.objs.size := by rw [e2, Heap.size_push]; exact Nat.lt_succ_of_lt lt0
      rw [sortedHeap_old ne1 lt2]
      exact keep2 b o hb
    have hv := vals_each eo
    refine ⟨.ref h1.objs.size, upd H h1.objs.size (.lst ((bs.mergeSort leP).map (·.1))), ?_, rfl, q _ (I.hok.fresh big)⟩
    have z := I.laid (t' := s.toks) keep3 big (o := .lst ((bs.mergeSort leP).map (·.1))) ⟨by simpa using hz, out, e, hv, hat⟩
    rw [← hs2] at z ⊢
    exact z
end Sb
end
section
set_option Elab.async false
set_option linter.all false
set_option maxRecDepth 100000
set_option maxHeartbeats 4000000
namespace Sb
open PySem PySem.Spec PyProof.Rows L2 PySem.W
section
variable {X : Cx} {T : Tb} {W : WX} {pos : Pos} {e : Expr} {ra : AF}
/-! ## enumerate(tuple) -/
def wkE (es : List D) : Wk := ⟨es.length, fun i _ => some ((es[i]?).map fun d => .tup [.int (i : Nat), d])⟩
def iEn (ra : AF) : IF := fun τ => (ra τ).bnd fun ds S => match ds with
  | [.tup es] => some (.ok (wkE es) S)
  | _ => none
theorem i_enum {p tpos : Pos} {elts : List Expr} {kk : Nat} (hK : T.K = X.K) (hg : Gl X "enumerate") (hm : X.mg "enumerate" = none) (ha : PA X [e] (rdA T W ra)) (hs : starEach [e] X.env = [(false, eval e X.env)] := by rfl) :
    PI X (.Tuple elts kk tpos) (.Call (.Name "enumerate" p) [e] [] pos) (rdI T W (iEn ra)) :=
  (pi_enumT hg hm ha hs).imp fun σ H Rr h => by
    obtain ⟨φ, S, τ, o, R, r, e, q⟩ := h
    refine rdA_bndI R r e q fun ds S1 vs H1 φ1 E1 R1 r1 e1 q1 => ?_
    split at e1
    · rename_i es
      cases e1
      obtain ⟨v, l, rfl, r2, r3⟩ := r1
      cases r3
      obtain ⟨a, xs, rfl, hH, s⟩ := r2
      refine ⟨a, xs, rfl, .inl (.inl hH), q1 φ1 H1 _ .refl R1 ?_⟩
      intro φ S H i E2 R2
      have h' := E2.tup _ _ hH
      have s' := s.ext E2 _ _
      refine ⟨fun d hd => ?_, fun hn => ?_⟩
      · have hd' : (es[i]?).map (fun d => D.tup [.int (i : Nat), d]) = some d := Option.some.inj hd
        simp only [Option.map_eq_some_iff] at hd'
        obtain ⟨y, hy, rfl⟩ := hd'
        obtain ⟨v, hv, rv⟩ := s'.get hy
        refine ⟨⟨xs, v, .inl (.inl h'), hv⟩, fun x H' yl => ?_⟩
        obtain ⟨P, x2, rfl, hP, rfl, hx⟩ := yl
        have ev := hx xs (.inl (.inl h'))
        rw [hv] at ev
        cases ev
        obtain ⟨R3, E3⟩ := R2.garb (u := .tup [.int (i : Nat), v]) hP
        exact ⟨E3, R3, P, _, rfl, upd_same, .int (i : Nat), _, rfl, rfl, v, _, rfl, rv.ext E3 _ _, rfl⟩
      · have hn' : (es[i]?).map (fun d => D.tup [.int (i : Nat), d]) = none := Option.some.inj hn
        simp only [Option.map_eq_none_iff] at hn'
        exact ⟨xs, .inl (.inl h'), rds_none s' hn'⟩
    · cases e1
/-! ## sorted of data -/
def sortB (ps : List PyData) : Bool := (ps.all fun p => ps.all fun q => alike p q) && (ps.all fun p => match p with | .tuple (_ :: _) => true | _ => false) && ps.all fun p => decide (p.depth ≤ 8)
def gSorted : GN := fun ds S => match ds with
  | [d] => (seqD S d).bind fun es => (es.mapM (toPy 8 S)).bind fun ps => if sortB ps = true then some (.loc S.length, S ++ [.lst (((es.zip ps).mergeSort (dataLe false fun b => b.2)).map (·.1))]) else none
  | _ => none
def zipV : List V → List D → List PyData → List VP
  | v :: vs, d :: ds, p :: ps => (v, d, p) :: zipV vs ds ps
  | _, _, _ => []
theorem zipV_of {K : PySem.W.Frag} {φ : List Addr} {S : Sto} {H : Hp} (R : Rel T φ S H) : ∀ {ds : List D} {vs : List V} {ps : List PyData}, RDs T H φ ds vs → ds.mapM (toPy 8 S) = some ps →
    (zipV vs ds ps).map (·.1) = vs ∧ (zipV vs ds ps).map (·.2) = ds.zip ps ∧ (zipV vs ds ps).map (·.2.2) = ps ∧ (∀ b ∈ zipV vs ds ps, Dp K H b.1 b.2.2) ∧ ∀ b ∈ zipV vs ds ps, RD T H φ b.2.1 b.1
  | [], vs, ps, r, h => by
    cases r
    cases h
    exact ⟨rfl, rfl, rfl, (fun _ z => by cases z), fun _ z => by cases z⟩
  | d :: ds, vs, ps, r, h => by
    obtain ⟨v, l, rfl, r1, r2⟩ := r
    rw [List.mapM_cons] at h
    simp only [bind, Option.bind_eq_some_iff, pure] at h
    obtain ⟨p, hp, qs, hq, e⟩ := h
    cases e
    obtain ⟨h1, h2, h3, h4, h5⟩ := zipV_of (K := K) R r2 hq
    refine ⟨by show v :: _ = _; rw [h1], by show (d, p) :: _ = _; rw [h2]; rfl, by show p :: _ = _; rw [h3], fun b hb => ?_, fun b hb => ?_⟩
    · rcases List.mem_cons.mp hb with z | z
      · rw [z]; exact py_dp R _ _ _ _ r1 hp
      · exact h4 b z
    · rcases List.mem_cons.mp hb with z | z
      · rw [z]; exact r1
      · exact h5 b z
theorem rds_map {φ : List Addr} {H : Hp} : ∀ {bs : List VP}, (∀ b ∈ bs, RD T H φ b.2.1 b.1) → RDs T H φ (bs.map (·.2.1)) (bs.map (·.1))
  | [], _ => rfl
  | b :: bs, h => ⟨b.1, _, rfl, h b List.mem_cons_self, rds_map fun c hc => h c (List.mem_cons_of_mem _ hc)⟩
theorem c_sorted (hK : T.K = X.K) (hu : X.A.units + 64 < cLine) : CallR X (.builtin "sorted") (rGN T gSorted) := CallR.imp (call_sortedQ hu) fun xs H Q h => by
  obtain ⟨φ, S, d, v, rfl, R, r, f⟩ := one_of h
  cases e : seqD S d with
  | none => rw [e] at f; obtain ⟨_, _, z, _⟩ := f; cases z
  | some es =>
    rw [e] at f
    simp only [Option.bind_some] at f
    cases ep : es.mapM (toPy 8 S) with
    | none => rw [ep] at f; obtain ⟨_, _, z, _⟩ := f; cases z
    | some ps =>
      rw [ep] at f
      simp only [Option.bind_some] at f
      split at f
      · rename_i hb
        obtain ⟨p, vs, rfl, k, s⟩ := seq_sq R r e
        rw [hK] at k
        obtain ⟨h1, h2, h3, h4, h5⟩ := zipV_of (K := X.K) R s ep
        generalize zipV vs es ps = bs at h1 h2 h3 h4 h5
        simp only [sortB, Bool.and_eq_true, List.all_eq_true] at hb
        obtain ⟨⟨b1, b2⟩, b3⟩ := hb
        refine ⟨p, bs, rfl, by rw [h1]; exact k, h4, ?_, .inl ?_, fun b hb => ?_, fun t ht => ?_⟩
        · rw [h3]; exact fun a ha b hb => b1 a ha b hb
        · rw [h3]
          intro a ha
          have := b2 a ha
          split at this
          · exact ⟨_, _, rfl⟩
          · cases this
        · exact of_decide_eq_true (b3 _ (by rw [← h3]; exact List.mem_map_of_mem (f := fun b : VP => b.2.2) hb))
        · have em : ((es.zip ps).mergeSort (dataLe false fun b => b.2)).map (·.1) = (bs.mergeSort leP).map (·.2.1) := by
            rw [← h2, ← List.map_mergeSort (r := leP) (s := dataLe false fun b : D × PyData => b.2) (f := fun b : VP => b.2) (fun a _ b _ => rfl), List.map_map]
            rfl
          rw [em] at f
          exact f.lst R (rds_map fun b hb => h5 b ((List.mergeSort_perm bs leP).mem_iff.mp hb)) t ht
      · obtain ⟨_, _, z, _⟩ := f; cases z
end
end Sb
namespace Sb
open PySem PySem.Spec PyProof.Rows L2
def eNeg (fa : EF) : EF := fun τ => (fa τ).bnd fun d S => match d with | .int i => some (.ok (.int (-i)) S) | _ => none
theorem d_neg {X : Cx} {T : Tb} {W : WX} {pos : Pos} {a : Expr} {fa : EF} (ha : PE X a (rdE T W fa)) : PE X (.UnaryOp .USub a pos) (rdE T W (eNeg fa)) := (pe_un un_neg ha).imp fun σ H Q h => by
  obtain ⟨φ, S, τ, o, R, r, e, q⟩ := h
  refine rdE_bnd R r e q fun d S1 v H1 φ1 ⟨E1, R1, r1⟩ e1 q1 => ?_
  split at e1
  · cases e1
    cases r1
    exact ⟨_, rfl, q1 φ1 H1 _ .refl R1 rfl⟩
  · cases e1
end Sb
namespace Sb
open PySem PySem.Spec PyProof.Rows L2
def sPar (i j : Nat) (ra : AF) : SF := fun τ S => match ra τ S with
  | some (.ex x S1) => some (.xx x τ, S1)
  | some (.ok [d, e] S1) => some (.nx ((τ.set i (some d)).set j (some e)), S1)
  | _ => none
theorem s_par {X : Cx} {T : Tb} {W : WX} {pos : Pos} {a b : Expr} {ra : AF} {i j : Nat} {x y : Str} {px py pt pt2 : Pos} {kt k2} (hc : X.calm = true) (hN : X.N.Nodup) (hi : X.N[i]? = some x) (hj : X.N[j]? = some y) (hij : i ≠ j)
    (hx : X.env.scope.names.lookup x = some .local) (hy : X.env.scope.names.lookup y = some .local) (ha : PA X [a, b] (rdA T W ra))
    (hw : swappedStores [.Tuple [.Name x px, .Name y py] kt pt] (.Tuple [a, b] k2 pt2) X.env = pure (some [x, y]))
    (hs : swapsWithSole [.Tuple [.Name x px, .Name y py] kt pt] (.Tuple [a, b] k2 pt2) pos.line X.env = pure false := by rfl) :
    PS X (.Assign [.Tuple [.Name x px, .Name y py] kt pt] (.Tuple [a, b] k2 pt2) pos) (rdS T W (sPar i j ra)) := (ps_par hc hN hi hj hij hx hy ha hw hs).imp fun De σ H h => by
  obtain ⟨φ, S, τ, fl, S', R, r, e, q⟩ := h
  unfold sPar at e
  cases e1 : ra τ S with
  | none => rw [e1] at e; cases e
  | some o =>
    rw [e1] at e
    refine ⟨φ, S, τ, o, R, r, e1, ?_⟩
    cases o with
    | ex x S1 => cases e; exact fun φ' H' d E1 R1 hx => q φ' H' σ d E1 R1 (r.ext E1) hx
    | ok ds S1 =>
      intro φ1 H1 vs E1 R1 r1
      match ds, r1, e with
      | [d1, d2], r1, e =>
        cases e
        obtain ⟨v, l, rfl, r2, w, l2, rfl, r3, r4⟩ := r1
        cases r4
        exact ⟨v, w, rfl, q φ1 H1 _ E1 R1 (((r.ext E1).set i r2).set j r3)⟩
      | [], r1, e => cases e
      | [_], r1, e => cases e
      | _ :: _ :: _ :: _, r1, e => cases e
end Sb
end
section
set_option Elab.async false
set_option linter.all false
set_option maxRecDepth 100000
namespace Sb
open PySem PySem.Spec PyProof.Rows L2
def m_is_whole : SF := sRt (eAnd (eIs "int" (eVar 0)) (eNot (eIs "bool" (eVar 0))))
abbrev M_is_whole : List D → M D := fnM 1 (m_is_whole)
def m_is_depth : SF := sRt (eAnd (eCl (M_is_whole) 1 (aCons (eVar 0) (aNil))) (eB gGeI (eVar 0) (eC (.int 0))))
abbrev M_is_depth : List D → M D := fnM 1 (m_is_depth)
def m_is_listed : SF := sRt (eIs2 "list" "tuple" (eVar 0))
abbrev M_is_listed : List D → M D := fnM 1 (m_is_listed)
def m_is_name : SF := sSeq (sIf (tOr' (tNt (tB (eIs "str" (eVar 0)))) (tNt (tB (eCh gLe gLe (eC (.int 1)) (eCB gLenX (aCons (eVar 0) (aNil))) (eC (.int 8)))))) (sRt (eC (.bl false))) (sNop)) (sRt (eAll 2 (iSeq (eVar 0)) (tN 1) (eCh gLe gLe (eC (.str "a")) (eVar 1) (eC (.str "z")))))
abbrev M_is_name : List D → M D := fnM 2 (m_is_name)
def m_is_card : SF := sSeq (sIf (tOr' (tNt (tB (eCl (M_is_listed) 1 (aCons (eVar 0) (aNil))))) (tB (eB (gEq true) (eCB gLenX (aCons (eVar 0) (aNil))) (eC (.int 2))))) (sRt (eC (.bl false))) (sNop)) (sRt (eAnd (eCl (M_is_name) 1 (aCons (eB gIx (eVar 0) (eC (.int 0))) (aNil))) (eCl (M_is_depth) 1 (aCons (eB gIx (eVar 0) (eC (.int 1))) (aNil)))))
abbrev M_is_card : List D → M D := fnM 1 (m_is_card)
def m_deck_of (K : PySem.W.Frag) : SF := sSeq (sIf (tOr' (tNt (tB (eCl (M_is_listed) 1 (aCons (eVar 0) (aNil))))) (tNt (tB (eCh gLe gLe (eC (.int 1)) (eCB gLenX (aCons (eVar 0) (aNil))) (eC (.int 40)))))) (sRaise (He.ga K "NoDeck")) (sNop)) (sSeq (sIf (tNt (tB (eAll 5 (iSeq (eVar 0)) (tN 1) (eCl (M_is_card) 1 (aCons (eVar 1) (aNil)))))) (sRaise (He.ga K "NoDeck")) (sNop)) (sSeq (sSet 2 (eCB gTuple (aCons (eLc (iSeq (eVar 0)) (tN2 3 4) (tAll) (eTup (aCons (eVar 3) (aCons (eVar 4) (aNil)))) [3, 4]) (aNil)))) (sSeq (sIf (tB (eB gLtI (eCB gLenX (aCons (eSc (iSeq (eVar 2)) (tN 1) (eB gIx (eVar 1) (eC (.int 0))) [1]) (aNil))) (eCB gLenX (aCons (eVar 2) (aNil))))) (sRaise (He.ga K "NoDeck")) (sNop)) (sRt (eVar 2)))))
abbrev M_deck_of (K : PySem.W.Frag) : List D → M D := fnM 5 (m_deck_of K)
def m_reach_of : SF := sRt (eCB gMin2 (aCons (eB gIx (eVar 0) (eC (.int 1))) (aCons (eB gSub (eVar 1) (eC (.int 1))) (aNil))))
abbrev M_reach_of : List D → M D := fnM 2 (m_reach_of)
def m_law_draw : SF := sSeq (sIf (tB (eB gGtI (eB gIx (eVar 0) (eC (.int 0))) (eC (.int 0)))) (sSeq (sSet 2 (eB gMod (eB gIx (eVar 0) (eC (.int 0))) (eVar 1))) (sSeq (sPut (eB gDiv (eB gIx (eVar 0) (eC (.int 0))) (eVar 1)) (eVar 0) (eC (.int 0))) (sRt (eVar 2)))) (sNop)) (sSeq (sPut (eB gAdd (eB gIx (eVar 0) (eC (.int 2))) (eC (.int 1))) (eVar 0) (eC (.int 2))) (sSeq (sSet 3 (eB gMod (eB gMul (eB gIx (eVar 0) (eC (.int 1))) (eB gIx (eVar 0) (eC (.int 1)))) (eC (.int 2305843009213693951)))) (sSeq (sPut (eB gMod (eB gAdd (eB gAdd (eVar 3) (eB gMul (eB gMul (eC (.int 7919)) (eB gIx (eVar 0) (eC (.int 2)))) (eB gIx (eVar 0) (eC (.int 1))))) (eC (.int 104729))) (eC (.int 2305843009213693951))) (eVar 0) (eC (.int 1))) (sRt (eB gMod (eB gDiv (eB gIx (eVar 0) (eC (.int 1))) (eC (.int 65537))) (eVar 1))))))
abbrev M_law_draw : List D → M D := fnM 4 (m_law_draw)
end Sb
end
section
set_option Elab.async false
set_option linter.all false
set_option maxRecDepth 100000
set_option maxHeartbeats 4000000
namespace Sb
open PySem PySem.Spec PyProof.Rows L2
theorem kb_NoneType_int : kitB "NoneType" "int" = some false := by decide +kernel
theorem kb_NoneType_bool : kitB "NoneType" "bool" = some false := by decide +kernel
theorem kb_NoneType_str : kitB "NoneType" "str" = some false := by decide +kernel
theorem kb_NoneType_list : kitB "NoneType" "list" = some false := by decide +kernel
theorem kb_NoneType_tuple : kitB "NoneType" "tuple" = some false := by decide +kernel
theorem kb_bool_int : kitB "bool" "int" = some true := by decide +kernel
theorem kb_bool_bool : kitB "bool" "bool" = some true := by decide +kernel
theorem kb_bool_str : kitB "bool" "str" = some false := by decide +kernel
theorem kb_bool_list : kitB "bool" "list" = some false := by decide +kernel
theorem kb_bool_tuple : kitB "bool" "tuple" = some false := by decide +kernel
theorem kb_int_int : kitB "int" "int" = some true := by decide +kernel
theorem kb_int_bool : kitB "int" "bool" = some false := by decide +kernel
theorem kb_int_str : kitB "int" "str" = some false := by decide +kernel
theorem kb_int_list : kitB "int" "list" = some false := by decide +kernel
theorem kb_int_tuple : kitB "int" "tuple" = some false := by decide +kernel
theorem kb_str_int : kitB "str" "int" = some false := by decide +kernel
theorem kb_str_bool : kitB "str" "bool" = some false := by decide +kernel
theorem kb_str_str : kitB "str" "str" = some true := by decide +kernel
theorem kb_str_list : kitB "str" "list" = some false := by decide +kernel
theorem kb_str_tuple : kitB "str" "tuple" = some false := by decide +kernel
theorem kb_tuple_int : kitB "tuple" "int" = some false := by decide +kernel
theorem kb_tuple_bool : kitB "tuple" "bool" = some false := by decide +kernel
theorem kb_tuple_str : kitB "tuple" "str" = some false := by decide +kernel
theorem kb_tuple_list : kitB "tuple" "list" = some false := by decide +kernel
theorem kb_tuple_tuple : kitB "tuple" "tuple" = some true := by decide +kernel
theorem kb_list_int : kitB "list" "int" = some false := by decide +kernel
theorem kb_list_bool : kitB "list" "bool" = some false := by decide +kernel
theorem kb_list_str : kitB "list" "str" = some false := by decide +kernel
theorem kb_list_list : kitB "list" "list" = some true := by decide +kernel
theorem kb_list_tuple : kitB "list" "tuple" = some false := by decide +kernel
theorem kb_dict_int : kitB "dict" "int" = some false := by decide +kernel
theorem kb_dict_bool : kitB "dict" "bool" = some false := by decide +kernel
theorem kb_dict_str : kitB "dict" "str" = some false := by decide +kernel
theorem kb_dict_list : kitB "dict" "list" = some false := by decide +kernel
theorem kb_dict_tuple : kitB "dict" "tuple" = some false := by decide +kernel
theorem sSeq_nx {f g : SF} {τ τ1 : Sl} {S S1 : Sto} (h : f τ S = some (.nx τ1, S1)) : sSeq f g τ S = g τ1 S1 := by simp only [sSeq, h]
theorem sSeq_rt {f g : SF} {τ : Sl} {d : D} {S S1 : Sto} (h : f τ S = some (.rt d, S1)) : sSeq f g τ S = some (.rt d, S1) := by simp only [sSeq, h]
theorem sSet_ok {i : Nat} {fe : EF} {τ : Sl} {d : D} {S S1 : Sto} (h : fe τ S = some (.ok d S1)) : sSet i fe τ S = some (.nx (τ.set i (some d)), S1) := by simp only [sSet, sx, h]
theorem sEx_ok {fe : EF} {τ : Sl} {d : D} {S S1 : Sto} (h : fe τ S = some (.ok d S1)) : sEx fe τ S = some (.nx τ, S1) := by simp only [sEx, sx, h]
theorem sRt_ok {fe : EF} {τ : Sl} {d : D} {S S1 : Sto} (h : fe τ S = some (.ok d S1)) : sRt fe τ S = some (.rt d, S1) := by simp only [sRt, sx, h]
theorem sIf_t {t : BF} {f g : SF} {τ : Sl} {S S1 : Sto} (h : t τ S = some (.ok true S1)) : sIf t f g τ S = f τ S1 := by simp only [sIf, st', h, if_true]
theorem sIf_f {t : BF} {f g : SF} {τ : Sl} {S S1 : Sto} (h : t τ S = some (.ok false S1)) : sIf t f g τ S = g τ S1 := by simp [sIf, st', h]
theorem sFor_ok {fi : IF} {g : TF} {fb : SF} {τ : Sl} {S S1 : Sto} {wk : Wk} {r : Option (Fl × Sto)} (h : fi τ S = some (.ok wk S1)) (h2 : goF wk.nxt g fb (wk.bound + 1) 0 τ S1 = r) : sFor fi g fb τ S = r := by simp only [sFor, h, h2]
theorem eB_ok {g : G2} {fa fb : EF} {τ : Sl} {x y d : D} {S S1 S2 S3 : Sto} (h1 : fa τ S = some (.ok x S1)) (h2 : fb τ S1 = some (.ok y S2)) (h3 : g x y S2 = some (d, S3)) : eB g fa fb τ S = some (.ok d S3) := by simp only [eB, M.bnd, h1, h2, h3, lft]
theorem eCl_ok {m : List D → M D} {n : Nat} {r : AF} {τ : Sl} {ds : List D} {S S1 : Sto} {o : Option (Rs D)} (h1 : r τ S = some (.ok ds S1)) (hl : ds.length = n) (h2 : m ds S1 = o) : eCl m n r τ S = o := by simp only [eCl, M.bnd, h1, if_pos hl, h2]
theorem eCB_ok {g : GN} {r : AF} {τ : Sl} {ds : List D} {d : D} {S S1 S2 : Sto} (h1 : r τ S = some (.ok ds S1)) (h2 : g ds S1 = some (d, S2)) : eCB g r τ S = some (.ok d S2) := by simp only [eCB, M.bnd, h1, h2, lft]
theorem eBM_ok {ty : String} {g : GM} {fo : EF} {r : AF} {τ : Sl} {x : D} {ds : List D} {d : D} {S S1 S2 S3 : Sto} (h0 : fo τ S = some (.ok x S1)) (ht : tyD S1 ty x = true) (h1 : r τ S1 = some (.ok ds S2)) (h2 : g x ds S2 = some (d, S3)) : eBM ty g fo r τ S = some (.ok d S3) := by simp only [eBM, M.bnd, h0, ht, if_true, h1, h2, lft]
theorem aCons_ok {f : EF} {r : AF} {τ : Sl} {d : D} {ds : List D} {S S1 S2 : Sto} (h1 : f τ S = some (.ok d S1)) (h2 : r τ S1 = some (.ok ds S2)) : aCons f r τ S = some (.ok (d :: ds) S2) := by simp only [aCons, M.bnd, h1, h2]
theorem aNil_ok {τ : Sl} {S : Sto} : aNil τ S = some (.ok [] S) := rfl
theorem a1_ok {f : EF} {τ : Sl} {d : D} {S S1 : Sto} (h1 : f τ S = some (.ok d S1)) : aCons f aNil τ S = some (.ok [d] S1) := aCons_ok h1 aNil_ok
theorem a2_ok {f g : EF} {τ : Sl} {d e : D} {S S1 S2 : Sto} (h1 : f τ S = some (.ok d S1)) (h2 : g τ S1 = some (.ok e S2)) : aCons f (aCons g aNil) τ S = some (.ok [d, e] S2) := aCons_ok h1 (a1_ok h2)
theorem a3_ok {f g h : EF} {τ : Sl} {d e k : D} {S S1 S2 S3 : Sto} (h1 : f τ S = some (.ok d S1)) (h2 : g τ S1 = some (.ok e S2)) (h3 : h τ S2 = some (.ok k S3)) : aCons f (aCons g (aCons h aNil)) τ S = some (.ok [d, e, k] S3) := aCons_ok h1 (a2_ok h2 h3)
theorem eTup_ok {r : AF} {τ : Sl} {ds : List D} {S S1 : Sto} (h1 : r τ S = some (.ok ds S1)) (hl : ds.length ≤ 1000) : eTup r τ S = some (.ok (.tup ds) S1) := by
  have : ds.length ≤ sizeLine := by rw [sizeLine_eq]; omega
  simp only [eTup, M.bnd, h1, if_pos this]
theorem eLst_ok {r : AF} {τ : Sl} {ds : List D} {S S1 : Sto} (h1 : r τ S = some (.ok ds S1)) (hl : ds.length ≤ 1000) : eLst r τ S = some (.ok (.loc S1.length) (S1 ++ [.lst ds])) := by
  have : ds.length ≤ sizeLine := by rw [sizeLine_eq]; omega
  simp only [eLst, M.bnd, h1, if_pos this]
theorem iRg1_ok {r : AF} {τ : Sl} {n : Nat} {S S1 : Sto} (h1 : r τ S = some (.ok [.int n] S1)) (hn : n ≤ 1000000) : iRg1 r τ S = some (.ok (wkR 0 n) S1) := by
  have hr : -(2 ^ 62) ≤ (n : Int) ∧ (n : Int) < 2 ^ 62 := by constructor <;> omega
  simp only [iRg1, M.bnd, h1, if_pos hr, Int.toNat_natCast]
theorem iSeq_ok {fe : EF} {τ : Sl} {d : D} {S S1 : Sto} {wk : Wk} (h1 : fe τ S = some (.ok d S1)) (h2 : wkD S1 d = some wk) : iSeq fe τ S = some (.ok wk S1) := by
  simp only [iSeq, M.bnd, h1, h2, Option.bind_some]
theorem tB_ok {fe : EF} {τ : Sl} {b : Bool} {S S1 : Sto} (h1 : fe τ S = some (.ok (.bl b) S1)) : tB fe τ S = some (.ok b S1) := by simp only [tB, M.bnd, h1]
theorem tNt_ok {t : BF} {τ : Sl} {b : Bool} {S S1 : Sto} (h1 : t τ S = some (.ok b S1)) : tNt t τ S = some (.ok (!b) S1) := by simp only [tNt, M.bnd, h1]
theorem tOr_f {t u : BF} {τ : Sl} {S S1 : Sto} {o : Option (Rs Bool)} (h1 : t τ S = some (.ok false S1)) (h2 : u τ S1 = o) : tOr' t u τ S = o := by simp [tOr', M.bnd, h1, h2]
theorem eSl_ok {fe : EF} {lo hi : OF} {τ : Sl} {x d : D} {a b : Option Int} {S S1 S2 S3 S4 : Sto} (h1 : fe τ S = some (.ok x S1)) (h2 : lo τ S1 = some (.ok a S2)) (h3 : hi τ S2 = some (.ok b S3)) (h4 : gSl x a b S3 = some (d, S4)) : eSl fe lo hi τ S = some (.ok d S4) := by simp only [eSl, M.bnd, h1, h2, h3, h4, lft]
theorem oSo_ok {fe : EF} {τ : Sl} {i : Int} {S S1 : Sto} (h1 : fe τ S = some (.ok (.int i) S1)) : oSo fe τ S = some (.ok (some i) S1) := by simp only [oSo, M.bnd, h1]
theorem eIf_t {t : BF} {f g : EF} {τ : Sl} {S S1 : Sto} {o : Option (Rs D)} (h : t τ S = some (.ok true S1)) (h2 : f τ S1 = o) : eIf t f g τ S = o := by simp only [eIf, M.bnd, h, if_true, h2]
theorem eIf_f {t : BF} {f g : EF} {τ : Sl} {S S1 : Sto} {o : Option (Rs D)} (h : t τ S = some (.ok false S1)) (h2 : g τ S1 = o) : eIf t f g τ S = o := by simp [eIf, M.bnd, h, h2]
theorem fnM_rt {n : Nat} {f : SF} {ds : List D} {S S' : Sto} {d : D} (h : f (ini n ds) S = some (.rt d, S')) : fnM n f ds S = some (.ok d S') := by
  simp only [fnM, h]
theorem fnM_nx {n : Nat} {f : SF} {ds : List D} {S S' : Sto} {τ : Sl} (h : f (ini n ds) S = some (.nx τ, S')) : fnM n f ds S = some (.ok .non S') := by
  simp only [fnM, h]
/-! ## the spring -/
abbrev spr (a b c : Int) : Ob := .lst [.int a, .int b, .int c]
theorem draw_of {S : Sto} {n : Nat} {a b c m : Int} (h : S[n]? = some (spr a b c)) (ha : 0 < a) (hm : 0 < m) (hl : m.natAbs.log2 < 9000) : M_law_draw [.loc n, .int m] S = some (.ok (.int (a % m)) (S.set n (spr (a / m) b c))) := by
  simp [fnM, ini, sSeq, sNop, sEx, sRt, sIf, sSet, sPut, putD, sAs, sRaise, sx, st', tB, tAn, tOr', tNt, tAll, eB, eVar, eC, eTup, eLst, eCB, eCl, eBM, eIf, eAnd, eOr, eNot, eCh, eSl, oNo, oSo, aNil, aCons, M.bnd, lft, eIs, eIs2, kindD, kb_NoneType_int, kb_NoneType_bool, kb_NoneType_str, kb_NoneType_list, kb_NoneType_tuple, kb_bool_int, kb_bool_bool, kb_bool_str, kb_bool_list, kb_bool_tuple, kb_int_int, kb_int_bool, kb_int_str, kb_int_list, kb_int_tuple, kb_str_int, kb_str_bool, kb_str_str, kb_str_list, kb_str_tuple, kb_tuple_int, kb_tuple_bool, kb_tuple_str, kb_tuple_list, kb_tuple_tuple, kb_list_int, kb_list_bool, kb_list_str, kb_list_list, kb_list_tuple, kb_dict_int, kb_dict_bool, kb_dict_str, kb_dict_list, kb_dict_tuple, truD, gI, gAdd, gSub, gMul, gMod, gDiv, gPow, gLtI, gLe, gGtI, gGeI, gIx, gLen, gLenX, gAbs, gInt, gMax, gMax2, gMin2, gTuple, gList, seqD, listD, atI, ixN, tyD, gAppend, gPopAt, gInsert, m_law_draw, h, ha, hm, hl]

theorem draw_of0 {S : Sto} {n : Nat} {b c m : Int} (h : S[n]? = some (spr 0 b c)) (hm : 0 < m) (hl : m.natAbs.log2 < 9000) (hb : b.natAbs.log2 < 1000) (hc : (7919 * (c + 1)).natAbs.log2 < 300000) :
    ∃ v b', M_law_draw [.loc n, .int m] S = some (.ok (.int (v % m)) (S.set n (spr 0 b' (c + 1)))) ∧ 0 ≤ b' ∧ b' < 2305843009213693951 := by
  have hn : n < S.length := (List.getElem?_eq_some_iff.mp h).1
  have h1 : b.natAbs.log2 + b.natAbs.log2 < 1000000 := by omega
  have h3 : (7919 : Int).natAbs.log2 + (c + 1).natAbs.log2 < 1000000 := by
    have e : (7919 : Int).natAbs.log2 ≤ 20 := by decide +kernel
    have : (c + 1).natAbs.log2 ≤ (7919 * (c + 1)).natAbs.log2 := by
      by_cases z : (c + 1).natAbs = 0
      · rw [z]; simp
      · rw [Nat.le_log2 (by omega)]
        exact Nat.le_trans (Nat.log2_self_le z) (by omega)
    omega
  have h4 : (7919 * (c + 1)).natAbs.log2 + b.natAbs.log2 < 1000000 := by omega
  have h2 : (65537 : Int).natAbs.log2 < 9000 := by decide +kernel
  refine ⟨((b * b % 2305843009213693951 + 7919 * (c + 1) * b + 104729) % 2305843009213693951) / 65537, (b * b % 2305843009213693951 + 7919 * (c + 1) * b + 104729) % 2305843009213693951, ?_, Int.emod_nonneg _ (by decide), Int.emod_lt_of_pos _ (by decide)⟩
  have g : ∀ x, (S.set n x)[n]? = some x := fun x => List.getElem?_set_self hn
  clear hn
  have q1 : Nat.log2 7919 = 12 := by decide +kernel
  have q2 : Nat.log2 65537 = 16 := by decide +kernel
  have h5 : 12 + (c + 1).natAbs.log2 < 1000000 := by
    have e : (7919 : Int).natAbs.log2 = 12 := q1
    omega
  simp [fnM, ini, sSeq, sNop, sEx, sRt, sIf, sSet, sPut, putD, sAs, sRaise, sx, st', tB, tAn, tOr', tNt, tAll, eB, eVar, eC, eTup, eLst, eCB, eCl, eBM, eIf, eAnd, eOr, eNot, eCh, eSl, oNo, oSo, aNil, aCons, M.bnd, lft, eIs, eIs2, kindD, kb_NoneType_int, kb_NoneType_bool, kb_NoneType_str, kb_NoneType_list, kb_NoneType_tuple, kb_bool_int, kb_bool_bool, kb_bool_str, kb_bool_list, kb_bool_tuple, kb_int_int, kb_int_bool, kb_int_str, kb_int_list, kb_int_tuple, kb_str_int, kb_str_bool, kb_str_str, kb_str_list, kb_str_tuple, kb_tuple_int, kb_tuple_bool, kb_tuple_str, kb_tuple_list, kb_tuple_tuple, kb_list_int, kb_list_bool, kb_list_str, kb_list_list, kb_list_tuple, kb_dict_int, kb_dict_bool, kb_dict_str, kb_dict_list, kb_dict_tuple, truD, gI, gAdd, gSub, gMul, gMod, gDiv, gPow, gLtI, gLe, gGtI, gGeI, gIx, gLen, gLenX, gAbs, gInt, gMax, gMax2, gMin2, gTuple, gList, seqD, listD, atI, ixN, tyD, gAppend, gPopAt, gInsert, m_law_draw, h, g, hm, hl, h1, h5, h4, q1, q2]
/-- the spring at n, at most k draws behind -/
def Spr (n k : Nat) (S : Sto) : Prop := ∃ a b c : Int, S[n]? = some (spr a b c) ∧ 0 ≤ a ∧ 0 ≤ b ∧ b < 2305843009213693951 ∧ 0 ≤ c ∧ c ≤ k
/-- all but the object at n stands -/
structure Fr (n : Nat) (S S' : Sto) : Prop where
  le : S.length ≤ S'.length
  at_ : ∀ i, i ≠ n → i < S.length → S'[i]? = S[i]?
theorem Fr.refl {n : Nat} {S : Sto} : Fr n S S := ⟨Nat.le_refl _, fun _ _ _ => rfl⟩
theorem Fr.trans {n : Nat} {S S1 S2 : Sto} (a : Fr n S S1) (b : Fr n S1 S2) : Fr n S S2 := ⟨Nat.le_trans a.le b.le, fun i h1 h2 => (b.at_ i h1 (Nat.lt_of_lt_of_le h2 a.le)).trans (a.at_ i h1 h2)⟩
theorem Fr.get {n i : Nat} {S S' : Sto} {o : Ob} (f : Fr n S S') (h : S[i]? = some o) (hi : i ≠ n) : S'[i]? = some o := (f.at_ i hi (List.getElem?_eq_some_iff.mp h).1).trans h
theorem Fr.app {n : Nat} {S X : Sto} : Fr n S (S ++ X) := ⟨by simp, fun i _ h => List.getElem?_append_left h⟩
theorem Spr.app {n k : Nat} {S X : Sto} (h : Spr n k S) : Spr n k (S ++ X) := by
  obtain ⟨a, b, c, e, r⟩ := h
  exact ⟨a, b, c, by rw [List.getElem?_append_left (List.getElem?_eq_some_iff.mp e).1]; exact e, r⟩
theorem Spr.lt {n k : Nat} {S : Sto} (h : Spr n k S) : n < S.length := by
  obtain ⟨a, b, c, e, r⟩ := h
  exact (List.getElem?_eq_some_iff.mp e).1
theorem Spr.mono {n k k' : Nat} {S : Sto} (h : Spr n k S) (hk : k ≤ k') : Spr n k' S := by
  obtain ⟨a, b, c, e, h1, h2, h3, h4, h5⟩ := h
  exact ⟨a, b, c, e, h1, h2, h3, h4, by omega⟩
theorem log2_lt {x : Int} {j : Nat} (hj : 0 < j) (h : x.natAbs < 2 ^ j) : x.natAbs.log2 < j := by
  by_cases z : x.natAbs = 0
  · rw [z]; simpa using hj
  · exact (Nat.log2_lt z).mpr h
theorem draw_ok {S : Sto} {n k : Nat} {m : Int} (h : Spr n k S) (hk : k < 2 ^ 64) (hm : 0 < m) (hm2 : m < 2 ^ 64) :
    ∃ v S', M_law_draw [.loc n, .int m] S = some (.ok (.int v) S') ∧ 0 ≤ v ∧ v < m ∧ Spr n (k + 1) S' ∧ Fr n S S' ∧ S'.length = S.length := by
  obtain ⟨a, b, c, e, ha, hb, hb2, hc, hc2⟩ := h
  have hn : n < S.length := (List.getElem?_eq_some_iff.mp e).1
  have hl : m.natAbs.log2 < 9000 := log2_lt (by decide) (Nat.lt_of_lt_of_le (show m.natAbs < 2 ^ 64 by omega) (Nat.pow_le_pow_right (by decide) (by decide)))
  have fr : ∀ o, Fr n S (S.set n o) := fun o => ⟨by simp, fun i h1 h2 => List.getElem?_set_ne (Ne.symm h1)⟩
  rcases Int.lt_or_eq_of_le ha with p | p
  · exact ⟨_, _, draw_of e p hm hl, Int.emod_nonneg _ (by omega), Int.emod_lt_of_pos _ hm, ⟨a / m, b, c, by rw [List.getElem?_set_self hn], Int.ediv_nonneg ha (by omega), hb, hb2, hc, by omega⟩, fr _, by simp⟩
  · subst p
    have l1 : b.natAbs.log2 < 1000 := log2_lt (by decide) (Nat.lt_of_lt_of_le (show b.natAbs < 2 ^ 64 by omega) (Nat.pow_le_pow_right (by decide) (by decide)))
    have l2 : (7919 * (c + 1)).natAbs.log2 < 300000 := log2_lt (by decide) (Nat.lt_of_lt_of_le (show (7919 * (c + 1)).natAbs < 2 ^ 128 by omega) (Nat.pow_le_pow_right (by decide) (by decide)))
    obtain ⟨v, b', e1, h1, h2⟩ := draw_of0 e hm hl l1 l2
    exact ⟨_, _, e1, Int.emod_nonneg _ (by omega), Int.emod_lt_of_pos _ hm, ⟨0, b', c + 1, by rw [List.getElem?_set_self hn], Int.le_refl 0, h1, h2, by omega, by omega⟩, fr _, by simp⟩
end Sb
end
section
set_option Elab.async false
set_option linter.all false
set_option maxRecDepth 100000
set_option maxHeartbeats 4000000
set_option exponentiation.threshold 100000
namespace Sb
open PySem PySem.Spec PyProof.Rows L2
/-! ## loops by an invariant -/
theorem goC_inv {nxt : Nat → Sto → Option (Option D)} {g : TF} {t : BF} {fe : EF} {l : Nat} {τ0 : Sl} {n : Nat} (I : Nat → Sto → Prop) (item : Nat → D)
    (h : ∀ i S, i < n → I i S → nxt i S = some (some (item i)) ∧ ∃ τ1, g (item i) S τ0 = some τ1 ∧ ((∃ S1, t τ1 S = some (.ok false S1) ∧ I (i + 1) S1) ∨
      ∃ S1 y S2 acc, t τ1 S = some (.ok true S1) ∧ fe τ1 S1 = some (.ok y S2) ∧ S2[l]? = some (.lst acc) ∧ acc.length < sizeLine ∧ I (i + 1) (S2.set l (.lst (acc ++ [y])))))
    (he : ∀ S, I n S → nxt n S = some none) : ∀ (m i : Nat) (S : Sto), i ≤ n → n - i < m → I i S → ∃ S', goC nxt g t fe l τ0 m i S = some S' ∧ I n S'
  | 0, i, S, _, hm, _ => absurd hm (Nat.not_lt_zero _)
  | m + 1, i, S, hi, hm, hI => by
    unfold goC
    by_cases e : i = n
    · subst e
      rw [he S hI]
      exact ⟨S, rfl, hI⟩
    · obtain ⟨h1, τ1, h2, h3⟩ := h i S (by omega) hI
      rw [h1]
      rcases h3 with ⟨S1, h3, h4⟩ | ⟨S1, y, S2, acc, h3, h4, h5, h6, h7⟩
      · simp only [h2, h3]
        exact goC_inv I item h he m (i + 1) S1 (by omega) (by omega) h4
      · simp only [h2, h3, h4, h5, if_pos h6]
        exact goC_inv I item h he m (i + 1) _ (by omega) (by omega) h7
theorem goA_inv {nxt : Nat → Sto → Option (Option D)} {g : TF} {fe : EF} {k n : Nat} (I : Nat → Sto → Prop) (item : Nat → D)
    (h : ∀ i S, i < n → I i S → nxt i S = some (some (item i)) ∧ ∃ τ1 S1, g (item i) S (List.replicate k none) = some τ1 ∧ fe τ1 S = some (.ok (.bl true) S1) ∧ I (i + 1) S1)
    (he : ∀ S, I n S → nxt n S = some none) : ∀ (m i : Nat) (S : Sto), i ≤ n → n - i < m → I i S → ∃ S', goA nxt g fe k m i S = some (true, S') ∧ I n S'
  | 0, i, S, _, hm, _ => absurd hm (Nat.not_lt_zero _)
  | m + 1, i, S, hi, hm, hI => by
    unfold goA
    by_cases e : i = n
    · subst e
      rw [he S hI]
      exact ⟨S, rfl, hI⟩
    · obtain ⟨h1, τ1, S1, h2, h3, h4⟩ := h i S (by omega) hI
      rw [h1]
      simp only [h2, h3]
      exact goA_inv I item h he m (i + 1) S1 (by omega) (by omega) h4
theorem goK_inv {nxt : Nat → Sto → Option (Option D)} {g : TF} {fe : EF} {l : Nat} {τ0 : Sl} {n : Nat} (I : Nat → Sto → Prop) (item : Nat → D)
    (h : ∀ i S, i < n → I i S → nxt i S = some (some (item i)) ∧ ∃ τ1 y S2 k M num, g (item i) S τ0 = some τ1 ∧ fe τ1 S = some (.ok y S2) ∧ keyD y = some k ∧ S2[l]? = some (.ks M num) ∧ num + 1 < scanBound ∧
      I (i + 1) (S2.set l (.ks (fun j => M j || decide (j = k)) (if M k = true then num else num + 1))))
    (he : ∀ S, I n S → nxt n S = some none) : ∀ (m i : Nat) (S : Sto), i ≤ n → n - i < m → I i S → ∃ S', goK nxt g fe l τ0 m i S = some S' ∧ I n S'
  | 0, i, S, _, hm, _ => absurd hm (Nat.not_lt_zero _)
  | m + 1, i, S, hi, hm, hI => by
    unfold goK
    by_cases e : i = n
    · subst e
      rw [he S hI]
      exact ⟨S, rfl, hI⟩
    · obtain ⟨h1, τ1, y, S2, k, M, num, h2, h3, h4, h5, h6, h7⟩ := h i S (by omega) hI
      rw [h1]
      simp only [h2, h3, h4, h5, if_pos h6]
      exact goK_inv I item h he m (i + 1) _ (by omega) (by omega) h7
end Sb
end
section
set_option Elab.async false
set_option linter.all false
set_option maxRecDepth 100000
set_option maxHeartbeats 4000000
set_option exponentiation.threshold 100000
namespace Sb
open PySem PySem.Spec PyProof.Rows L2
theorem pre_get {S X : Sto} {i : Nat} {o : Ob} (h : S[i]? = some o) : (S ++ X)[i]? = some o := by
  rw [List.getElem?_append_left (List.getElem?_eq_some_iff.mp h).1]; exact h
theorem pow_le2 {a b : Nat} (h : a ≤ b) : 2 ^ a ≤ 2 ^ b := Nat.pow_le_pow_right (by decide) h
end Sb
end
section
set_option Elab.async false
set_option linter.all false
set_option maxRecDepth 100000
set_option maxHeartbeats 4000000
namespace Sb
open PySem PySem.Spec PyProof.Rows L2
/-- a name: one to eight small letters -/
structure Nm (x : Str) : Prop where
  lo : 1 ≤ x.cps.size
  hi : x.cps.size ≤ 8
  let_ : ∀ c ∈ x.cps.toList, 97 ≤ c ∧ c ≤ 122
abbrev Card := Str × Int
abbrev dC (c : Card) : D := .tup [.str c.1, .int c.2]
abbrev dK (l : List Card) : D := .tup (l.map dC)
abbrev pC (c : Card) : PyData := .tuple [.str c.1, .int c.2]
theorem toPy_int (n : Nat) (S : Sto) (x : Int) : toPy (n + 1) S (.int x) = some (.int x) := rfl
theorem mapM_some {α β : Type} {f : α → Option β} {g : α → β} : ∀ {l : List α}, (∀ x ∈ l, f x = some (g x)) → l.mapM f = some (l.map g)
  | [], _ => rfl
  | x :: l, h => by
    rw [List.mapM_cons, h x List.mem_cons_self, mapM_some fun y hy => h y (List.mem_cons_of_mem _ hy)]
    rfl
theorem toPy_card (n : Nat) (S : Sto) (c : Card) : toPy (n + 2) S (dC c) = some (pC c) := rfl
theorem toPy_deck (n : Nat) (S : Sto) (l : List Card) : toPy (n + 3) S (dK l) = some (.tuple (l.map pC)) := by
  show ((l.map dC).mapM (toPy (n + 2) S)).map PyData.tuple = _
  rw [List.mapM_map, mapM_some (f := toPy (n + 2) S ∘ dC) (g := pC) fun c _ => toPy_card n S c]
  rfl
theorem eqv_all {α : Type} [DecidableEq α] {f : α → PyData} (h : ∀ a b, PyData.eqv (f a) (f b) = decide (a = b)) : ∀ l m : List α, PyData.eqvAll (l.map f) (m.map f) = decide (l = m)
  | [], [] => rfl
  | [], _ :: _ => rfl
  | _ :: _, [] => rfl
  | a :: l, b :: m => by
    show (PyData.eqv (f a) (f b) && PyData.eqvAll (l.map f) (m.map f)) = _
    rw [h, eqv_all h l m]
    by_cases e : a = b <;> by_cases e2 : l = m <;> simp [e, e2]
theorem eqv_card (a b : Card) : PyData.eqv (pC a) (pC b) = decide (a = b) := by
  obtain ⟨x, i⟩ := a
  obtain ⟨y, j⟩ := b
  show (x == y && (i == j && true)) = _
  by_cases h : x = y <;> by_cases h2 : i = j <;> simp [h, h2]
theorem eqv_deck (l m : List Card) : PyData.eqv (.tuple (l.map pC)) (.tuple (m.map pC)) = decide (l = m) := eqv_all eqv_card l m
theorem nm_ok {x : Str} (h : Nm x) : PyData.canLay0 (.str x) = true := by
  show x.cps.all (fun c => decide (c < 0x110000)) = true
  rw [Array.all_eq_true_iff_forall_mem]
  intro c hc
  have := h.let_ c (by simpa using hc)
  exact decide_eq_true (by omega)
theorem lay_all {α : Type} {f : α → PyData} : ∀ {l : List α}, (∀ x ∈ l, PyData.canLay0 (f x) = true) → PyData.canLayAll0 (l.map f) = true
  | [], _ => rfl
  | x :: l, h => by
    show (PyData.canLay0 (f x) && PyData.canLayAll0 (l.map f)) = true
    rw [h x List.mem_cons_self, lay_all fun y hy => h y (List.mem_cons_of_mem _ hy)]
    rfl
theorem depth_all {α : Type} {f : α → PyData} {k : Nat} : ∀ {l : List α}, (∀ x ∈ l, PyData.depth (f x) ≤ k) → PyData.depthAll (l.map f) ≤ k
  | [], _ => Nat.zero_le _
  | x :: l, h => by
    show max (PyData.depth (f x)) (PyData.depthAll (l.map f)) ≤ k
    exact Nat.max_le.mpr ⟨h x List.mem_cons_self, depth_all fun y hy => h y (List.mem_cons_of_mem _ hy)⟩
theorem shp_str {x : Str} (h : Nm x) : SeqAt.shaped (.str x) = true := by
  show (_ && decide ((0 : Nat) ≤ 64)) = true
  rw [nm_ok h]; rfl
theorem lay_card {c : Card} (h : Nm c.1) : PyData.canLay0 (pC c) = true := by
  show (PyData.canLay0 (.str c.1) && (true && true)) = true
  rw [nm_ok h]; rfl
theorem dep_card (c : Card) : PyData.depth (pC c) ≤ 1 := by
  show max 0 (max 0 0) + 1 ≤ 1
  decide
theorem shp_deck {l : List Card} (h : ∀ c ∈ l, Nm c.1) : SeqAt.shaped (.tuple (l.map pC)) = true := by
  unfold SeqAt.shaped
  have e1 : PyData.canLay0 (.tuple (l.map pC)) = true := lay_all fun c hc => lay_card (h c hc)
  have e2 : PyData.depth (.tuple (l.map pC)) ≤ 2 := Nat.succ_le_succ (depth_all (k := 1) fun c _ => dep_card c)
  rw [e1, Bool.true_and]
  exact decide_eq_true (Nat.le_trans e2 (by decide))
theorem shp_cards {l : List Card} (h : ∀ c ∈ l, Nm c.1) : SeqAt.shaped (.list (l.map pC)) = true := shp_deck h
theorem gEq_deck {neg : Bool} {S : Sto} {l m : List Card} (hl : ∀ c ∈ l, Nm c.1) (hm : ∀ c ∈ m, Nm c.1) : gEq neg (dK l) (dK m) S = some (.bl (if neg then !decide (l = m) else decide (l = m)), S) := by
  unfold gEq
  rw [toPy_deck 5, toPy_deck 5]
  simp only [shp_deck hl, shp_deck hm, and_self, if_true, eqv_deck]
end Sb
end
section
set_option Elab.async false
set_option linter.all false
set_option maxRecDepth 100000
set_option maxHeartbeats 4000000
namespace Sb
open PySem PySem.Spec PyProof.Rows L2
variable {K : PySem.W.Frag} {S : Sto}
/-! ## what the program's defs do -/
def isCard (S : Sto) (e : D) (c : Card) : Prop := e = dC c ∨ e = .fl [.str c.1, .int c.2] ∨ ∃ n, e = .loc n ∧ S[n]? = some (.lst [.str c.1, .int c.2])
def isDeck (S : Sto) (d : D) (l : List Card) : Prop := ∃ es : List D, (d = .tup es ∨ d = .fl es ∨ ∃ n, d = .loc n ∧ S[n]? = some (.lst es)) ∧ es.length = l.length ∧ ∀ (i : Nat) (e : D) (c : Card), es[i]? = some e → l[i]? = some c → isCard S e c
theorem isCard.app {e : D} {c : Card} {X : Sto} (h : isCard S e c) : isCard (S ++ X) e c := h.imp id fun h => h.imp id fun ⟨n, h1, h2⟩ => ⟨n, h1, pre_get h2⟩
theorem isDeck.app {d : D} {l : List Card} {X : Sto} (h : isDeck S d l) : isDeck (S ++ X) d l := by
  obtain ⟨es, h1, h2, h3⟩ := h
  exact ⟨es, h1.imp id fun h => h.imp id fun ⟨n, a, b⟩ => ⟨n, a, pre_get b⟩, h2, fun i e c a b => (h3 i e c a b).app⟩
theorem isCard.seq {e : D} {c : Card} (h : isCard S e c) : seqD S e = some [.str c.1, .int c.2] := by
  rcases h with rfl | rfl | ⟨n, rfl, h⟩
  · rfl
  · rfl
  · simp [seqD, h]
structure DeckOk (l : List Card) : Prop where
  lo : 1 ≤ l.length
  hi : l.length ≤ 40
  nm : ∀ c ∈ l, Nm c.1
  dep : ∀ c ∈ l, 0 ≤ c.2
  nd : (l.map (·.1)).Nodup
theorem is_depth_ok {i : Int} (h : 0 ≤ i) : M_is_depth [.int i] S = some (.ok (.bl true) S) := by
  simp [fnM, ini, sSeq, sNop, sEx, sRt, sIf, sSet, sPut, putD, sAs, sRaise, sx, st', tB, tAn, tOr', tNt, tAll, eB, eVar, eC, eTup, eLst, eCB, eCl, eBM, eIf, eAnd, eOr, eNot, eCh, eSl, oNo, oSo, aNil, aCons, M.bnd, lft, eIs, eIs2, kindD, kb_NoneType_int, kb_NoneType_bool, kb_NoneType_str, kb_NoneType_list, kb_NoneType_tuple, kb_bool_int, kb_bool_bool, kb_bool_str, kb_bool_list, kb_bool_tuple, kb_int_int, kb_int_bool, kb_int_str, kb_int_list, kb_int_tuple, kb_str_int, kb_str_bool, kb_str_str, kb_str_list, kb_str_tuple, kb_tuple_int, kb_tuple_bool, kb_tuple_str, kb_tuple_list, kb_tuple_tuple, kb_list_int, kb_list_bool, kb_list_str, kb_list_list, kb_list_tuple, kb_dict_int, kb_dict_bool, kb_dict_str, kb_dict_list, kb_dict_tuple, truD, gI, gAdd, gSub, gMul, gMod, gDiv, gPow, gLtI, gLe, gGtI, gGeI, gIx, gLen, gLenX, gAbs, gInt, gMax, gMax2, gMin2, gTuple, gList, seqD, listD, atI, ixN, tyD, gAppend, gPopAt, gInsert, m_is_depth, m_is_whole, h]
theorem is_listed_ok {e : D} {c : Card} (h : isCard S e c) : M_is_listed [e] S = some (.ok (.bl true) S) := by
  rcases h with rfl | rfl | ⟨n, rfl, h⟩
  · simp [fnM, ini, sSeq, sNop, sEx, sRt, sIf, sSet, sPut, putD, sAs, sRaise, sx, st', tB, tAn, tOr', tNt, tAll, eB, eVar, eC, eTup, eLst, eCB, eCl, eBM, eIf, eAnd, eOr, eNot, eCh, eSl, oNo, oSo, aNil, aCons, M.bnd, lft, eIs, eIs2, kindD, kb_NoneType_int, kb_NoneType_bool, kb_NoneType_str, kb_NoneType_list, kb_NoneType_tuple, kb_bool_int, kb_bool_bool, kb_bool_str, kb_bool_list, kb_bool_tuple, kb_int_int, kb_int_bool, kb_int_str, kb_int_list, kb_int_tuple, kb_str_int, kb_str_bool, kb_str_str, kb_str_list, kb_str_tuple, kb_tuple_int, kb_tuple_bool, kb_tuple_str, kb_tuple_list, kb_tuple_tuple, kb_list_int, kb_list_bool, kb_list_str, kb_list_list, kb_list_tuple, kb_dict_int, kb_dict_bool, kb_dict_str, kb_dict_list, kb_dict_tuple, truD, gI, gAdd, gSub, gMul, gMod, gDiv, gPow, gLtI, gLe, gGtI, gGeI, gIx, gLen, gLenX, gAbs, gInt, gMax, gMax2, gMin2, gTuple, gList, seqD, listD, atI, ixN, tyD, gAppend, gPopAt, gInsert, m_is_listed]
  · simp [fnM, ini, sSeq, sNop, sEx, sRt, sIf, sSet, sPut, putD, sAs, sRaise, sx, st', tB, tAn, tOr', tNt, tAll, eB, eVar, eC, eTup, eLst, eCB, eCl, eBM, eIf, eAnd, eOr, eNot, eCh, eSl, oNo, oSo, aNil, aCons, M.bnd, lft, eIs, eIs2, kindD, kb_NoneType_int, kb_NoneType_bool, kb_NoneType_str, kb_NoneType_list, kb_NoneType_tuple, kb_bool_int, kb_bool_bool, kb_bool_str, kb_bool_list, kb_bool_tuple, kb_int_int, kb_int_bool, kb_int_str, kb_int_list, kb_int_tuple, kb_str_int, kb_str_bool, kb_str_str, kb_str_list, kb_str_tuple, kb_tuple_int, kb_tuple_bool, kb_tuple_str, kb_tuple_list, kb_tuple_tuple, kb_list_int, kb_list_bool, kb_list_str, kb_list_list, kb_list_tuple, kb_dict_int, kb_dict_bool, kb_dict_str, kb_dict_list, kb_dict_tuple, truD, gI, gAdd, gSub, gMul, gMod, gDiv, gPow, gLtI, gLe, gGtI, gGeI, gIx, gLen, gLenX, gAbs, gInt, gMax, gMax2, gMin2, gTuple, gList, seqD, listD, atI, ixN, tyD, gAppend, gPopAt, gInsert, m_is_listed]
  · simp [fnM, ini, sSeq, sNop, sEx, sRt, sIf, sSet, sPut, putD, sAs, sRaise, sx, st', tB, tAn, tOr', tNt, tAll, eB, eVar, eC, eTup, eLst, eCB, eCl, eBM, eIf, eAnd, eOr, eNot, eCh, eSl, oNo, oSo, aNil, aCons, M.bnd, lft, eIs, eIs2, kindD, kb_NoneType_int, kb_NoneType_bool, kb_NoneType_str, kb_NoneType_list, kb_NoneType_tuple, kb_bool_int, kb_bool_bool, kb_bool_str, kb_bool_list, kb_bool_tuple, kb_int_int, kb_int_bool, kb_int_str, kb_int_list, kb_int_tuple, kb_str_int, kb_str_bool, kb_str_str, kb_str_list, kb_str_tuple, kb_tuple_int, kb_tuple_bool, kb_tuple_str, kb_tuple_list, kb_tuple_tuple, kb_list_int, kb_list_bool, kb_list_str, kb_list_list, kb_list_tuple, kb_dict_int, kb_dict_bool, kb_dict_str, kb_dict_list, kb_dict_tuple, truD, gI, gAdd, gSub, gMul, gMod, gDiv, gPow, gLtI, gLe, gGtI, gGeI, gIx, gLen, gLenX, gAbs, gInt, gMax, gMax2, gMin2, gTuple, gList, seqD, listD, atI, ixN, tyD, gAppend, gPopAt, gInsert, m_is_listed, h]
theorem is_listed_deck {d : D} {l : List Card} (h : isDeck S d l) : M_is_listed [d] S = some (.ok (.bl true) S) := by
  obtain ⟨es, h1 | h1 | ⟨n, h1, h2⟩, _⟩ := h
  · subst h1; simp [fnM, ini, sSeq, sNop, sEx, sRt, sIf, sSet, sPut, putD, sAs, sRaise, sx, st', tB, tAn, tOr', tNt, tAll, eB, eVar, eC, eTup, eLst, eCB, eCl, eBM, eIf, eAnd, eOr, eNot, eCh, eSl, oNo, oSo, aNil, aCons, M.bnd, lft, eIs, eIs2, kindD, kb_NoneType_int, kb_NoneType_bool, kb_NoneType_str, kb_NoneType_list, kb_NoneType_tuple, kb_bool_int, kb_bool_bool, kb_bool_str, kb_bool_list, kb_bool_tuple, kb_int_int, kb_int_bool, kb_int_str, kb_int_list, kb_int_tuple, kb_str_int, kb_str_bool, kb_str_str, kb_str_list, kb_str_tuple, kb_tuple_int, kb_tuple_bool, kb_tuple_str, kb_tuple_list, kb_tuple_tuple, kb_list_int, kb_list_bool, kb_list_str, kb_list_list, kb_list_tuple, kb_dict_int, kb_dict_bool, kb_dict_str, kb_dict_list, kb_dict_tuple, truD, gI, gAdd, gSub, gMul, gMod, gDiv, gPow, gLtI, gLe, gGtI, gGeI, gIx, gLen, gLenX, gAbs, gInt, gMax, gMax2, gMin2, gTuple, gList, seqD, listD, atI, ixN, tyD, gAppend, gPopAt, gInsert, m_is_listed]
  · subst h1; simp [fnM, ini, sSeq, sNop, sEx, sRt, sIf, sSet, sPut, putD, sAs, sRaise, sx, st', tB, tAn, tOr', tNt, tAll, eB, eVar, eC, eTup, eLst, eCB, eCl, eBM, eIf, eAnd, eOr, eNot, eCh, eSl, oNo, oSo, aNil, aCons, M.bnd, lft, eIs, eIs2, kindD, kb_NoneType_int, kb_NoneType_bool, kb_NoneType_str, kb_NoneType_list, kb_NoneType_tuple, kb_bool_int, kb_bool_bool, kb_bool_str, kb_bool_list, kb_bool_tuple, kb_int_int, kb_int_bool, kb_int_str, kb_int_list, kb_int_tuple, kb_str_int, kb_str_bool, kb_str_str, kb_str_list, kb_str_tuple, kb_tuple_int, kb_tuple_bool, kb_tuple_str, kb_tuple_list, kb_tuple_tuple, kb_list_int, kb_list_bool, kb_list_str, kb_list_list, kb_list_tuple, kb_dict_int, kb_dict_bool, kb_dict_str, kb_dict_list, kb_dict_tuple, truD, gI, gAdd, gSub, gMul, gMod, gDiv, gPow, gLtI, gLe, gGtI, gGeI, gIx, gLen, gLenX, gAbs, gInt, gMax, gMax2, gMin2, gTuple, gList, seqD, listD, atI, ixN, tyD, gAppend, gPopAt, gInsert, m_is_listed]
  · subst h1; simp [fnM, ini, sSeq, sNop, sEx, sRt, sIf, sSet, sPut, putD, sAs, sRaise, sx, st', tB, tAn, tOr', tNt, tAll, eB, eVar, eC, eTup, eLst, eCB, eCl, eBM, eIf, eAnd, eOr, eNot, eCh, eSl, oNo, oSo, aNil, aCons, M.bnd, lft, eIs, eIs2, kindD, kb_NoneType_int, kb_NoneType_bool, kb_NoneType_str, kb_NoneType_list, kb_NoneType_tuple, kb_bool_int, kb_bool_bool, kb_bool_str, kb_bool_list, kb_bool_tuple, kb_int_int, kb_int_bool, kb_int_str, kb_int_list, kb_int_tuple, kb_str_int, kb_str_bool, kb_str_str, kb_str_list, kb_str_tuple, kb_tuple_int, kb_tuple_bool, kb_tuple_str, kb_tuple_list, kb_tuple_tuple, kb_list_int, kb_list_bool, kb_list_str, kb_list_list, kb_list_tuple, kb_dict_int, kb_dict_bool, kb_dict_str, kb_dict_list, kb_dict_tuple, truD, gI, gAdd, gSub, gMul, gMod, gDiv, gPow, gLtI, gLe, gGtI, gGeI, gIx, gLen, gLenX, gAbs, gInt, gMax, gMax2, gMin2, gTuple, gList, seqD, listD, atI, ixN, tyD, gAppend, gPopAt, gInsert, m_is_listed, h2]
theorem letter_lt {c : Nat} (h1 : 97 ≤ c) (h2 : c ≤ 122) : gLe (.str "a") (.str ⟨#[c]⟩) S = some (.bl true, S) ∧ gLe (.str ⟨#[c]⟩) (.str "z") S = some (.bl true, S) := by
  have ea : (("a" : Str)).cps.toList = [97] := by decide +kernel
  have ez : (("z" : Str)).cps.toList = [122] := by decide +kernel
  constructor
  · simp only [gLe, ea]
    have : ¬ ([c] < [97]) := by
      intro h
      rcases List.cons_lt_cons_iff.mp h with h | ⟨_, h⟩
      · omega
      · exact absurd h (by simp)
    simp [this]
  · simp only [gLe, ez]
    have : ¬ ([122] < [c]) := by
      intro h
      rcases List.cons_lt_cons_iff.mp h with h | ⟨_, h⟩
      · omega
      · exact absurd h (by simp)
    simp [this]
theorem is_name_ok {x : Str} (h : Nm x) : M_is_name [.str x] S = some (.ok (.bl true) S) := by
  have h1 := h.lo
  have h2 := h.hi
  have hs : x.length ≤ sizeLine := by rw [sizeLine_eq]; show x.cps.size ≤ _; omega
  have hl1 : (1 : Int) ≤ (x.length : Int) := by show (1 : Int) ≤ (x.cps.size : Int); omega
  have hl2 : (x.length : Int) ≤ 8 := by show (x.cps.size : Int) ≤ 8; omega
  have loop := goA_inv (g := tN 1) (k := 2) (fe := eCh gLe gLe (eC (.str "a")) (eVar 1) (eC (.str "z"))) (nxt := fun i _ => some ((x.cps[i]?).map fun c => .str ⟨#[c]⟩)) (n := x.cps.size)
    (fun _ S' => S' = S) (fun i => .str ⟨#[x.cps.getD i 0]⟩) (fun i S' hi e => ?_) (fun S' e => by simp) (x.cps.size + 1) 0 S (Nat.zero_le _) (by omega) rfl
  · obtain ⟨S', e1, rfl⟩ := loop
    simp [fnM, ini, sSeq, sNop, sEx, sRt, sIf, sSet, sPut, putD, sAs, sRaise, sx, st', tB, tAn, tOr', tNt, tAll, eB, eVar, eC, eTup, eLst, eCB, eCl, eBM, eIf, eAnd, eOr, eNot, eCh, eSl, oNo, oSo, aNil, aCons, M.bnd, lft, eIs, eIs2, kindD, kb_NoneType_int, kb_NoneType_bool, kb_NoneType_str, kb_NoneType_list, kb_NoneType_tuple, kb_bool_int, kb_bool_bool, kb_bool_str, kb_bool_list, kb_bool_tuple, kb_int_int, kb_int_bool, kb_int_str, kb_int_list, kb_int_tuple, kb_str_int, kb_str_bool, kb_str_str, kb_str_list, kb_str_tuple, kb_tuple_int, kb_tuple_bool, kb_tuple_str, kb_tuple_list, kb_tuple_tuple, kb_list_int, kb_list_bool, kb_list_str, kb_list_list, kb_list_tuple, kb_dict_int, kb_dict_bool, kb_dict_str, kb_dict_list, kb_dict_tuple, truD, gI, gAdd, gSub, gMul, gMod, gDiv, gPow, gLtI, gLe, gGtI, gGeI, gIx, gLen, gLenX, gAbs, gInt, gMax, gMax2, gMin2, gTuple, gList, seqD, listD, atI, ixN, tyD, gAppend, gPopAt, gInsert, m_is_name, hs, hl1, hl2, eAll, iSeq, wkD, e1]
  · subst e
    refine ⟨by simp [hi, Array.getD], _, S', rfl, ?_, rfl⟩
    have hm : x.cps.getD i 0 ∈ x.cps.toList := by simp [Array.getD, hi]
    obtain ⟨a, b⟩ := letter_lt (S := S') (h.let_ _ hm).1 (h.let_ _ hm).2
    generalize x.cps.getD i 0 = c at a b ⊢
    simp [eCh, eC, eVar, M.bnd, a, b, lft]
theorem is_card_ok {e : D} {c : Card} (h : isCard S e c) (hn : Nm c.1) (hd : 0 ≤ c.2) : M_is_card [e] S = some (.ok (.bl true) S) := by
  have hq := h.seq
  have e1 := is_listed_ok h
  have e2 := is_name_ok (S := S) hn
  have e3 := is_depth_ok (S := S) hd
  have g0 : gLenX [e] S = some (.int 2, S) := by
    rcases h with rfl | rfl | ⟨n, rfl, h⟩
    · rfl
    · rfl
    · simp [gLenX, gLen, seqD, h]
  have g1 : gIx e (.int 0) S = some (.str c.1, S) := by
    rcases h with rfl | rfl | ⟨n, rfl, h⟩
    · rfl
    · rfl
    · simp [gIx, seqD, h, atI, ixN]
  have g2 : gIx e (.int 1) S = some (.int c.2, S) := by
    rcases h with rfl | rfl | ⟨n, rfl, h⟩
    · rfl
    · rfl
    · simp [gIx, seqD, h, atI, ixN]
  have g3 : gEq true (.int 2) (.int 2) S = some (.bl false, S) := by
    have z : SeqAt.shaped (.int 2) = true := by decide +kernel
    have z2 : PyData.eqv (.int 2) (.int 2) = true := by decide +kernel
    simp [gEq, toPy, z, z2]
  simp [fnM, ini, m_is_card, sSeq, sIf, st', tOr', tNt, tB, eCl, aCons, aNil, M.bnd, eVar, e1, eB, eCB, g0, g1, g2, g3, lft, eC, sNop, sRt, sx, eAnd, e2, e3, truD]
theorem seq_deck {d : D} {l : List Card} (h : isDeck S d l) : ∃ (es : List D) (nn : Nat → Sto → Option (Option D)), seqD S d = some es ∧ es.length = l.length ∧ (∀ (i : Nat) (e : D) (c : Card), es[i]? = some e → l[i]? = some c → isCard S e c) ∧ gLenX [d] S = some (.int l.length, S) ∧
    (∀ X, wkD (S ++ X) d = some ⟨es.length, nn⟩) ∧ ∀ X i, nn i (S ++ X) = some es[i]? := by
  obtain ⟨es, h1 | h1 | ⟨n, h1, h2⟩, h3, h4⟩ := h
  · subst h1
    exact ⟨es, fun i _ => some es[i]?, rfl, h3, h4, by rw [← h3]; rfl, fun X => rfl, fun _ _ => rfl⟩
  · subst h1
    exact ⟨es, fun i _ => some es[i]?, rfl, h3, h4, by rw [← h3]; rfl, fun X => rfl, fun _ _ => rfl⟩
  · subst h1
    refine ⟨es, fun i S => (seqD S (.loc n)).map fun es => es[i]?, by simp [seqD, h2], h3, h4, by simp [gLenX, gLen, seqD, h2, h3], fun X => ?_, fun X i => ?_⟩
    · simp [wkD, seqD, pre_get h2]
    · simp [seqD, pre_get h2]
theorem set_last (S : Sto) (o o' : Ob) : List.set (S ++ [o]) (List.length S) o' = S ++ [o'] := by
  induction S with
  | nil => rfl
  | cons a r ih => simpa using ih
theorem set_last2 (S : Sto) (o1 o o' : Ob) : List.set (S ++ [o1] ++ [o]) (List.length S + 1) o' = S ++ [o1] ++ [o'] := by
  have := set_last (S ++ [o1]) o o'
  simpa using this
theorem get_last (S : Sto) (a : Ob) : (S ++ [a] : Sto)[List.length S]? = some a := by
  induction S with
  | nil => rfl
  | cons x r ih => simpa using ih
theorem get_last2 (S : Sto) (a b : Ob) : (S ++ [a] ++ [b] : Sto)[List.length S + 1]? = some b := by
  induction S with
  | nil => rfl
  | cons x r ih => simpa using ih
theorem app2 (S : Sto) (a b : Ob) : (S ++ [a, b] : Sto) = S ++ [a] ++ [b] := by
  induction S with
  | nil => rfl
  | cons x r ih => simpa using ih
theorem getElem_lt {α : Type} [Inhabited α] {l : List α} {i : Nat} (h : i < l.length) : l[i]? = some (l.getD i default) := by
  rw [List.getD_eq_getElem?_getD, List.getElem?_eq_getElem h]; rfl
theorem deck_of_okB {d : D} {l : List Card} (h : isDeck S d l) (ok : DeckOk l) : ∃ X, M_deck_of K [d] S = some (.ok (dK l) (S ++ X)) ∧ ∀ o ∈ X, bdO 0 o = true := by
  obtain ⟨es, nn, hq, hlen, hc, hL, hw, hnx⟩ := seq_deck h
  have hL2 := is_listed_deck h
  have lo := ok.lo
  have hi := ok.hi
  have a1 : (1 : Int) ≤ (l.length : Int) := by omega
  have a2 : (l.length : Int) ≤ 40 := by omega
  have hw0 := hw []
  rw [List.append_nil] at hw0
  have hnx0 := hnx []
  rw [List.append_nil] at hnx0
  -- all are cards
  have L1 := goA_inv (g := tN 1) (k := 5) (fe := eCl M_is_card 1 (aCons (eVar 1) aNil)) (nxt := nn) (n := es.length) (fun _ S' => S' = S) (fun i => es.getD i default)
    (fun i S' hi' e => by
      subst e
      have e1 := getElem_lt hi'
      refine ⟨(hnx0 i).trans (by rw [e1]), _, S', rfl, ?_, rfl⟩
      have hi2 : i < l.length := by omega
      have e2 := List.getElem?_eq_getElem hi2
      have ic := hc i _ _ e1 e2
      have mem := List.getElem_mem hi2
      have := is_card_ok ic (ok.nm _ mem) (ok.dep _ mem)
      generalize es.getD i default = ee at this ⊢
      simp [eCl, aCons, aNil, M.bnd, eVar, this]) (fun S' e => by subst e; rw [hnx0]; simp) (es.length + 1) 0 S (Nat.zero_le _) (by omega) rfl
  obtain ⟨S1, L1, rfl⟩ := L1
  -- the cards
  have L2 := goC_inv (g := tN2 3 4) (t := tAll) (fe := eTup (aCons (eVar 3) (aCons (eVar 4) aNil))) (l := S1.length) (τ0 := [some d, none, none, none, none]) (nxt := nn) (n := es.length)
    (fun i S' => S' = S1 ++ [.lst ((l.take i).map dC)]) (fun i => es.getD i default)
    (fun i S' hi' e => by
      subst e
      have e1 := getElem_lt hi'
      have hi2 : i < l.length := by omega
      have e2 := List.getElem?_eq_getElem hi2
      have ic := hc i _ _ e1 e2
      have mem := List.getElem_mem hi2
      refine ⟨(hnx _ i).trans (by rw [e1]), [some d, none, none, some (.str (l[i]).1), some (.int (l[i]).2)], ?_, .inr ⟨S1 ++ [.lst ((l.take i).map dC)], dC l[i], S1 ++ [.lst ((l.take i).map dC)], (l.take i).map dC, rfl, ?_, ?_, ?_, ?_⟩⟩
      · have iq := (ic.app (X := [.lst ((l.take i).map dC)])).seq
        generalize es.getD i default = ee at iq ⊢
        simp only [tN2, iq]
        rfl
      · have hz : 2 ≤ sizeLine := by rw [sizeLine_eq]; decide
        simp [eTup, aCons, aNil, M.bnd, eVar, hz]
      · simp
      · have hz := sizeLine_eq
        simp only [List.length_map, List.length_take]; omega
      · rw [set_last]
        rw [show (l.take (i + 1)) = l.take i ++ [l[i]] from by rw [List.take_append_getElem hi2], List.map_append]
        rfl) (fun S' e => by subst e; rw [hnx]; simp) (es.length + 1) 0 (S1 ++ [.lst []]) (Nat.zero_le _) (by omega) (by simp)
  obtain ⟨S2, L2, rfl⟩ := L2
  have htk : l.take es.length = l := by rw [hlen]; exact List.take_length
  rw [htk] at L2
  -- unlike names
  have L3 := goK_inv (g := tN 1) (fe := eB gIx (eVar 1) (eC (.int 0))) (l := S1.length + 1) (τ0 := [some d, none, some (dK l), none, none]) (nxt := fun i _ => some (l.map dC)[i]?) (n := l.length)
    (fun i S' => ∃ ms, S' = S1 ++ [.lst (l.map dC)] ++ [.ks ms i] ∧ ∀ k, ms k = true → ∃ c ∈ l.take i, k = .inr c.1) (fun i => (l.map dC).getD i default)
    (fun i S' hi' ⟨ms, e, hM⟩ => by
      subst e
      have e2 := List.getElem?_eq_getElem hi'
      have e3 : (l.map dC).getD i default = dC l[i] := by rw [List.getD_eq_getElem?_getD, List.getElem?_map, e2]; rfl
      rw [e3]
      have nM : ms (.inr l[i].1) = false := by
        cases q : ms (.inr l[i].1) with
        | false => rfl
        | true =>
          obtain ⟨c, hc1, hc2⟩ := hM _ q
          have e4 : c.1 = l[i].1 := (Sum.inr.inj hc2).symm
          obtain ⟨j, hj, ej⟩ := List.getElem_of_mem hc1
          rw [List.length_take] at hj
          rw [List.getElem_take] at ej
          have nd := ok.nd
          have := (List.getElem_inj (xs := l.map (·.1)) (i := j) (j := i) (h₀ := by simp; omega) (h₁ := by simp; omega) nd).mp (by simp [ej, e4])
          omega
      refine ⟨by simp [e2], [some d, some (dC l[i]), some (dK l), none, none], .str l[i].1, S1 ++ [.lst (l.map dC)] ++ [.ks ms i], .inr l[i].1, ms, i, rfl, ?_, rfl, ?_, ?_, ?_⟩
      · simp [eB, eVar, eC, M.bnd, gIx, seqD, atI, ixN, lft]
      · rw [List.getElem?_append_right (by simp)]; simp
      · have : 41 < scanBound := by decide
        omega
      · refine ⟨fun j => ms j || decide (j = .inr l[i].1), ?_, fun k hk => ?_⟩
        · rw [set_last2, nM]
          rfl
        · rw [show (l.take (i + 1)) = l.take i ++ [l[i]] from by rw [List.take_append_getElem hi']]
          rw [Bool.or_eq_true, decide_eq_true_eq] at hk
          rcases hk with hk | hk
          · obtain ⟨c, h1, h2⟩ := hM k hk
            exact ⟨c, List.mem_append_left _ h1, h2⟩
          · exact ⟨l[i], List.mem_append_right _ (by simp), hk⟩) (fun S' _ => by simp) (l.length + 1) 0 (S1 ++ [.lst (l.map dC)] ++ [.ks (fun _ => false) 0]) (Nat.zero_le _) (by omega) ⟨_, rfl, fun k hk => by cases hk⟩
  obtain ⟨S3, L3, ms, rfl, _⟩ := L3
  refine ⟨[.lst (l.map dC), .ks ms l.length], ?_, fun o ho => ?_⟩
  rotate_left
  · rcases List.mem_cons.mp ho with q | q
    · subst q
      have : ∀ l : List Card, bds 0 (l.map dC) = true := fun l => by
        induction l with
        | nil => rfl
        | cons c r ih => simp only [List.map_cons, bds, ih, Bool.and_true]; rfl
      exact this l
    · simp at q; subst q; rfl
  have g1 : gTuple [.loc S1.length] (S1 ++ [.lst (l.map dC)]) = some (dK l, S1 ++ [.lst (l.map dC)]) := by simp [gTuple, seqD]
  have g2 : gLenX [.loc (S1.length + 1)] (S1 ++ [.lst (l.map dC)] ++ [.ks ms l.length]) = some (.int l.length, S1 ++ [.lst (l.map dC)] ++ [.ks ms l.length]) := by
    have : ((l.length : Nat) : Int) < 2 ^ 63 := by omega
    unfold gLenX
    simp only [get_last2]
    rw [if_pos this]
  rw [← app2, ← app2] at L3
  rw [← app2] at g2
  simp only [List.getElem?_map] at L3
  have g3 : ∀ S : Sto, gLenX [dK l] S = some (.int l.length, S) := fun S => by simp [gLenX, gLen, seqD]
  have gl : ∀ S : Sto, gLtI (.int l.length) (.int l.length) S = some (.bl false, S) := fun S => by simp [gLtI, gI]
  have gc1 : ∀ S : Sto, gLe (.int 1) (.int l.length) S = some (.bl true, S) := fun S => by simp [gLe, a1]
  have gc2 : ∀ S : Sto, gLe (.int l.length) (.int 40) S = some (.bl true, S) := fun S => by simp [gLe, a2]
  have w3 : ∀ S : Sto, wkD S (dK l) = some ⟨l.length, fun i _ => some (l.map dC)[i]?⟩ := fun S => by simp [wkD]
  simp [fnM, ini, m_deck_of, sSeq, sIf, st', tOr', tNt, tB, eCl, aCons, aNil, M.bnd, eVar, hL2, eCh, eC, eCB, hL, gc1, gc2, lft, sNop, eAll, iSeq, hw0, L1, sSet, sx, eLc, wipeD, L2, g1, eB, eSc, w3, L3, g2, g3, gl, sRt]
theorem deck_of_ok {d : D} {l : List Card} (h : isDeck S d l) (ok : DeckOk l) : ∃ X, M_deck_of K [d] S = some (.ok (dK l) (S ++ X)) := by
  obtain ⟨X, e, _⟩ := deck_of_okB (K := K) h ok
  exact ⟨X, e⟩
end Sb
end
section
set_option Elab.async false
set_option linter.all false
set_option maxRecDepth 100000
set_option maxHeartbeats 4000000
namespace Sb
open PySem PySem.Spec PyProof.Rows L2
variable {K : PySem.W.Frag} {S : Sto}
def stp : List Card → List Card
  | [] => []
  | c :: r => r.take (min c.2.toNat r.length) ++ c :: r.drop (min c.2.toNat r.length)
theorem stp_perm : ∀ l, (stp l).Perm l
  | [] => .refl _
  | c :: r => by
    unfold stp
    refine List.perm_middle.trans (List.Perm.cons c ?_)
    rw [List.take_append_drop]
theorem stp_ok {l : List Card} (h : DeckOk l) : DeckOk (stp l) := by
  have p := stp_perm l
  refine ⟨by rw [p.length_eq]; exact h.lo, by rw [p.length_eq]; exact h.hi, fun c hc => h.nm c (p.mem_iff.mp hc), fun c hc => h.dep c (p.mem_iff.mp hc), ?_⟩
  exact (p.map (·.1)).nodup_iff.mpr h.nd
def stps : Nat → List Card → List Card
  | 0, l => l
  | n + 1, l => stp (stps n l)
theorem stps_ok {l : List Card} (h : DeckOk l) : ∀ n, DeckOk (stps n l)
  | 0 => h
  | n + 1 => stp_ok (stps_ok h n)
theorem DeckOk.cons {l : List Card} (h : DeckOk l) : ∃ c r, l = c :: r ∧ r.length ≤ 39 ∧ 0 ≤ c.2 ∧ Nm c.1 := by
  cases l with
  | nil => exact absurd h.lo (by simp)
  | cons c r => exact ⟨c, r, rfl, by have := h.hi; simp at this; omega, h.dep c (by simp), h.nm c (by simp)⟩
theorem cut_nat {l : List Card} {a b : Nat} : cutD (l.map dC) (some (a : Int)) (some (b : Int)) = ((l.drop (min a l.length)).take (min b l.length - min a l.length)).map dC := by
  unfold cutD
  rw [HT.sIx_nat, HT.sIx_nat, List.length_map, ← List.map_drop, ← List.map_take]
theorem cut_from {l : List Card} {a : Nat} : cutD (l.map dC) (some (a : Int)) none = (l.drop a).map dC := by
  unfold cutD
  rw [HT.sIx_nat, HT.sIx_none, List.length_map, ← List.map_drop, ← List.map_take]
  congr 1
  by_cases h : a ≤ l.length
  · rw [Nat.min_eq_left h, List.take_of_length_le (by simp)]
  · rw [Nat.min_eq_right (by omega), List.drop_of_length_le (by omega), List.drop_of_length_le (by omega)]; simp
theorem cut_to {l : List Card} {b : Nat} : cutD (l.map dC) none (some (b : Int)) = (l.take b).map dC := by
  unfold cutD
  rw [HT.sIx_nat, HT.sIx_none, List.length_map, List.drop_zero, Nat.sub_zero, ← List.map_take]
  congr 1
  by_cases h : b ≤ l.length
  · rw [Nat.min_eq_left h]
  · rw [Nat.min_eq_right (by omega), List.take_of_length_le (by omega), List.take_of_length_le (by omega)]
theorem reach_ok {c : Card} {n : Int} : M_reach_of [dC c, .int n] S = some (.ok (.int (if n - 1 < c.2 then n - 1 else c.2)) S) := by
  simp [fnM, ini, sSeq, sNop, sEx, sRt, sIf, sSet, sPut, putD, sAs, sRaise, sx, st', tB, tAn, tOr', tNt, tAll, eB, eVar, eC, eTup, eLst, eCB, eCl, eBM, eIf, eAnd, eOr, eNot, eCh, eSl, oNo, oSo, aNil, aCons, M.bnd, lft, eIs, eIs2, kindD, kb_NoneType_int, kb_NoneType_bool, kb_NoneType_str, kb_NoneType_list, kb_NoneType_tuple, kb_bool_int, kb_bool_bool, kb_bool_str, kb_bool_list, kb_bool_tuple, kb_int_int, kb_int_bool, kb_int_str, kb_int_list, kb_int_tuple, kb_str_int, kb_str_bool, kb_str_str, kb_str_list, kb_str_tuple, kb_tuple_int, kb_tuple_bool, kb_tuple_str, kb_tuple_list, kb_tuple_tuple, kb_list_int, kb_list_bool, kb_list_str, kb_list_list, kb_list_tuple, kb_dict_int, kb_dict_bool, kb_dict_str, kb_dict_list, kb_dict_tuple, truD, gI, gAdd, gSub, gMul, gMod, gDiv, gPow, gLtI, gLe, gGtI, gGeI, gIx, gLen, gLenX, gAbs, gInt, gMax, gMax2, gMin2, gTuple, gList, seqD, listD, atI, ixN, tyD, gAppend, gPopAt, gInsert, m_reach_of]
theorem len_deck {l : List Card} : gLenX [dK l] S = some (.int l.length, S) := by simp [gLenX, gLen, seqD]
theorem tup_add {l m : List Card} (h : l.length + m.length ≤ 100) : gAdd (dK l) (dK m) S = some (dK (l ++ m), S) := by
  have : l.length + m.length ≤ sizeLine := by rw [sizeLine_eq]; omega
  simp [gAdd, this]
theorem sl_deck {l : List Card} {lo hi : Option Int} {m : List Card} (h : cutD (l.map dC) lo hi = m.map dC) : gSl (dK l) lo hi S = some (dK m, S) := by
  simp only [gSl, h]
end Sb
end
section
set_option Elab.async false
set_option linter.all false
set_option maxRecDepth 100000
set_option maxHeartbeats 4000000
namespace Sb
open PySem PySem.Spec PyProof.Rows L2
variable {K : PySem.W.Frag} {S : Sto}
theorem rg_nxt {n i : Nat} {S : Sto} (h : i < n) : (wkR 0 n).nxt i S = some (some (.int (i : Nat))) := by
  simp only [wkR, if_pos h, Int.zero_add]
theorem rg_end {n : Nat} {S : Sto} : (wkR 0 n).nxt n S = some none := by simp [wkR]
end Sb
end
section
set_option Elab.async false
set_option linter.all false
set_option maxRecDepth 100000
set_option maxHeartbeats 4000000
namespace Sb
open PySem PySem.Spec PyProof.Rows L2
variable {K : PySem.W.Frag} {S : Sto}
end Sb
end
section
set_option Elab.async false
set_option linter.all false
set_option maxRecDepth 100000
set_option maxHeartbeats 4000000
namespace Sb
open PySem PySem.Spec PyProof.Rows L2
variable {K : PySem.W.Frag} {S : Sto}
/-! ### letters, words -/
def nmB (x : Str) : Bool := decide (1 ≤ x.cps.size) && decide (x.cps.size ≤ 8) && x.cps.toList.all fun c => decide (97 ≤ c) && decide (c ≤ 122)
theorem nm_of {x : Str} (h : nmB x = true) : Nm x := by
  simp only [nmB, Bool.and_eq_true, decide_eq_true_eq, List.all_eq_true] at h
  exact ⟨h.1.1, h.1.2, h.2⟩
abbrev one (c : Nat) : Str := ⟨#[c]⟩
/-- the state that a list is being filled in at l, draws of the spring at n -/
structure Fil (n k : Nat) (S1 S' : Sto) (l : Nat) (acc : List D) : Prop where
  fr : Fr n S1 S'
  sp : Spr n k S'
  at_ : S'[l]? = some (.lst acc)
theorem Fil.put {n k l : Nat} {S1 S2 S' : Sto} {acc : List D} {d : D} (f : Fil n k S1 S2 l acc) (hl : S1.length ≤ l) (hn : n ≠ l) : Fil n k S1 (S2.set l (.lst (acc ++ [d]))) l (acc ++ [d]) := by
  obtain ⟨fr, sp, a⟩ := f
  have hl2 := (List.getElem?_eq_some_iff.mp a).1
  refine ⟨⟨by simpa using fr.le, fun i h1 h2 => ?_⟩, ?_, List.getElem?_set_self hl2⟩
  · rw [List.getElem?_set_ne (by omega)]; exact fr.at_ i h1 h2
  · obtain ⟨x, y, z, e, r⟩ := sp
    exact ⟨x, y, z, by rw [List.getElem?_set_ne (Ne.symm hn)]; exact e, r⟩
theorem Spr.fr {n k : Nat} {S S' : Sto} (h : Spr n k S) (e : S'[n]? = S[n]?) : Spr n k S' := by
  obtain ⟨a, b, c, q, r⟩ := h
  exact ⟨a, b, c, e.trans q, r⟩
end Sb
end
section
set_option Elab.async false
set_option linter.all false
set_option maxRecDepth 100000
set_option maxHeartbeats 4000000
namespace Sb
open PySem PySem.Spec PyProof.Rows L2
variable {K : PySem.W.Frag} {S : Sto}
/-! ### the spare names -/
/-! ### a name that is not there yet -/
theorem nodup_le {α : Type} [DecidableEq α] : ∀ {l m : List α}, l.Nodup → (∀ x ∈ l, x ∈ m) → l.length ≤ m.length
  | [], _, _, _ => Nat.zero_le _
  | x :: l, m, nd, h => by
    obtain ⟨h1, h2⟩ := List.nodup_cons.mp nd
    have hx := h x List.mem_cons_self
    have ih := nodup_le (l := l) (m := m.erase x) h2 fun y hy => (List.mem_erase_of_ne (fun e => h1 (by rw [← e]; exact hy))).mpr (h y (List.mem_cons_of_mem _ hy))
    rw [List.length_erase_of_mem hx] at ih
    have := List.length_pos_of_mem hx
    rw [List.length_cons]; omega
end Sb
end
section
set_option Elab.async false
set_option linter.all false
set_option maxRecDepth 100000
set_option maxHeartbeats 4000000
namespace Sb
open PySem PySem.Spec PyProof.Rows L2
variable {K : PySem.W.Frag} {S : Sto}
theorem Fr.set {n f : Nat} {S S' : Sto} {o : Ob} (h : Fr n S S') (hf : S.length ≤ f) : Fr n S (S'.set f o) := ⟨by simpa using h.le, fun i h1 h2 => by
  rw [List.getElem?_set_ne (by omega)]; exact h.at_ i h1 h2⟩
theorem Spr.set {n k f : Nat} {S : Sto} {o : Ob} (h : Spr n k S) (hf : f ≠ n) : Spr n k (S.set f o) := h.fr (List.getElem?_set_ne hf)
theorem ty_list {f : Nat} {acc : List D} (hf : S[f]? = some (.lst acc)) : tyD S "list" (.loc f) = true := by simp [tyD, hf]
theorem Fr.lst {n f : Nat} {S S' : Sto} {acc : List D} (h : Fr n S S') (hf : S[f]? = some (.lst acc)) (hn : f ≠ n) : S'[f]? = some (.lst acc) := h.get hf hn
end Sb
end
section
set_option Elab.async false
set_option linter.all false
set_option maxRecDepth 100000
set_option maxHeartbeats 4000000
namespace Sb
open PySem PySem.Spec PyProof.Rows L2
variable {K : PySem.W.Frag} {S : Sto}
theorem dr {n k : Nat} {τ : Sl} {fm : EF} {m : Int} (h0 : τ[0]? = some (some (.loc n))) (hm : fm τ S = some (.ok (.int m) S)) (h : Spr n k S) (hk : k < 2 ^ 40) (hm0 : 0 < m) (hm1 : m < 2 ^ 64) :
    ∃ v S', eCl M_law_draw 2 (aCons (eVar 0) (aCons fm aNil)) τ S = some (.ok (.int v) S') ∧ 0 ≤ v ∧ v < m ∧ Spr n (k + 1) S' ∧ Fr n S S' ∧ S'.length = S.length := by
  obtain ⟨v, S', e, r⟩ := draw_ok (m := m) h (by omega) hm0 hm1
  refine ⟨v, S', eCl_ok (a2_ok ?_ hm) rfl e, r⟩
  simp only [eVar, h0]
theorem gAdd_i {i j : Int} : gAdd (.int i) (.int j) S = some (.int (i + j), S) := rfl
theorem gSub_i {i j : Int} : gSub (.int i) (.int j) S = some (.int (i - j), S) := by simp [gSub, gI]
end Sb
end
section
set_option Elab.async false
set_option linter.all false
set_option maxRecDepth 100000
set_option maxHeartbeats 4000000
namespace Sb
open PySem PySem.Spec PyProof.Rows L2
variable {K : PySem.W.Frag} {S : Sto}
/-! ### decks alike but for what no step sees -/
theorem stp_len (l : List Card) : (stp l).length = l.length := (stp_perm l).length_eq
theorem stps_len (l : List Card) : ∀ n, (stps n l).length = l.length
  | 0 => rfl
  | n + 1 => (stp_len _).trans (stps_len l n)
/-! ### other names -/
theorem stps_ne {l : List Card} (h : l ≠ []) (n : Nat) : ∃ c r, stps n l = c :: r := by
  cases e : stps n l with
  | nil =>
    have := stps_len l n
    rw [e] at this
    exact absurd (List.length_eq_zero_iff.mp this.symm) h
  | cons c r => exact ⟨c, r, rfl⟩
theorem stps_mem {l : List Card} (n : Nat) (c : Card) : c ∈ stps n l → c ∈ l := by
  induction n with
  | zero => exact id
  | succ n ih => exact fun h => ih ((stp_perm _).mem_iff.mp h)
/-! ### calls: a dict of names -/
/-! ### the card laid in -/
theorem ix_deck {l : List Card} {i : Nat} {c : Card} (h : l[i]? = some c) : gIx (dK l) (.int i) S = some (dC c, S) := by
  have hi := (List.getElem?_eq_some_iff.mp h).1
  have h1 : (0 : Int) ≤ (i : Int) := by omega
  have h2 : (i : Int) < ((l.map dC).length : Int) := by simp; omega
  simp only [gIx, seqD, Option.bind_some, atI, ixN, if_pos h1, if_pos h2, Int.toNat_natCast, List.getElem?_map, h, Option.map_some]
theorem ix_name {c : Card} : gIx (dC c) (.int 0) S = some (.str c.1, S) := by simp [gIx, seqD, atI, ixN]
end Sb
namespace Sb
open PySem PySem.Spec PyProof.Rows L2
variable {K : PySem.W.Frag} {S : Sto}
end Sb
end
section
set_option Elab.async false
set_option linter.all false
set_option maxRecDepth 100000
set_option maxHeartbeats 4000000
namespace Sb
open PySem PySem.Spec PyProof.Rows L2 PySem.W
variable {K : PySem.W.Frag} {S : Sto}
/-! ### rows put together -/
theorem stps_add (l : List Card) (a : Nat) : ∀ b, stps b (stps a l) = stps (a + b) l
  | 0 => rfl
  | b + 1 => by
    show stp (stps b (stps a l)) = stp (stps (a + b) l)
    rw [stps_add l a b]
/-! ### a card beneath that nothing reaches -/
theorem stp_last {l : List Card} {z : Card} (hne : l ≠ []) (h : ∀ c ∈ l, c.2 ≤ (l.length : Int) - 1) : stp (l ++ [z]) = stp l ++ [z] := by
  cases l with
  | nil => exact absurd rfl hne
  | cons c r =>
    have hc := h c List.mem_cons_self
    rw [List.length_cons] at hc
    have k1 : min c.2.toNat (r ++ [z]).length = c.2.toNat := by rw [List.length_append, List.length_singleton]; omega
    have k2 : min c.2.toNat r.length = c.2.toNat := by omega
    have k3 : c.2.toNat ≤ r.length := by omega
    show (r ++ [z]).take (min c.2.toNat (r ++ [z]).length) ++ c :: (r ++ [z]).drop (min c.2.toNat (r ++ [z]).length) = (r.take (min c.2.toNat r.length) ++ c :: r.drop (min c.2.toNat r.length)) ++ [z]
    rw [k1, k2, List.take_append_of_le_length k3, List.drop_append_of_le_length k3]
    simp
theorem stps_last {l : List Card} {z : Card} (hne : l ≠ []) (h : ∀ c ∈ l, c.2 ≤ (l.length : Int) - 1) : ∀ n, stps n (l ++ [z]) = stps n l ++ [z]
  | 0 => rfl
  | n + 1 => by
    show stp (stps n (l ++ [z])) = stp (stps n l) ++ [z]
    rw [stps_last hne h n]
    obtain ⟨c, r, e⟩ := stps_ne hne n
    refine stp_last (by rw [e]; simp) fun c hc => ?_
    rw [stps_len]
    exact h c (stps_mem n c hc)
/-! ### sorted -/
abbrev leC (a b : Card) : Bool := dataLe false (fun b : D × PyData => b.2) (dC a, pC a) (dC b, pC b)
theorem leC_anti {a b : Card} (h1 : leC a b = true) (h2 : leC b a = true) : a = b := by
  have key : ∀ x y : Card, leC x y = true → (listOrd itemOrd).blt (keyToks (pC y)) (keyToks (pC x)) = false := fun x y h => by
    have h' : (!(listOrd itemOrd).blt (keyToks (pC y)) (keyToks (pC x))) = true := h
    simpa using h'
  have e := (listOrd itemOrd).total _ _ (key _ _ h2) (key _ _ h1)
  have e' : ([.inl 1, .inr a.1.cps.toList, .inl 1, .inl a.2, .inl 0] : List (Int ⊕ List Nat)) = [.inl 1, .inr b.1.cps.toList, .inl 1, .inl b.2, .inl 0] := e
  simp only [List.cons.injEq, Sum.inr.injEq, Sum.inl.injEq, true_and, and_true] at e'
  obtain ⟨e1, e2⟩ := e'
  obtain ⟨⟨x⟩, i⟩ := a
  obtain ⟨⟨y⟩, j⟩ := b
  simp only at e1 e2
  have : x = y := Array.toList_inj.mp e1
  rw [this, e2]
def sortC (l : List Card) : List Card := l.mergeSort leC
theorem leC_tot : PySem.W.TotalLe leC := by
  have z := sortLe_total (listOrd itemOrd) false (fun c : Card => keyToks (pC c))
  exact z
theorem sortC_perm {l m : List Card} (h : l.Perm m) : sortC l = sortC m := by
  have t := leC_tot
  have p1 := List.mergeSort_perm l leC
  have p2 := List.mergeSort_perm m leC
  have s1 := List.pairwise_mergeSort (le := leC) (fun a b c => t.trans a b c) (fun a b => by have := t.total a b; simpa using this) l
  have s2 := List.pairwise_mergeSort (le := leC) (fun a b c => t.trans a b c) (fun a b => by have := t.total a b; simpa using this) m
  exact List.Perm.eq_of_pairwise (fun a b _ _ h1 h2 => leC_anti h1 h2) s1 s2 (p1.trans (h.trans p2.symm))
theorem zip_cp : ∀ l : List Card, (l.map dC).zip (l.map pC) = l.map fun c => (dC c, pC c)
  | [] => rfl
  | a :: r => by
    show (dC a, pC a) :: (r.map dC).zip (r.map pC) = _
    rw [zip_cp r]; rfl
theorem sorted_deck (l : List Card) : gSorted [dK l] S = some (.loc S.length, S ++ [.lst ((sortC l).map dC)]) := by
  have e1 : (l.map dC).mapM (toPy 8 S) = some (l.map pC) := by
    rw [List.mapM_map, mapM_some (f := toPy 8 S ∘ dC) (g := pC) fun c _ => toPy_card 6 S c]
  have e2 : sortB (l.map pC) = true := by
    simp only [sortB, Bool.and_eq_true, List.all_eq_true, List.mem_map]
    refine ⟨⟨?_, ?_⟩, ?_⟩
    · rintro _ ⟨a, _, rfl⟩ _ ⟨b, _, rfl⟩
      rfl
    · rintro _ ⟨a, _, rfl⟩
      rfl
    · rintro _ ⟨a, _, rfl⟩
      exact decide_eq_true (Nat.le_trans (dep_card a) (by decide))
  have e3 : (((l.map dC).zip (l.map pC)).mergeSort (dataLe false fun b => b.2)).map (·.1) = (sortC l).map dC := by
    rw [zip_cp, ← List.map_mergeSort (r := leC) (s := dataLe false fun b : D × PyData => b.2) (f := fun c : Card => (dC c, pC c)) (fun a _ b _ => rfl), List.map_map]
    rfl
  simp only [gSorted, seqD, Option.bind_some, e1, e2, if_true, e3]
/-! ### the greatest of a list -/
theorem ints_of : ∀ ns : List Int, intsD (ns.map D.int) = some ns
  | [] => rfl
  | n :: ns => by
    show (intsD (ns.map D.int)).map (n :: ·) = _
    rw [ints_of ns]; rfl
/-! ### find_place -/
theorem gEq_int {neg : Bool} {a b : Int} : gEq neg (.int a) (.int b) S = some (.bl (if neg then !decide (a = b) else decide (a = b)), S) := by
  unfold gEq
  rw [toPy_int 7, toPy_int 7]
  have s1 : ∀ a : Int, SeqAt.shaped (.int a) = true := fun _ => rfl
  have s3 : PyData.eqv (.int a) (.int b) = decide (a = b) := by
    show (a == b) = _
    rfl
  simp only [s1, and_self, if_true, s3]
end Sb
end
section
set_option Elab.async false
set_option linter.all false
set_option maxRecDepth 100000
set_option maxHeartbeats 4000000
namespace Sb
open PySem PySem.Spec PyProof.Rows L2
/-! ## stores whose places stand -/
abbrev Wf (S : Sto) : Prop := wfk S.length S = true
mutual
theorem bd_mono {j k : Nat} (h : j ≤ k) : ∀ d : D, bd j d = true → bd k d = true
  | .non, _ => rfl
  | .bl _, _ => rfl
  | .int _, _ => rfl
  | .str _, _ => rfl
  | .scr _, _ => rfl
  | .tup ds, b => by simp only [bd] at b ⊢; exact bds_mono h ds b
  | .fl ds, b => by simp only [bd] at b ⊢; exact bds_mono h ds b
  | .exn _, b => b
  | .fd _ ds, b => by simp only [bd] at b ⊢; exact bds_mono h ds b
  | .loc n, b => by simp only [bd, decide_eq_true_eq] at b ⊢; omega
theorem bds_mono {j k : Nat} (h : j ≤ k) : ∀ ds : List D, bds j ds = true → bds k ds = true
  | [], _ => rfl
  | d :: ds, b => by
    simp only [bds, Bool.and_eq_true] at b ⊢
    exact ⟨bd_mono h d b.1, bds_mono h ds b.2⟩
end
theorem bds_all {k : Nat} : ∀ {ds : List D}, bds k ds = true ↔ ∀ d ∈ ds, bd k d = true
  | [] => by simp [bds]
  | d :: ds => by simp only [bds, Bool.and_eq_true, List.mem_cons, forall_eq_or_imp, bds_all]
theorem bds_map {α : Type} {k : Nat} {f : α → D} {l : List α} (h : ∀ x ∈ l, bd k (f x) = true) : bds k (l.map f) = true := bds_all.mpr fun d hd => by
  obtain ⟨x, hx, rfl⟩ := List.mem_map.mp hd
  exact h x hx
theorem bdO_mono {j k : Nat} (h : j ≤ k) : ∀ o : Ob, bdO j o = true → bdO k o = true
  | .lst ds, b => bds_mono h ds b
  | .dct kvs, b => bds_mono h _ b
  | .ks _ _, _ => rfl
@[simp] theorem bd_dC {k : Nat} {c : Card} : bd k (dC c) = true := rfl
@[simp] theorem bds_dC {k : Nat} {l : List Card} : bds k (l.map dC) = true := bds_map fun _ _ => rfl
@[simp] theorem bd_dK {k : Nat} {l : List Card} : bd k (dK l) = true := by simp only [dK, bd, bds_dC]
@[simp] theorem bds_str {k : Nat} {l : List Str} : bds k (l.map D.str) = true := bds_map fun _ _ => rfl
@[simp] theorem bds_int {k : Nat} {l : List Int} : bds k (l.map D.int) = true := bds_map fun _ _ => rfl
theorem wf_get {S : Sto} {n : Nat} {o : Ob} (w : Wf S) (h : S[n]? = some o) : bdO S.length o = true := List.all_eq_true.mp w o (List.mem_of_getElem? h)
theorem wf_app {S : Sto} {o : Ob} (w : Wf S) (h : bdO (S.length + 1) o = true) : Wf (S ++ [o]) := by
  unfold Wf wfk
  rw [List.length_append, List.all_append, Bool.and_eq_true]
  refine ⟨List.all_eq_true.mpr fun x hx => bdO_mono (Nat.le_add_right _ _) x (List.all_eq_true.mp w x hx), ?_⟩
  simpa using h
theorem wf_set {S : Sto} {n : Nat} {o : Ob} (w : Wf S) (h : bdO S.length o = true) : Wf (S.set n o) := by
  unfold Wf wfk
  rw [List.length_set, List.all_eq_true]
  intro x hx
  rcases List.mem_or_eq_of_mem_set hx with q | q
  · exact List.all_eq_true.mp w x q
  · subst q; exact h
/-- all but the spring at n stands; nothing new -/
structure Sm (n : Nat) (S S' : Sto) : Prop where
  len : S'.length = S.length
  at_ : ∀ i, i ≠ n → S'[i]? = S[i]?
theorem Sm.refl {n : Nat} {S : Sto} : Sm n S S := ⟨rfl, fun _ _ => rfl⟩
theorem Sm.trans {n : Nat} {S S1 S2 : Sto} (a : Sm n S S1) (b : Sm n S1 S2) : Sm n S S2 := ⟨b.len.trans a.len, fun i h => (b.at_ i h).trans (a.at_ i h)⟩
theorem Sm.wf {n k : Nat} {S S' : Sto} (a : Sm n S S') (w : Wf S) (h : Spr n k S') : Wf S' := by
  unfold Wf wfk
  rw [List.all_eq_true]
  intro x hx
  obtain ⟨i, hi, rfl⟩ := List.getElem_of_mem hx
  rw [a.len]
  by_cases q : i = n
  · subst q
    obtain ⟨u, v, y, e, _⟩ := h
    have : S'[i] = spr u v y := by
      have := List.getElem?_eq_getElem hi
      rw [e] at this; exact (Option.some.inj this).symm
    rw [this]; rfl
  · have e := a.at_ i q
    rw [List.getElem?_eq_getElem hi] at e
    exact wf_get w e.symm
/-! ## fz read -/
def fzR (k : Nat) (o : Option (Rs D)) : Option (Rs D) := match o with
  | none => none
  | some (.ok d S1) => if wfk k (S1.take k) = true then (rb S1 k 8 d).map fun d' => .ok d' (S1.take k) else none
  | some (.ex x S1) => if wfk k (S1.take k) = true then some (.ex x (S1.take k)) else none
theorem fz_eq {f : EF} {τ : Sl} {S : Sto} : fz f τ S = fzR S.length (f τ S) := rfl
theorem rb_bd {S : Sto} {k m : Nat} {d : D} (h : bd k d = true) : rb S k m d = some d := by
  cases m <;> simp only [rb, if_pos h]
theorem fzR_app {S X : Sto} {d : D} (w : Wf S) (h : bd S.length d = true) : fzR S.length (some (.ok d (S ++ X))) = some (.ok d S) := by
  simp only [fzR, List.take_left, if_pos w, rb_bd h, Option.map_some]
theorem fzR_same {S : Sto} {d : D} (w : Wf S) (h : bd S.length d = true) : fzR S.length (some (.ok d S)) = some (.ok d S) := by
  have := fzR_app (X := []) w h
  rwa [List.append_nil] at this
theorem rb_loc {S : Sto} {k m n : Nat} {ds : List D} (h : ¬ (bd k (.loc n) = true)) (e : S[n]? = some (.lst ds)) : rb S k (m + 1) (.loc n) = (ds.mapM (rb S k m)).map .fl := by
  conv => lhs; unfold rb
  simp only [if_neg h, e]
theorem fzR_lst {S X : Sto} {n : Nat} {ds : List D} (w : Wf S) (e : (S ++ X)[n]? = some (.lst ds)) (hn : S.length ≤ n) (h : bds S.length ds = true) : fzR S.length (some (.ok (.loc n) (S ++ X))) = some (.ok (.fl ds) S) := by
  have nb : ¬ (bd S.length (.loc n) = true) := by simp only [bd, decide_eq_true_eq]; omega
  have hm : ds.mapM (rb (S ++ X) S.length 7) = some ds := by
    have := mapM_some (f := rb (S ++ X) S.length 7) (g := fun d => d) (l := ds) fun d hd => rb_bd (bds_all.mp h d hd)
    rwa [List.map_id'] at this
  simp only [fzR, List.take_left, if_pos w, rb_loc nb e, hm, Option.map_some]
theorem fz_app {f : EF} {τ : Sl} {S X : Sto} {d : D} (w : Wf S) (e : f τ S = some (.ok d (S ++ X))) (h : bd S.length d = true) : fz f τ S = some (.ok d S) := by
  rw [fz_eq, e, fzR_app w h]
theorem fz_same {f : EF} {τ : Sl} {S : Sto} {d : D} (w : Wf S) (e : f τ S = some (.ok d S)) (h : bd S.length d = true) : fz f τ S = some (.ok d S) := by
  rw [fz_eq, e, fzR_same w h]
theorem fz_lst {f : EF} {τ : Sl} {S X : Sto} {n : Nat} {ds : List D} (w : Wf S) (e : f τ S = some (.ok (.loc n) (S ++ X))) (e2 : (S ++ X)[n]? = some (.lst ds)) (hn : S.length ≤ n) (h : bds S.length ds = true) : fz f τ S = some (.ok (.fl ds) S) := by
  rw [fz_eq, e, fzR_lst w e2 hn h]
/-- a list that is told -/
theorem fz_list {r : AF} {τ : Sl} {S S1 : Sto} {ds : List D} (h1 : r τ S = some (.ok ds S1)) (l : S1.length = S.length) (w : Wf S1) (hl : ds.length ≤ 1000) (h : bds S.length ds = true) : fz (eLst r) τ S = some (.ok (.fl ds) S1) := by
  rw [fz_eq, eLst_ok h1 hl, ← l]
  exact fzR_lst w (get_last _ _) (Nat.le_refl _) (by rw [l]; exact h)
/-! ## the spring, all else the same -/
/-! ## comprehensions over told things -/
/-- what walks over ds -/
structure Wks (wk : Wk) (ds : List D) (P : Sto → Prop) : Prop where
  nxt : ∀ i S, P S → wk.nxt i S = some ds[i]?
  bound : ds.length ≤ wk.bound
theorem lc_pu {fi : IF} {g : TF} {t : BF} {fe : EF} {vs : List Nat} {τ : Sl} {S : Sto} {wk : Wk} {ds : List D} (p : D → Bool) (q : D → D) (w : Wf S) (hi : fi τ S = some (.ok wk S)) (hw : Wks wk ds fun S' => ∃ X, S' = S ++ X)
    (hl : ds.length ≤ 100000) (hb : ∀ d ∈ ds, p d = true → bd S.length (q d) = true)
    (h : ∀ d ∈ ds, ∀ S', Wf S' → (∃ X, S' = S ++ X) → ∃ τ1, g d S' (wipeD τ vs) = some τ1 ∧ t τ1 S' = some (.ok (p d) S') ∧ (p d = true → fe τ1 S' = some (.ok (q d) S'))) :
    fz (eLc fi g t fe vs) τ S = some (.ok (.fl ((ds.filter p).map q)) S) := by
  have bdq : ∀ i, bds S.length (((ds.take i).filter p).map q) = true := fun i => bds_map fun x hx => by
    obtain ⟨h1, h2⟩ := List.mem_filter.mp hx
    exact hb x (List.mem_of_mem_take h1) h2
  obtain ⟨S', L, rfl⟩ := goC_inv (nxt := wk.nxt) (g := g) (t := t) (fe := fe) (l := S.length) (τ0 := wipeD τ vs) (n := ds.length)
    (fun i S' => S' = S ++ [.lst (((ds.take i).filter p).map q)]) (fun i => ds.getD i default)
    (fun i S' hi e => by
      subst e
      have e3 := List.getElem?_eq_getElem hi
      have e4 : ds.getD i default = ds[i] := by rw [List.getD_eq_getElem?_getD, e3]; rfl
      have hw' : Wf (S ++ [.lst (((ds.take i).filter p).map q)]) := wf_app w (bds_mono (Nat.le_add_right _ _) _ (bdq i))
      obtain ⟨τ1, h1, h2, h3⟩ := h ds[i] (List.getElem_mem hi) _ hw' ⟨_, rfl⟩
      refine ⟨by rw [hw.nxt i _ ⟨_, rfl⟩, e4, e3], τ1, by rw [e4]; exact h1, ?_⟩
      have et : ds.take (i + 1) = ds.take i ++ [ds[i]] := by rw [List.take_append_getElem hi]
      cases hp : p ds[i] with
      | false =>
        refine .inl ⟨_, by rw [h2, hp], ?_⟩
        rw [et, List.filter_append]; simp [hp]
      | true =>
        refine .inr ⟨_, q ds[i], _, _, by rw [h2, hp], h3 hp, get_last _ _, ?_, ?_⟩
        · have : (((ds.take i).filter p).map q).length ≤ i := by
            rw [List.length_map]; exact Nat.le_trans (List.length_filter_le _ _) (by rw [List.length_take]; omega)
          have := sizeLine_eq
          omega
        · rw [set_last, et, List.filter_append]; simp [hp])
    (fun S' e => by subst e; rw [hw.nxt _ _ ⟨_, rfl⟩, List.getElem?_eq_none (Nat.le_refl _)]) (wk.bound + 1) 0 (S ++ [.lst []]) (Nat.zero_le _) (by have := hw.bound; omega) (by simp)
  rw [List.take_length] at L
  refine fz_lst (n := S.length) (X := [.lst ((ds.filter p).map q)]) w ?_ (get_last _ _) (Nat.le_refl _) (by have := bdq ds.length; rwa [List.take_length] at this)
  simp only [eLc, hi, L, Option.bind_some]
theorem wk_tup {S : Sto} {ds : List D} : wkD S (.tup ds) = some ⟨ds.length, fun i _ => some ds[i]?⟩ := rfl
theorem wk_fl {S : Sto} {ds : List D} : wkD S (.fl ds) = some ⟨ds.length, fun i _ => some ds[i]?⟩ := rfl
theorem wks_ds {ds : List D} {P : Sto → Prop} : Wks ⟨ds.length, fun i _ => some ds[i]?⟩ ds P := ⟨fun _ _ _ => rfl, Nat.le_refl _⟩
theorem wks_rg {n : Nat} {P : Sto → Prop} : Wks (wkR 0 n) ((List.range n).map fun i : Nat => D.int i) P := ⟨fun i S _ => by
  by_cases h : i < n
  · rw [rg_nxt h, List.getElem?_map, List.getElem?_range h]; rfl
  · rw [List.getElem?_eq_none (by simp; omega)]; simp [wkR, h], by simp [wkR]⟩
/-! ## loops that may end by a return -/
theorem goF_ret {nxt : Nat → Sto → Option (Option D)} {g : TF} {fb : SF} {n : Nat} (I : Nat → Sl → Sto → Prop) (P : D → Sto → Prop) (item : Nat → D)
    (h : ∀ i τ S, i < n → I i τ S → nxt i S = some (some (item i)) ∧ ∃ τ1, g (item i) S τ = some τ1 ∧ ((∃ τ2 S2, fb τ1 S = some (.nx τ2, S2) ∧ I (i + 1) τ2 S2) ∨ ∃ d S2, fb τ1 S = some (.rt d, S2) ∧ P d S2))
    (he : ∀ τ S, I n τ S → nxt n S = some none) : ∀ (m i : Nat) (τ : Sl) (S : Sto), i ≤ n → n - i < m → I i τ S →
    (∃ τ' S', goF nxt g fb m i τ S = some (.nx τ', S') ∧ I n τ' S') ∨ ∃ d S', goF nxt g fb m i τ S = some (.rt d, S') ∧ P d S'
  | 0, i, τ, S, _, hm, _ => absurd hm (Nat.not_lt_zero _)
  | m + 1, i, τ, S, hi, hm, hI => by
    unfold goF
    by_cases e : i = n
    · subst e
      rw [he τ S hI]
      exact .inl ⟨τ, S, rfl, hI⟩
    · obtain ⟨h1, τ1, h2, h3⟩ := h i τ S (by omega) hI
      rw [h1]
      rcases h3 with ⟨τ2, S2, h3, h4⟩ | ⟨d, S2, h3, h4⟩
      · simp only [h2, h3]
        exact goF_ret I P item h he m (i + 1) τ2 S2 (by omega) (by omega) h4
      · simp only [h2, h3]
        exact .inr ⟨d, S2, rfl, h4⟩
/-! ## equality of told lists -/
end Sb
end
section
set_option Elab.async false
set_option linter.all false
set_option maxRecDepth 100000
set_option maxHeartbeats 4000000
namespace Sb
open PySem PySem.Spec PyProof.Rows L2
/-! ## defs that may print: the same promise where no print is under way -/
structure FnOkG (P : Program) (w : World) (K : PySem.W.Frag) (mg : Str → Option Value) (base : Heap) (CX : CXT) (k : Nat) (f : Addr) (fd : FuncData) (ps : List Str) (sp : Sp) : Prop where
  len : ∀ vs H Q E, sp vs H Q E → vs.length = ps.length
  run : ∀ (A : Around) (outer : List Env) (s : Shared) (H : Hp) (args : Args) (us : List Value) (vs : List V) (Q : VK) (E : XK), Room k A → A.guards = some [] → Env0 P w K mg base A outer s H → BindsTo s fd args (ps.zip us) → Vals vs us → sp vs H Q E →
    codeAny (model P w) A (.call (.ref f) args) (CR CX outer P w H s Q E) s
section
variable {P : Program} {w : World} {mg : Str → Option Value} {base : Heap} {x qual : Str} {params : Arguments} {body : List Stmt} {scope : Scope} {f : Addr} {fd : FuncData} {T : Tb} {k : Nat}
theorem fn_sbG {p : He.Defn} {N ps : List Str} {g : SF} (F : FunD T.K x qual params body scope [] [] (He.fAd T.K p) fd) (S : FnScope N ps scope)
    (hb : ∀ (A : Around) (outer : List Env) (s : Shared) (H : Hp) (E : XK), Room k (A.deeper (envOfC qual scope s.heap.objs.size (He.fAd T.K p) (.ref (He.codeOf T.K p)))) → (A.deeper (envOfC qual scope s.heap.objs.size (He.fAd T.K p) (.ref (He.codeOf T.K p)))).guards = some [] →
      PSs (bX P w T.K mg base N qual scope (He.fAd T.K p) (.ref (He.codeOf T.K p)) A outer s H E) body (rdS T (eW E) g)) :
    FnOkG P w T.K mg base (L2.CX P w) (k + 1) (He.fAd T.K p) fd ps (spM T (fnM N.length g) ps.length) := by
  obtain ⟨oc, od, dV, kV, doc, pm, an, cdv, ct, osl, rfl, lk, hcd, _, _⟩ := F.ex
  obtain ⟨c, rfl⟩ := He.codeIn_ref hcd
  have ec := He.codeOf_eq (p := p) lk rfl
  refine ⟨fun vs H Q E ⟨φ, S0, ds, o, _, r, l, _⟩ => by rw [← r.length, l], fun A outer s H args us vs Q E room quiet e0 bind rel wish => ?_⟩
  obtain ⟨φ, S0, ds, o, R, r, l, eM, q⟩ := wish
  have many : vs.length = ps.length := by rw [← r.length, l]
  have inK : T.K.In s.heap := e0.mod.kin.keeps fun b o e => (e0.bs b o e).1
  have noLim : s.heap.NoLimit := e0.mod.nolimit.keeps fun b o e => (e0.bs b o e).1
  have kinds : ∀ y ∈ ps.zip us, scope.names.lookup y.1 = some .local ∨ (scope.names.lookup y.1 = some .cell ∧ ((cellsFrom (s.heap.objs.size + 1) scope.names []).lookup y.1).isSome = true) := fun ⟨n, v⟩ hy =>
    (S.par n (List.of_mem_zip hy).1).imp id fun z => ⟨z, PySem.W.cellsFrom_some _ _ _ (.inl z)⟩
  subst ec
  refine codeAny_call_function room.depth (inK _ _ lk) rfl S.co S.gen rfl (PySem.W.codeRec_of inK hcd) (bind _ _ _ _ ?_)
  refine wpAny_newFunctionEnv_cells S.kind kinds fun env he s1 started => ?_
  subst he
  refine ⟨noLim.keeps started.toInCall.keep, codeAny_func ?_⟩
  have start1 : L2.Inv (bX P w T.K mg base N qual scope (He.fAd T.K p) (.ref (He.codeOf T.K p)) A outer s H E) [] (L2.start N vs) H s1 := inv_start S room.hd e0 many rel started
  have wish1 : rdS T (eW E) g { nx := fun _ H' => Q .non H', rt := Q } (L2.start N vs) H := by
    unfold fnM at eM
    cases e1 : g (ini N.length ds) S0 with
    | none => rw [e1] at eM; cases eM
    | some z =>
      obtain ⟨fl, S1⟩ := z
      rw [e1] at eM
      refine ⟨φ, S0, ini N.length ds, fl, S1, R, ini_rsl r, e1, ?_⟩
      cases fl with
      | rt d => cases eM; exact q
      | nx τ => cases eM; exact fun φ' H' σ' E1 R1 _ => q φ' H' .non E1 R1 rfl
      | xx xn τ => cases eM; exact fun φ' H' σ' d E1 R1 _ hx => q φ' H' d E1 R1 hx
      | bk τ => cases eM
      | ct τ => cases eM
  refine wpAny_mono ((hb A outer s H E (room.deeper _) quiet).run [] s1 (L2.start N vs) H _ start1 wish1) (fun fl s' done => ?_) fun e s' done => done
  have close : ∀ {σ' : L2.St} {H' : Hp} {v : V} {u : Value}, L2.Inv (bX P w T.K mg base N qual scope (He.fAd T.K p) (.ref (He.codeOf T.K p)) A outer s H E) [] σ' H' s' → RelV v u → Q v H' → CE outer P w H s Q u s' := fun {σ' H' v u} J rv qv => ⟨v, H', J.os, J.bare, J.base, J.hok, rv, qv⟩
  cases fl with
  | ret u =>
    obtain ⟨v, σ', H', J, rv, qv⟩ := done
    exact close J rv qv
  | next =>
    obtain ⟨σ', H', J, qv⟩ := done
    exact close (v := V.non) (u := Value.none) J rfl qv
  | brk =>
    obtain ⟨_, _, _, qv⟩ := done
    exact False.elim qv
  | cont =>
    obtain ⟨_, _, _, qv⟩ := done
    exact False.elim qv
end
section
variable {X : Cx} {T : Tb} {W : WX} {pos : Pos} {e : Expr} {es : List Expr} {ra : AF}
theorem d_callG {k n : Nat} {f : Addr} {fd : FuncData} {ps : List Str} {m : List D → M D} {x : Str} {p : Pos} (F : FnOkG X.prog X.w X.K X.mg X.base (L2.CX X.prog X.w) k f fd ps (spM T m n)) (hr : Room k X.A) (quiet : X.A.guards = some []) (hm : X.mg x = some (.ref f)) (hk : PySem.W.keepIn X.K (.ref f) = true) (hb : Binds X.K fd ps [])
    (tk : Takes X W) (ha : PA X (e :: es) (rdA T W ra)) (hg : Gl X x := by rfl) (hdb : (x == ("__debug__" : Str)) = false := by decide) (he : starEach (e :: es) X.env = (false, eval e X.env) :: starEach es X.env := by rfl) (hpl : (backTo pos (starEach es X.env)).any (·.1) = false := by rfl) :
    PE X (.Call (.Name x p) (e :: es) [] pos) (rdE T W (eCl m n ra)) := by
  refine ⟨fun pins s σ H Q I h => ?_⟩
  obtain ⟨φ, S, τ, o, R, r, eq, q⟩ := h
  have args : rdA T W ra σ H fun vs H1 => spM T m n vs H1 Q (fun c d H' => W c d σ H') := by
    refine rdA_bnd R r eq q fun ds S1 vs H1 φ1 E1 R1 r1 e1 q1 => ?_
    split at e1
    · rename_i hl
      exact ⟨φ1, S1, ds, o, R1, r1, hl, e1, q1⟩
    · cases e1
  refine wpAny_Call_Name_kw (ld_glob I hg hm ?_ hdb)
  refine PySem.W.callWith_K (h₀ := X.base) I.ok.mod.kin hk (thn (ha.run pos pins s σ H _ I args) fun us s1 ⟨vs, H1, I1, rv, wish⟩ => ⟨I1.kIn, ?_⟩) he hpl
  have hl : us.length = ps.length := by rw [← rv.length]; exact F.len _ _ _ _ wish
  have b := hb s1 us I1.kIn (by rw [List.append_nil]; exact hl)
  rw [List.append_nil] at b
  refine wpAny_call (codeAny_mono (F.run X.A X.stack s1 H1 ⟨us, []⟩ us vs Q _ hr quiet I1.env0 b rv wish) fun r2 s' hq => ?_)
  cases r2 with
  | error e2 => exact passAt tk σ pins H1 s1 e2 s' I1 hq
  | ok fl =>
    cases fl with
    | ret u => exact I1.after hq
    | next => exact False.elim hq
    | brk => exact False.elim hq
    | cont => exact False.elim hq
end
/-- a def that may be called by its name where no print is under way -/
def CalG (P : Program) (w : World) (mg : Str → Option Value) (base : Heap) (T : Tb) (k n : Nat) (x : Str) (m : List D → M D) : Prop :=
  ∃ f fd ps, mg x = some (.ref f) ∧ PySem.W.keepIn T.K (.ref f) = true ∧ Binds T.K fd ps [] ∧ FnOkG P w T.K mg base (L2.CX P w) k f fd ps (spM T m n)
theorem cal_ofG {P : Program} {w : World} {mg : Str → Option Value} {base : Heap} {x qual : Str} {params : Arguments} {body : List Stmt} {scope : Scope} {fd : FuncData} {T : Tb} {k : Nat} {p : He.Defn} {N ps : List Str} {g : SF}
    (F : FunD T.K x qual params body scope [] [] (He.fAd T.K p) fd) (S : FnScope N ps scope) {y : Str} (hm : mg y = some (.ref (He.fAd T.K p)))
    (bnd : ∀ (kV doc pm : Value) (an : Option Addr) (cdv ct : Value) (us : List Value), us.length = ps.length → bindArgs (PySem.W.fnOf x qual params body scope .none kV doc pm an cdv ct) ⟨us, []⟩ = pure (ps.zip us))
    (hb : ∀ (A : Around) (outer : List Env) (s : Shared) (H : Hp) (E : XK), Room k (A.deeper (envOfC qual scope s.heap.objs.size (He.fAd T.K p) (.ref (He.codeOf T.K p)))) → (A.deeper (envOfC qual scope s.heap.objs.size (He.fAd T.K p) (.ref (He.codeOf T.K p)))).guards = some [] →
      PSs (bX P w T.K mg base N qual scope (He.fAd T.K p) (.ref (He.codeOf T.K p)) A outer s H E) body (rdS T (eW E) g)) : CalG P w mg base T (k + 1) ps.length y (fnM N.length g) :=
  ⟨_, fd, ps, hm, F.kp, F.bindsN bnd, fn_sbG F S hb⟩
theorem d_callCG {X : Cx} {T : Tb} {W : WX} {pos : Pos} {e : Expr} {es : List Expr} {ra : AF} {k n : Nat} {m : List D → M D} {x : Str} {p : Pos} (C : CalG X.prog X.w X.mg X.base T k n x m) (hK : T.K = X.K) (hr : Room k X.A) (quiet : X.A.guards = some []) (tk : Takes X W) (ha : PA X (e :: es) (rdA T W ra)) (hg : Gl X x := by rfl)
    (hdb : (x == ("__debug__" : Str)) = false := by decide) (he : starEach (e :: es) X.env = (false, eval e X.env) :: starEach es X.env := by rfl) (hpl : (backTo pos (starEach es X.env)).any (·.1) = false := by rfl) :
    PE X (.Call (.Name x p) (e :: es) [] pos) (rdE T W (eCl m n ra)) := by
  obtain ⟨f, fd, ps, hm, hk, hb, F⟩ := C
  rw [hK] at hk hb F
  exact d_callG F hr quiet hm hk hb tk ha hg hdb he hpl
/-- no fuel: nothing promised -/
theorem calG_0 {P : Program} {w : World} {mg : Str → Option Value} {base : Heap} {x qual : Str} {params : Arguments} {body : List Stmt} {scope : Scope} {fd : FuncData} {T : Tb} {k n : Nat} {p : He.Defn} {ps : List Str}
    (F : FunD T.K x qual params body scope [] [] (He.fAd T.K p) fd) {y : Str} (hm : mg y = some (.ref (He.fAd T.K p)))
    (bnd : ∀ (kV doc pm : Value) (an : Option Addr) (cdv ct : Value) (us : List Value), us.length = ps.length → bindArgs (PySem.W.fnOf x qual params body scope .none kV doc pm an cdv ct) ⟨us, []⟩ = pure (ps.zip us)) : CalG P w mg base T k n y (fun _ _ => none) :=
  ⟨_, fd, ps, hm, F.kp, F.bindsN bnd, ⟨fun _ _ _ _ ⟨_, _, _, _, _, _, _, z, _⟩ => (by cases z), fun _ _ _ _ _ _ _ _ _ _ _ _ _ _ ⟨_, _, _, _, _, _, _, z, _⟩ => (by cases z)⟩⟩
end Sb
end
section
set_option Elab.async false
set_option linter.all false
set_option maxRecDepth 100000
set_option maxHeartbeats 4000000
namespace Sb
open PySem PySem.Spec PyProof.Rows L2
/-- repr of a list or a tuple of data -/
def gRepr : GN := fun ds S => match ds with
  | [d] => match d with
    | .tup _ | .loc _ | .fl _ => (toPy 8 S d).bind fun p => if p.showable = true ∧ p.hasDict = false ∧ p.depth ≤ 8 ∧ p.shown.length ≤ sizeLine then some (.str p.shown, S) else none
    | _ => none
  | _ => none
end Sb
end
section
set_option Elab.async false
set_option linter.all false
set_option maxRecDepth 100000
set_option maxHeartbeats 4000000
namespace Sb
open PySem PySem.Spec PyProof.Rows L2
section
variable {X : Cx} {T : Tb}
/-! ## all(a list of truths) -/
/-! ## clear, reverse, extend -/
end
end Sb
end
section
set_option Elab.async false
set_option linter.all false
set_option maxRecDepth 100000
set_option maxHeartbeats 4000000
namespace Sb
open PySem PySem.Spec PyProof.Rows L2
/-! ## l.count(x) of data -/
theorem mt_countD {X : Cx} (hu : X.A.units + 65 < cLine) : MtR X "list.count" (fun x xs H Q => ∃ (a : Addr) (y : V) (d : PyData) (ds : List PyData), x = V.ref a ∧ xs = [y] ∧ Dp X.K H (V.ref a) (.list ds) ∧ Dp X.K H y d ∧ SeqAt.shaped (.list ds) = true ∧ SeqAt.shaped d = true ∧ Q (.int (ds.countP fun z => PyData.eqv z d : Nat)) H) := by
  intro pins s σ H x xs v us Q I rx rxs h
  obtain ⟨a, y, d, ds, rfl, rfl, hl, hy, sl, sd, q⟩ := h
  cases rx
  cases rxs with
  | cons ry rt =>
    rename_i uy ut
    cases rt
    obtain ⟨bs, r1⟩ := Dp.reads I d y uy hy ry
    have hxs : PyData.canLayAll0 ds = true := SeqAt.canLay_of_shaped sl
    have hroom : X.A.units + 1 + min (PyData.depthAll ds) d.depth < cLine := room_in_shaped sd hu
    cases hl with
    | lst hs ha =>
      obtain ⟨its, rv, ⟨⟨cls, dd, data, sls⟩, n, ho, hc, hdn, hdt⟩, hlen⟩ := I.list hs
      simp only at hc hdt
      subst hc hdt
      obtain ⟨as, h4⟩ := Dp.readsAll I ds _ its ha rv
      have hmap : its.map (SeqAt.readOf s.heap) = ds := SeqAt.readsAll_map ds its as hxs h4
      refine call_meets PySem.F.slot_list_count ⟨_, ho, rfl⟩ PySem.F.entry_list_count (PySem.F.args_list_count_2 _ _)
        (SeqAt.list_countAt a its.toArray n dd sls uy (fun u => PyData.eqv (SeqAt.readOf s.heap u) d)) ⟨ho, SeqAt.items_eqAt (vs := its.toArray) (show ReadsAll s.heap its.toArray.toList ds as from h4) r1 hxs (SeqAt.canLay_of_shaped sd) hroom, ?_⟩
      refine ⟨.int (ds.countP fun z => PyData.eqv z d : Nat), H, I.tok _, ⟨s.toks, ?_⟩, q⟩
      have e : its.toArray.toList.countP (fun u => PyData.eqv (SeqAt.readOf s.heap u) d) = ds.countP fun z => PyData.eqv z d := by
        rw [← hmap, List.countP_map]; rfl
      rw [e]
def gCount : GM := fun x ds S => match ds with
  | [y] => match toPy 8 S x, toPy 8 S y with
    | some (.list es), some d => if SeqAt.shaped (.list es) = true ∧ SeqAt.shaped d = true then some (.int (es.countP fun z => PyData.eqv z d : Nat), S) else none
    | _, _ => none
  | _ => none
theorem m_count {X : Cx} {T : Tb} (hu : X.A.units + 65 < cLine) : MtR X "list.count" (rGM T gCount) := MtR.imp (mt_countD hu) fun x xs H Q h => by
  obtain ⟨φ, S, d, ds, R, r, rs, f⟩ := h
  unfold gCount at f
  split at f
  · rename_i y
    split at f
    · rename_i es p h1 h2
      split at f
      · rename_i hs
        obtain ⟨v, l, rfl, r1, r2⟩ := rs
        cases r2
        have dx := py_dp (K := X.K) R 8 d x _ r h1
        have dy := py_dp (K := X.K) R 8 y v _ r1 h2
        obtain ⟨a, rfl⟩ : ∃ a, x = .ref a := by cases dx; exact ⟨_, rfl⟩
        exact ⟨a, v, p, es, rfl, rfl, dx, dy, hs.1, hs.2, f.val R rfl⟩
      · obtain ⟨_, _, z, _⟩ := f; cases z
    · obtain ⟨_, _, z, _⟩ := f; cases z
  · obtain ⟨_, _, z, _⟩ := f; cases z
end Sb
end
section
set_option Elab.async false
set_option linter.all false
set_option maxRecDepth 100000
namespace Sb
open PySem PySem.Spec PyProof.Rows L2
def m_names_of : SF := sRt (fz (eLc (iSeq (eVar 0)) (tN 1) (tAll) (eB gIx (eVar 1) (eC (.int 0))) [1]))
abbrev M_names_of : List D → M D := fnM 2 (m_names_of)
def m_closed_of : SF := sSeq (sSet 1 (eC (.int 0))) (sSeq (sFor (iEn (aCons (eVar 0) (aNil))) (tN2 2 3) (sSeq (sIf (tB (eB gLtI (eVar 1) (eVar 2))) (sRt (eVar 2)) (sNop)) (sSet 1 (eCB gMax (aCons (eVar 1) (aCons (eCl (M_reach_of) 2 (aCons (eVar 3) (aCons (eCB gLenX (aCons (eVar 0) (aNil))) (aNil)))) (aNil))))))) (sRt (eCB gLenX (aCons (eVar 0) (aNil)))))
abbrev M_closed_of : List D → M D := fnM 4 (m_closed_of)
def m_is_home_at : SF := sRt (eB gLe (eVar 1) (eCl (M_reach_of) 2 (aCons (eB gIx (eVar 0) (eVar 1)) (aCons (eCB gLenX (aCons (eVar 0) (aNil))) (aNil)))))
abbrev M_is_home_at : List D → M D := fnM 2 (m_is_home_at)
def m_away_places : SF := sRt (fz (eLc (iRg1 (aCons (eCl (M_closed_of) 1 (aCons (eVar 0) (aNil))) (aNil))) (tN 1) (tNt (tB (eCl (M_is_home_at) 2 (aCons (eVar 0) (aCons (eVar 1) (aNil)))))) (eVar 1) [1]))
abbrev M_away_places : List D → M D := fnM 2 (m_away_places)
def m_hand_of : SF := sRt (fz (eLc (iSeq (eSl (eVar 0) (oNo) (oSo (eVar 1)))) (tN 2) (tB (eB gGeI (eCl (M_reach_of) 2 (aCons (eVar 2) (aCons (eCB gLenX (aCons (eVar 0) (aNil))) (aNil)))) (eVar 1))) (eVar 2) [2]))
abbrev M_hand_of : List D → M D := fnM 3 (m_hand_of)
def m_ring_of : SF := sRt (eB gAdd (eCl (M_hand_of) 2 (aCons (eVar 0) (aCons (eVar 1) (aNil)))) (fz (eLst (aCons (eB gIx (eVar 0) (eVar 1)) (aNil)))))
abbrev M_ring_of : List D → M D := fnM 2 (m_ring_of)
def m_pattern_of : SF := sSeq (sSet 2 (eCB gLenX (aCons (eVar 0) (aNil)))) (sRt (fz (eLc (iSeq (eCl (M_ring_of) 2 (aCons (eVar 0) (aCons (eVar 1) (aNil))))) (tN 3) (tAll) (eIf (tB (eB gGtI (eCl (M_reach_of) 2 (aCons (eVar 3) (aCons (eVar 2) (aNil)))) (eVar 1))) (eC .non) (eB gIx (eVar 3) (eC (.int 0)))) [3])))
abbrev M_pattern_of : List D → M D := fnM 4 (m_pattern_of)
end Sb
end
section
set_option Elab.async false
set_option linter.all false
set_option maxRecDepth 100000
set_option maxHeartbeats 4000000
namespace Sb
open PySem PySem.Spec PyProof.Rows L2
section
variable {X : Cx} {T : Tb} {W : WX} {pos : Pos} {e : Expr} {fa : EF}
/-! ## xs[i], ys[j] = a, b -/
theorem putD_of {φ : List Addr} {H : Hp} {S S4 : Sto} {x y d : D} {v v2 v3 : V} (R : Rel T φ S H) (rx : RD T H φ x v2) (ry : RD T H φ y v3) (rd : RD T H φ d v) (e : putD x y d S = some S4) {Q : Hp → Prop}
    (q : ∀ H', Ext φ H φ H' → Rel T φ S4 H' → Q H') : rSetL v2 v3 v H Q := by
  cases x with
  | loc n =>
    cases y with
    | int kk =>
      simp only [putD, Option.bind_eq_some_iff] at e
      obtain ⟨es, e6, j, e7, e8⟩ := e
      cases e8
      obtain ⟨m, p, vs, ee, rfl, hS, hφ, hH, s⟩ := list_sq R rx e6
      cases ee
      cases ry
      refine ⟨p, vs, kk, j, rfl, rfl, hH, by rw [← s.length]; exact e7, ?_⟩
      have E4 := Ext.put (φ := φ) (u := .lst (vs.set j v)) (List.mem_of_getElem? hφ) hH
      obtain ⟨R4, _⟩ := R.put (o := .lst (es.set j d)) (u := .lst (vs.set j v)) hφ (mem_lt hS) ⟨_, upd_same, (s.set j rd).ext E4 _ _⟩
      exact q _ E4 R4
    | _ => simp [putD] at e
  | _ => simp [putD] at e
def sSw (fe fo fi fo2 fi2 : EF) : SF := fun τ => sx (fe τ) τ fun d => match d with
  | .tup [d1, d2] => sx (fo τ) τ fun x => sx (fi τ) τ fun y S => (putD x y d1 S).bind fun S1 => sx (fo2 τ) τ (fun x2 => sx (fi2 τ) τ fun y2 S3 => (putD x2 y2 d2 S3).bind fun S4 => some (.nx τ, S4)) S1
  | _ => fun _ => none
theorem s_sw {o i o2 i2 : Expr} {p p2 pt : Pos} {k : Nat} {fo fi fo2 fi2 : EF} (hK : T.K = X.K) (hc : X.calm = true) (he : PE X e (rdE T W fa)) (ho : PE X o (rdE T W fo)) (hi : PE X i (rdE T W fi)) (ho2 : PE X o2 (rdE T W fo2)) (hi2 : PE X i2 (rdE T W fi2))
    (hs : swapsWithSole [.Tuple [.Subscript o i p, .Subscript o2 i2 p2] k pt] e pos.line X.env = pure false := by rfl) (hw : swappedStores [.Tuple [.Subscript o i p, .Subscript o2 i2 p2] k pt] e X.env = pure none := by rfl)
    (h1 : (assignEach [.Tuple [.Subscript o i p, .Subscript o2 i2 p2] k pt] X.env).map (·.2) = [assign (.Tuple [.Subscript o i p, .Subscript o2 i2 p2] k pt) X.env] := by rfl)
    (hg1 : (assignEach [.Subscript o i p, .Subscript o2 i2 p2] X.env).map (·.2) = assign (.Subscript o i p) X.env :: (assignEach [.Subscript o2 i2 p2] X.env).map (·.2) := by rfl)
    (hg2 : (assignEach [.Subscript o2 i2 p2] X.env).map (·.2) = assign (.Subscript o2 i2 p2) X.env :: (assignEach [] X.env).map (·.2) := by rfl)
    (hn : (assignEach [.Subscript o i p, .Subscript o2 i2 p2] X.env).length = 2 := by rfl) (hst : (assignEach [.Subscript o i p, .Subscript o2 i2 p2] X.env).findIdx? (·.1) = none := by rfl)
    (ha : ∀ v, assign (.Subscript o i p) X.env v = (do
      let ov ← holding [v] (eval o X.env)
      let iv ← holding [v, ov] (eval i X.env)
      standAt p
      holding [v, ov, iv] (setItem ov iv v)
      release [v, ov, iv] []) := by intro _; rfl)
    (ha2 : ∀ v, assign (.Subscript o2 i2 p2) X.env v = (do
      let ov ← holding [v] (eval o2 X.env)
      let iv ← holding [v, ov] (eval i2 X.env)
      standAt p2
      holding [v, ov, iv] (setItem ov iv v)
      release [v, ov, iv] []) := by intro _; rfl) : PS X (.Assign [.Tuple [.Subscript o i p, .Subscript o2 i2 p2] k pt] e pos) (rdS T W (sSw fa fo fi fo2 fi2)) :=
  (ps_asg he (pg_tup (n := 2) hc (pgs_cons (pg_sub ho hi set_list ha) (pgs_cons (pg_sub ho2 hi2 set_list ha2) pgs_nil hg2) hg1) hn hst) hs hw h1).imp fun De σ H h => by
  obtain ⟨φ, S, τ, fl, S', R, r, e, q⟩ := h
  refine rdE_sx R r e q fun d S1 v H1 φ1 ⟨E1, R1, r1⟩ e1 q1 => ?_
  split at e1
  · rename_i d1 d2
    obtain ⟨a, vs, rfl, ht, v1, l1, rfl, s1, v2, l2, rfl, s2, s3⟩ := r1
    cases s3
    refine ⟨a, _, rfl, .of ht, rfl, v1, _, rfl, ?_⟩
    refine rdE_sx R1 (r.ext E1) e1 q1 fun x S2 w2 H2 φ2 ⟨E2, R2, r2⟩ e2 q2 => ?_
    refine rdE_sx R2 ((r.ext E1).ext E2) e2 q2 fun y S3 w3 H3 φ3 ⟨E3, R3, r3⟩ e3 q3 => ?_
    simp only [Option.bind_eq_some_iff] at e3
    obtain ⟨S4, e4, e5⟩ := e3
    have E23 := E2.trans E3
    refine putD_of R3 (r2.ext E3 _ _) r3 (s1.ext E23 _ _) e4 fun H4 E4 R4 => ?_
    have E24 := E23.trans E4
    refine ⟨v2, [], rfl, ?_⟩
    have q4 : EndS T φ3 H4 fl S' De W := EndS.mono q3 E4
    refine rdE_sx R4 ((((r.ext E1).ext E2).ext E3).ext E4) e5 q4 fun x2 S5 w5 H5 φ5 ⟨E5, R5, r5⟩ e6 q5 => ?_
    refine rdE_sx R5 (((((r.ext E1).ext E2).ext E3).ext E4).ext E5) e6 q5 fun y2 S6 w6 H6 φ6 ⟨E6, R6, r6⟩ e7 q6 => ?_
    simp only [Option.bind_eq_some_iff] at e7
    obtain ⟨S7, e8, e9⟩ := e7
    cases e9
    refine putD_of R6 (r5.ext E6 _ _) r6 (s2.ext ((E24.trans E5).trans E6) _ _) e8 fun H7 E7 R7 => ?_
    refine ⟨rfl, ?_⟩
    exact q6 φ6 _ σ E7 R7 (((((((r.ext E1).ext E2).ext E3).ext E4).ext E5).ext E6).ext E7)
  · cases e1
end
end Sb
end
section
set_option Elab.async false
set_option linter.all false
set_option maxRecDepth 100000
set_option maxHeartbeats 4000000
namespace Sb
open PySem PySem.Spec PyProof.Rows L2
/-! ## texts alike, whatever signs they have -/
def gEqS (neg : Bool) : G2 := fun x y S => match x, y with
  | .str a, .str b => some (.bl (if neg then !decide (a = b) else decide (a = b)), S)
  | _, _ => none
theorem o_neS {X : Cx} {T : Tb} : OpR X (compareOp .NotEq) (rG2 T (gEqS true)) := OpR.imp op_ne fun x y H Q h => by
  obtain ⟨φ, S, d1, d2, R, r1, r2, f⟩ := h
  cases d1 with
  | str a =>
    cases d2 with
    | str b =>
      cases r1; cases r2
      refine ⟨rfl, ?_⟩
      have : decide ((V.str a) = V.str b) = decide (a = b) := by simp
      rw [this]
      exact f.val R rfl
    | _ => obtain ⟨_, _, e, _⟩ := f; cases e
  | _ => obtain ⟨_, _, e, _⟩ := f; cases e
end Sb
end
section
set_option Elab.async false
set_option linter.all false
set_option maxRecDepth 100000
namespace Sb
open PySem PySem.Spec PyProof.Rows L2
end Sb
end
section
set_option Elab.async false
set_option linter.all false
set_option maxRecDepth 100000
namespace Sb
open PySem PySem.Spec PyProof.Rows L2
end Sb
end
section
set_option Elab.async false
set_option linter.all false
set_option maxRecDepth 100000
set_option maxHeartbeats 4000000
namespace Sb
open PySem PySem.Spec PyProof.Rows L2
/-! ## a def with a keyword-only parameter that has a default: def f(a, *, b=c) -/
section
variable {P : Program} {w : World} {mg : Str → Option Value} {base : Heap} {x qual : Str} {params : Arguments} {body : List Stmt} {scope : Scope} {f : Addr} {fd : FuncData} {T : Tb} {k : Nat} {dvs : List V} {kwv : List (Str × V)}
end
section
variable {X : Cx} {T : Tb} {W : WX} {pos : Pos} {e e2 : Expr} {ra rb : AF}
end
end Sb
end
section
set_option Elab.async false
set_option linter.all false
set_option maxRecDepth 100000
set_option maxHeartbeats 4000000
namespace Sb
open PySem PySem.Spec PyProof.Rows L2
/-! ## list comprehensions of two clauses -/
section
variable {X : Cx} {T : Tb} {W : WX} {pos : Pos} {fi fi1 : IF} {g g1 : TF} {t t1 : BF} {fe : EF} {vs vs1 us us1 : List Nat}
variable {elt tg iter tg1 iter1 : Expr} {ifs ifs1 : List Expr} {scope : Scope} {own : List (Str × Nat)}
end
end Sb
end
section
set_option Elab.async false
set_option linter.all false
set_option maxRecDepth 100000
set_option maxHeartbeats 4000000
namespace Sb
open PySem PySem.Spec PyProof.Rows L2
/-! ## an exception that is caught and kept -/
/-- the object of a caught exception -/
abbrev kept (a : Addr) (oe : Obj) : HO := .frz oe (.own a)
section
variable {X : Cx} {x n y : Str} {c : Value} {i j : Nat} {body : List Stmt} {np pos pos' p1 p2 p3 : Pos} {tb : WX → TS} {Wout : WX}
end
end Sb
end
section
set_option Elab.async false
set_option linter.all false
set_option maxRecDepth 100000
set_option maxHeartbeats 4000000
namespace Sb
open PySem PySem.Spec PyProof.Rows L2
/-! ## the kept exception as a value -/
def excB (K : PySem.W.Frag) (D : Addr) : Bool := decide (PySem.W.findIn K (.ref D) "__getattribute__" = some (some (.builtin "BaseException.__getattribute__"))) && (decide (PySem.W.findIn K (.ref D) "__getattr__" = some none) && (decide (PySem.W.subIn K (.ref D) (.type "BaseException") = some true) && (PySem.W.hasDictIn K D &&
  (decide (PySem.W.findIn K (.ref D) "__class__" = some (some (.builtin "object.__class__"))) && (decide (PySem.W.specialIn K (.builtin "object.__class__") "__get__" = some (some (.builtin "getset_descriptor.__get__"))) && (decide (PySem.W.takesIn K (.builtin "object.__class__") = some true) && decide (PySem.W.mroIn K D (.type "object") = some true)))))))
section
variable {X : Cx}
end
section
variable {X : Cx} {T : Tb} {W : WX} {pos : Pos} {e : Expr} {fa : EF}
/-! ### a tuple of classes -/
/-! ### try: .. except C as e: caught = e -/
end
end Sb
end
section
set_option Elab.async false
set_option linter.all false
set_option maxRecDepth 100000
set_option maxHeartbeats 4000000
namespace Sb
open PySem PySem.Spec PyProof.Rows L2
/-! ## l.index(x) of data, where x is there -/
def gIndex : GM := fun x ds S => match ds with
  | [y] => match toPy 8 S x, toPy 8 S y with
    | some (.list es), some d => if SeqAt.shaped (.list es) = true ∧ SeqAt.shaped d = true ∧ es.findIdx (fun z => PyData.eqv z d) < es.length then some (.int (es.findIdx (fun z => PyData.eqv z d) : Nat), S) else none
    | _, _ => none
  | _ => none
theorem m_index {X : Cx} {T : Tb} (hu : X.A.units + 65 < cLine) : MtR X "list.index" (rGM T gIndex) := MtR.imp (mt_indexD hu) fun x xs H Q h => by
  obtain ⟨φ, S, d, ds, R, r, rs, f⟩ := h
  unfold gIndex at f
  split at f
  · rename_i y
    split at f
    · rename_i es p h1 h2
      split at f
      · rename_i hs
        obtain ⟨h3, h4, h5⟩ := hs
        obtain ⟨v, l, rfl, r1, r2⟩ := rs
        cases r2
        have dx := py_dp (K := X.K) R 8 d x _ r h1
        have dy := py_dp (K := X.K) R 8 y v _ r1 h2
        obtain ⟨a, rfl⟩ : ∃ a, x = .ref a := by cases dx; exact ⟨_, rfl⟩
        have hat := List.findIdx_getElem (w := h5)
        refine ⟨a, v, p, es, _, _, rfl, rfl, dx, dy, h3, h4, List.getElem?_eq_getElem h5, hat, fun m z' hm hz => ?_, f.val R rfl⟩
        have hml : m < es.length := by omega
        rw [List.getElem?_eq_getElem hml] at hz
        cases hz
        have := List.not_of_lt_findIdx hm
        simpa using this
      · obtain ⟨_, _, z, _⟩ := f; cases z
    · obtain ⟨_, _, z, _⟩ := f; cases z
  · obtain ⟨_, _, z, _⟩ := f; cases z
end Sb
end
section
set_option Elab.async false
set_option linter.all false
set_option maxRecDepth 100000
namespace Sb
open PySem PySem.Spec PyProof.Rows L2
end Sb
end
section
set_option Elab.async false
set_option linter.all false
set_option maxRecDepth 100000
set_option maxHeartbeats 4000000
namespace Sb
open PySem PySem.Spec PyProof.Rows L2
/-! ## dicts as values: {}, dict(pairs); what repr shows of them -/
section
variable {X : Cx} {T : Tb} {W : WX} {pos : Pos}
end
def kP : Key → PyData
  | .inl i => .int i
  | .inr x => .str x
def toPyR : Nat → Sto → D → Option PyData
  | 0, _, _ => none
  | n + 1, S, d => match d with
    | .non => some .none
    | .bl b => some (.bool b)
    | .int i => some (.int i)
    | .str x => some (.str x)
    | .tup ds => (ds.mapM (toPyR n S)).map .tuple
    | .loc k => match S[k]? with
      | some (.lst ds) => (ds.mapM (toPyR n S)).map .list
      | some (.dct kvs) => ((kvs.map (·.2)).mapM (toPyR n S)).map fun ps => .dict ((kvs.map fun kv => kP kv.1).zip ps)
      | _ => none
    | .scr _ => none
    | .fl ds => (ds.mapM (toPyR n S)).map .list
    | .exn _ => none
    | .fd ks ds => if ks.length = ds.length then (ds.mapM (toPyR n S)).map fun ps => .dict ((ks.map kP).zip ps) else none
section
variable {X : Cx} {T : Tb} {pins : List (Addr × Obj)} {σ : L2.St} {H : Hp} {s : Shared} {φ : List Addr} {S : Sto}
theorem key_reads {ks : List Key} : ∀ {h : Heap} {es : List DictEntry} {vs : List (Key × Value)}, PySem.Pairs (mixKind X.prog X.w) es vs → ReadsAll h (es.map (·.key)) (vs.map fun kv => kP kv.1) ((es.map fun _ => ([] : List Addr)).flatten)
  | _, [], _, h => by
    cases h
    exact .nil
  | hh, e :: es, _, h => by
    cases h with
    | cons h1 h2 h3 =>
      rename_i kv kvs
      refine .cons ?_ (key_reads (ks := ks) h3)
      show Reads hh e.key (kP kv.1) []
      have h1' : keyIs kv.1 e.key = true := h1
      rcases keyIs_shape h1' with ⟨i, t, e1, e2⟩ | ⟨x, t, e1, e2⟩
      · rw [e1, e2]; exact .int i t
      · rw [e1, e2]; exact .str x t
theorem pairs_vals : ∀ {es : List DictEntry} {vs : List (Key × Value)}, PySem.Pairs (mixKind X.prog X.w) es vs → es.map (·.val) = vs.map (·.2)
  | [], _, h => by cases h; rfl
  | e :: es, _, h => by
    cases h with
    | cons h1 h2 h3 =>
      rename_i kv kvs
      show e.val :: es.map (·.val) = kv.2 :: kvs.map (·.2)
      rw [h2, pairs_vals h3]
theorem kv_vals : ∀ {ws : List (Key × V)} {vs : List (Key × Value)}, KV ws vs → Vals (ws.map (·.2)) (vs.map (·.2)) ∧ ws.map (·.1) = vs.map (·.1)
  | [], _, h => by cases h; exact ⟨.nil, rfl⟩
  | w :: ws, _, h => by
    cases h with
    | cons h1 h2 =>
      obtain ⟨a, b⟩ := kv_vals h2
      exact ⟨.cons h1.2 a, by simp only [List.map_cons, h1.1, b]⟩
theorem flat_nil {α β : Type} : ∀ l : List α, ((l.map fun _ => ([] : List β)).flatten) = []
  | [] => rfl
  | _ :: l => by show [] ++ _ = _; rw [flat_nil l]; rfl
theorem zip_fst {α β : Type} : ∀ {l : List α} {m : List β}, l.length = m.length → (l.zip m).map (·.1) = l
  | [], [], _ => rfl
  | a :: l, b :: m, h => by
    show a :: (l.zip m).map (·.1) = _
    rw [zip_fst (by simpa using h)]
theorem zip_snd {α β : Type} : ∀ {l : List α} {m : List β}, l.length = m.length → (l.zip m).map (·.2) = m
  | [], [], _ => rfl
  | a :: l, b :: m, h => by
    show b :: (l.zip m).map (·.2) = _
    rw [zip_snd (by simpa using h)]
/-- what data are read as in the heap; no address of it is that of sys.modules -/
def RdP (s : Shared) (u : Value) (p : PyData) : Prop := ∃ as, Reads s.heap u p as ∧ sysModules ∉ as
theorem reads_all {n : Nat} (ih : ∀ d v p u, RD T H φ d v → RelV v u → toPyR n S d = some p → RdP s u p) : ∀ (ds : List D) (vs : List V) (us : List Value) (ps : List PyData), RDs T H φ ds vs → Vals vs us → ds.mapM (toPyR n S) = some ps → ∃ as, ReadsAll s.heap us ps as ∧ sysModules ∉ as
  | [], vs, us, ps, h, r, e => by
    cases h
    cases r
    simp at e
    subst e
    exact ⟨[], .nil, by simp⟩
  | d :: ds, vs, us, ps, h, r, e => by
    obtain ⟨v, r', rfl, h1, h2⟩ := h
    cases r with
    | cons r1 r2 =>
      rw [List.mapM_cons] at e
      simp only [Option.bind_eq_bind, Option.bind_eq_some_iff, Option.pure_def, Option.some.injEq] at e
      obtain ⟨p, e1, qs, e2, rfl⟩ := e
      obtain ⟨as, a1, a2⟩ := ih d v p _ h1 r1 e1
      obtain ⟨bs, b1, b2⟩ := reads_all ih ds r' _ qs h2 r2 e2
      exact ⟨as ++ bs, .cons a1 b1, fun z => (List.mem_append.mp z).elim a2 b2⟩
theorem mapM_len {α β : Type} {f : α → Option β} : ∀ {l : List α} {m : List β}, l.mapM f = some m → m.length = l.length
  | [], m, h => by simp at h; subst h; rfl
  | a :: l, m, h => by
    rw [List.mapM_cons] at h
    simp only [Option.bind_eq_bind, Option.bind_eq_some_iff, Option.pure_def, Option.some.injEq] at h
    obtain ⟨p, e1, qs, e2, rfl⟩ := h
    simp [mapM_len e2]
theorem dict_reads (I : Inv X pins σ H s) (hs : H sysModules = none) {a : Addr} {ws : List (Key × V)} {ds : List D} {ps : List PyData} {n : Nat} (ih : ∀ d v p u, RD T H φ d v → RelV v u → toPyR n S d = some p → RdP s u p)
    (ha : Rd H a (.dK ws)) (r : RDs T H φ ds (ws.map (·.2))) (e : ds.mapM (toPyR n S) = some ps) : RdP s (.ref a) (.dict ((ws.map fun w => kP w.1).zip ps)) := by
  obtain ⟨hl, hsm, vs, hkv, o, es, ep, h1, h2, h3, h4, h5, h6⟩ := dk_rd I.hok ha
  obtain ⟨v1, v2⟩ := kv_vals hkv
  obtain ⟨as, a1, a2⟩ := reads_all ih ds _ _ ps r v1 e
  have l1 : ps.length = ws.length := by
    have := mapM_len e
    have := r.length
    simp at this
    omega
  have lz : (ws.map fun w => kP w.1).length = ps.length := by simp [l1]
  have k1 := key_reads (X := X) (ks := []) (h := s.heap) h5
  rw [flat_nil] at k1
  refine ⟨_, Reads.dict (as := []) (bs := as) h1 h2.1 h3 ?_ ?_, ?_⟩
  · rw [zip_fst lz]
    have : (ws.map fun w => kP w.1) = vs.map fun kv => kP kv.1 := by
      have := congrArg (List.map kP) v2
      rw [List.map_map, List.map_map] at this
      exact this
    rw [this]
    exact k1
  · rw [zip_snd lz, pairs_vals h5]
    exact a1
  · intro z
    rcases List.mem_append.mp z with z | z
    · rcases List.mem_cons.mp z with z | z
      · rw [← z] at hsm
        simp at hsm
      · simp at z
    · exact a2 z
theorem py_reads (I : Inv X pins σ H s) (hK : T.K = X.K) (hs : H sysModules = none) (R : Rel T φ S H) : ∀ (n : Nat) (d : D) (v : V) (p : PyData) (u : Value), RD T H φ d v → RelV v u → toPyR n S d = some p → RdP s u p
  | 0, d, v, p, u, _, _, e => by cases e
  | n + 1, d, v, p, u, r, rv, e => by
    have lst : ∀ {a : Addr} {vs : List V} {ds : List D} {ps : List PyData}, H a = some (.lst vs) → RDs T H φ ds vs → ds.mapM (toPyR n S) = some ps → RdP s (.ref a) (.list ps) := fun {a vs ds ps} ha rs em => by
      obtain ⟨its, rvs, ⟨o, c, ho, hc, _, hd⟩, _⟩ := I.list (.inl (.inl ha))
      obtain ⟨as, a1, a2⟩ := reads_all (py_reads I hK hs R n) ds vs _ ps rs rvs em
      refine ⟨_, Reads.list ho hc hd a1, fun z => ?_⟩
      rcases List.mem_cons.mp z with z | z
      · rw [z, ha] at hs; cases hs
      · exact a2 z
    cases d with
    | non => cases r; cases e; cases rv; exact ⟨_, Reads.none, by simp⟩
    | bl b => cases r; cases e; cases rv; exact ⟨_, Reads.bool b, by simp⟩
    | int i => cases r; cases e; obtain ⟨t, rfl⟩ := rv; exact ⟨_, Reads.int i t, by simp⟩
    | str x => cases r; cases e; obtain ⟨t, rfl⟩ := rv; exact ⟨_, Reads.str x t, by simp⟩
    | tup ds =>
      obtain ⟨a, vs, rfl, h1, h2⟩ := r
      simp only [toPyR, Option.map_eq_some_iff] at e
      obtain ⟨ps, e1, rfl⟩ := e
      cases rv
      obtain ⟨its, rvs, ⟨o, ho, hc, c, hd⟩, _⟩ := I.tuple (.of h1)
      obtain ⟨as, a1, a2⟩ := reads_all (py_reads I hK hs R n) ds vs _ ps h2 rvs e1
      exact ⟨_, Reads.tuple ho hc hd a1, a2⟩
    | loc k =>
      obtain ⟨a, rfl, h1⟩ := r
      cases rv
      simp only [toPyR] at e
      split at e
      · rename_i ds q
        simp only [Option.map_eq_some_iff] at e
        obtain ⟨ps, e1, rfl⟩ := e
        obtain ⟨vs, h3, h4⟩ := R.obj k _ a q h1
        exact lst h3 h4 e1
      · rename_i kvs q
        simp only [Option.map_eq_some_iff] at e
        obtain ⟨ps, e1, rfl⟩ := e
        obtain ⟨ws, h3, h4, h5⟩ := R.obj k _ a q h1
        have := dict_reads I hs (py_reads I hK hs R n) (.inl h3) h5 e1
        have hh : (ws.map fun w => kP w.1) = kvs.map fun kv => kP kv.1 := by
          have := congrArg (List.map kP) h4
          rw [List.map_map, List.map_map] at this
          exact this
        rw [hh] at this
        exact this
      · cases e
    | scr ns => cases e
    | exn c => cases e
    | fl ds =>
      obtain ⟨a, vs, rfl, _, h1, h2⟩ := r
      simp only [toPyR, Option.map_eq_some_iff] at e
      obtain ⟨ps, e1, rfl⟩ := e
      cases rv
      exact lst h1 h2 e1
    | fd ks ds =>
      obtain ⟨a, ws, rfl, _, h1, h2, h3⟩ := r
      simp only [toPyR] at e
      split at e
      · simp only [Option.map_eq_some_iff] at e
        obtain ⟨ps, e1, rfl⟩ := e
        cases rv
        have := dict_reads I hs (py_reads I hK hs R n) h1 h3 e1
        have hh : (ws.map fun w => kP w.1) = ks.map kP := by
          rw [← h2, List.map_map]; rfl
        rw [hh] at this
        exact this
      · cases e
end
/-- repr of data that lie at an address, dicts too; of none, truths, texts, numbers -/
def gReprX : GN := fun ds S => match ds with
  | [d] => (toPyR 8 S d).bind fun p => if p.showable = true ∧ p.depth ≤ 8 ∧ p.shown.length ≤ sizeLine then match d with
    | .tup _ | .loc _ | .fl _ | .fd _ _ => some (.str p.shown, S)
    | .non => some (.str p.shown, S)
    | .bl _ => some (.str p.shown, S)
    | .str _ => some (.str p.shown, S)
    | .int i => if i.natAbs.log2 < 1920 then some (.str p.shown, S) else none
    | _ => none else none
  | _ => none
section
variable {X : Cx} {T : Tb}
theorem sys_none {pins : List (Addr × Obj)} {σ : L2.St} {H : Hp} {s : Shared} (I : Inv X pins σ H s) (hb : ∃ o, X.base.get? sysModules = some o) : H sysModules = none := by
  obtain ⟨o, ho⟩ := hb
  exact (I.bs sysModules o ho).2
theorem call_reprX (hK : T.K = X.K) (hb : ∃ o, X.base.get? sysModules = some o) (quiet : X.A.guards = some []) (hu : X.A.units + 64 < cLine) : CallR X (.builtin "repr") (rGN T gReprX) := by
  intro pins s σ H xs us Q I rv h
  obtain ⟨φ, S, ds, R, r, d', S', ef, q⟩ := h
  obtain ⟨d, rfl⟩ : ∃ d, ds = [d] := by
    match ds, ef with
    | [], ef => cases ef
    | [d], _ => exact ⟨d, rfl⟩
    | _ :: _ :: _, ef => cases ef
  obtain ⟨v, l, rfl, r1, r2⟩ := r
  cases r2
  obtain ⟨u, rfl, ru⟩ := vals1 rv
  simp only [gReprX, Option.bind_eq_some_iff] at ef
  obtain ⟨p, ep, ef⟩ := ef
  split at ef
  · rename_i hp
    obtain ⟨hs1, hs2, hs3⟩ := hp
    obtain ⟨as, hr, hsm⟩ := py_reads I hK (sys_none I hb) R 8 d v p u r1 ru ep
    have fin : ∀ (s' : Shared) (u' : Value) (H' : Hp), Inv X pins σ H s' → RelV (.str p.shown) u' → d' = .str p.shown → S' = S → ∃ x H2, Inv X pins σ H2 s' ∧ RelV x u' ∧ Q x H2 := fun s' u' H' I' ru' e1 e2 => by
      subst e1 e2
      exact ⟨_, H, I', ru', q φ H _ .refl R rfl⟩
    have byRef : ∀ a : Addr, u = .ref a → d' = .str p.shown → S' = S → wpAny (model X.prog X.w) X.A (call (.builtin "repr") [u]) (fun v s' => ∃ x H2, Inv X pins σ H2 s' ∧ RelV x v ∧ Q x H2) X.xe s := fun a ea e1 e2 => by
      subst ea
      exact PySem.repr_of_reads' hr hs1 (fun _ => hsm) quiet (by omega) (fun _ _ e => e) (fun h' u tk keep => fin _ _ H (I.kept (t' := tk) keep) ⟨_, rfl⟩ e1 e2) hs3
    have g0 : ∀ {tk : Nat} {x : Str}, d' = .str p.shown → S' = S → x = p.shown → ∃ y H2, Inv X pins σ H2 { s with toks := s.toks + 1 } ∧ RelV y (.str x s.toks) ∧ Q y H2 := fun {tk x} e1 e2 e3 => by
      subst e3
      exact fin _ _ H (I.tok _) ⟨_, rfl⟩ e1 e2
    cases d with
    | tup ds => obtain ⟨a, _, rfl, _⟩ := r1; cases ru; cases ef; exact byRef a rfl rfl rfl
    | loc n => obtain ⟨a, rfl, _⟩ := r1; cases ru; cases ef; exact byRef a rfl rfl rfl
    | fl ds => obtain ⟨a, _, rfl, _⟩ := r1; cases ru; cases ef; exact byRef a rfl rfl rfl
    | fd ks ds => obtain ⟨a, _, rfl, _⟩ := r1; cases ru; cases ef; exact byRef a rfl rfl rfl
    | non =>
      cases r1; cases ru; cases ef
      cases ep
      exact call_repr_gives (typeIs_none s) F.slot_NoneType_repr F.entry_NoneType_repr (F.args_NoneType_repr_1 _) gives_none_repr (g0 (tk := 0) rfl rfl rfl) (hx := by decide)
    | bl b =>
      cases r1; cases ru; cases ef
      cases ep
      exact call_repr_gives (PySem.typeIs_bool s b) F.slot_bool_repr F.entry_bool_repr (F.args_bool_repr_1 _) (gives_bool_repr b) (g0 (tk := 0) rfl rfl (by cases b <;> rfl)) (hx := by cases b <;> decide)
    | str x =>
      cases r1
      obtain ⟨t, rfl⟩ := ru
      cases ef
      cases ep
      exact call_repr_gives (typeIs_str s x t) F.slot_str_repr F.entry_str_repr (F.args_str_repr_1 _) (gives_str_repr x t) (g0 (tk := 0) rfl rfl rfl) (hx := hs3)
    | int i =>
      cases r1
      obtain ⟨t, rfl⟩ := ru
      simp only at ef
      split at ef
      · rename_i hz
        cases ef
        cases ep
        exact PySem.P.repr_of_int hz (g0 (tk := 0) rfl rfl rfl)
      · cases ef
    | scr ns => cases ef
    | exn c => cases ef
  · cases ef
end
end Sb
end
section
set_option Elab.async false
set_option linter.all false
set_option maxRecDepth 100000
namespace Sb
open PySem PySem.Spec PyProof.Rows L2
end Sb
end
section
set_option Elab.async false
set_option linter.all false
set_option maxRecDepth 100000
set_option maxHeartbeats 4000000
namespace Sb
open PySem PySem.Spec PyProof.Rows L2
section
variable {X : Cx} {T : Tb} {W : WX} {pos : Pos}
variable {a b c e : Expr} {es : List Expr} {fa fb : EF} {ra : AF}
/-! ## products: numbers, a text so many times -/
def gMulX : G2 := fun x y S => match x, y with
  | .int i, .int j => if i.natAbs.log2 + j.natAbs.log2 < 1000000 then some (.int (i * j), S) else none
  | .str z, .int n => if 1 ≤ n ∧ n ≤ 1000 ∧ z.length ≤ 1000 then some (.str (Txt.mul z n), S) else none
  | _, _ => none
theorem mul_fits {z : Str} {n : Int} (h1 : 1 ≤ n) (h2 : n ≤ 1000) (h3 : z.length ≤ 1000) : MulOk z n := by
  refine ⟨?_, fun _ _ h => ?_, fun _ _ => ?_⟩
  · rw [Bool.or_eq_false_iff, decide_eq_false_iff_not, decide_eq_false_iff_not]
    constructor <;> omega
  · have h5 : (9223372036854775807 : Int) / 1000 ≤ (2 ^ 63 - 1) / n := by
      rw [Int.le_ediv_iff_mul_le (by omega)]
      have : (9223372036854775807 : Int) / 1000 = 9223372036854775 := by decide
      rw [this]
      have : (9223372036854775 : Int) * n ≤ 9223372036854775 * 1000 := Int.mul_le_mul_of_nonneg_left h2 (by decide)
      omega
    have : (9223372036854775807 : Int) / 1000 = 9223372036854775 := by decide
    omega
  · have h6 : z.length * n.toNat ≤ 1000 * 1000 := Nat.mul_le_mul h3 (by omega)
    have hz := sizeLine_eq
    show decide (z.length * n.toNat > sizeLine) = false
    rw [decide_eq_false_iff_not]
    omega
theorem o_mulX : OpR X (binaryOp .Mult) (rG2 T gMulX) := by
  intro pins s σ H x y v u Q I rx ry h
  obtain ⟨φ, S, d1, d2, R, r1, r2, f⟩ := h
  unfold gMulX at f
  split at f
  · rename_i i j
    split at f
    · rename_i hc
      refine op_mulW pins s σ H x y v u Q I rx ry ?_
      cases r1; cases r2
      exact ⟨i, j, rfl, rfl, hc, f.val R rfl⟩
    · obtain ⟨_, _, z, _⟩ := f; cases z
  · rename_i z n
    split at f
    · rename_i hc
      cases r1; cases r2
      obtain ⟨t, rfl⟩ := rx
      obtain ⟨t2, rfl⟩ := ry
      exact SB.mul (mul_fits hc.1 hc.2.1 hc.2.2) fun t' k => ⟨.str (Txt.mul z n), H, I.tok k, ⟨t', rfl⟩, f.val R rfl⟩
    · obtain ⟨_, _, z, _⟩ := f; cases z
  · obtain ⟨_, _, z, _⟩ := f; cases z
/-! ## divmod -/
def gDivmod : GN := fun ds S => match ds with
  | [.int i, .int j] => if 0 < j ∧ j < 1073741824 then some (.tup [.int (i / j), .int (i % j)], S) else none
  | _ => none
theorem c_divmod : CallR X (.builtin "divmod") (rGN T gDivmod) := CallR.imp call_divmod fun xs H Q h => by
  obtain ⟨φ, S, ds, R, r, f⟩ := h
  unfold gDivmod at f
  split at f
  · rename_i i j
    split at f
    · rename_i hc
      obtain ⟨v, l, rfl, r1, w, l2, rfl, r2, r3⟩ := r
      cases r3; cases r1; cases r2
      exact ⟨i, j, rfl, hc, fun p hp => Fin.tup f R (show RDs T H φ [.int (i / j), .int (i % j)] _ from ⟨_, _, rfl, rfl, _, _, rfl, rfl, rfl⟩) p hp⟩
    · obtain ⟨_, _, z, _⟩ := f; cases z
  · obtain ⟨_, _, z, _⟩ := f; cases z
/-! ## is True, is not True -/
/-! ## slices of texts too -/
def gSlX : GS := fun x lo hi S => match x with
  | .str z => if z.length ≤ sizeLine then some (.str (cutS z lo hi), S) else none
  | x => gSl x lo hi S
theorem s_slX (hK : T.K = X.K) : SlR X (rGS T gSlX) := SlR.imp (SlR.or (s_sl (T := T) hK) sl_str) fun x lo hi H Q h => by
  obtain ⟨φ, S, d, R, r, f⟩ := h
  cases d with
  | str z =>
    cases r
    simp only [gSlX] at f
    split at f
    · rename_i hl
      exact .inr ⟨z, rfl, hl, f.val R rfl⟩
    · obtain ⟨_, _, z, _⟩ := f; cases z
  | _ => exact .inl ⟨φ, S, _, R, r, f⟩
def eSlX (fe : EF) (lo hi : OF) : EF := fun τ => (fe τ).bnd fun x => (lo τ).bnd fun l => (hi τ).bnd fun u S => lft (gSlX x l u S)
theorem d_slX (hK : T.K = X.K) {lo hi : Option Expr} {p2 : Pos} {fl fh : OF} (he : PE X e (rdE T W fa)) (hl : PO X lo (rdO T W fl)) (hu : PO X hi (rdO T W fh)) : PE X (.Subscript e (.Slice lo hi none p2) pos) (rdE T W (eSlX fa fl fh)) :=
  (pe_slice (s_slX (T := T) hK) he hl hu).imp fun σ H Q h => by
    obtain ⟨φ, S, τ, o, R, r, e, q⟩ := h
    refine rdE_bnd R r e q fun d1 S1 v1 H1 φ1 ⟨E1, R1, r1⟩ e1 q1 => ?_
    refine rdO_bnd R1 (r.ext E1) e1 q1 fun l S2 H2 φ2 E2 R2 e2 q2 => ?_
    refine rdO_bnd R2 ((r.ext E1).ext E2) e2 q2 fun u S3 H3 φ3 E3 R3 e3 q3 => ?_
    exact ⟨φ3, S3, d1, R3, (r1.ext E2 _ _).ext E3 _ _, Fin.of e3 q3⟩
theorem eSlX_ok {fe : EF} {lo hi : OF} {τ : Sl} {x d : D} {a b : Option Int} {S S1 S2 S3 S4 : Sto} (h1 : fe τ S = some (.ok x S1)) (h2 : lo τ S1 = some (.ok a S2)) (h3 : hi τ S2 = some (.ok b S3)) (h4 : gSlX x a b S3 = some (d, S4)) : eSlX fe lo hi τ S = some (.ok d S4) := by
  simp only [eSlX, M.bnd, h1, h2, h3, h4, lft]
end
section
variable {X : Cx} {T : Tb} {W : WX} {pos : Pos}
/-! ## break, continue -/
end
/-! ## a walk over the script -/
section
variable {X : Cx} {T : Tb} {W : WX} {pos : Pos} {e tg : Expr} {fa : EF}
end
/-! ## str of a whole number -/
section
variable {X : Cx} {T : Tb}
end
end Sb
end
section
set_option Elab.async false
set_option linter.all false
set_option maxRecDepth 100000
set_option maxHeartbeats 4000000
namespace Sb
open PySem PySem.Spec PyProof.Rows L2
/-! ## enumerate of a list -/
/-- the list at a, each item in a new pair -/
def IteL (K : PySem.W.Frag) (a : Addr) : It :=
  ⟨fun i H => ∃ (xs : List V) (x : V), SqL K H a xs ∧ xs[i]? = some x, fun i H v H' => ∃ P x, v = .ref P ∧ H P = none ∧ H' = upd H P (.tup [.int (i : Nat), x]) ∧ ∀ xs, SqL K H a xs → xs[i]? = some x, fun i H => ∃ xs : List V, SqL K H a xs ∧ xs.length ≤ i⟩
theorem turn_enumL {P : Program} {w : World} {K : PySem.W.Frag} {elts : List Expr} {kk : Nat} {tpos : Pos} (a e it : Addr) :
    Turn P w K (.Tuple elts kk tpos) (IteL K a) [e, it] e (fun i h => (∃ old, IsEnum h e it ((i : Nat) : Int) old) ∧ h.IsListIter it a i ∧ e ≠ it) where
  mem := by simp
  obj := fun i h st b hb => by
    obtain ⟨⟨old, isE⟩, ⟨o, ho, hc, hd⟩, _⟩ := st
    have cases2 : b = e ∨ b = it := by simpa using hb
    rcases cases2 with z | z
    · rw [z]; exact ⟨_, isE, fun v q => nomatch q⟩
    · rw [z]; exact ⟨o, ho, fun v q => by rw [hd] at q; cases q⟩
  keep := fun i h h' st k => let ⟨⟨old, isE⟩, isI, ne⟩ := st; ⟨⟨old, k e (by simp) _ isE⟩, isI.at fun o q => k it (by simp) o q, ne⟩
  item := by
    intro X hP hw hK hc i pins s σ H E I hf st hg
    subst hP hw hK
    obtain ⟨⟨old, isE⟩, isI, ne⟩ := st
    obtain ⟨xs, x, hq, hx⟩ := hg
    obtain ⟨its, rv, isP, hz⟩ := I.list hq
    have isT := isP.isList
    obtain ⟨u, hu, ru⟩ := rv.get hx
    have ltE : e < s.heap.objs.size := Heap.lt_size isE
    have ltI : it < s.heap.objs.size := by obtain ⟨_, q, _⟩ := isI; exact Heap.lt_size q
    have neA : a ≠ it := by
      rintro rfl
      obtain ⟨o1, h1, h2, _⟩ := isI
      obtain ⟨o2, h3, h4, _⟩ := isT
      rw [h1] at h3
      cases h3
      rw [h2] at h4
      exact absurd h4 (by decide)
    have neEA : e ∉ [it, a] := by
      intro z
      rcases List.mem_cons.mp z with z | z
      · exact ne z
      · have z' : e = a := by simpa using z
        rw [← z'] at isT
        obtain ⟨o2, h3, h4, _⟩ := isT
        rw [isE] at h3
        have h5 := Option.some.inj h3
        rw [← h5] at h4
        have h6 : Value.type "enumerate" = Value.type "list" := h4
        injection h6 with h7
        exact absurd h7 (by decide)
    have ltn : i < its.toArray.size := by
      have := (List.getElem?_eq_some_iff.mp hu).1
      simpa using this
    refine wpAny_pyNext_enum_itemD (Draws.list (A := X.A.in1) (I.ok.hd hc) it a neA its.toArray) isE ⟨isI, isT⟩ ltn ne neEA fun y h' tk hy hout hst hnew hsz hk => ?_
    obtain ⟨hit', _⟩ := hst
    have ey : y = u := by
      have : its[i]? = some y := by simpa using hy
      rw [hu] at this
      exact (Option.some.inj this).symm
    subst ey
    refine ⟨_, rfl, wpAny_letOwnedTupleGo_enum (s := { s with heap := h', toks := tk + 1 }) hout fun h'' isE' sb => ?_⟩
    have hnew2 : h''.get? s.heap.objs.size = some { cls := .type "tuple", data := .seq #[.int i tk, y] } := (sb.2 _ (Nat.ne_of_gt ltE)).trans hnew
    have okN : ObjOk X.prog X.w (upd H s.heap.objs.size (.tup [.int (i : Nat), x])) h'' s.heap.objs.size (.tup [.int (i : Nat), x]) :=
      ⟨by show 2 ≤ sizeLine; decide, [.int i tk, y], .cons ⟨_, rfl⟩ (.cons ru .nil), ⟨_, hnew2, rfl, _, rfl⟩⟩
    have I1 : L2.Inv X pins σ (upd H s.heap.objs.size (.tup [.int (i : Nat), x])) { s with heap := h'', toks := tk + 1 } :=
      I.turnedNew (ch := [e, it]) (fun b ob hb q => (sb.2 b (fun z => hb (by simp [z]))).trans (hk b ob (fun z => hb (by simp [z])) (fun z => hb (by simp [z])) q)) hf (Nat.le_refl _) okN
    refine ⟨.ref s.heap.objs.size, _, I1, rfl, ⟨_, x, rfl, I.hok.fresh (Nat.le_refl _), rfl, fun ys hy => by rw [I.list_inj hy hq]; exact hx⟩, ⟨⟨y, ?_⟩, hit'.at fun o q => (sb.2 it (Ne.symm ne)).trans q, ne⟩, fun b hb => ?_⟩
    · rw [show ((i + 1 : Nat) : Int) = (i : Int) + 1 by omega]
      exact isE'
    · have ltb : b < s.heap.objs.size := by
        have cases2 : b = e ∨ b = it := by simpa using hb
        rcases cases2 with z | z
        · rw [z]; exact ltE
        · rw [z]; exact ltI
      rw [upd_ne (Nat.ne_of_lt ltb)]
      exact (hf b hb).1
  done := by
    intro X hP hw hK hc i pins s σ H E I hf st hg
    subst hP hw hK
    obtain ⟨⟨old, isE⟩, isI, ne⟩ := st
    obtain ⟨xs, hq, hx⟩ := hg
    obtain ⟨its, rv, isP, hz⟩ := I.list hq
    have isT := isP.isList
    obtain ⟨f0, f1, f2, f3, f4, f5⟩ := hf it (by simp)
    have len := rv.length
    have neA : a ≠ it := by
      rintro rfl
      obtain ⟨o1, h1, h2, _⟩ := isI
      obtain ⟨o2, h3, h4, _⟩ := isT
      rw [h1] at h3
      cases h3
      rw [h2] at h4
      exact absurd h4 (by decide)
    unfold pyNext
    have tyE : s.TypeIs (.ref e) "enumerate" := ⟨_, isE, rfl⟩
    refine wpAny_bind (wpAny_attempt (wpAny_callSpecial?_slot (name := Str.ofString "__next__") tyE F.slot_enumerate_next
      (wpAny_call_entry F.slot_enumerate_next tyE F.entry_enumerate_next ?_ (F.args_enumerate_next_1 _))))
    show wpAny _ _ (field (.ref e) 2 >>= _) _ _ _
    refine wpAny_bind (wpAny_field isE rfl (x := .ref it) rfl ?_)
    refine wpAny_bind (wpAny_nextOf_list_end (I.ok.hd hc) isI isT (by simp; omega) fun h' xv eb hxv => ?_)
    obtain ⟨ob, hob, hcl⟩ := hxv
    refine wpAny_bind (wpAny_isInstance (T := "StopIteration") (b := true) ⟨ob, hob, hcl⟩ isSubtype_stop ?_)
    exact wpAny_pure ⟨rfl, I.turned (t' := s.toks) (fun b o hb q => eb b o hb q) f0 f1 f3 f4 f5⟩
  self := fun A i s Q E st h => let ⟨⟨_, isE⟩, _⟩ := st; wpAny_pyIter_enum isE h
def iEnumL (K : PySem.W.Frag) (ta : TA) : TI := fun σ H R => ta σ H fun vs H1 => ∃ a xs, vs = [.ref a] ∧ SqL K H1 a xs ∧ R (IteL K a) H1
theorem pi_enumL {X : Cx} {e : Expr} {ta : TA} {p pos tpos : Pos} {elts : List Expr} {kk : Nat} (hg : Gl X "enumerate") (hm : X.mg "enumerate" = none) (ha : PA X [e] ta) (hs : starEach [e] X.env = [(false, eval e X.env)] := by rfl) :
    PI X (.Tuple elts kk tpos) (.Call (.Name "enumerate" p) [e] [] pos) (iEnumL X.K ta) := by
  refine ⟨fun pins s σ H Rr I hh => ?_⟩
  refine Call_ (ld_blt I hg hm boot_enumerate (PyProof.Rows.callWith_type1 (thn (ha.run pos pins s σ H _ I hh) fun us s1 ⟨vs, H1, I1, r1, q1⟩ => ?_) hs rfl))
  obtain ⟨a, xs, ex, hq, q⟩ := q1
  subst ex
  cases r1 with
  | cons r rr =>
    cases rr
    cases r
    obtain ⟨its, rv, isP, hz⟩ := I1.list hq
    have isT := isP.isList
    refine call_enumerate_list isT fun h' isE isI _ hk => wpAny_pyIter_enum isE ?_
    have I2 : L2.Inv X pins σ H1 { s1 with heap := h' } := I1.kept (t' := s1.toks) hk
    refine ⟨s1.heap.objs.size + 1, [s1.heap.objs.size + 1, s1.heap.objs.size], _, _, H1, rfl, I2, turn_enumL a (s1.heap.objs.size + 1) s1.heap.objs.size, ⟨⟨.none, isE⟩, isI, Nat.succ_ne_self _⟩, fun b hb => ?_, q⟩
    have above : s1.heap.objs.size ≤ b := by
      rcases (show b = s1.heap.objs.size + 1 ∨ b = s1.heap.objs.size by simpa using hb) with z | z
      · rw [z]; exact Nat.le_add_right _ _
      · rw [z]; exact Nat.le_refl _
    exact I1.fpOk above (I1.hok.fresh above)
end Sb
end
section
set_option Elab.async false
set_option linter.all false
set_option maxRecDepth 100000
set_option maxHeartbeats 4000000
namespace Sb
open PySem PySem.Spec PyProof.Rows L2 PySem.W
section
variable {X : Cx} {T : Tb} {W : WX} {pos : Pos} {e : Expr} {ra : AF}
/-! ## enumerate of a tuple or of a told list -/
def iEnX (ra : AF) : IF := fun τ => (ra τ).bnd fun ds S => match ds with
  | [.tup es] => some (.ok (wkE es) S)
  | [.fl es] => some (.ok (wkE es) S)
  | _ => none
theorem i_enumX {p tpos : Pos} {elts : List Expr} {kk : Nat} (hK : T.K = X.K) (hg : Gl X "enumerate") (hm : X.mg "enumerate" = none) (ha : PA X [e] (rdA T W ra)) (hs : starEach [e] X.env = [(false, eval e X.env)] := by rfl) :
    PI X (.Tuple elts kk tpos) (.Call (.Name "enumerate" p) [e] [] pos) (rdI T W (iEnX ra)) :=
  ((i_enum (tpos := tpos) (elts := elts) (kk := kk) (p := p) hK hg hm ha hs).or (pi_enumL hg hm ha hs)).imp fun σ H Rr h => by
    obtain ⟨φ, S, τ, o, R, r, e, q⟩ := h
    have e0 := e
    unfold iEnX M.bnd at e0
    cases e1 : ra τ S with
    | none => rw [e1] at e0; cases e0
    | some x =>
      rw [e1] at e0
      have left : (∀ es S1, x ≠ .ok [.fl es] S1) → iEn ra τ S = some o := fun hx => by
        unfold iEn M.bnd
        rw [e1]
        cases x with
        | ex x S1 => exact e0
        | ok ds S1 =>
          revert e0 hx
          cases ds with
          | nil => exact fun z _ => z
          | cons d l =>
            cases l with
            | nil => cases d <;> first | exact fun z _ => z | exact fun _ hx => absurd rfl (hx _ _)
            | cons d2 l2 => exact fun z _ => by cases d <;> exact z
      by_cases hx : ∃ es S1, x = .ok [.fl es] S1
      · obtain ⟨es, S1, rfl⟩ := hx
        cases e0
        refine .inr ⟨φ, S, τ, _, R, r, e1, fun φ1 H1 vs E1 R1 r1 => ?_⟩
        obtain ⟨v, l, rfl, r2, r3⟩ := r1
        cases r3
        obtain ⟨a, xs, rfl, hn, hH, s⟩ := r2
        refine ⟨a, xs, rfl, .inl (.inl hH), q φ1 H1 _ E1 R1 ?_⟩
        intro φ S H i E2 R2
        have h' := E2.lst _ _ hn hH
        have s' := s.ext E2 _ _
        refine ⟨fun d hd => ?_, fun hn => ?_⟩
        · have hd' : (es[i]?).map (fun d => D.tup [.int (i : Nat), d]) = some d := Option.some.inj hd
          simp only [Option.map_eq_some_iff] at hd'
          obtain ⟨y, hy, rfl⟩ := hd'
          obtain ⟨v, hv, rv⟩ := s'.get hy
          refine ⟨⟨xs, v, .inl (.inl h'), hv⟩, fun x H' yl => ?_⟩
          obtain ⟨P, x2, rfl, hP, rfl, hx⟩ := yl
          have ev := hx xs (.inl (.inl h'))
          rw [hv] at ev
          cases ev
          obtain ⟨R3, E3⟩ := R2.garb (u := .tup [.int (i : Nat), v]) hP
          exact ⟨E3, R3, P, _, rfl, upd_same, .int (i : Nat), _, rfl, rfl, v, _, rfl, rv.ext E3 _ _, rfl⟩
        · have hn' : (es[i]?).map (fun d => D.tup [.int (i : Nat), d]) = none := Option.some.inj hn
          simp only [Option.map_eq_none_iff] at hn'
          exact ⟨xs, .inl (.inl h'), rds_none s' hn'⟩
      · exact .inl ⟨φ, S, τ, o, R, r, left fun es S1 z => hx ⟨es, S1, z⟩, q⟩
end
theorem iEnX_fl {ra : AF} {τ : Sl} {es : List D} {S S1 : Sto} (h : ra τ S = some (.ok [.fl es] S1)) : iEnX ra τ S = some (.ok (wkE es) S1) := by simp only [iEnX, M.bnd, h]
end Sb
end
section
set_option Elab.async false
set_option linter.all false
set_option maxRecDepth 100000
namespace Sb
open PySem PySem.Spec PyProof.Rows L2
def m_often_round : SF := sSeq (sAs (tN2 3 4) (eCB gDivmod (aCons (eVar 2) (aCons (eCB gLenX (aCons (eVar 0) (aNil))) (aNil))))) (sRt (eB gAdd (eB gMul (eVar 3) (eBM "list" gCount (eVar 0) (aCons (eVar 1) (aNil)))) (eBM "list" gCount (eSl (eVar 0) (oNo) (oSo (eVar 4))) (aCons (eVar 1) (aNil)))))
abbrev M_often_round : List D → M D := fnM 5 (m_often_round)
def m_rows_of : SF := sSeq (sSet 2 (eLc (iRg1 (aCons (eVar 1) (aNil))) (tN 3) (tAll) (eCl (M_pattern_of) 2 (aCons (eVar 0) (aCons (eVar 3) (aNil)))) [3])) (sSeq (sEx (eBM "list" gAppend (eVar 2) (aCons (eCl (M_names_of) 1 (aCons (eCl (M_ring_of) 2 (aCons (eVar 0) (aCons (eVar 1) (aNil)))) (aNil))) (aNil)))) (sRt (eVar 2)))
abbrev M_rows_of : List D → M D := fnM 4 (m_rows_of)
def m_settled_rows : SF := sRt (fz (eCl (M_rows_of) 2 (aCons (eVar 0) (aCons (eB gSub (eCl (M_closed_of) 1 (aCons (eVar 0) (aNil))) (eC (.int 1))) (aNil)))))
abbrev M_settled_rows : List D → M D := fnM 1 (m_settled_rows)
def m_require_settled (K : PySem.W.Frag) : SF := sIf (tTr (eCl (M_away_places) 1 (aCons (eVar 0) (aNil)))) (sRaise (He.ga K "NotSettled")) (sNop)
abbrev M_require_settled (K : PySem.W.Frag) : List D → M D := fnM 1 (m_require_settled K)
end Sb
end
section
set_option Elab.async false
set_option linter.all false
set_option maxRecDepth 100000
set_option maxHeartbeats 4000000
namespace Sb
open PySem PySem.Spec PyProof.Rows L2 LamX
end Sb
end
section
set_option Elab.async false
set_option linter.all false
set_option maxRecDepth 100000
set_option maxHeartbeats 4000000
namespace Sb
open PySem PySem.Spec PyProof.Rows L2 LamX
/-! ## what the head tells besides: where sys.modules stands, how the classes of errors lie -/
def sysB (g : Addr → Option Obj) : Bool := match g sysModules with
  | some ⟨_, _, .dict _ _, _⟩ => true
  | _ => false
theorem sysB_of {g : Addr → Option Obj} (h : sysB g = true) : ∃ o es ep, g sysModules = some o ∧ o.data = .dict es ep := by
  unfold sysB at h
  split at h
  · rename_i es ep sl q
    exact ⟨_, es, ep, q, rfl⟩
  · cases h
def hookS (n : Nat) (fa : List He.Fa) (fn : List He.DefD) (tf : List He.Defn) (ex : PySem.W.Frag → Bool) : PySem.W.Hook where
  α := He.AlX × Bool
  obs := fun s => ((He.hookX n fa fn [] tf ex).obs s, sysB s.heap.get?)
  val := fun w => ((He.hookX n fa fn [] tf ex).val w, true)
  says := fun w h => (He.hookX n fa fn [] tf ex).says w h ∧ ∃ o es ep, h.get? sysModules = some o ∧ o.data = .dict es ep
  of := fun w s e => ⟨(He.hookX n fa fn [] tf ex).of w s (congrArg Prod.fst e), sysB_of (congrArg Prod.snd e)⟩
  keeps := fun w h h' ⟨a, o, es, ep, b, c⟩ k => ⟨(He.hookX n fa fn [] tf ex).keeps w h h' a k, o, es, ep, k _ _ b, c⟩
def obsS (n : Nat) (fa : List He.Fa) (fn : List He.DefD) (tf : List He.Defn) (ex : PySem.W.Frag → Bool) (g : Addr → Option Obj) : He.AlX × Bool := (He.obsX n fa fn [] tf ex g, sysB g)
theorem obsS_eq {n : Nat} {fa : List He.Fa} {fn : List He.DefD} {tf : List He.Defn} {ex : PySem.W.Frag → Bool} {g : Addr → Option Obj} {s : Shared} (h : ∀ a, g a = s.heap.get? a) : obsS n fa fn tf ex g = (hookS n fa fn tf ex).obs s := by
  have e : g = s.heap.get? := funext h
  rw [e] <;> rfl
/-! ### the classes of errors -/
def errN : List Str := ["NoDeck", "NoCard", "NoName", "NoDepth", "NoPlace", "Twice", "Full", "Last", "NoNumber", "NoStep", "NoLevel", "NotSettled", "NotLasting", "NoOrder", "NoNames", "NoRow", "NoDepths", "TooMany", "NoText", "NoForm", "NoneYet"]
/-- of the classes xs: each is an exception under DeckError and ValueError, and under no other one -/
def clsB (xs : List Str) (K : PySem.W.Frag) : Bool := xs.all fun x => excB K (He.ga K x) && (decide (PySem.W.kitOne K (.ref (He.ga K x)) (.ref (He.ga K "DeckError")) = some true) && (decide (PySem.W.kitOne K (.ref (He.ga K x)) (.type "ValueError") = some true) &&
  (decide (PySem.W.exmOne K (.ref (He.ga K x)) (.ref (He.ga K "DeckError")) = some true) && errN.all fun y => decide (PySem.W.kitOne K (.ref (He.ga K x)) (.ref (He.ga K y)) = some (decide (y = x))))))
end Sb
end
section
set_option Elab.async false
set_option linter.all false
set_option maxRecDepth 100000
set_option maxHeartbeats 4000000
namespace Sb
open PySem PySem.Spec PyProof.Rows L2
/-! ## in, not in: over a tuple of data -/
section
variable {X : Cx} {T : Tb} {W : WX} {pos : Pos}
/-! ## xs.extend of a told list -/
end
end Sb
end
section
set_option Elab.async false
set_option linter.all false
set_option maxRecDepth 100000
set_option maxHeartbeats 4000000
namespace Sb
open PySem PySem.Spec PyProof.Rows L2
/-! ## reversed(range(n)) -/
end Sb
end
section
set_option Elab.async false
set_option linter.all false
set_option maxRecDepth 100000
set_option maxHeartbeats 4000000
namespace Sb
open PySem PySem.Spec PyProof.Rows L2
/-! ### data -/
section
variable {X : Cx} {T : Tb} {W : WX} {ra : AF}
end
end Sb
end
section
set_option Elab.async false
set_option linter.all false
set_option maxRecDepth 100000
set_option maxHeartbeats 4000000
namespace Sb
open PySem PySem.Spec PyProof.Rows L2 RT
section
variable {X : Cx} {T : Tb} {W : WX} {tg e : Expr} {fa : EF}
/-! ## for x in reversed(xs): a list or a tuple -/
end
end Sb
end
section
set_option Elab.async false
set_option linter.all false
set_option maxRecDepth 100000
set_option maxHeartbeats 4000000
namespace Sb
open PySem PySem.Spec PyProof.Rows L2
section
variable {X : Cx} {T : Tb} {W : WX} {pos : Pos}
/-! ## a, b, c and a, b, c, d as targets -/
end
end Sb
end
section
set_option Elab.async false
set_option linter.all false
set_option maxRecDepth 100000
set_option maxHeartbeats 4000000
namespace Sb
open PySem PySem.Spec PyProof.Rows L2
section
variable {X : Cx} {T : Tb} {W : WX} {pos : Pos} {kx vx tg iter : Expr} {fi : IF} {g : TF} {t : BF} {fk fv : EF} {scope : Scope} {own : List (Str × Nat)} {ifs : List Expr}
/-! ## {k: v for x in xs} -/
theorem KVs.ext {φ φ1 : List Addr} {H H1 : Hp} (e : Ext φ H φ1 H1) {kvs : List (Key × D)} {w : List (Key × V)} (h : KVs T H φ kvs w) : KVs T H1 φ1 kvs w := ⟨h.1, h.2.ext e _ _⟩
theorem KVs.len {φ : List Addr} {H : Hp} {kvs : List (Key × D)} {w : List (Key × V)} (h : KVs T H φ kvs w) : w.length = kvs.length := by
  have := congrArg List.length h.1
  simpa using this
variable {us : List Nat}
end
end Sb
end
section
set_option Elab.async false
set_option linter.all false
set_option maxRecDepth 100000
set_option maxHeartbeats 4000000
namespace Sb
open PySem PySem.Spec PyProof.Rows L2
section
variable {X : Cx} {T : Tb} {W : WX} {pos : Pos} {e : Expr} {fa : EF}
/-! ## x op= e at a name: x = x op e, read first -/
theorem sx_bin {g : G2} {i : Nat} {fe : EF} {τ : Sl} {S : Sto} {d : D} {k : D → Sto → Option (Fl × Sto)} (hd : τ[i]? = some (some d)) :
    sx (eB g (eVar i) fe τ) τ k S = sx (fe τ) τ (fun d2 S2 => (g d d2 S2).bind fun p => k p.1 p.2) S := by
  simp only [sx, eB, M.bnd, eVar, hd]
  cases fe τ S with
  | none => rfl
  | some x =>
    cases x with
    | ex x S1 => rfl
    | ok d2 S2 =>
      show (match lft (g d d2 S2) with | none => none | some (.ex x S1) => some (.xx x τ, S1) | some (.ok d S1) => k d S1) = (g d d2 S2).bind fun p => k p.1 p.2
      cases g d d2 S2 <;> rfl
theorem s_augN {i : Nat} {x : Str} {pos' : Pos} {op : Operator} {g : G2} (hN : X.N.Nodup) (hi : X.N[i]? = some x) (hx : Loc X.env.scope x) (ho : OpR X (inplaceOp op) (rG2 T g)) (he : PE X e (rdE T W fa))
    (hf : X.fn x = true ∨ X.env.scope.names.lookup x = some .local := by first | exact .inl rfl | exact .inr rfl | assumption) : PS X (.AugAssign (.Name x pos') op e pos) (rdS T W (sSet i (eB g (eVar i) fa))) :=
  (ps_aug hN hi hx he (fun pins s σ H x y v u Q I rx ry q => ho pins s σ H x y v u Q I rx ry q) hf).imp fun De σ H h => by
    obtain ⟨φ, S, τ, fl, S', R, r, e, q⟩ := h
    unfold sSet at e
    cases hd : τ[i]? with
    | none => simp [sx, eB, M.bnd, eVar, hd] at e
    | some z =>
      cases z with
      | none => simp [sx, eB, M.bnd, eVar, hd] at e
      | some d =>
        rw [sx_bin hd] at e
        obtain ⟨v, h1, h2⟩ := r.at_ i d hd
        refine ⟨v, h1, rdE_sx R r e q fun d2 S1 y H1 φ1 ⟨E1, R1, r1⟩ e1 q1 => ?_⟩
        cases eg : g d d2 S1 with
        | none => rw [eg] at e1; cases e1
        | some p =>
          rw [eg] at e1
          cases e1
          refine ⟨φ1, S1, d, d2, R1, h2.ext E1 _ _, r1, p.1, p.2, eg, fun φ2 H2 z E2 R2 r2 => ?_⟩
          exact q1 φ2 H2 _ E2 R2 (((r.ext E1).ext E2).set i r2)
def gAddI : G2 := gI (fun _ _ => true) fun i j => .int (i + j)
theorem gAddI_i {i j : Int} {S : Sto} : gAddI (.int i) (.int j) S = some (.int (i + j), S) := by simp [gAddI, gI]
theorem iop_mulW : OpR X (inplaceOp .Mult) (rI CMulW fun i j => .int (i * j)) := opI fun _ _ _ _ _ _ _ hc q => imul_int q hc.ok
theorem io_mul : OpR X (inplaceOp .Mult) (rG2 T gMul) := o_int iop_mulW (fun i j h => show i.natAbs.log2 + j.natAbs.log2 < 1000000 from of_decide_eq_true h) fun _ _ _ _ => rfl
theorem io_add : OpR X (inplaceOp .Add) (rG2 T gAddI) := o_int0 iop_add fun _ _ _ _ => rfl
end
end Sb
end
section
set_option Elab.async false
set_option linter.all false
set_option maxRecDepth 100000
set_option maxHeartbeats 4000000
namespace Sb
open PySem PySem.Spec PyProof.Rows L2
section
variable {X : Cx} {T : Tb} {W : WX}
/-! ## sorted of a list of whole numbers -/
def sortI (ns : List Int) : List Int := ns.mergeSort fun a b => decide (a ≤ b)
theorem sortI_perm (ns : List Int) : (sortI ns).Perm ns := List.mergeSort_perm ns _
theorem sortI_pw (ns : List Int) : (sortI ns).Pairwise fun a b => a ≤ b := by
  have := List.pairwise_mergeSort (le := fun a b : Int => decide (a ≤ b)) (fun a b c h1 h2 => by simp only [decide_eq_true_eq] at *; omega) (fun a b => by simp only [Bool.or_eq_true, decide_eq_true_eq]; omega) ns
  exact this.imp fun h => of_decide_eq_true h
theorem sortI_eq {ns ms : List Int} (p : ms.Perm ns) (s : ms.Pairwise fun a b => a ≤ b) : ms = sortI ns :=
  List.Perm.eq_of_pairwise (fun a b _ _ h1 h2 => Int.le_antisymm h1 h2) s (sortI_pw ns) (p.trans (sortI_perm ns).symm)
def gSortedI : GN := fun ds S => match ds with
  | [.fl es] => (intsD es).bind fun ns => if ns.length < 64 then some (.loc S.length, S ++ [.lst ((sortI ns).map D.int)]) else none
  | _ => none
theorem c_sortedI : CallR X (.builtin "sorted") (rGN T gSortedI) := CallR.imp L2.cr_sorted fun xs H Q h => by
  obtain ⟨φ, S, ds, R, r, f⟩ := h
  unfold gSortedI at f
  split at f
  · rename_i es
    cases e : intsD es with
    | none => rw [e] at f; obtain ⟨_, _, z, _⟩ := f; cases z
    | some ns =>
      rw [e] at f
      simp only [Option.bind_some] at f
      split at f
      · rename_i hn
        obtain ⟨v, l, rfl, r1, r2⟩ := r
        cases r2
        obtain ⟨a, vs, rfl, ha, hH, s⟩ := r1
        have ev := ints_ok s e
        subst ev
        refine ⟨a, ns, rfl, .inl (.inl hH), hn, fun ns' p hp hs hpn => ?_⟩
        rw [sortI_eq hp hs]
        exact f.lst R (ints_rds (sortI ns)) p hpn
      · obtain ⟨_, _, z, _⟩ := f; cases z
  · obtain ⟨_, _, z, _⟩ := f; cases z
end
end Sb
end
section
set_option Elab.async false
set_option linter.all false
set_option maxRecDepth 100000
set_option maxHeartbeats 4000000
namespace Sb
open PySem PySem.Spec PyProof.Rows L2
/-! ## list(zip(xs, ys)) -/
theorem zip_no_len : typeLookup (.type "zip") (Str.ofString "__len__") = pure none := by kernel_rfl
theorem zip_no_hint : typeLookup (.type "zip") (Str.ofString "__length_hint__") = pure none := by kernel_rfl
/-- where a zip stands behind k pairs, all of them kept -/
structure ZSt (h0 h : Heap) (z TI TO i1 i2 l1 l2 S : Addr) (xs ys : Array Value) (k : Nat) (acc : Array Value) : Prop where
  le : h0.objs.size ≤ h.objs.size
  fr : ∀ c o, c ≠ S → c ≠ z → c ≠ TO → c ≠ i1 → c ≠ i2 → h0.get? c = some o → h.get? c = some o
  zip : (k = 0 ∧ IsZip h z TI TO .none ∧ ∃ a b, IsPair h TO a b) ∨ (∃ T f oT, h0.objs.size ≤ T ∧ IsZipHeld h z TI TO T f ∧ h.get? T = some oT)
  ti : IsPair h TI (.ref i1) (.ref i2)
  p1 : h.IsListIter i1 l1 k
  p2 : h.IsListIter i2 l2 k
  q1 : h.IsList l1 xs
  q2 : h.IsList l2 ys
  lst : ∃ ep, h.get? S = some { cls := .type "list", data := .seq acc ep }
  len : acc.size = k
  els : ∀ j, j < k → ∃ T x y, acc[j]? = some (.ref T) ∧ h0.objs.size ≤ T ∧ xs[j]? = some x ∧ ys[j]? = some y ∧ IsPair h T x y
  dis : ∀ i j T, i < j → j < k → acc[i]? = some (.ref T) → acc[j]? = some (.ref T) → False
theorem zip_loop {prog : Program} {w : World} {A : Around} {R : Result → Shared → Prop} {z TI TO i1 i2 l1 l2 S : Addr} {xs ys : Array Value} {h0 : Heap} {g0 : Array GenState} {d0 : Drawn} {os0 : OsState} {res : Value} (hA : A.handled = none) (ap : ZipApart z TI TO i1 i2 l1 l2)
    (hS : S ≠ z ∧ S ≠ TI ∧ S ≠ TO ∧ S ≠ i1 ∧ S ≠ i2 ∧ S ≠ l1 ∧ S ≠ l2) (hlt : z < h0.objs.size ∧ S < h0.objs.size ∧ TO < h0.objs.size ∧ i1 < h0.objs.size ∧ i2 < h0.objs.size) (hn : xs.size ≤ sizeLine)
    (fin : ∀ (h : Heap) (tk : Nat) (acc : Array Value), (∃ ep, h.get? S = some { cls := .type "list", data := .seq acc ep }) → acc.size = min xs.size ys.size → (∀ c o, c ≠ S → c ≠ z → c ≠ TO → c ≠ i1 → c ≠ i2 → h0.get? c = some o → h.get? c = some o) →
      (∀ j, j < acc.size → ∃ T x y, acc[j]? = some (.ref T) ∧ h0.objs.size ≤ T ∧ xs[j]? = some x ∧ ys[j]? = some y ∧ IsPair h T x y) → (∀ i j T, i < j → j < acc.size → acc[i]? = some (.ref T) → acc[j]? = some (.ref T) → False) → R (.ok (.ret res)) { heap := h, gens := g0, drawn := d0, toks := tk, os := os0 }) :
    ∀ (m k : Nat) (h : Heap) (tk : Nat) (acc : Array Value), min xs.size ys.size - k = m → k ≤ min xs.size ys.size → ZSt h0 h z TI TO i1 i2 l1 l2 S xs ys k acc →
      codeAny (model prog w) A (Code.builtin "list.extend.loop" { pos := [.ref S, .ref z, res] }) R { heap := h, gens := g0, drawn := d0, toks := tk, os := os0 }
  | 0, k, h, tk, acc, hm, hk, st => by
    have ek : k = min xs.size ys.size := by omega
    refine codeAny_builtin F.entry_extend_loop ?_
    obtain ⟨ep, hl⟩ := st.lst
    have none_ : xs[k]? = none ∨ ys[k]? = none := by
      by_cases q : xs.size ≤ ys.size
      · exact .inl (Array.getElem?_eq_none (by omega))
      · exact .inr (Array.getElem?_eq_none (by omega))
    have last : ∀ h' : Heap, (∀ c o, c ≠ z → c ≠ TO → c ≠ i1 → c ≠ i2 → h.get? c = some o → h'.get? c = some o) → R (.ok (.ret res)) { heap := h', gens := g0, drawn := d0, toks := tk, os := os0 } := fun h' kp => by
      refine fin h' tk acc ⟨ep, kp S _ hS.1 hS.2.2.1 hS.2.2.2.1 hS.2.2.2.2.1 hl⟩ (by rw [st.len, ek]) (fun c o h1 h2 h3 h4 h5 e => kp c o h2 h3 h4 h5 (st.fr c o h1 h2 h3 h4 h5 e)) (fun j hj => ?_) (fun i j T a b => st.dis i j T a (by rw [← st.len]; exact b))
      obtain ⟨T, x, y, a1, a2, a3, a4, a5⟩ := st.els j (by rw [← st.len]; exact hj)
      exact ⟨T, x, y, a1, a2, a3, a4, kp T _ (Nat.ne_of_gt (Nat.lt_of_lt_of_le hlt.1 a2)) (Nat.ne_of_gt (Nat.lt_of_lt_of_le hlt.2.2.1 a2)) (Nat.ne_of_gt (Nat.lt_of_lt_of_le hlt.2.2.2.1 a2)) (Nat.ne_of_gt (Nat.lt_of_lt_of_le hlt.2.2.2.2 a2)) a5⟩
    rcases st.zip with ⟨k0, iz, a, b, ito⟩ | ⟨T, f, oT, hT0, iz, hT⟩
    · exact wpAny_bind (wpAny_pyNext_zip_end hA ap iz st.ti ito st.p1 st.p2 st.q1 st.q2 none_ fun h' kp => wpAny_pure (last h' kp))
    · refine wpAny_bind (wpAny_pyNext_zip_end_held hA ap iz hT st.ti st.p1 st.p2 st.q1 st.q2 none_ fun h' kp => ?_)
      exact wpAny_pure (last h' (fun c o c1 c2 c3 c4 e => kp c o c1 c3 c4 e))
  | m + 1, k, h, tk, acc, hm, hk, st => by
    have hk1 : k < xs.size := by omega
    have hk2 : k < ys.size := by omega
    have gx : xs[k]? = some xs[k] := Array.getElem?_eq_getElem hk1
    have gy : ys[k]? = some ys[k] := Array.getElem?_eq_getElem hk2
    refine codeAny_builtin F.entry_extend_loop ?_
    obtain ⟨ep, hl⟩ := st.lst
    have hSlt : S < h.objs.size := Heap.lt_size hl
    -- behind a pair
    have next : ∀ h' : Heap, (∃ T f oT, IsZipHeld h' z TI TO T f ∧ h'.get? T = some oT ∧ h0.objs.size ≤ T) → IsPair h' TI (.ref i1) (.ref i2) → h'.IsListIter i1 l1 (k + 1) → h'.IsListIter i2 l2 (k + 1) → IsPair h' h.objs.size xs[k] ys[k] → h'.objs.size = h.objs.size + 1 →
        (∀ c o, c ≠ z → c ≠ TO → c ≠ i1 → c ≠ i2 → h.get? c = some o → h'.get? c = some o) →
        ZSt h0 (h'.update S (Obj.mapSeq fun x => x.push (.ref h.objs.size))) z TI TO i1 i2 l1 l2 S xs ys (k + 1) (acc.push (.ref h.objs.size)) := fun h' hz hti hp1 hp2 hpr hsz kp => by
      have eS := kp S _ hS.1 hS.2.2.1 hS.2.2.2.1 hS.2.2.2.2.1 hl
      have oth : ∀ c, c ≠ S → (h'.update S (Obj.mapSeq fun x => x.push (.ref h.objs.size))).get? c = h'.get? c := fun c hc => Heap.get?_update_ne _ _ _ _ hc
      have ltT : ∀ {c : Addr}, c < h0.objs.size → h.objs.size ≠ c := fun hc => Nat.ne_of_gt (Nat.lt_of_lt_of_le hc st.le)
      refine ⟨by rw [Heap.size_update, hsz]; have := st.le; omega, fun c o c0 c1 c2 c3 c4 e => by rw [oth c c0]; exact kp c o c1 c2 c3 c4 (st.fr c o c0 c1 c2 c3 c4 e), ?_, ?_, ?_, ?_, ?_, ?_, ?_, by rw [Array.size_push, st.len], fun j hj => ?_, fun i j T a b e1 e2 => ?_⟩
      · obtain ⟨T, f, oT, z1, z2, z3⟩ := hz
        refine .inr ⟨T, f, oT, z3, ?_, by rw [oth T (Nat.ne_of_gt (Nat.lt_of_lt_of_le hlt.2.1 z3))]; exact z2⟩
        unfold IsZipHeld
        rw [oth z (Ne.symm hS.1)]; exact z1
      · unfold IsPair
        rw [oth TI (Ne.symm hS.2.1)]; exact hti
      · obtain ⟨o, a, b, c⟩ := hp1
        exact ⟨o, by rw [oth i1 (Ne.symm hS.2.2.2.1)]; exact a, b, c⟩
      · obtain ⟨o, a, b, c⟩ := hp2
        exact ⟨o, by rw [oth i2 (Ne.symm hS.2.2.2.2.1)]; exact a, b, c⟩
      · obtain ⟨o, a, b, c⟩ := st.q1
        exact ⟨o, by rw [oth l1 (Ne.symm hS.2.2.2.2.2.1)]; exact kp l1 _ ap.l1z ap.l1TO ap.l1i1 ap.l1i2 a, b, c⟩
      · obtain ⟨o, a, b, c⟩ := st.q2
        exact ⟨o, by rw [oth l2 (Ne.symm hS.2.2.2.2.2.2)]; exact kp l2 _ ap.l2z ap.l2TO ap.l2i1 ap.l2i2 a, b, c⟩
      · exact ⟨_, Heap.get?_update_self _ eS rfl⟩
      · by_cases q : j < k
        · obtain ⟨T, x, y, a1, a2, a3, a4, a5⟩ := st.els j q
          refine ⟨T, x, y, ?_, a2, a3, a4, ?_⟩
          · rw [Array.getElem?_push_lt (by rw [st.len]; exact q)]
            rw [Array.getElem?_eq_getElem (by rw [st.len]; exact q)] at a1
            exact a1
          · unfold IsPair
            rw [oth T (Nat.ne_of_gt (Nat.lt_of_lt_of_le hlt.2.1 a2))]
            exact kp T _ (Nat.ne_of_gt (Nat.lt_of_lt_of_le hlt.1 a2)) (Nat.ne_of_gt (Nat.lt_of_lt_of_le hlt.2.2.1 a2)) (Nat.ne_of_gt (Nat.lt_of_lt_of_le hlt.2.2.2.1 a2)) (Nat.ne_of_gt (Nat.lt_of_lt_of_le hlt.2.2.2.2 a2)) a5
        · have : j = k := by omega
          subst this
          refine ⟨h.objs.size, _, _, ?_, st.le, gx, gy, ?_⟩
          · rw [← st.len, Array.getElem?_push_size]
          · unfold IsPair
            rw [oth _ (ltT hlt.2.1)]; exact hpr
      · rw [Array.getElem?_push_lt (by rw [st.len]; omega), ← Array.getElem?_eq_getElem (by rw [st.len]; omega)] at e1
        by_cases q : j < k
        · rw [Array.getElem?_push_lt (by rw [st.len]; exact q), ← Array.getElem?_eq_getElem (by rw [st.len]; exact q)] at e2
          exact st.dis i j T a q e1 e2
        · have : j = k := by omega
          subst this
          rw [← st.len, Array.getElem?_push_size] at e2
          have e2 := Option.some.inj e2
          injection e2 with e2
          obtain ⟨T', x, y, a1, a2, a3, a4, a5⟩ := st.els i a
          rw [e1] at a1
          have a1 := Option.some.inj a1
          injection a1 with a1
          rw [← a1, ← e2] at a5
          exact absurd (Heap.lt_size a5) (Nat.lt_irrefl _)
    have up : ∀ h' : Heap, (∀ c o, c ≠ z → c ≠ TO → c ≠ i1 → c ≠ i2 → h.get? c = some o → h'.get? c = some o) → h'.get? S = some { cls := .type "list", data := .seq acc ep } := fun h' kp => kp S _ hS.1 hS.2.2.1 hS.2.2.2.1 hS.2.2.2.2.1 hl
    rcases st.zip with ⟨k0, iz, a, b, ito⟩ | ⟨T, f, oT, hT0, iz, hT⟩
    · refine wpAny_bind (wpAny_pyNext_zip_item ap iz st.ti ito st.p1 st.p2 st.q1 st.q2 gx gy fun h' z1 z2 z3 z4 z5 z6 kp => ?_)
      refine wpAny_bind (listUpdate_at (up h' kp) rfl ?_ (by rw [st.len]; omega) (by rw [Array.size_push, st.len]; omega))
      refine wpAny_pure ⟨by kernel_rfl, ?_⟩
      exact zip_loop hA ap hS hlt hn fin m (k + 1) _ tk _ (by omega) (by omega) (next h' ⟨h.objs.size, false, _, z1, z5, st.le⟩ (kp TI _ ap.TIz ap.TITO ap.TIi1 ap.TIi2 st.ti) z3 z4 z5 z6 kp)
    · have kpT : ∀ {h' : Heap}, (∀ c o, c ≠ z → c ≠ i1 → c ≠ i2 → h.get? c = some o → h'.get? c = some o) → ∀ c o, c ≠ z → c ≠ TO → c ≠ i1 → c ≠ i2 → h.get? c = some o → h'.get? c = some o := fun kp c o c1 _ c3 c4 e => kp c o c1 c3 c4 e
      refine wpAny_bind (wpAny_pyNext_zip_item_held ap iz hT st.ti st.p1 st.p2 st.q1 st.q2 gx gy fun h' z1 z3 z4 z5 z6 kp => ?_)
      refine wpAny_bind (listUpdate_at (up h' (kpT kp)) rfl ?_ (by rw [st.len]; omega) (by rw [Array.size_push, st.len]; omega))
      refine wpAny_pure ⟨by kernel_rfl, ?_⟩
      exact zip_loop hA ap hS hlt hn fin m (k + 1) _ tk _ (by omega) (by omega) (next h' ⟨T, true, oT, z1, kp T _ (Nat.ne_of_gt (Nat.lt_of_lt_of_le hlt.1 hT0)) (Nat.ne_of_gt (Nat.lt_of_lt_of_le hlt.2.2.2.1 hT0)) (Nat.ne_of_gt (Nat.lt_of_lt_of_le hlt.2.2.2.2 hT0)) hT, hT0⟩ (kp TI _ ap.TIz ap.TIi1 ap.TIi2 st.ti) z3 z4 z5 z6 (kpT kp))
theorem zip_hint {M : Model} {A : Around} {E : Value → Shared → Prop} {s : Shared} {z : Addr} {Q : Bool → Shared → Prop} (ty : s.TypeIs (.ref z) "zip") (q : Q true s) : wpAny M A (Builtin.List.listLengthHint (.ref z)) Q E s := by
  unfold Builtin.List.listLengthHint
  refine wpAny_bind (wpAny_specialOf ty zip_no_len ?_)
  refine wpAny_bind (wpAny_specialOf ty zip_no_hint ?_)
  exact wpAny_pure q
/-- the start of a zip, an empty list beside it -/
structure Z0 (h : Heap) (z TI TO i1 i2 l1 l2 S : Addr) (xs ys : Array Value) : Prop where
  zip : IsZip h z TI TO .none
  to_ : ∃ a b, IsPair h TO a b
  ti : IsPair h TI (.ref i1) (.ref i2)
  p1 : h.IsListIter i1 l1 0
  p2 : h.IsListIter i2 l2 0
  q1 : h.IsList l1 xs
  q2 : h.IsList l2 ys
  lst : ∃ ep, h.get? S = some { cls := .type "list", data := .seq #[] ep }
theorem Z0.st {h0 h : Heap} {z TI TO i1 i2 l1 l2 S : Addr} {xs ys : Array Value} (st : Z0 h0 z TI TO i1 i2 l1 l2 S xs ys) (hS : S ≠ z ∧ S ≠ TI ∧ S ≠ TO ∧ S ≠ i1 ∧ S ≠ i2 ∧ S ≠ l1 ∧ S ≠ l2) (sz : h.objs.size = h0.objs.size) (oth : ∀ c, c ≠ S → h.get? c = h0.get? c) (at_ : ∃ ep, h.get? S = some { cls := .type "list", data := .seq #[] ep }) : ZSt h0 h z TI TO i1 i2 l1 l2 S xs ys 0 #[] := by
  obtain ⟨a, b, hto⟩ := st.to_
  refine ⟨by omega, fun c o c0 _ _ _ _ e => by rw [oth c c0]; exact e, .inl ⟨rfl, ?_, a, b, ?_⟩, ?_, ?_, ?_, ?_, ?_, at_, rfl, fun j hj => absurd hj (Nat.not_lt_zero _), fun _ j _ _ hj => absurd hj (Nat.not_lt_zero _)⟩
  · unfold IsZip; rw [oth z (Ne.symm hS.1)]; exact st.zip
  · unfold IsPair; rw [oth TO (Ne.symm hS.2.2.1)]; exact hto
  · unfold IsPair; rw [oth TI (Ne.symm hS.2.1)]; exact st.ti
  · obtain ⟨o, a, b, c⟩ := st.p1
    exact ⟨o, by rw [oth i1 (Ne.symm hS.2.2.2.1)]; exact a, b, c⟩
  · obtain ⟨o, a, b, c⟩ := st.p2
    exact ⟨o, by rw [oth i2 (Ne.symm hS.2.2.2.2.1)]; exact a, b, c⟩
  · obtain ⟨o, a, b, c⟩ := st.q1
    exact ⟨o, by rw [oth l1 (Ne.symm hS.2.2.2.2.2.1)]; exact a, b, c⟩
  · obtain ⟨o, a, b, c⟩ := st.q2
    exact ⟨o, by rw [oth l2 (Ne.symm hS.2.2.2.2.2.2)]; exact a, b, c⟩
theorem zip_init {prog : Program} {w : World} {A : Around} {R : Result → Shared → Prop} {z TI TO i1 i2 l1 l2 S : Addr} {xs ys : Array Value} {h0 : Heap} {g0 : Array GenState} {d0 : Drawn} {os0 : OsState} {tk : Nat} (hA : A.handled = none) (ap : ZipApart z TI TO i1 i2 l1 l2)
    (hS : S ≠ z ∧ S ≠ TI ∧ S ≠ TO ∧ S ≠ i1 ∧ S ≠ i2 ∧ S ≠ l1 ∧ S ≠ l2) (hlt : z < h0.objs.size ∧ S < h0.objs.size ∧ TO < h0.objs.size ∧ i1 < h0.objs.size ∧ i2 < h0.objs.size) (hn : xs.size ≤ sizeLine) (st : Z0 h0 z TI TO i1 i2 l1 l2 S xs ys)
    (fin : ∀ (h : Heap) (tk : Nat) (acc : Array Value), (∃ ep, h.get? S = some { cls := .type "list", data := .seq acc ep }) → acc.size = min xs.size ys.size → (∀ c o, c ≠ S → c ≠ z → c ≠ TO → c ≠ i1 → c ≠ i2 → h0.get? c = some o → h.get? c = some o) →
      (∀ j, j < acc.size → ∃ T x y, acc[j]? = some (.ref T) ∧ h0.objs.size ≤ T ∧ xs[j]? = some x ∧ ys[j]? = some y ∧ IsPair h T x y) → (∀ i j T, i < j → j < acc.size → acc[i]? = some (.ref T) → acc[j]? = some (.ref T) → False) → R (.ok (.ret .none)) { heap := h, gens := g0, drawn := d0, toks := tk, os := os0 }) :
    wpAny (model prog w) A.in1 (Builtin.«list.__init__» { pos := [.ref S, .ref z] })
      (fun fin s' => match fin with
        | PySem.Fin.done f => R (.ok f) s'
        | PySem.Fin.again c' => c'.quiet = true ∧ codeAny (model prog w) A c' R s')
      (fun e s' => R (.error e) s') { heap := h0, gens := g0, drawn := d0, toks := tk, os := os0 } := by
  obtain ⟨ep, hl⟩ := st.lst
  unfold Builtin.«list.__init__»
  refine wpAny_bind (wpAny_listItems hl rfl ?_)
  refine wpAny_bind (listUpdate_at hl rfl ?_ (by simp) (by simp))
  refine wpAny_bind (wpAny_pure ?_)
  have e1 : (h0.update S (Obj.mapSeq fun _ => #[])).get? S = some { cls := .type "list", data := .seq #[] ep } := Heap.get?_update_self _ hl rfl
  have oth1 : ∀ c, c ≠ S → (h0.update S (Obj.mapSeq fun _ => #[])).get? c = h0.get? c := fun c hc => Heap.get?_update_ne _ _ _ _ hc
  have ez : (h0.update S (Obj.mapSeq fun _ => #[])).get? z = _ := (oth1 z (Ne.symm hS.1)).trans st.zip
  show wpAny _ _ (Builtin.List.listExtendWith (.ref S) (.ref z) .none) _ _ _
  unfold Builtin.List.listExtendWith
  refine wpAny_bind (wpAny_typeOf_ref ez ?_)
  have ne : (Builtin.List.listSameRef (.ref S) (.ref z) || (Value.type "zip") == Value.type "list" || (Value.type "zip") == Value.type "tuple") = false := by
    have : (S == z) = false := by simpa using hS.1
    show ((S == z) || _ || _) = false
    rw [this]; rfl
  simp only [ne, Bool.false_eq_true, if_false]
  refine wpAny_bind (wpAny_pyIter_zip ez ?_)
  refine wpAny_bind (wpAny_holding (zip_hint ⟨_, ez, rfl⟩ ?_))
  simp only [Bool.true_or, if_true]
  refine wpAny_bind (wpAny_rule ?_)
  unfold Builtin.List.listTouch
  refine wpAny_bind (wpAny_bind (listUpdate_at e1 rfl ?_ (by simp) (by simp)))
  have e2 : ((h0.update S (Obj.mapSeq fun _ => #[])).update S (Obj.mapSeq fun x => x.push .none)).get? S = some { cls := .type "list", data := .seq #[.none] (ep + 1) } := Heap.get?_update_self _ e1 rfl
  refine listUpdate_at e2 rfl ?_ (by simp [sizeLine_eq]) (by simp)
  refine wpAny_pure ⟨by kernel_rfl, ?_⟩
  refine zip_loop hA ap hS hlt hn fin _ 0 _ tk #[] rfl (Nat.zero_le _) (st.st hS ?_ (fun c hc => ?_) ⟨_, Heap.get?_update_self _ e2 rfl⟩)
  · rw [Heap.size_update, Heap.size_update, Heap.size_update]
  · rw [Heap.get?_update_ne _ _ _ _ hc, Heap.get?_update_ne _ _ _ _ hc, oth1 c hc]
theorem call_list_zip {prog : Program} {w : World} {A : Around} {E : Value → Shared → Prop} {s : Shared} {Q : Value → Shared → Prop} {z TI TO i1 i2 l1 l2 : Addr} {xs ys : Array Value} (hA : A.handled = none) (ap : ZipApart z TI TO i1 i2 l1 l2) (hn : xs.size ≤ sizeLine)
    (iz : IsZip s.heap z TI TO .none) (ito : ∃ a b, IsPair s.heap TO a b) (iti : IsPair s.heap TI (.ref i1) (.ref i2)) (p1 : s.heap.IsListIter i1 l1 0) (p2 : s.heap.IsListIter i2 l2 0) (q1 : s.heap.IsList l1 xs) (q2 : s.heap.IsList l2 ys)
    (fin : ∀ (h : Heap) (tk : Nat) (acc : Array Value), (∃ ep, h.get? s.heap.objs.size = some { cls := .type "list", data := .seq acc ep }) → acc.size = min xs.size ys.size → (∀ c o, c ≠ z → c ≠ TO → c ≠ i1 → c ≠ i2 → s.heap.get? c = some o → h.get? c = some o) →
      (∀ j, j < acc.size → ∃ T x y, acc[j]? = some (.ref T) ∧ s.heap.objs.size < T ∧ xs[j]? = some x ∧ ys[j]? = some y ∧ IsPair h T x y) → (∀ i j T, i < j → j < acc.size → acc[i]? = some (.ref T) → acc[j]? = some (.ref T) → False) → Q (.ref s.heap.objs.size) { s with heap := h, toks := tk }) :
    wpAny (model prog w) A (call (.type "list") [.ref z]) Q E s := by
  have lz : z < s.heap.objs.size := Heap.lt_size iz
  have lTI : TI < s.heap.objs.size := Heap.lt_size iti
  have lTO : TO < s.heap.objs.size := by obtain ⟨a, b, h⟩ := ito; exact Heap.lt_size h
  have li1 : i1 < s.heap.objs.size := by obtain ⟨o, h, _⟩ := p1; exact Heap.lt_size h
  have li2 : i2 < s.heap.objs.size := by obtain ⟨o, h, _⟩ := p2; exact Heap.lt_size h
  have ll1 : l1 < s.heap.objs.size := by obtain ⟨o, h, _⟩ := q1; exact Heap.lt_size h
  have ll2 : l2 < s.heap.objs.size := by obtain ⟨o, h, _⟩ := q2; exact Heap.lt_size h
  let h0 : Heap := s.heap.push { cls := .type "list", data := .seq #[] }
  have kp : ∀ c o, s.heap.get? c = some o → h0.get? c = some o := fun c o e => Heap.get?_push_of_some _ e
  have sz : h0.objs.size = s.heap.objs.size + 1 := Heap.size_push ..
  have eS : h0.get? s.heap.objs.size = some { cls := .type "list", data := .seq #[] } := Heap.get?_push_size _ rfl
  refine callType_codes (Q₁ := fun v s1 => v = .ref s.heap.objs.size ∧ s1 = { s with heap := h0 }) F.called_list (F.typeCall_list_1 _) F.entry_list_init (code_list_new (.ref z) ⟨rfl, rfl⟩) ?_
  rintro obj s1 ⟨rfl, rfl⟩
  refine ⟨⟨_, eS, rfl⟩, F.args_list_init_2 _ _, ?_⟩
  have st : Z0 h0 z TI TO i1 i2 l1 l2 s.heap.objs.size xs ys := by
    obtain ⟨a, b, hto⟩ := ito
    refine ⟨kp _ _ iz, ⟨a, b, kp _ _ hto⟩, kp _ _ iti, ?_, ?_, ?_, ?_, ⟨_, eS⟩⟩
    · obtain ⟨o, a, b, c⟩ := p1; exact ⟨o, kp _ _ a, b, c⟩
    · obtain ⟨o, a, b, c⟩ := p2; exact ⟨o, kp _ _ a, b, c⟩
    · obtain ⟨o, a, b, c⟩ := q1; exact ⟨o, kp _ _ a, b, c⟩
    · obtain ⟨o, a, b, c⟩ := q2; exact ⟨o, kp _ _ a, b, c⟩
  refine zip_init (A := A.in1) hA ap ⟨Nat.ne_of_gt lz, Nat.ne_of_gt lTI, Nat.ne_of_gt lTO, Nat.ne_of_gt li1, Nat.ne_of_gt li2, Nat.ne_of_gt ll1, Nat.ne_of_gt ll2⟩ ⟨?_, ?_, ?_, ?_, ?_⟩ hn st fun h tk acc hl hs hf he hdi => ?_
  · rw [sz]; exact Nat.lt_succ_of_lt lz
  · rw [sz]; exact Nat.lt_succ_self _
  · rw [sz]; exact Nat.lt_succ_of_lt lTO
  · rw [sz]; exact Nat.lt_succ_of_lt li1
  · rw [sz]; exact Nat.lt_succ_of_lt li2
  · refine ⟨rfl, fin h tk acc hl hs (fun c o c1 c2 c3 c4 e => hf c o (Nat.ne_of_lt (Heap.lt_size e)) c1 c2 c3 c4 (kp c o e)) (fun j hj => ?_) hdi⟩
    obtain ⟨T, x, y, a1, a2, a3, a4, a5⟩ := he j hj
    exact ⟨T, x, y, a1, Nat.lt_of_lt_of_le (by rw [sz]; exact Nat.lt_succ_self _) a2, a3, a4, a5⟩
end Sb
end
section
set_option Elab.async false
set_option linter.all false
set_option maxRecDepth 100000
set_option maxHeartbeats 4000000
namespace Sb
open PySem PySem.Spec PyProof.Rows L2
theorem inv_add {X : Cx} {pins : List (Addr × Obj)} {σ : L2.St} {H : Hp} {s : Shared} {a : Addr} {u : HO} (I : L2.Inv X pins σ H s) (hex : X.ex = []) (n0 : X.s_0.heap.get? a = none) (f : FpOk X pins H a) (hok : ObjOk X.prog X.w (upd H a u) s.heap a u) : L2.Inv X pins σ (upd H a u) s := by
  obtain ⟨hn, hL, hF, _, hC, hP⟩ := f
  refine ⟨I.ok, I.os, I.bare, ⟨I.base.keep, I.base.slot, fun b o e n hx => ?_, I.base.there, fun b xs e => ?_, fun b o u' e => ?_, fun b ps e => ?_⟩, I.loc, I.cell, ?_, fun x c e => ?_, fun p q => ?_, fun b u' e => ?_, I.len⟩
  · have : b ≠ a := fun z => by subst z; rw [n0] at e; cases e
    rw [upd_ne this]; exact I.base.free b o e n hx
  · have := I.base.tups b xs e
    rw [upd_ne (ne_of_none this hn)]; exact this
  · have := I.base.frzs b o u' e
    rw [upd_ne (ne_of_none this hn)]; exact this
  · obtain ⟨more, this⟩ := I.base.tbls b ps e
    exact ⟨more, by rw [upd_ne (ne_of_none this hn)]; exact this⟩
  · rw [upd_ne (Ne.symm hL)]; exact I.free
  · rw [upd_ne (hC x c e)]; exact I.freeC x c e
  · obtain ⟨p1, p2, p3⟩ := I.pin p q
    exact ⟨p1, by rw [upd_ne (hP p q)]; exact p2, p3⟩
  · by_cases hb : b = a
    · subst hb
      rw [upd_same] at e; cases e
      exact hok
    · rw [upd_ne hb] at e
      exact (I.hok b u' e).stay (fun c v _ q => q) (fun c q => by rw [upd_ne (ne_of_none q hn)]; exact q) fun c xs q => by rw [upd_ne (ne_of_none q hn)]; exact q
theorem paired_of {R : V → Value → Prop} : ∀ {as : List V} {bs : List Value}, as.length = bs.length → (∀ (j : Nat) (a : V) (b : Value), as[j]? = some a → bs[j]? = some b → R a b) → Paired R as bs
  | [], [], _, _ => .nil
  | [], _ :: _, h, _ => by simp at h
  | _ :: _, [], h, _ => by simp at h
  | a :: as, b :: bs, h, g => .cons (g 0 a b rfl rfl) (paired_of (by simpa using h) fun j x y h1 h2 => g (j + 1) x y h1 h2)
/-- pairs laid one behind the other -/
def AddP : Hp → List (Addr × V × V) → Hp → Prop
  | H, [], H' => H' = H
  | H, p :: r, H' => H p.1 = none ∧ AddP (upd H p.1 (.tup [p.2.1, p.2.2])) r H'
theorem inv_adds {X : Cx} {pins : List (Addr × Obj)} {σ : L2.St} {s : Shared} (hex : X.ex = []) : ∀ (ps : List (Addr × V × V)) {H : Hp}, L2.Inv X pins σ H s →
    (∀ p ∈ ps, FpOk X pins H p.1 ∧ X.s_0.heap.get? p.1 = none ∧ ∃ x y, IsPair s.heap p.1 x y ∧ L2.RelV p.2.1 x ∧ L2.RelV p.2.2 y) → (ps.map (·.1)).Nodup →
    ∃ H', AddP H ps H' ∧ L2.Inv X pins σ H' s ∧ ∀ b, b ∉ ps.map (·.1) → H' b = H b
  | [], H, I, _, _ => ⟨H, rfl, I, fun _ _ => rfl⟩
  | p :: r, H, I, h, nd => by
    rw [List.map_cons, List.nodup_cons] at nd
    obtain ⟨f, n0, x, y, hp, rx, ry⟩ := h p List.mem_cons_self
    have ok : ObjOk X.prog X.w (upd H p.1 (.tup [p.2.1, p.2.2])) s.heap p.1 (.tup [p.2.1, p.2.2]) :=
      ⟨by show 2 ≤ sizeLine; decide, [x, y], .cons rx (.cons ry .nil), ⟨_, hp, rfl, _, rfl⟩⟩
    have I2 := inv_add I hex n0 f ok
    obtain ⟨H', a1, a2, a3⟩ := inv_adds hex r I2 (fun q hq => by
      obtain ⟨⟨f1, f2⟩, g⟩ := h q (List.mem_cons_of_mem _ hq)
      have ne : q.1 ≠ p.1 := fun z => nd.1 (z ▸ List.mem_map_of_mem hq)
      exact ⟨⟨by rw [upd_ne ne]; exact f1, f2⟩, g⟩) nd.2
    refine ⟨H', ⟨f.1, a1⟩, a2, fun b hb => ?_⟩
    rw [List.map_cons, List.mem_cons, not_or] at hb
    rw [a3 b hb.2, upd_ne hb.1]
def tLZ (K : PySem.W.Frag) (ta : TA) : TE := fun σ H Q => ta σ H fun vs H1 => ∃ a b xs ys, vs = [V.ref a, V.ref b] ∧ SqL K H1 a xs ∧ SqL K H1 b ys ∧
  ∀ (ps : List (Addr × V × V)) (H2 : Hp) (l : Addr), (ps.map fun p => (p.2.1, p.2.2)) = xs.zip ys → AddP H1 ps H2 → H2 l = none → Q (.ref l) (upd H2 l (.lst (ps.map fun p => V.ref p.1)))
theorem pe_listzip {X : Cx} {e1 e2 : Expr} {ta : TA} {p1 p2 pos1 pos2 : Pos} (hex : X.ex = []) (hc : X.calm = true) (hgl : Gl X "list") (hml : X.mg "list" = none) (hgz : Gl X "zip") (hmz : X.mg "zip" = none) (ha : PA X [e1, e2] ta)
    (hs : starEach [e1, e2] X.env = (false, eval e1 X.env) :: starEach [e2] X.env := by rfl) (hs2 : ((backTo pos2 (starEach [e2] X.env)).any fun x => x.fst) = false := by rfl)
    (hs3 : starEach [.Call (.Name "zip" p2) [e1, e2] [] pos2] X.env = (false, eval (.Call (.Name "zip" p2) [e1, e2] [] pos2) X.env) :: starEach [] X.env := by rfl) :
    PE X (.Call (.Name "list" p1) [.Call (.Name "zip" p2) [e1, e2] [] pos2] [] pos1) (tLZ X.K ta) := by
  refine ⟨fun pins s σ H Q I hh => ?_⟩
  refine Call_ (ld_blt I hgl hml boot_list (PyProof.Rows.callWith_type1 (spliced_more ?_ hs3) hs3 rfl))
  refine Call_ (ld_blt I hgz hmz boot_zip (PyProof.Rows.callWith_type1 (thn (ha.run pos2 pins s σ H _ I hh) fun us s1 ⟨vs, H1, I1, r1, q1⟩ => ?_) hs hs2))
  obtain ⟨a, b, xs, ys, ev, hqa, hqb, q⟩ := q1
  subst ev
  cases r1 with
  | cons ra rr =>
    cases rr with
    | cons rb rn =>
      cases rn
      cases ra
      cases rb
      obtain ⟨ia, va, la, za⟩ := I1.list hqa
      obtain ⟨ib, vb, lb, zb⟩ := I1.list hqb
      have lta : a < s1.heap.objs.size := by obtain ⟨o, n, h, _⟩ := la; exact Heap.lt_size h
      have ltb : b < s1.heap.objs.size := by obtain ⟨o, n, h, _⟩ := lb; exact Heap.lt_size h
      refine call_zip_2 la.isList lb.isList fun h' iz iti ito pi1 pi2 hsz kp => ?_
      refine spliced_none ?_
      generalize hsn : s1.heap.objs.size = m at *
      have lm : ∀ {c : Addr} {o : Obj}, s1.heap.get? c = some o → c < m := fun e => hsn ▸ Heap.lt_size e
      have N : ∀ {x y : Nat}, x < y → (x : Addr) ≠ y := fun h => Nat.ne_of_lt h
      have N' : ∀ {x y : Nat}, y < x → (x : Addr) ≠ y := fun h => Nat.ne_of_gt h
      have lta' : (a : Nat) < m := lta
      have ltb' : (b : Nat) < m := ltb
      have ap : ZipApart (m + 4) (m + 2) (m + 3) m (m + 1) a b :=
        ⟨N (by omega), N (by omega), N (by omega), N (by omega), N (by omega), N' (by omega), N' (by omega), N' (by omega), N' (by omega), N (by omega),
          N (Nat.lt_add_right _ lta'), N (Nat.lt_add_right _ lta'), N lta', N (Nat.lt_add_right _ lta'), N (Nat.lt_add_right _ ltb'), N (Nat.lt_add_right _ ltb'), N ltb', N (Nat.lt_add_right _ ltb')⟩
      have ka : h'.IsList a ia.toArray := by obtain ⟨o, h1, h2, h3⟩ := la.isList; exact ⟨o, kp _ _ h1, h2, h3⟩
      have kb : h'.IsList b ib.toArray := by obtain ⟨o, h1, h2, h3⟩ := lb.isList; exact ⟨o, kp _ _ h1, h2, h3⟩
      have lena : ia.length = xs.length := va.length.symm
      have lenb : ib.length = ys.length := vb.length.symm
      refine call_list_zip (I1.ok.hd hc) ap (by simp; omega) iz ⟨_, _, ito⟩ iti pi1 pi2 ka kb fun h tk acc hl hsz2 hf he hdi => ?_
      have keep : ∀ (c : Addr) (o : Obj), s1.heap.get? c = some o → h.get? c = some o := fun c o e => by
        have := lm e
        exact hf c o (N (Nat.lt_add_right _ this)) (N (Nat.lt_add_right _ this)) (N this) (N (Nat.lt_add_right _ this)) (kp c o e)
      have I2 : L2.Inv X pins σ H1 { s1 with heap := h, toks := tk } := I1.kept (t' := tk) keep
      have fresh : ∀ c : Addr, m ≤ c → FpOk X pins H1 c ∧ X.s_0.heap.get? c = none := fun c hcm => by
        have hcm' : s1.heap.objs.size ≤ c := by rw [hsn]; exact hcm
        refine ⟨I1.fpOk hcm' (I1.hok.fresh hcm'), ?_⟩
        cases q0 : X.s_0.heap.get? c with
        | none => rfl
        | some o =>
          obtain ⟨o', e'⟩ := I1.base.there c o q0 (by rw [hex]; simp)
          exact absurd (Heap.lt_size e') (Nat.not_lt.mpr hcm')
      let n : Nat := min xs.length ys.length
      have hn : acc.size = n := by rw [hsz2]; simp [n, lena, lenb]
      let tt : Nat → Addr := fun j => match acc[j]? with
        | some (.ref t) => t
        | _ => 0
      let ps : List (Addr × V × V) := (List.range n).map fun j => (tt j, xs.getD j .non, ys.getD j .non)
      have hat : ∀ j, j < n → ∃ u1 u2, acc[j]? = some (.ref (tt j)) ∧ h'.objs.size < tt j ∧ IsPair h (tt j) u1 u2 ∧ L2.RelV (xs.getD j .non) u1 ∧ L2.RelV (ys.getD j .non) u2 := fun j hj => by
        obtain ⟨t, x, y, a1, a2, a3, a4, a5⟩ := he j (by omega)
        have et : tt j = t := by simp only [tt, a1]
        have hjx : j < xs.length := by omega
        have hjy : j < ys.length := by omega
        obtain ⟨u1, hu1, r1⟩ := va.get (List.getElem?_eq_getElem hjx)
        obtain ⟨u2, hu2, r2⟩ := vb.get (List.getElem?_eq_getElem hjy)
        have e1 : x = u1 := by rw [List.getElem?_toArray, hu1] at a3; exact (Option.some.inj a3).symm
        have e2 : y = u2 := by rw [List.getElem?_toArray, hu2] at a4; exact (Option.some.inj a4).symm
        refine ⟨x, y, by rw [et]; exact a1, by rw [et]; exact a2, by rw [et]; exact a5, ?_, ?_⟩
        · rw [List.getD_eq_getElem?_getD, List.getElem?_eq_getElem hjx, e1]; exact r1
        · rw [List.getD_eq_getElem?_getD, List.getElem?_eq_getElem hjy, e2]; exact r2
      have nd : (ps.map (·.1)).Nodup := by
        rw [List.map_map]
        rw [List.nodup_iff_pairwise_ne, List.pairwise_map]
        refine List.Pairwise.imp_of_mem (R := fun i j => i < j) (fun {i j} hi hj hij z => ?_) (List.pairwise_lt_range)
        obtain ⟨_, _, a1, _⟩ := hat i (List.mem_range.mp hi)
        obtain ⟨_, _, b1, _⟩ := hat j (List.mem_range.mp hj)
        have z' : tt i = tt j := z
        rw [z'] at a1
        exact hdi i j (tt j) hij (by have := List.mem_range.mp hj; omega) a1 b1
      have hle : m ≤ h'.objs.size := by rw [hsz]; exact Nat.le_add_right _ _
      obtain ⟨H2, ad, I3, oth⟩ := inv_adds hex ps I2 (fun p hp => by
        obtain ⟨j, hj, rfl⟩ := List.mem_map.mp hp
        obtain ⟨u1, u2, b1, b2, b3, b4, b5⟩ := hat j (List.mem_range.mp hj)
        obtain ⟨f1, f2⟩ := fresh (tt j) (Nat.le_of_lt (Nat.lt_of_le_of_lt hle b2))
        exact ⟨f1, f2, u1, u2, b3, b4, b5⟩) nd
      -- the list
      obtain ⟨f1, f2⟩ := fresh h'.objs.size hle
      have nS : h'.objs.size ∉ ps.map (·.1) := fun z => by
        obtain ⟨p, hp, e⟩ := List.mem_map.mp z
        obtain ⟨j, hj, rfl⟩ := List.mem_map.mp hp
        obtain ⟨_, _, _, b2, _⟩ := hat j (List.mem_range.mp hj)
        have e' : tt j = h'.objs.size := e
        rw [e'] at b2
        exact absurd b2 (Nat.lt_irrefl _)
      have hHS : H2 h'.objs.size = none := (oth _ nS).trans f1.1
      obtain ⟨ep, hl⟩ := hl
      have len_ps : ps.length = n := by simp [ps]
      have hz : (ps.map fun p => (p.2.1, p.2.2)) = xs.zip ys := by
        rw [List.map_map]
        refine List.ext_getElem (by simp [n]) fun j h1 h2 => ?_
        rw [List.length_zip] at h2
        have hjx : j < xs.length := by omega
        have hjy : j < ys.length := by omega
        simp only [List.getElem_map, List.getElem_range, Function.comp, List.getElem_zip, List.getD_eq_getElem?_getD, List.getElem?_eq_getElem hjx, List.getElem?_eq_getElem hjy, Option.getD_some]
      have vals : Vals (ps.map fun p => V.ref p.1) acc.toList := by
        refine paired_of (by rw [List.length_map, len_ps, Array.length_toList, hn]) fun j x y h1 h2 => ?_
        have hj : j < n := by
          have := (List.getElem?_eq_some_iff.mp h1).1
          rw [List.length_map, len_ps] at this
          exact this
        obtain ⟨_, _, b1, _⟩ := hat j hj
        rw [Array.getElem?_toList, b1] at h2
        cases h2
        rw [List.map_map, List.getElem?_map, List.getElem?_range hj] at h1
        cases h1
        rfl
      have okL : ObjOk X.prog X.w (upd H2 h'.objs.size (.lst (ps.map fun p => V.ref p.1))) h h'.objs.size (.lst (ps.map fun p => V.ref p.1)) :=
        ⟨by rw [List.length_map, len_ps]; omega, acc.toList, ep, vals, hl⟩
      have I4 := inv_add (u := .lst (ps.map fun p => V.ref p.1)) I3 hex f2 ⟨hHS, f1.2⟩ okL
      exact ⟨.ref h'.objs.size, _, I4, rfl, q ps H2 _ hz ad hHS⟩
/-! ## list(zip(xs, ys)): data -/
section
variable {X : Cx} {T : Tb} {W : WX} {pos : Pos} {ra : AF}
def zipD (ds es : List D) : List D := List.zipWith (fun x y => D.tup [x, y]) ds es
/-- a list, told or an object -/
def lisD (S : Sto) : D → Option (List D)
  | .fl ds => some ds
  | .loc n => match S[n]? with
    | some (.lst ds) => some ds
    | _ => none
  | _ => none
def eLZ (ra : AF) : EF := fun τ => (ra τ).bnd fun ds S => match ds with
  | [x, y] => (lisD S x).bind fun ds => (lisD S y).bind fun es => some (.ok (.loc S.length) (S ++ [.lst (zipD ds es)]))
  | _ => none
theorem lis_sq {φ : List Addr} {S : Sto} {H : Hp} {d : D} {v : V} {ds : List D} (R : Rel T φ S H) (r : RD T H φ d v) (h : lisD S d = some ds) : ∃ a vs, v = .ref a ∧ H a = some (.lst vs) ∧ RDs T H φ ds vs := by
  cases d with
  | fl es =>
    cases h
    obtain ⟨a, vs, rfl, _, hH, s⟩ := r
    exact ⟨a, vs, rfl, hH, s⟩
  | loc n =>
    obtain ⟨a, rfl, hp⟩ := r
    simp only [lisD] at h
    split at h
    · rename_i q
      cases h
      obtain ⟨vs, k1, k2⟩ := R.obj n _ a q hp
      exact ⟨a, vs, rfl, k1, k2⟩
    · cases h
  | _ => cases h
theorem zip_rds {φ : List Addr} {S : Sto} : ∀ {ds es : List D} {xs ys : List V} {ps : List (Addr × V × V)} {H H2 : Hp}, Rel T φ S H → RDs T H φ ds xs → RDs T H φ es ys → (ps.map fun p => (p.2.1, p.2.2)) = xs.zip ys → AddP H ps H2 →
    Rel T φ S H2 ∧ Ext φ H φ H2 ∧ RDs T H2 φ (zipD ds es) (ps.map fun p => V.ref p.1)
  | [], es, xs, ys, ps, H, H2, R, r1, r2, hz, ad => by
    cases r1
    have : ps = [] := by
      rw [List.zip_nil_left] at hz
      exact List.map_eq_nil_iff.mp hz
    subst this
    cases ad
    exact ⟨R, .refl, rfl⟩
  | d :: ds, [], xs, ys, ps, H, H2, R, r1, r2, hz, ad => by
    cases r2
    have : ps = [] := by
      rw [List.zip_nil_right] at hz
      exact List.map_eq_nil_iff.mp hz
    subst this
    cases ad
    exact ⟨R, .refl, rfl⟩
  | d :: ds, e :: es, xs, ys, ps, H, H2, R, r1, r2, hz, ad => by
    obtain ⟨x, xr, rfl, rx, rxs⟩ := r1
    obtain ⟨y, yr, rfl, ry, rys⟩ := r2
    cases ps with
    | nil => rw [List.zip_cons_cons] at hz; cases hz
    | cons p r =>
      rw [List.zip_cons_cons, List.map_cons, List.cons.injEq, Prod.mk.injEq] at hz
      obtain ⟨⟨h1, h2⟩, h3⟩ := hz
      obtain ⟨hn, ad⟩ := ad
      subst h1 h2
      obtain ⟨R1, E1⟩ := R.garb (u := .tup [p.2.1, p.2.2]) hn
      obtain ⟨R2, E2, rs⟩ := zip_rds R1 (rxs.ext E1 _ _) (rys.ext E1 _ _) h3 ad
      have rd : RD T (upd H p.1 (.tup [p.2.1, p.2.2])) φ (.tup [d, e]) (.ref p.1) := ⟨p.1, [p.2.1, p.2.2], rfl, upd_same, p.2.1, [p.2.2], rfl, rx.ext E1 _ _, p.2.2, [], rfl, ry.ext E1 _ _, rfl⟩
      exact ⟨R2, E1.trans E2, .ref p.1, _, rfl, rd.ext E2 _ _, rs⟩
theorem d_listzip {e1 e2 : Expr} {p1 p2 pos1 pos2 : Pos} (hex : X.ex = []) (hc : X.calm = true) (hgl : Gl X "list") (hml : X.mg "list" = none) (hgz : Gl X "zip") (hmz : X.mg "zip" = none) (ha : PA X [e1, e2] (rdA T W ra))
    (hs : starEach [e1, e2] X.env = (false, eval e1 X.env) :: starEach [e2] X.env := by rfl) (hs2 : ((backTo pos2 (starEach [e2] X.env)).any fun x => x.fst) = false := by rfl)
    (hs3 : starEach [.Call (.Name "zip" p2) [e1, e2] [] pos2] X.env = (false, eval (.Call (.Name "zip" p2) [e1, e2] [] pos2) X.env) :: starEach [] X.env := by rfl) :
    PE X (.Call (.Name "list" p1) [.Call (.Name "zip" p2) [e1, e2] [] pos2] [] pos1) (rdE T W (eLZ ra)) :=
  (pe_listzip hex hc hgl hml hgz hmz ha hs hs2 hs3).imp fun σ H Q h => by
    obtain ⟨φ, S, τ, o, R, r, e, q⟩ := h
    refine rdA_bnd R r e q fun ds S1 vs H1 φ1 E1 R1 r1 e1 q1 => ?_
    split at e1
    · rename_i x y
      simp only [Option.bind_eq_some_iff] at e1
      obtain ⟨as, ea, bs, eb, e1⟩ := e1
      cases e1
      obtain ⟨v1, l1, rfl, rx, r2⟩ := r1
      obtain ⟨v2, l2, rfl, ry, r3⟩ := r2
      cases r3
      obtain ⟨a, xs, rfl, ha1, sa⟩ := lis_sq R1 rx ea
      obtain ⟨b, ys, rfl, hb1, sb⟩ := lis_sq R1 ry eb
      refine ⟨a, b, xs, ys, rfl, .inl (.inl ha1), .inl (.inl hb1), fun ps H2 l hz ad hl => ?_⟩
      obtain ⟨R2, E2, rs⟩ := zip_rds R1 sa sb hz ad
      have E3 : Ext φ1 H2 (φ1 ++ [l]) (upd H2 l (.lst (ps.map fun p => V.ref p.1))) := Ext.freshL hl
      obtain ⟨R3, _⟩ := R2.new (o := .lst (zipD as bs)) hl ⟨_, upd_same, rs.ext E3 _ _⟩
      exact q1 _ _ _ (E2.trans E3) R3 ⟨l, rfl, by rw [← R2.len]; simp⟩
    · cases e1
end
end Sb
end
section
set_option Elab.async false
set_option linter.all false
set_option maxRecDepth 100000
set_option maxHeartbeats 4000000
namespace Sb
open PySem PySem.Spec PyProof.Rows L2
section
variable {X : Cx} {T : Tb} {W : WX} {pos : Pos} {e : Expr} {fa : EF}
/-! ## xs[::-1] of a list -/
end
end Sb
end
section
set_option Elab.async false
set_option linter.all false
set_option maxRecDepth 100000
set_option maxHeartbeats 4000000
namespace Sb
open PySem PySem.Spec PyProof.Rows L2 GenW
open Sem (wp)

/-! ## generators that sleep stay as they are: what was shown of a state where none of them can be woken holds of the state itself -/
def poi : GenState → GenState
  | .suspended _ l c p fs cl => .suspended (fun _ => .unsupported "asleep") l c p fs cl
  | gs => gs
def slp : GenState → Bool
  | .suspended .. => true
  | _ => false
def plainG : GenState → Prop
  | .suspended _ _ _ _ fs _ => splitAtGen fs = none
  | _ => True
/-- s: the sleepers (B) cannot be woken; s₁: as it is -/
structure Asl (B : Nat → Option GenState) (s s₁ : Shared) : Prop where
  heap : s₁.heap = s.heap
  drawn : s₁.drawn = s.drawn
  toks : s₁.toks = s.toks
  os : s₁.os = s.os
  size : s₁.gens.size = s.gens.size
  at_ : ∀ i, i < s.gens.size → (∃ st, B i = some st ∧ slp st = true ∧ s₁.gens[i]? = some st ∧ s.gens[i]? = some (poi st)) ∨ (B i = none ∧ ∃ st, s₁.gens[i]? = some st ∧ s.gens[i]? = some st ∧ plainG st)
  out : ∀ i, s.gens.size ≤ i → B i = none
theorem bare_poi (st : GenState) : (poi st).bare = st.bare := by cases st <;> rfl
section
variable {B : Nat → Option GenState} {s s₁ : Shared}
theorem Asl.lt (a : Asl B s s₁) {i : Nat} {st : GenState} (h : s.gens[i]? = some st) : i < s.gens.size := (Array.getElem?_eq_some_iff.mp h).1
/-- a state that is not asleep is the same in both -/
theorem Asl.get (a : Asl B s s₁) {i : Nat} {st : GenState} (h : s.gens[i]? = some st) (n : B i = none) : s₁.gens[i]? = some st ∧ plainG st := by
  rcases a.at_ i (a.lt h) with ⟨st', e, _⟩ | ⟨_, st', e1, e2, e3⟩
  · rw [n] at e; cases e
  · rw [h] at e2; cases e2; exact ⟨e1, e3⟩
end
theorem Asl.bare {B : Nat → Option GenState} {s s₁ : Shared} (a : Asl B s s₁) : AllBare s.gens ↔ AllBare s₁.gens := by
  constructor
  · intro h y hy
    obtain ⟨i, hi, rfl⟩ := Array.mem_iff_getElem.mp hy
    have e := Array.getElem?_eq_getElem hi
    rcases a.at_ i (by rw [← a.size]; exact hi) with ⟨st', _, e1, e2, e3⟩ | ⟨_, st', e1, e2, e3⟩
    · rw [e] at e2; cases e2
      rw [← bare_poi]; exact h _ (Array.mem_of_getElem? e3)
    · rw [e] at e1; cases e1
      exact h _ (Array.mem_of_getElem? e2)
  · intro h y hy
    obtain ⟨i, hi, rfl⟩ := Array.mem_iff_getElem.mp hy
    have e := Array.getElem?_eq_getElem hi
    rcases a.at_ i hi with ⟨st', _, e1, e2, e3⟩ | ⟨_, st', e1, e2, e3⟩
    · rw [e] at e3; injection e3 with e3
      rw [e3, bare_poi]; exact h _ (Array.mem_of_getElem? e2)
    · rw [e] at e2; cases e2
      exact h _ (Array.mem_of_getElem? e1)
end Sb
end
section
set_option Elab.async false
set_option linter.all false
set_option maxRecDepth 100000
set_option maxHeartbeats 4000000
namespace Sb
open PySem PySem.Spec PyProof.Rows L2 GenW
open Sem (wp)

/-! ## one stretch of a generator's code: up to its next yield, or its end -/
abbrev EndP := End → Shared → Prop
section
variable {M : Model} {A : Around} {F : EndP} {c : Code} {fs : List Frame} {s : Shared}
variable {env : Env} {K : Flow → Sem PySem.Fin} {J : Value → Sem PySem.Fin} {gd : Bool → Bool} {lv : List Value → List Value}
end
section
variable {prog : Program} {w : World} {A : Around} {F : EndP} {fs : List Frame} {s : Shared} {env : Env} {c : Code}
  {K : Flow → Sem PySem.Fin} {J : Value → Sem PySem.Fin} {gd : Bool → Bool} {lv : List Value → List Value}
end
/-! ### woken by next -/
end Sb
end
section
set_option Elab.async false
set_option linter.all false
set_option maxRecDepth 100000
set_option maxHeartbeats 4000000
namespace Sb
open PySem PySem.Spec PyProof.Rows L2 GenW
open Sem (wp)

/-! ## the heap below an address -/
def cut (h : Heap) (n : Nat) : Heap := { h with objs := h.objs.extract 0 n }
/-! ## the context in which a stretch of a generator's code runs -/
section
variable {X : Cx} {T : Tb} {pins : List (Addr × Obj)} {a : Addr} {go : Obj} {env : Env} {N : List Str}
/-! ## how a stretch ends: the data that are still to come -/
end
/-! ## a generator's data are determined -/
end Sb
end
section
set_option Elab.async false
set_option linter.all false
set_option maxRecDepth 100000
set_option maxHeartbeats 4000000
namespace Sb
open PySem PySem.Spec PyProof.Rows L2 GenW
open Sem (wp)

/-! ## a generator def: what its calls hand out -/
section
variable {P : Program} {w : World} {mg : Str → Option Value} {base : Heap} {x qual : Str} {params : Arguments} {body : List Stmt} {scope : Scope} {fd : FuncData} {T : Tb} {k : Nat}
end

/-! ## for x in g(..) -/
section
variable {X : Cx} {T : Tb} {W : WX} {pos pos' p : Pos} {e tg : Expr} {es : List Expr} {ra : AF} {body : List Stmt} {g : TF} {vs : List Nat} {fbd : SF} {k n : Nat} {x : Str} {y : List D → Option (List D)}
end
end Sb
end
section
set_option Elab.async false
set_option linter.all false
set_option maxRecDepth 100000
set_option maxHeartbeats 4000000
namespace Sb
open PySem PySem.Spec PyProof.Rows L2
section
variable {X : Cx} {T : Tb}
/-! ## list * n -/
def gMulL : G2 := fun x y S => match x, y with
  | .fl ds, .int k => if 0 ≤ k ∧ k ≤ 1000 ∧ ds.length ≤ 1000 then some (.fl (List.replicate k.toNat ds).flatten, S) else none
  | x, y => gMulX x y S
theorem rds_rep {H : Hp} {φ : List Addr} {ds : List D} {vs : List V} (r : RDs T H φ ds vs) : ∀ n : Nat, RDs T H φ (List.replicate n ds).flatten (List.replicate n vs).flatten
  | 0 => rfl
  | n + 1 => by
    rw [List.replicate_succ, List.replicate_succ, List.flatten_cons, List.flatten_cons]
    exact r.app (rds_rep r n)
theorem o_mulL : OpR X (binaryOp .Mult) (rG2 T gMulL) := by
  intro pins s σ H x y v u Q I rx ry h
  obtain ⟨φ, S, d1, d2, R, r1, r2, f⟩ := h
  have other : gMulL d1 d2 S = gMulX d1 d2 S → wpAny (model X.prog X.w) X.A (binaryOp .Mult v u) (EP X pins σ Q) X.xe s := fun e => by
    rw [e] at f
    exact o_mulX pins s σ H x y v u Q I rx ry ⟨φ, S, d1, d2, R, r1, r2, f⟩
  cases d1 with
  | fl ds =>
    cases d2 with
    | int k =>
      simp only [gMulL] at f
      split at f
      · rename_i hc
        have hz := sizeLine_eq
        obtain ⟨p, vs, rfl, hp, k1, s1⟩ := r1
        cases r2
        have l1 := s1.length
        have hm : vs.length * k.toNat ≤ 1000 * 1000 := Nat.mul_le_mul (by omega) (by omega)
        exact op_rep pins s σ H _ _ v u Q I rx ry ⟨p, k, vs, rfl, rfl, k1, by omega, by omega, by omega, fun z hz' => f.fl R (rds_rep s1 _) z hz'⟩
      · obtain ⟨_, _, z, _⟩ := f; cases z
    | _ => exact other rfl
  | _ => exact other rfl
end
end Sb
end
section
set_option Elab.async false
set_option linter.all false
set_option maxRecDepth 100000
set_option maxHeartbeats 4000000
namespace Sb
open PySem PySem.Spec PyProof.Rows L2
section
variable {X : Cx} {T : Tb}
theorem call_list_ofStr (hc : X.calm = true) : CallR X (.type "list") (fun xs H Q => ∃ z, xs = [.str z] ∧ z.cps.size ≤ sizeLine ∧ ∀ l, H l = none → Q (.ref l) (upd H l (.lst (z.cps.toList.map fun c => V.str ⟨#[c]⟩)))) := by
  intro pins s σ H xs us Q I r h
  obtain ⟨z, rfl, hz, q⟩ := h
  obtain ⟨u, rfl, t, rfl⟩ := vals1 r
  refine call_list_str (I.ok.hd hc) z t (fun h' tk acc c' kp e it => ?_) hz
  have vals : Vals (z.cps.toList.map fun c => V.str ⟨#[c]⟩) acc.toList := by
    refine paired_of (by rw [List.length_map, Array.length_toList, Array.length_toList, it.1]) fun j x y h1 h2 => ?_
    rw [Array.getElem?_toList] at h2
    obtain ⟨c, u, hc1, rfl⟩ := it.2 j y h2
    rw [List.getElem?_map, Array.getElem?_toList, hc1] at h1
    cases h1
    exact ⟨u, rfl⟩
  exact ⟨.ref s.heap.objs.size, _, I.laid (t' := tk) kp (Nat.le_refl _) (show ObjOk X.prog X.w _ h' _ (.lst _) from ⟨by rw [List.length_map, Array.length_toList]; exact hz, acc.toList, c', vals, e⟩), rfl, q _ (I.hok.fresh (Nat.le_refl _))⟩
def chs (z : Str) : List D := z.cps.toList.map fun c => D.str ⟨#[c]⟩
theorem chs_rds {φ : List Addr} {H : Hp} : ∀ l : List Nat, RDs T H φ (l.map fun c => D.str ⟨#[c]⟩) (l.map fun c => V.str ⟨#[c]⟩)
  | [] => rfl
  | c :: r => ⟨_, _, rfl, rfl, chs_rds r⟩
def gListX : GN := fun ds S => match ds with
  | [.str z] => if z.cps.size ≤ sizeLine then some (.loc S.length, S ++ [.lst (chs z)]) else none
  | ds => gList ds S
theorem c_listX (hK : T.K = X.K) (hc : X.calm = true) : CallR X (.type "list") (rGN T gListX) := CallR.imp (CallR.or (c_list (T := T) hK) (call_list_ofStr hc)) fun xs H Q h => by
  obtain ⟨φ, S, ds, R, r, f⟩ := h
  unfold gListX at f
  split at f
  · rename_i z
    split at f
    · rename_i hz
      obtain ⟨v, r', e, h1, h2⟩ := r
      cases h1; cases h2; subst e
      exact .inr ⟨z, rfl, hz, fun l hl => f.lst R (chs_rds _) l hl⟩
    · obtain ⟨_, _, z, _⟩ := f; cases z
  · exact .inl ⟨φ, S, _, R, r, f⟩
end
end Sb
end
section
set_option Elab.async false
set_option linter.all false
set_option maxRecDepth 100000
set_option maxHeartbeats 4000000
namespace Sb
open PySem PySem.Spec PyProof.Rows L2
/-! ## dicts: read, asked and written; told ones too -/
section
variable {X : Cx} {T : Tb} {W : WX} {pos : Pos} {a b e : Expr} {fe fa fb : EF}
/-! ## sum(xs), gcd -/
def gGcd : GN := fun ds S => match ds with
  | [.int i, .int j] => some (.int ((Nat.gcd i.natAbs j.natAbs : Nat) : Int), S)
  | _ => none
theorem c_gcd : CallR X (.builtin "math.gcd") (rGN T gGcd) := CallR.imp cr_gcd fun xs H Q h => by
  obtain ⟨φ, S, ds, R, r, f⟩ := h
  unfold gGcd at f
  split at f
  · rename_i i j
    obtain ⟨v, l, rfl, r1, v2, l2, rfl, r2, r3⟩ := r
    cases r3; cases r1; cases r2
    exact ⟨i, j, rfl, f.val R rfl⟩
  · obtain ⟨_, _, z, _⟩ := f; cases z
end
end Sb
end
section
set_option Elab.async false
set_option linter.all false
set_option maxRecDepth 100000
namespace Sb
open PySem PySem.Spec PyProof.Rows L2
noncomputable section
def m_x_reel_reel : SF := sSeq (sSet 1 (eB gPow (eC (.int 3)) (eC (.int 60)))) (sSeq (sFor (iSeq (fz (eSlX (eVar 0) (oNo) (oSo (eC (.int 63)))))) (tN 2) (sSet 1 (eB gMod (eB gAdd (eB gAdd (eB gMulX (eVar 1) (eVar 1)) (eB gMod (eVar 2) (eC (.int 1000000000000000003)))) (eC (.int 11))) (eB gSub (eB gMulX (eB gPow (eC (.int 2)) (eC (.int 64))) (eB gPow (eC (.int 2)) (eC (.int 63)))) (eC (.int 1)))))) (sSeq (sSet 3 (fz (eLc (iSeq (fz (eSlX (eVar 0) (oNo) (oSo (eC (.int 63)))))) (tN 2) (tB (eB gGeI (eVar 2) (eB gPow (eC (.int 10)) (eC (.int 18))))) (eB gSub (eVar 2) (eB gPow (eC (.int 10)) (eC (.int 18)))) [2]))) (sRt (eLst (aCons (eVar 3) (aCons (eB gAdd (fz (eLc (iSeq (fz (eSlX (eVar 0) (oNo) (oSo (eC (.int 63)))))) (tN 2) (tAll) (eB gMod (eVar 2) (eC (.int 1000003))) [2])) (fz (eLst (aCons (eC (.int 41)) (aNil))))) (aCons (eC (.int 0)) (aCons (eVar 1) (aNil)))))))))
abbrev M_x_reel_reel : List D → M D := fnM 4 (m_x_reel_reel)
def m_reel_draw : SF := sSeq (sIf (tB (eB (gEq true) (eB gIx (eVar 0) (eC (.int 0))) (fz (eLst (aNil))))) (sSeq (sSet 2 (eB gIx (eB gIx (eVar 0) (eC (.int 0))) (eC (.int 0)))) (sSeq (sPut (eB gAdd (eB gMulL (fz (eLst (aCons (eB gDiv (eVar 2) (eVar 1)) (aNil)))) (eCB gInt (aCons (eB gGeI (eVar 2) (eVar 1)) (aNil)))) (eSlX (eB gIx (eVar 0) (eC (.int 0))) (oSo (eC (.int 1))) (oNo))) (eVar 0) (eC (.int 0))) (sRt (eB gMod (eVar 2) (eVar 1))))) (sNop)) (sSeq (sPut (eB gAdd (eB gIx (eVar 0) (eC (.int 2))) (eC (.int 1))) (eVar 0) (eC (.int 2))) (sSeq (sSet 3 (eB gIx (eB gIx (eVar 0) (eC (.int 1))) (eB gMod (eB gIx (eVar 0) (eC (.int 2))) (eCB gLenX (aCons (eB gIx (eVar 0) (eC (.int 1))) (aNil)))))) (sSeq (sSet 4 (eB gAdd (eB gAdd (eB gMulX (eB gIx (eVar 0) (eC (.int 3))) (eB gIx (eVar 0) (eC (.int 3)))) (eB gMulX (eB gAdd (eVar 3) (eC (.int 7))) (eC (.int 69621)))) (eB gMulX (eB gIx (eVar 0) (eC (.int 2))) (eC (.int 1000003))))) (sSeq (sPut (eB gMod (eVar 4) (eB gSub (eB gMulX (eB gPow (eC (.int 2)) (eC (.int 64))) (eB gPow (eC (.int 2)) (eC (.int 63)))) (eC (.int 1)))) (eVar 0) (eC (.int 3))) (sRt (eB gMod (eB gDiv (eB gIx (eVar 0) (eC (.int 3))) (eB gPow (eC (.int 2)) (eC (.int 40)))) (eVar 1)))))))
abbrev M_reel_draw : List D → M D := fnM 5 (m_reel_draw)
def m_reel_names : SF := sSeq (sSet 2 (eC (.str "abcdefghijklmnopqrstuvwxyz"))) (sSeq (sSet 3 (eB gAdd (eB gAdd (eCB gListX (aCons (eVar 2) (aNil))) (eLc (iSeq (eSlX (eVar 2) (oNo) (oSo (eC (.int 12))))) (tN 4) (tAll) (eB gAdd (eC (.str "x")) (eVar 4)) [4])) (eLst (aCons (eC (.str "abcdefgh")) (aCons (eC (.str "zzzzzzzz")) (aNil)))))) (sRt (fz (eLc (iRg1 (aCons (eVar 1) (aNil))) (tN 5) (tAll) (eBM "list" gPopAt (eVar 3) (aCons (eCl (M_reel_draw) 2 (aCons (eVar 0) (aCons (eCB gLenX (aCons (eVar 3) (aNil))) (aNil)))) (aNil))) [5]))))
abbrev M_reel_names : List D → M D := fnM 6 (m_reel_names)
def m_reel_depths : SF := sSeq (sSet 2 (eCl (M_reel_draw) 2 (aCons (eVar 0) (aCons (eC (.int 6)) (aNil))))) (sSeq (sSet 3 (eLst (aNil))) (sSeq (sFor (iRg1 (aCons (eVar 1) (aNil))) (tN 4) (sSeq (sSet 5 (fz (eLst (aCons (eCl (M_reel_draw) 2 (aCons (eVar 0) (aCons (eVar 1) (aNil)))) (aCons (eCl (M_reel_draw) 2 (aCons (eVar 0) (aCons (eC (.int 4)) (aNil)))) (aCons (eCB gMax (aCons (eC (.int 0)) (aCons (eB gSub (eB gAdd (eVar 4) (eCl (M_reel_draw) 2 (aCons (eVar 0) (aCons (eC (.int 4)) (aNil))))) (eC (.int 1))) (aNil)))) (aCons (eCB gMin2 (aCons (eB gAdd (eVar 4) (eC (.int 1))) (aCons (eB gSub (eVar 1) (eC (.int 1))) (aNil)))) (aNil)))))))) (sSeq (sSet 5 (eB gAdd (eVar 5) (fz (eLst (aCons (eB gDiv (eVar 1) (eC (.int 2))) (aCons (eB gIx (fz (eLst (aCons (eVar 4) (aCons (eB gAdd (eVar 4) (eC (.int 1))) (aCons (eB gPow (eC (.int 10)) (eC (.int 29))) (aCons (eVar 1) (aNil))))))) (eCl (M_reel_draw) 2 (aCons (eVar 0) (aCons (eC (.int 4)) (aNil))))) (aNil))))))) (sEx (eBM "list" gAppend (eVar 3) (aCons (eB gIx (eVar 5) (eVar 2)) (aNil))))))) (sRt (eVar 3))))
abbrev M_reel_depths : List D → M D := fnM 6 (m_reel_depths)
def m_reel_deck : SF := sSeq (sSet 2 (eCB gMin2 (aCons (eVar 1) (aCons (eB gIx (fz (eLst (aCons (eB gAdd (eC (.int 1)) (eCl (M_reel_draw) 2 (aCons (eVar 0) (aCons (eC (.int 6)) (aNil))))) (aCons (eB gAdd (eC (.int 2)) (eCl (M_reel_draw) 2 (aCons (eVar 0) (aCons (eC (.int 9)) (aNil))))) (aCons (eB gAdd (eC (.int 1)) (eCl (M_reel_draw) 2 (aCons (eVar 0) (aCons (eVar 1) (aNil))))) (aNil)))))) (eCl (M_reel_draw) 2 (aCons (eVar 0) (aCons (eC (.int 3)) (aNil))))) (aNil))))) (sSeq (sSet 3 (eLZ (aCons (fz (eCl (M_reel_names) 2 (aCons (eVar 0) (aCons (eVar 2) (aNil))))) (aCons (fz (eCl (M_reel_depths) 2 (aCons (eVar 0) (aCons (eVar 2) (aNil))))) (aNil))))) (sSeq (sIf (tB (eB (gEq false) (eCl (M_reel_draw) 2 (aCons (eVar 0) (aCons (eC (.int 3)) (aNil)))) (eC (.int 0)))) (sSet 3 (eLc (iRg1 (aCons (eVar 2) (aNil))) (tN 4) (tAll) (eBM "list" gPopAt (eVar 3) (aCons (eCl (M_reel_draw) 2 (aCons (eVar 0) (aCons (eCB gLenX (aCons (eVar 3) (aNil))) (aNil)))) (aNil))) [4])) (sNop)) (sRt (eCB gTuple (aCons (eVar 3) (aNil))))))
abbrev M_reel_deck : List D → M D := fnM 5 (m_reel_deck)
def m_reel_reach : SF := sRt (eCB gMin2 (aCons (eB gIx (eVar 1) (eC (.int 1))) (aCons (eB gSub (eCB gLenX (aCons (eVar 0) (aNil))) (eC (.int 1))) (aNil))))
abbrev M_reel_reach : List D → M D := fnM 2 (m_reel_reach)
def m_reel_slid : SF := sSeq (sSet 1 (eCl (M_reel_reach) 2 (aCons (eVar 0) (aCons (eB gIx (eVar 0) (eC (.int 0))) (aNil))))) (sRt (eB gAdd (eB gAdd (eSlX (eVar 0) (oSo (eC (.int 1))) (oSo (eB gAdd (eVar 1) (eC (.int 1))))) (eSlX (eVar 0) (oNo) (oSo (eC (.int 1))))) (eSlX (eVar 0) (oSo (eB gAdd (eVar 1) (eC (.int 1)))) (oNo))))
abbrev M_reel_slid : List D → M D := fnM 2 (m_reel_slid)
def m_reel_dressed (rec : List D → M D) : SF := sSeq (sIf (tB (eIs "tuple" (eVar 1))) (sSeq (sSet 2 (fz (eLc (iSeq (eVar 1)) (tN 3) (tAll) (fz (eCl rec 2 (aCons (eVar 0) (aCons (eVar 3) (aNil))))) [3]))) (sRt (eIf (tB (eB (gEq false) (eCl (M_reel_draw) 2 (aCons (eVar 0) (aCons (eC (.int 2)) (aNil)))) (eC (.int 0)))) (eVar 2) (eCB gTuple (aCons (eVar 2) (aNil)))))) (sNop)) (sRt (eVar 1))
def M_reel_dressed : Nat → List D → M D
  | 0 => fun _ _ => none
  | n + 1 => fnM 4 (m_reel_dressed (M_reel_dressed n))
end
end Sb
end
section
set_option Elab.async false
set_option linter.all false
set_option maxRecDepth 100000
namespace Sb
open PySem PySem.Spec PyProof.Rows L2
noncomputable section
def m_reel_closed : SF := sSeq (sSet 1 (fz (eLc (iSeq (eVar 0)) (tN 2) (tAll) (eCl (M_reel_reach) 2 (aCons (eVar 0) (aCons (eVar 2) (aNil)))) [2]))) (sRt (eB gIx (fz (eLc (iRg2 (aCons (eC (.int 1)) (aCons (eB gAdd (eCB gLenX (aCons (eVar 0) (aNil))) (eC (.int 1))) (aNil)))) (tN 3) (tB (eB gLtI (eCB gMax (aCons (eSlX (eVar 1) (oNo) (oSo (eVar 3))) (aNil))) (eVar 3))) (eVar 3) [3])) (eC (.int 0))))
abbrev M_reel_closed : List D → M D := fnM 4 (m_reel_closed)
def m_reel_away : SF := sRt (fz (eLc (iRg1 (aCons (eCl (M_reel_closed) 1 (aCons (eVar 0) (aNil))) (aNil))) (tN 1) (tB (eB gGtI (eVar 1) (eCl (M_reel_reach) 2 (aCons (eVar 0) (aCons (eB gIx (eVar 0) (eVar 1)) (aNil)))))) (eVar 1) [1]))
abbrev M_reel_away : List D → M D := fnM 2 (m_reel_away)
end
end Sb
end
section
set_option Elab.async false
set_option linter.all false
set_option maxRecDepth 100000
namespace Sb
open PySem PySem.Spec PyProof.Rows L2
noncomputable section
end
end Sb
end
section
set_option Elab.async false
set_option linter.all false
set_option maxRecDepth 100000
set_option maxHeartbeats 4000000
namespace Sb
open PySem PySem.Spec PyProof.Rows L2
/-! ## gcd, told by the module's own name -/
def gcdB (K : PySem.W.Frag) : Bool := He.eqO (PySem.W.nsIn K mainGlobals "gcd") (some (some (.builtin "math.gcd")))
theorem gcd_of {K : PySem.W.Frag} {h : Heap} {mg : Str → Option Value} (X : K.In h) (G : h.Ns mainGlobals mg) (c : gcdB K = true) : mg "gcd" = some (.builtin "math.gcd") := PySem.W.mg_of X G (He.eqO_ok c)
theorem d_callBf {X : Cx} {T : Tb} {W : WX} {e : Expr} {es : List Expr} {pos : Pos} {ra : AF} {id : String} {x : Str} {p : Pos} {g : GN} (hc : CallR X (.builtin id) (rGN T g)) (hg : Gl X x) (hm : X.mg x = some (.builtin id)) (ha : PA X (e :: es) (rdA T W ra)) (hdb : (x == ("__debug__" : Str)) = false := by decide)
    (he : starEach (e :: es) X.env = (false, eval e X.env) :: starEach es X.env := by rfl) (hpl : (backTo pos (starEach es X.env)).any (·.1) = false := by rfl) : PE X (.Call (.Name x p) (e :: es) [] pos) (rdE T W (eCB g ra)) :=
  (pe_callBfun hc hg hm ha hdb he hpl).imp fun _ _ _ h => cb_of h
end Sb
end
section
set_option Elab.async false
set_option linter.all false
set_option maxRecDepth 100000
set_option maxHeartbeats 4000000
namespace Sb
open PySem PySem.Spec PyProof.Rows L2
/-! ## for k in d, d a told dict: it stays locked from then on -/
section
variable {X : Cx} {T : Tb} {W : WX} {tg e : Expr} {td : TE} {fa : EF}
end
end Sb
end
section
set_option Elab.async false
set_option linter.all false
set_option maxRecDepth 100000
set_option maxHeartbeats 4000000
namespace Sb
open PySem PySem.Spec PyProof.Rows L2
section
variable {X : Cx} {T : Tb} {W : WX} {o e f : Expr} {apos cpos : Pos} {fo fk fd : EF}
end
end Sb
end
section
set_option Elab.async false
set_option linter.all false
set_option maxRecDepth 100000
set_option maxHeartbeats 4000000
namespace Sb
open PySem PySem.Spec PyProof.Rows L2
section
variable {X : Cx} {T : Tb}
/-! ## a dict unlike the empty one -/
end
end Sb
end
section
set_option Elab.async false
set_option linter.all false
set_option maxRecDepth 100000
set_option maxHeartbeats 4000000
namespace Sb
open PySem PySem.Spec PyProof.Rows L2
/-! ## range(i, j, -1) -/
section
variable {X : Cx} {T : Tb} {W : WX} {ra : AF}
end
end Sb
end
section
set_option Elab.async false
set_option linter.all false
set_option maxRecDepth 100000
set_option maxHeartbeats 4000000
namespace Sb
open PySem PySem.Spec PyProof.Rows L2
section
variable {X : Cx} {T : Tb} {W : WX} {pos : Pos}
/-! ## five names as a target -/
end
end Sb
end
section
set_option Elab.async false
set_option linter.all false
set_option maxRecDepth 100000
set_option maxHeartbeats 4000000
namespace Sb
open PySem PySem.Spec PyProof.Rows L2
section
variable {X : Cx} {T : Tb}
/-! ## tuple * n -/
end
end Sb
end
section
set_option Elab.async false
set_option linter.all false
set_option maxRecDepth 100000
set_option maxHeartbeats 4000000
namespace Sb
open PySem PySem.Spec PyProof.Rows L2
/-! ## any(e for x in xs): the element may read names of the def -/
def onlyF (fv : List Nat) (σ : L2.St) : L2.St := σ.mapIdx fun i v => if i ∈ fv then v else none
section
variable {X : Cx} {elt iter tg : Expr} {scope : Scope} {gpos : Pos}
/-! ### the consumer -/
end
end Sb
end
section
set_option Elab.async false
set_option linter.all false
set_option maxRecDepth 100000
set_option maxHeartbeats 4000000
namespace Sb
open PySem PySem.Spec PyProof.Rows L2
section
variable {X : Cx} {elt iter tg : Expr} {scope : Scope} {gpos pos p : Pos} {k : Nat} {c P : Addr} {wi : TI} {g : TG} {te : TE} {fv : List Nat}
end
end Sb
end
section
set_option Elab.async false
set_option linter.all false
set_option maxRecDepth 100000
set_option maxHeartbeats 4000000
namespace Sb
open PySem PySem.Spec PyProof.Rows L2
section
variable {X : Cx} {T : Tb} {W : WX} {elt iter tg : Expr} {scope : Scope} {pos : Pos} {fi : IF} {g : TF} {fe : EF}
def onlyD (fv : List Nat) (τ : Sl) : Sl := τ.mapIdx fun i v => if i ∈ fv then v else none
theorem RSl.only {H : Hp} {φ : List Addr} {τ : Sl} {σ : L2.St} (r : RSl T H φ τ σ) (fv : List Nat) : RSl T H φ (onlyD fv τ) (onlyF fv σ) := by
  refine ⟨by simp [onlyD, onlyF, r.len], fun j d hj => ?_⟩
  unfold onlyD at hj
  rw [List.getElem?_mapIdx] at hj
  cases e : τ[j]? with
  | none => rw [e] at hj; cases hj
  | some o =>
    rw [e] at hj
    simp only [Option.map_some, Option.some.injEq] at hj
    split at hj
    · rename_i hi
      subst hj
      obtain ⟨v, h1, h2⟩ := r.at_ j d e
      refine ⟨v, ?_, h2⟩
      unfold onlyF
      rw [List.getElem?_mapIdx, h1]
      simp [hi]
    · cases hj
end
end Sb
end
section
set_option Elab.async false
set_option linter.all false
set_option maxRecDepth 100000
set_option maxHeartbeats 4000000
namespace Sb
open PySem PySem.Spec PyProof.Rows L2
section
variable {X : Cx} {T : Tb} {W : WX}
/-! ## sorted of a list of texts -/
end
end Sb
end
section
set_option Elab.async false
set_option linter.all false
set_option maxRecDepth 100000
set_option maxHeartbeats 4000000
namespace Sb
open PySem PySem.Spec PyProof.Rows L2 PySem.W
section
variable {X : Cx} {T : Tb} {W : WX} {pos : Pos} {e e2 : Expr} {ra : AF}
/-! ## for x, y in zip(xs, ys): two told lists, or two tuples -/
def zipAt (xs ys : List D) (i : Nat) : Option D := match xs[i]?, ys[i]? with
  | some x, some y => some (.tup [x, y])
  | _, _ => none
def wkZ (xs ys : List D) : Wk := ⟨min xs.length ys.length, fun i _ => some (zipAt xs ys i)⟩
def iZp (ra : AF) : IF := fun τ => (ra τ).bnd fun ds S => match ds with
  | [.fl xs, .fl ys] => some (.ok (wkZ xs ys) S)
  | [.tup xs, .tup ys] => some (.ok (wkZ xs ys) S)
  | _ => none
theorem zipAt_some {xs ys : List D} {i : Nat} {d : D} (h : zipAt xs ys i = some d) : ∃ x y, xs[i]? = some x ∧ ys[i]? = some y ∧ d = .tup [x, y] := by
  unfold zipAt at h
  split at h
  · rename_i x y h1 h2
    cases h
    exact ⟨x, y, h1, h2, rfl⟩
  · cases h
theorem zipAt_none {xs ys : List D} {i : Nat} (h : zipAt xs ys i = none) : xs.length ≤ i ∨ ys.length ≤ i := by
  apply Classical.byContradiction
  intro q
  have h1 := List.getElem?_eq_getElem (l := xs) (i := i) (by omega)
  have h2 := List.getElem?_eq_getElem (l := ys) (i := i) (by omega)
  unfold zipAt at h
  rw [h1, h2] at h
  cases h
theorem sv_zipL {φ0 : List Addr} {H0 : Hp} {xs ys : List D} {us ws : List V} {a b : Addr} (ha : a ∉ φ0) (h1 : H0 a = some (.lst us)) (r1 : RDs T H0 φ0 xs us) (hb : b ∉ φ0) (h2 : H0 b = some (.lst ws)) (r2 : RDs T H0 φ0 ys ws) : Serves T φ0 H0 (wkZ xs ys) (Itz X.K a b) := by
  intro φ S H i E R
  have k1 := E.lst _ _ ha h1
  have k2 := E.lst _ _ hb h2
  have s1 := r1.ext E _ _
  have s2 := r2.ext E _ _
  refine ⟨fun d hd => ?_, fun hn => ?_⟩
  · obtain ⟨x, y, hx, hy, rfl⟩ := zipAt_some (Option.some.inj hd)
    obtain ⟨v, hv, rv⟩ := s1.get hx
    obtain ⟨u, hu, ru⟩ := s2.get hy
    refine ⟨⟨us, ws, v, u, .of k1, .of k2, hv, hu⟩, fun z H' yl => ?_⟩
    obtain ⟨P, v', u', rfl, hP, rfl, q1, q2⟩ := yl
    have e1 := q1 us (.of k1)
    have e2 := q2 ws (.of k2)
    rw [hv] at e1
    rw [hu] at e2
    cases e1
    cases e2
    obtain ⟨R3, E3⟩ := R.garb (u := .tup [v, u]) hP
    exact ⟨E3, R3, P, _, rfl, upd_same, v, _, rfl, rv.ext E3 _ _, u, _, rfl, ru.ext E3 _ _, rfl⟩
  · have l1 := s1.length
    have l2 := s2.length
    refine ⟨us, ws, .of k1, .of k2, ?_⟩
    rcases zipAt_none (Option.some.inj hn) with q | q
    · exact .inl (by omega)
    · exact .inr (by omega)
theorem sv_zipT {φ0 : List Addr} {H0 : Hp} {xs ys : List D} {us ws : List V} {a b : Addr} (h1 : H0 a = some (.tup us)) (r1 : RDs T H0 φ0 xs us) (h2 : H0 b = some (.tup ws)) (r2 : RDs T H0 φ0 ys ws) : Serves T φ0 H0 (wkZ xs ys) (RZ.ItzT X.K a b) := by
  intro φ S H i E R
  have k1 := E.tup _ _ h1
  have k2 := E.tup _ _ h2
  have s1 := r1.ext E _ _
  have s2 := r2.ext E _ _
  refine ⟨fun d hd => ?_, fun hn => ?_⟩
  · obtain ⟨x, y, hx, hy, rfl⟩ := zipAt_some (Option.some.inj hd)
    obtain ⟨v, hv, rv⟩ := s1.get hx
    obtain ⟨u, hu, ru⟩ := s2.get hy
    refine ⟨⟨us, ws, v, u, .of k1, .of k2, hv, hu⟩, fun z H' yl => ?_⟩
    obtain ⟨P, v', u', rfl, hP, rfl, q1, q2⟩ := yl
    have e1 := q1 us (.of k1)
    have e2 := q2 ws (.of k2)
    rw [hv] at e1
    rw [hu] at e2
    cases e1
    cases e2
    obtain ⟨R3, E3⟩ := R.garb (u := .tup [v, u]) hP
    exact ⟨E3, R3, P, _, rfl, upd_same, v, _, rfl, rv.ext E3 _ _, u, _, rfl, ru.ext E3 _ _, rfl⟩
  · have l1 := s1.length
    have l2 := s2.length
    refine ⟨us, ws, .of k1, .of k2, ?_⟩
    rcases zipAt_none (Option.some.inj hn) with q | q
    · exact .inl (by omega)
    · exact .inr (by omega)
theorem i_zp {p tpos : Pos} {elts : List Expr} {kk : Nat} (hK : T.K = X.K) (hg : Gl X "zip") (hm : X.mg "zip" = none) (ha : PA X [e, e2] (rdA T W ra)) (hs : starEach [e, e2] X.env = (false, eval e X.env) :: starEach [e2] X.env := by rfl) (hpl : (backTo pos (starEach [e2] X.env)).any (·.1) = false := by rfl) :
    PI X (.Tuple elts kk tpos) (.Call (.Name "zip" p) [e, e2] [] pos) (rdI T W (iZp ra)) :=
  (RZ.pi_zipA hg hm ha hs hpl).imp fun σ H Rr h => by
    obtain ⟨φ, S, τ, o, R, r, e, q⟩ := h
    have e0 := e
    unfold iZp M.bnd at e0
    cases e1 : ra τ S with
    | none => rw [e1] at e0; cases e0
    | some x =>
      rw [e1] at e0
      cases x with
      | ex x S1 =>
        cases e0
        exact ⟨φ, S, τ, _, R, r, e1, q⟩
      | ok ds S1 =>
        simp only at e0
        split at e0
        · cases e0
          refine ⟨φ, S, τ, _, R, r, e1, fun φ1 H1 vs E1 R1 r1 => ?_⟩
          obtain ⟨v, l, rfl, r2, v2, l2, rfl, r3, r4⟩ := r1
          cases r4
          obtain ⟨a, us, rfl, hn, hH, s⟩ := r2
          obtain ⟨b, ws, rfl, hn2, hH2, s2⟩ := r3
          exact ⟨a, b, us, ws, rfl, .inl ⟨.of hH, .of hH2, q φ1 H1 _ E1 R1 (sv_zipL hn hH s hn2 hH2 s2)⟩⟩
        · cases e0
          refine ⟨φ, S, τ, _, R, r, e1, fun φ1 H1 vs E1 R1 r1 => ?_⟩
          obtain ⟨v, l, rfl, r2, v2, l2, rfl, r3, r4⟩ := r1
          cases r4
          obtain ⟨a, us, rfl, hH, s⟩ := r2
          obtain ⟨b, ws, rfl, hH2, s2⟩ := r3
          exact ⟨a, b, us, ws, rfl, .inr ⟨.of hH, .of hH2, q φ1 H1 _ E1 R1 (sv_zipT hH s hH2 s2)⟩⟩
        · cases e0
/-! ## a target of two targets -/
end
theorem iZp_fl {ra : AF} {τ : Sl} {xs ys : List D} {S S1 : Sto} (h : ra τ S = some (.ok [.fl xs, .fl ys] S1)) : iZp ra τ S = some (.ok (wkZ xs ys) S1) := by simp only [iZp, M.bnd, h]
end Sb
end
section
set_option Elab.async false
set_option linter.all false
set_option maxRecDepth 100000
set_option maxHeartbeats 4000000
namespace Sb
open PySem PySem.Spec PyProof.Rows L2
variable {K : PySem.W.Frag} {S : Sto}
/-! ## reaches, the closed place -/
def rch (n : Nat) (c : Card) : Nat := min c.2.toNat (n - 1)
theorem reach_n {c : Card} {n : Nat} (h : 0 ≤ c.2) (hn : 1 ≤ n) : M_reach_of [dC c, .int (n : Nat)] S = some (.ok (.int (rch n c : Nat)) S) := by
  rw [reach_ok]
  have : (if ((n : Nat) : Int) - 1 < c.2 then ((n : Nat) : Int) - 1 else c.2) = ((rch n c : Nat) : Int) := by
    unfold rch; split <;> omega
  rw [this]
abbrev at0 (l : List Card) (i : Nat) : Card := l.getD i ("", 0)
/-- the reach of the card at a place -/
def ra (l : List Card) (i : Nat) : Nat := rch l.length (at0 l i)
theorem at0_get {l : List Card} {i : Nat} (h : i < l.length) : l[i]? = some (at0 l i) := by
  unfold at0; rw [List.getD_eq_getElem?_getD, List.getElem?_eq_getElem h]; rfl
theorem at0_eq {l : List Card} {i : Nat} (h : i < l.length) : at0 l i = l[i] := by
  unfold at0; rw [List.getD_eq_getElem?_getD, List.getElem?_eq_getElem h]; rfl
theorem at0_mem {l : List Card} {i : Nat} (h : i < l.length) : at0 l i ∈ l := by rw [at0_eq h]; exact List.getElem_mem h
theorem ra_lt {l : List Card} (h : 1 ≤ l.length) (i : Nat) : ra l i < l.length := by unfold ra rch; omega
def clf (r : Nat → Nat) : Nat → Nat → Nat → Nat
  | 0, p, _ => p
  | k + 1, p, f => if f < p then p else clf r k (p + 1) (max f (r p))
def clo (l : List Card) : Nat := clf (ra l) l.length 0 0
structure IsClo (r : Nat → Nat) (n c : Nat) : Prop where
  lo : 1 ≤ c
  hi : c ≤ n
  all : ∀ i, i < c → r i < c
  no : ∀ m, 1 ≤ m → m < c → ∃ i, i < m ∧ m ≤ r i
theorem IsClo.uniq {r : Nat → Nat} {n c d : Nat} (h : IsClo r n c) (k : IsClo r n d) : c = d := by
  rcases Nat.lt_trichotomy c d with q | q | q
  · obtain ⟨i, h1, h2⟩ := k.no c h.lo q
    have := h.all i h1; omega
  · exact q
  · obtain ⟨i, h1, h2⟩ := h.no d k.lo q
    have := k.all i h1; omega
theorem clf_is {r : Nat → Nat} {n : Nat} (hn : 1 ≤ n) (hr : ∀ i, r i < n) : ∀ (k p f : Nat), p + k = n → (∀ i, i < p → r i ≤ f) → (f = 0 ∨ ∃ i, i < p ∧ r i = f) → (∀ m, 1 ≤ m → m < p → ∃ i, i < m ∧ m ≤ r i) → IsClo r n (clf r k p f)
  | 0, p, f, e, _, _, h3 => by
    have : p = n := by omega
    subst this
    exact ⟨hn, Nat.le_refl _, fun i _ => hr i, h3⟩
  | k + 1, p, f, e, h1, h2, h3 => by
    unfold clf
    split
    · rename_i q
      exact ⟨by omega, by omega, fun i hi => Nat.lt_of_le_of_lt (h1 i hi) q, h3⟩
    · rename_i q
      refine clf_is hn hr k (p + 1) (max f (r p)) (by omega) (fun i hi => ?_) ?_ fun m m1 m2 => ?_
      · by_cases z : i = p
        · subst z; omega
        · have := h1 i (by omega); omega
      · by_cases z : f ≤ r p
        · exact .inr ⟨p, by omega, by omega⟩
        · rcases h2 with h2 | ⟨i, h4, h5⟩
          · omega
          · exact .inr ⟨i, by omega, by omega⟩
      · by_cases z : m = p
        · subst z
          rcases h2 with h2 | ⟨i, h4, h5⟩
          · omega
          · exact ⟨i, h4, by omega⟩
        · exact h3 m m1 (by omega)
theorem clo_is {l : List Card} (h : 1 ≤ l.length) : IsClo (ra l) l.length (clo l) := clf_is h (ra_lt h) _ _ _ (by omega) (fun i hi => absurd hi (Nat.not_lt_zero _)) (.inl rfl) fun m h1 h2 => by omega
theorem gMax_2 {i j : Nat} : gMax [.int (i : Nat), .int (j : Nat)] S = some (.int (max i j : Nat), S) := by
  simp only [gMax, gMax2]
  congr 3
  split <;> omega
theorem closed_ok {l : List Card} (ok : DeckOk l) : M_closed_of [dK l] S = some (.ok (.int (clo l : Nat)) S) := by
  have h1 := ok.lo
  have L := goF_ret (nxt := (wkE (l.map dC)).nxt) (g := tN2 2 3) (n := l.length)
    (fb := (sSeq (sIf (tB (eB gLtI (eVar 1) (eVar 2))) (sRt (eVar 2)) (sNop)) (sSet 1 (eCB gMax (aCons (eVar 1) (aCons (eCl (M_reach_of) 2 (aCons (eVar 3) (aCons (eCB gLenX (aCons (eVar 0) (aNil))) (aNil)))) (aNil)))))))
    (fun i τ S' => S' = S ∧ ∃ (f : Nat) (x2 x3 : Option D), τ = [some (dK l), some (.int (f : Nat)), x2, x3] ∧ clf (ra l) (l.length - i) i f = clo l) (fun d S' => S' = S ∧ d = .int (clo l : Nat)) (fun i => .tup [.int (i : Nat), dC (at0 l i)])
    (fun i τ S' hi ⟨e, f, x2, x3, e2, e3⟩ => by
      subst e e2
      refine ⟨by simp only [wkE, List.getElem?_map, at0_get hi, Option.map_some], [some (dK l), some (.int (f : Nat)), some (.int (i : Nat)), some (dC (at0 l i))], by simp [tN2, seqD], ?_⟩
      rw [show l.length - i = (l.length - (i + 1)) + 1 by omega] at e3
      unfold clf at e3
      by_cases q : f < i
      · rw [if_pos q] at e3
        have q' : (f : Int) < (i : Int) := by omega
        refine .inr ⟨_, _, sSeq_rt ((sIf_t (tB_ok (b := true) (eB_ok rfl rfl (by simp [gLtI, gI, q'])))).trans (sRt_ok rfl)), rfl, by rw [e3]⟩
      · rw [if_neg q] at e3
        have q' : ¬ (f : Int) < (i : Int) := by omega
        have hr := reach_n (S := S') (c := at0 l i) (n := l.length) (ok.dep _ (at0_mem hi)) h1
        refine .inl ⟨_, _, (sSeq_nx (sIf_f (tB_ok (b := false) (eB_ok rfl rfl (by simp [gLtI, gI, q']))))).trans (sSet_ok (eCB_ok (a2_ok rfl (eCl_ok (a2_ok rfl (eCB_ok (a1_ok rfl) len_deck)) rfl hr)) gMax_2)), rfl, max f (ra l i), _, _, rfl, e3⟩)
    (fun τ S' _ => by simp [wkE]) (l.length + 1) 0 [some (dK l), some (.int 0), none, none] S (Nat.zero_le _) (by omega) ⟨rfl, 0, none, none, rfl, rfl⟩
  have eW : iEn (aCons (eVar 0) aNil) [some (dK l), some (.int 0), none, none] S = some (.ok (wkE (l.map dC)) S) := rfl
  have eb : (wkE (l.map dC)).bound = l.length := by simp [wkE]
  refine fnM_rt ?_
  refine (sSeq_nx (sSet_ok rfl)).trans ?_
  rcases L with ⟨τ', S', e1, rfl, f, x2, x3, rfl, e3⟩ | ⟨d, S', e1, rfl, rfl⟩
  · rw [Nat.sub_self] at e3
    have e3 : l.length = clo l := e3
    refine (sSeq_nx (sFor_ok eW (by rw [eb]; exact e1))).trans ?_
    rw [← e3]
    exact sRt_ok (eCB_ok (a1_ok rfl) len_deck)
  · exact sSeq_rt (sFor_ok eW (by rw [eb]; exact e1))

theorem deck_fz {d : D} {l : List Card} {a : AF} {τ : Sl} (w : Wf S) (h : isDeck S d l) (ok : DeckOk l) (ha : a τ S = some (.ok [d] S)) : fz (eCl (M_deck_of K) 1 a) τ S = some (.ok (dK l) S) := by
  obtain ⟨X, e⟩ := deck_of_ok (K := K) h ok
  exact fz_app w (eCl_ok ha rfl e) bd_dK
theorem gLt_i {i j : Int} : gLtI (.int i) (.int j) S = some (.bl (decide (i < j)), S) := by simp [gLtI, gI]
theorem gLe_i {i j : Int} : gLe (.int i) (.int j) S = some (.bl (decide (i ≤ j)), S) := by simp [gLe]
theorem gGt_i {i j : Int} : gGtI (.int i) (.int j) S = some (.bl (decide (j < i)), S) := by simp [gGtI, gI]
theorem gGe_i {i j : Int} : gGeI (.int i) (.int j) S = some (.bl (decide (j ≤ i)), S) := by simp [gGeI, gI]
theorem gEq_nat {neg : Bool} {i j : Nat} : gEq neg (.int (i : Nat)) (.int (j : Nat)) S = some (.bl (if neg then !decide (i = j) else decide (i = j)), S) := by
  rw [gEq_int]
  have : decide (((i : Nat) : Int) = ((j : Nat) : Int)) = decide (i = j) := by
    by_cases h : i = j
    · subst h; simp
    · rw [decide_eq_false h, decide_eq_false (by omega)]
  rw [this]
theorem dec_le {i j : Nat} : decide (((i : Nat) : Int) ≤ ((j : Nat) : Int)) = decide (i ≤ j) := by
  by_cases h : i ≤ j
  · rw [decide_eq_true h, decide_eq_true (by omega)]
  · rw [decide_eq_false h, decide_eq_false (by omega)]
theorem dec_lt {i j : Nat} : decide (((i : Nat) : Int) < ((j : Nat) : Int)) = decide (i < j) := by
  by_cases h : i < j
  · rw [decide_eq_true h, decide_eq_true (by omega)]
  · rw [decide_eq_false h, decide_eq_false (by omega)]
theorem filter_tt {α : Type} (l : List α) : l.filter (fun _ => true) = l := by induction l <;> simp_all
/-! ## hands, rings -/
def hand (l : List Card) (m : Nat) : List Card := (l.take m).filter fun c => decide (m ≤ rch l.length c)
def ring (l : List Card) (m : Nat) : List Card := hand l m ++ [at0 l m]
abbrev nms (l : List Card) : List Str := l.map (·.1)
theorem hand_len (l : List Card) (m : Nat) : (hand l m).length ≤ l.length := Nat.le_trans (List.length_filter_le _ _) (by rw [List.length_take]; omega)
theorem hand_mem {l : List Card} {m : Nat} {c : Card} (h : c ∈ hand l m) : c ∈ l := List.mem_of_mem_take (List.mem_filter.mp h).1
theorem ring_mem {l : List Card} {m : Nat} {c : Card} (hm : m < l.length) (h : c ∈ ring l m) : c ∈ l := by
  rcases List.mem_append.mp h with q | q
  · exact hand_mem q
  · simp at q; subst q; exact at0_mem hm
theorem nms_map {m : List Card} : (m.map fun c => D.str c.1) = (nms m).map D.str := by rw [List.map_map]; rfl
theorem names_of_ok {m : List Card} (w : Wf S) (hl : m.length ≤ 1000) : M_names_of [.fl (m.map dC)] S = some (.ok (.fl ((nms m).map D.str)) S) := by
  refine fnM_rt (sRt_ok ?_)
  have e := lc_pu (fi := iSeq (eVar 0)) (g := tN 1) (t := tAll) (fe := eB gIx (eVar 1) (eC (.int 0))) (vs := [1]) (τ := [some (.fl (m.map dC)), none]) (S := S) (ds := m.map dC) (fun _ => true) (fun d => match d with | .tup (x :: _) => x | _ => .non) w (iSeq_ok rfl wk_fl) wks_ds (by simp; omega)
    (fun d hd _ => by obtain ⟨c, _, rfl⟩ := List.mem_map.mp hd; rfl)
    (fun d hd S' _ _ => by obtain ⟨c, _, rfl⟩ := List.mem_map.mp hd; exact ⟨_, rfl, rfl, fun _ => eB_ok rfl rfl ix_name⟩)
  rw [filter_tt, List.map_map] at e
  rw [← nms_map]
  exact e
theorem cut_deck {l : List Card} {m : Nat} : gSl (dK l) none (some (m : Nat)) S = some (dK (l.take m), S) := by
  rw [gSl]; rw [cut_to]
theorem hand_ok {l : List Card} {m : Nat} (w : Wf S) (ok : DeckOk l) : M_hand_of [dK l, .int (m : Nat)] S = some (.ok (.fl ((hand l m).map dC)) S) := by
  refine fnM_rt (sRt_ok ?_)
  have h1 := ok.lo
  have h2 := ok.hi
  have e := lc_pu (fi := iSeq (eSl (eVar 0) (oNo) (oSo (eVar 1)))) (g := tN 2) (t := tB (eB gGeI (eCl (M_reach_of) 2 (aCons (eVar 2) (aCons (eCB gLenX (aCons (eVar 0) (aNil))) (aNil)))) (eVar 1))) (fe := eVar 2) (vs := [2]) (τ := [some (dK l), some (.int (m : Nat)), none]) (S := S) (ds := (l.take m).map dC)
    (fun d => match d with | .tup [.str x, .int i] => decide (m ≤ rch l.length (x, i)) | _ => false) id w (iSeq_ok (eSl_ok rfl rfl (oSo_ok rfl) cut_deck) wk_tup) wks_ds (by simp; omega)
    (fun d hd _ => by obtain ⟨c, _, rfl⟩ := List.mem_map.mp hd; rfl)
    (fun d hd S' _ _ => by
      obtain ⟨c, hc, rfl⟩ := List.mem_map.mp hd
      have hr := reach_n (S := S') (c := c) (n := l.length) (ok.dep _ (List.mem_of_mem_take hc)) h1
      refine ⟨_, rfl, tB_ok (eB_ok (eCl_ok (a2_ok rfl (eCB_ok (a1_ok rfl) len_deck)) rfl hr) rfl ?_), fun _ => rfl⟩
      rw [gGe_i]
      rw [dec_le])
  rw [List.filter_map, List.map_id] at e
  exact e
theorem ring_ok {l : List Card} {m : Nat} (w : Wf S) (ok : DeckOk l) (hm : m < l.length) : M_ring_of [dK l, .int (m : Nat)] S = some (.ok (.fl ((ring l m).map dC)) S) := by
  have h2 := ok.hi
  have hl := hand_len l m
  refine fnM_rt (sRt_ok (eB_ok (eCl_ok (a2_ok rfl rfl) rfl (hand_ok w ok)) (fz_list (a1_ok (eB_ok rfl rfl (ix_deck (at0_get hm)))) rfl w (by simp) (by simp [bds])) ?_))
  have hz := sizeLine_eq
  have : (List.map dC (hand l m)).length + [dC (at0 l m)].length ≤ sizeLine := by simp; omega
  simp only [gAdd, flD, Option.bind_some, if_pos this, ring, List.map_append, List.map_cons, List.map_nil]
theorem clo_le {l : List Card} (ok : DeckOk l) : clo l ≤ l.length := (clo_is ok.lo).hi
/-! ## homes, places, those away -/
theorem home_at_ok {l : List Card} {i : Nat} (ok : DeckOk l) (hi : i < l.length) : M_is_home_at [dK l, .int (i : Nat)] S = some (.ok (.bl (decide (i ≤ ra l i))) S) := by
  have hr := reach_n (S := S) (c := at0 l i) (n := l.length) (ok.dep _ (at0_mem hi)) ok.lo
  refine fnM_rt (sRt_ok (eB_ok rfl (eCl_ok (a2_ok (eB_ok rfl rfl (ix_deck (at0_get hi))) (eCB_ok (a1_ok rfl) len_deck)) rfl hr) ?_))
  rw [gLe_i]
  rw [dec_le]; rfl
def aw (l : List Card) : List Nat := (List.range (clo l)).filter fun i => !decide (i ≤ ra l i)
theorem away_places_ok {l : List Card} (w : Wf S) (ok : DeckOk l) : M_away_places [dK l] S = some (.ok (.fl ((aw l).map fun i : Nat => D.int i)) S) := by
  refine fnM_rt (sRt_ok ?_)
  have hc := clo_le ok
  have h2 := ok.hi
  have e := lc_pu (fi := iRg1 (aCons (eCl (M_closed_of) 1 (aCons (eVar 0) (aNil))) (aNil))) (g := tN 1) (t := tNt (tB (eCl (M_is_home_at) 2 (aCons (eVar 0) (aCons (eVar 1) (aNil)))))) (fe := eVar 1) (vs := [1]) (τ := [some (dK l), none]) (S := S) (ds := (List.range (clo l)).map fun i : Nat => D.int i)
    (fun d => match d with | .int i => !decide (i.toNat ≤ ra l i.toNat) | _ => false) id w (iRg1_ok (a1_ok (eCl_ok (a1_ok rfl) rfl (closed_ok ok))) (by omega)) wks_rg (by simp; omega)
    (fun d hd _ => by obtain ⟨c, _, rfl⟩ := List.mem_map.mp hd; rfl)
    (fun d hd S' _ _ => by
      obtain ⟨i, hi, rfl⟩ := List.mem_map.mp hd
      have hi' := List.mem_range.mp hi
      exact ⟨_, rfl, tNt_ok (tB_ok (eCl_ok (a2_ok rfl rfl) rfl (home_at_ok ok (by omega)))), fun _ => rfl⟩)
  rw [List.filter_map, List.map_id] at e
  exact e
end Sb
end
section
set_option Elab.async false
set_option linter.all false
set_option maxRecDepth 100000
set_option maxHeartbeats 4000000
namespace Sb
open PySem PySem.Spec PyProof.Rows L2
variable {K : PySem.W.Frag} {S : Sto}
/-! ## draws, all else the same -/
theorem Sm.get {n i : Nat} {S S' : Sto} {o : Ob} (a : Sm n S S') (h : S[i]? = some o) (hi : i ≠ n) : S'[i]? = some o := (a.at_ i hi).trans h
theorem Sm.fr {n : Nat} {S S' : Sto} (a : Sm n S S') : Fr n S S' := ⟨by rw [a.len]; exact Nat.le_refl _, fun i h _ => a.at_ i h⟩
theorem Sm.of {n : Nat} {S S' : Sto} (f : Fr n S S') (l : S'.length = S.length) : Sm n S S' := ⟨l, fun i h => by
  by_cases q : i < S.length
  · exact f.at_ i h q
  · rw [List.getElem?_eq_none (by omega), List.getElem?_eq_none (by omega)]⟩
theorem ix_fints {is : List Int} {v : Nat} (h : v < is.length) : gIx (.fl (is.map D.int)) (.int (v : Nat)) S = some (.int (is.getD v 0), S) := by
  have h1 : ((v : Nat) : Int) < ((is.map D.int).length : Int) := by simpa using h
  have h0 : (0 : Int) ≤ (v : Nat) := by omega
  simp only [gIx, seqD, Option.bind_some, atI, ixN, if_pos h0, if_pos h1, Int.toNat_natCast, List.getElem?_map, List.getElem?_eq_getElem h, Option.map_some, List.getD_eq_getElem?_getD, Option.getD_some]
theorem getD_mem {α : Type} {l : List α} {i : Nat} {d : α} (h : i < l.length) : l.getD i d ∈ l := by
  rw [List.getD_eq_getElem?_getD, List.getElem?_eq_getElem h]; exact List.getElem_mem h
/-! ## home decks drawn -/
def HomeD (l : List Card) : Prop := ∀ i, i < l.length → (i : Int) ≤ (at0 l i).2
end Sb
end
section
set_option Elab.async false
set_option linter.all false
set_option maxRecDepth 100000
set_option maxHeartbeats 4000000
namespace Sb
open PySem PySem.Spec PyProof.Rows L2
variable {K : PySem.W.Frag} {S : Sto}
/-! ## what is wanted of an outcome -/
def Ws (m : Option (Fl × Sto)) (Q : Fl → Sto → Prop) : Prop := ∃ fl S', m = some (fl, S') ∧ Q fl S'
theorem Ws.mono {m : Option (Fl × Sto)} {Q Q' : Fl → Sto → Prop} (h : Ws m Q) (i : ∀ fl S, Q fl S → Q' fl S) : Ws m Q' := by
  obtain ⟨fl, S', e, q⟩ := h
  exact ⟨fl, S', e, i _ _ q⟩
theorem ws_nx {f g : SF} {τ τ1 : Sl} {S S1 : Sto} {Q : Fl → Sto → Prop} (h : f τ S = some (.nx τ1, S1)) (k : Ws (g τ1 S1) Q) : Ws (sSeq f g τ S) Q := by
  rw [show sSeq f g τ S = g τ1 S1 from sSeq_nx h]; exact k
theorem ws_set {i : Nat} {fe : EF} {g : SF} {τ : Sl} {d : D} {S S1 : Sto} {Q : Fl → Sto → Prop} (h : fe τ S = some (.ok d S1)) (k : Ws (g (τ.set i (some d)) S1) Q) : Ws (sSeq (sSet i fe) g τ S) Q := ws_nx (sSet_ok h) k
theorem ws_set1 {i : Nat} {fe : EF} {τ : Sl} {d : D} {S S1 : Sto} {Q : Fl → Sto → Prop} (h : fe τ S = some (.ok d S1)) (k : Q (.nx (τ.set i (some d))) S1) : Ws (sSet i fe τ S) Q := ⟨_, _, sSet_ok h, k⟩
theorem ws_ex {fe : EF} {g : SF} {τ : Sl} {d : D} {S S1 : Sto} {Q : Fl → Sto → Prop} (h : fe τ S = some (.ok d S1)) (k : Ws (g τ S1) Q) : Ws (sSeq (sEx fe) g τ S) Q := ws_nx (sEx_ok h) k
theorem ws_rt {fe : EF} {τ : Sl} {d : D} {S S1 : Sto} {Q : Fl → Sto → Prop} (h : fe τ S = some (.ok d S1)) (k : Q (.rt d) S1) : Ws (sRt fe τ S) Q := ⟨_, _, sRt_ok h, k⟩
theorem ws_nop {τ : Sl} {S : Sto} {Q : Fl → Sto → Prop} (k : Q (.nx τ) S) : Ws (sNop τ S) Q := ⟨_, _, rfl, k⟩
/-- an if without an else, which does not come about -/
theorem ws_no {t : BF} {f g : SF} {τ : Sl} {S S1 : Sto} {Q : Fl → Sto → Prop} (h : t τ S = some (.ok false S1)) (k : Ws (g τ S1) Q) : Ws (sSeq (sIf t f sNop) g τ S) Q := ws_nx (sIf_f h) k
def flK (Q1 : Sl → Sto → Prop) (Q : Fl → Sto → Prop) : Fl → Sto → Prop := fun fl S => match fl with
  | .nx τ => Q1 τ S
  | .ct τ => Q1 τ S
  | .rt d => Q (.rt d) S
  | _ => False
theorem ws_for {fi : IF} {g : TF} {fb rest : SF} {τ : Sl} {S S1 : Sto} {wk : Wk} {Q : Fl → Sto → Prop} (n : Nat) (I : Nat → Sl → Sto → Prop) (item : Nat → D) (hfi : fi τ S = some (.ok wk S1)) (hb : n ≤ wk.bound) (h0 : I 0 τ S1)
    (h : ∀ i τ S, i < n → I i τ S → wk.nxt i S = some (some (item i)) ∧ ∃ τ1, g (item i) S τ = some τ1 ∧ Ws (fb τ1 S) (flK (I (i + 1)) Q))
    (he : ∀ τ S, I n τ S → wk.nxt n S = some none) (k : ∀ τ' S', I n τ' S' → Ws (rest τ' S') Q) : Ws (sSeq (sFor fi g fb) rest τ S) Q := by
  have key : ∀ (m i : Nat) (τ : Sl) (S : Sto), i ≤ n → n - i < m → I i τ S → Ws (goF wk.nxt g fb m i τ S) (flK (I n) Q) := by
    intro m
    induction m with
    | zero => exact fun i τ S _ hm _ => absurd hm (Nat.not_lt_zero _)
    | succ m ih =>
      intro i τ S hi hm hI
      unfold goF
      by_cases e : i = n
      · subst e
        rw [he τ S hI]
        exact ⟨_, _, rfl, hI⟩
      · obtain ⟨h1, τ1, h2, fl, S2, h3, h4⟩ := h i τ S (by omega) hI
        rw [h1]
        simp only [h2, h3]
        cases fl with
        | nx τ2 => exact ih (i + 1) τ2 S2 (by omega) (by omega) h4
        | ct τ2 => exact ih (i + 1) τ2 S2 (by omega) (by omega) h4
        | rt d => exact ⟨_, _, rfl, h4⟩
        | bk τ2 => exact absurd h4 id
        | xx x τ2 => exact absurd h4 id
  obtain ⟨fl, S2, e, q⟩ := key (wk.bound + 1) 0 τ S1 (Nat.zero_le _) (by omega) h0
  have e2 : sFor fi g fb τ S = some (fl, S2) := sFor_ok hfi e
  cases fl with
  | nx τ2 =>
    rw [show sSeq (sFor fi g fb) rest τ S = rest τ2 S2 from sSeq_nx e2]
    exact k τ2 S2 q
  | rt d =>
    rw [show sSeq (sFor fi g fb) rest τ S = some (.rt d, S2) from sSeq_rt e2]
    exact ⟨_, _, rfl, q⟩
  | ct τ2 => 
    exfalso
    have : ∀ (m i : Nat) (τ : Sl) (S : Sto), goF wk.nxt g fb m i τ S ≠ some (.ct τ2, S2) := by
      intro m
      induction m with
      | zero => intro i τ S e; cases e
      | succ m ih =>
        intro i τ S e
        unfold goF at e
        split at e
        · cases e
        · cases e
        · split at e
          · cases e
          · split at e
            · exact ih _ _ _ e
            · exact ih _ _ _ e
            · cases e
            · rename_i hx _ _
              first | exact hx _ _ e | (rename_i hy; exact hy _ _ e) | simp_all
    exact this _ _ _ _ e
  | bk τ2 => exact absurd q id
  | xx x τ2 => exact absurd q id
/-- a loop that is the last row -/
theorem ws_for1 {fi : IF} {g : TF} {fb : SF} {τ : Sl} {S S1 : Sto} {wk : Wk} {Q : Fl → Sto → Prop} (n : Nat) (I : Nat → Sl → Sto → Prop) (item : Nat → D) (hfi : fi τ S = some (.ok wk S1)) (hb : n ≤ wk.bound) (h0 : I 0 τ S1)
    (h : ∀ i τ S, i < n → I i τ S → wk.nxt i S = some (some (item i)) ∧ ∃ τ1, g (item i) S τ = some τ1 ∧ Ws (fb τ1 S) (flK (I (i + 1)) Q))
    (he : ∀ τ S, I n τ S → wk.nxt n S = some none) (k : ∀ τ' S', I n τ' S' → Q (.nx τ') S') : Ws (sFor fi g fb τ S) Q := by
  have e : ∀ τ S, sSeq (sFor fi g fb) sNop τ S = sFor fi g fb τ S := fun τ S => by
    unfold sSeq
    cases sFor fi g fb τ S with
    | none => rfl
    | some p => obtain ⟨fl, S'⟩ := p; cases fl <;> rfl
  rw [← e]
  exact ws_for n I item hfi hb h0 h he fun τ' S' hI => ws_nop (k τ' S' hI)
theorem fn_ws {n : Nat} {f : SF} {ds : List D} {S : Sto} {Q : D → Sto → Prop} (h : Ws (f (ini n ds) S) fun fl S' => ∃ d, fl = .rt d ∧ Q d S') : ∃ d S', fnM n f ds S = some (.ok d S') ∧ Q d S' := by
  obtain ⟨fl, S', e, d, rfl, q⟩ := h
  exact ⟨d, S', fnM_rt e, q⟩
theorem fn_wt {n : Nat} {f : SF} {ds : List D} {S : Sto} {d : D} (h : Ws (f (ini n ds) S) fun fl S' => fl = .rt d ∧ S' = S) : fnM n f ds S = some (.ok d S) := by
  obtain ⟨fl, S', e, rfl, rfl⟩ := h
  exact fnM_rt e
/-! ## the head of a law -/
theorem law_ws {n : Nat} {f : SF} {ds : List D} {S : Sto} (h : Ws (f (ini n ds) S) fun fl _ => fl = .rt (.bl true)) : ∃ S', fnM n f ds S = some (.ok (.bl true) S') := by
  obtain ⟨fl, S', e, rfl⟩ := h
  exact ⟨S', fnM_rt e⟩
theorem ws_iret {t : BF} {fe : EF} {g h : SF} {τ : Sl} {d : D} {S S1 S2 : Sto} {Q : Fl → Sto → Prop} (h1 : t τ S = some (.ok true S1)) (h2 : fe τ S1 = some (.ok d S2)) (k : Q (.rt d) S2) : Ws (sSeq (sIf t (sRt fe) h) g τ S) Q :=
  ⟨_, _, sSeq_rt ((sIf_t h1).trans (sRt_ok h2)), k⟩
def flN (Q1 : Sl → Sto → Prop) (Q : Fl → Sto → Prop) : Fl → Sto → Prop := fun fl S => match fl with
  | .nx τ => Q1 τ S
  | .rt d => Q (.rt d) S
  | _ => False
theorem ws_seq {f g : SF} {τ : Sl} {S : Sto} {Q : Fl → Sto → Prop} (h : Ws (f τ S) (flN (fun τ1 S1 => Ws (g τ1 S1) Q) Q)) : Ws (sSeq f g τ S) Q := by
  obtain ⟨fl, S1, e, q⟩ := h
  cases fl with
  | nx τ1 => rw [show sSeq f g τ S = g τ1 S1 from sSeq_nx e]; exact q
  | rt d => exact ⟨_, _, sSeq_rt e, q⟩
  | ct τ => exact absurd q id
  | bk τ => exact absurd q id
  | xx x τ => exact absurd q id
end Sb
end
section
set_option Elab.async false
set_option linter.all false
set_option maxRecDepth 100000
set_option maxHeartbeats 4000000
namespace Sb
open PySem PySem.Spec PyProof.Rows L2
/-! ## while -/
def goW (t : BF) (f : SF) : Nat → SF
  | 0, _, _ => none
  | m + 1, τ, S => match t τ S with
    | none => none
    | some (.ex x S1) => some (.xx x τ, S1)
    | some (.ok false S1) => some (.nx τ, S1)
    | some (.ok true S1) => match f τ S1 with
      | some (.nx τ2, S2) => goW t f m τ2 S2
      | some (.ct τ2, S2) => goW t f m τ2 S2
      | some (.bk τ2, S2) => some (.nx τ2, S2)
      | x => x
def sWh (t : BF) (f : SF) : SF := goW t f 100000
section
variable {X : Cx} {T : Tb} {W : WX} {pos : Pos} {c : Expr} {body : List Stmt} {t : BF} {f : SF}
theorem s_while (hp : PassesOwn (model X.prog X.w) X.A X.env X.xe) (hc : PT X c (rdT T W t)) (hb : PSs X body (rdS T W f)) : PS X (.While c body [] pos) (rdS T W (sWh t f)) := (ps_while hp hc hb).imp fun De σ H h => by
  obtain ⟨φ, S, τ, fl, S', R, r, e, q⟩ := h
  refine ⟨fun m σ H' => ∃ φ2 S2 τ2, Ext φ H φ2 H' ∧ Rel T φ2 S2 H' ∧ RSl T H' φ2 τ2 σ ∧ goW t f m τ2 S2 = some (fl, S') ∧ EndS T φ2 H' fl S' De W, ⟨100000, φ, S, τ, .refl, R, r, e, q⟩, ?_⟩
  rintro m σ2 H2 ⟨φ2, S2, τ2, E2, R2, r2, e2, q2⟩
  cases m with
  | zero => cases e2
  | succ m =>
    unfold goW at e2
    cases ht : t τ2 S2 with
    | none => rw [ht] at e2; cases e2
    | some o =>
      rw [ht] at e2
      refine ⟨φ2, S2, τ2, o, R2, r2, ht, ?_⟩
      cases o with
      | ex x S3 => cases e2; exact fun φ' H' d E1 R1 hx => q2 φ' H' σ2 d E1 R1 (r2.ext E1) hx
      | ok b S3 =>
        intro φ3 H3 E3 R3
        cases b with
        | false =>
          cases e2
          rw [if_neg (by decide)]
          exact q2 φ3 H3 σ2 E3 R3 (r2.ext E3)
        | true =>
          rw [if_pos rfl]
          simp only at e2
          refine ⟨fun σ' H' => ∃ φ4 S4 τ4, Ext φ H φ4 H' ∧ Rel T φ4 S4 H' ∧ RSl T H' φ4 τ4 σ' ∧ goW t f m τ4 S4 = some (fl, S') ∧ EndS T φ4 H' fl S' De W, fun σ' H' h => ⟨m, Nat.lt_succ_self m, h⟩, ?_⟩
          cases hb1 : f τ2 S3 with
          | none => rw [hb1] at e2; cases e2
          | some p =>
            obtain ⟨fl1, S4⟩ := p
            rw [hb1] at e2
            refine ⟨φ3, S3, τ2, fl1, S4, R3, r2.ext E3, hb1, ?_⟩
            cases fl1 with
            | nx τ4 => exact fun φ' H'' σ'' E4 R4 r4 => ⟨φ', S4, τ4, (E2.trans E3).trans E4, R4, r4, e2, (q2.mono E3).mono E4⟩
            | ct τ4 => exact fun φ' H'' σ'' E4 R4 r4 => ⟨φ', S4, τ4, (E2.trans E3).trans E4, R4, r4, e2, (q2.mono E3).mono E4⟩
            | bk τ4 => cases e2; exact fun φ' H'' σ'' E4 R4 r4 => (q2.mono E3) φ' H'' σ'' E4 R4 r4
            | rt d4 => cases e2; exact fun φ' H'' v E4 R4 r4 => (q2.mono E3) φ' H'' v E4 R4 r4
            | xx x4 τ4 => cases e2; exact fun φ' H'' σ'' d4 E4 R4 r4 hx => (q2.mono E3) φ' H'' σ'' d4 E4 R4 r4 hx
end
theorem ws_whileF {t : BF} {f rest : SF} {Q : Fl → Sto → Prop} (V : Nat → Sl → Sto → Prop)
    (h : ∀ k τ S, V k τ S → (∃ S1, t τ S = some (.ok false S1) ∧ Ws (rest τ S1) Q) ∨ (∃ S1, t τ S = some (.ok true S1) ∧ Ws (f τ S1) (flK (fun τ' S' => ∃ k', k' < k ∧ V k' τ' S') Q))) :
    ∀ (m k : Nat) (τ : Sl) (S : Sto), k < m → V k τ S → ∃ fl S', goW t f m τ S = some (fl, S') ∧ ((∃ τ', fl = .nx τ' ∧ Ws (rest τ' S') Q) ∨ (∃ d, fl = .rt d ∧ Q fl S')) := by
  intro m
  induction m with
  | zero => exact fun k τ S hk _ => absurd hk (Nat.not_lt_zero _)
  | succ m ih =>
    intro k τ S hk hV
    rcases h k τ S hV with ⟨S1, e, w⟩ | ⟨S1, e, fl, S2, e2, q⟩
    · exact ⟨.nx τ, S1, by unfold goW; rw [e], .inl ⟨τ, rfl, w⟩⟩
    · cases fl with
      | nx τ2 =>
        obtain ⟨k', hk', hV'⟩ := q
        obtain ⟨fl, S', e3, q3⟩ := ih k' τ2 S2 (by omega) hV'
        exact ⟨fl, S', by unfold goW; rw [e]; simp only [e2]; exact e3, q3⟩
      | ct τ2 =>
        obtain ⟨k', hk', hV'⟩ := q
        obtain ⟨fl, S', e3, q3⟩ := ih k' τ2 S2 (by omega) hV'
        exact ⟨fl, S', by unfold goW; rw [e]; simp only [e2]; exact e3, q3⟩
      | rt d => exact ⟨.rt d, S2, by unfold goW; rw [e]; simp only [e2], .inr ⟨d, rfl, q⟩⟩
      | bk τ2 => exact absurd q id
      | xx x τ2 => exact absurd q id
/-- a while: V holds with a number that falls at each turn -/
theorem ws_while {t : BF} {f rest : SF} {Q : Fl → Sto → Prop} {τ : Sl} {S : Sto} (V : Nat → Sl → Sto → Prop) (k : Nat) (hk : k < 100000) (h0 : V k τ S)
    (h : ∀ k τ S, V k τ S → (∃ S1, t τ S = some (.ok false S1) ∧ Ws (rest τ S1) Q) ∨ (∃ S1, t τ S = some (.ok true S1) ∧ Ws (f τ S1) (flK (fun τ' S' => ∃ k', k' < k ∧ V k' τ' S') Q))) : Ws (sSeq (sWh t f) rest τ S) Q := by
  obtain ⟨fl, S', e, q⟩ := ws_whileF V h 100000 k τ S hk h0
  have e : sWh t f τ S = some (fl, S') := e
  rcases q with ⟨τ', rfl, w⟩ | ⟨d, rfl, q⟩
  · rw [show sSeq (sWh t f) rest τ S = rest τ' S' from sSeq_nx e]
    exact w
  · exact ⟨_, _, sSeq_rt e, q⟩
end Sb
end
section
set_option Elab.async false
set_option linter.all false
set_option maxRecDepth 100000
namespace Sb
open PySem PySem.Spec PyProof.Rows L2
noncomputable section
def m_turn_of : SF := sRt (eIf (tB (eB (gEq false) (eBM "list" gCount (eVar 0) (aCons (eC .non) (aNil))) (eCB gLenX (aCons (eVar 0) (aNil))))) (eC (.int 1)) (eCB gLenX (aCons (eVar 0) (aNil))))
abbrev M_turn_of : List D → M D := fnM 1 (m_turn_of)
def m_rounds_by : SF := sSeq (sSet 2 (eCl (M_turn_of) 1 (aCons (eVar 0) (aNil)))) (sRt (eB gDiv (eVar 2) (eCB gGcd (aCons (eVar 2) (aCons (eVar 1) (aNil))))))
abbrev M_rounds_by : List D → M D := fnM 3 (m_rounds_by)
def m_reel_home_deck : SF := sSeq (sSet 2 (fz (eCl (M_reel_deck) 2 (aCons (eVar 0) (aCons (eVar 1) (aNil)))))) (sSeq (sSet 3 (eCB gLenX (aCons (eVar 2) (aNil)))) (sSeq (sSet 4 (fz (eCB gSortedI (aCons (fz (eLc (iSeq (eVar 2)) (tN2 5 6) (tAll) (eCB gMin2 (aCons (eVar 6) (aCons (eB gSub (eVar 3) (eC (.int 1))) (aNil)))) [5, 6])) (aNil))))) (sSeq (sSet 4 (fz (eLc (iEnX (aCons (eVar 4) (aNil))) (tN2 7 6) (tAll) (eCB gMax (aCons (eVar 6) (aCons (eVar 7) (aNil)))) [7, 6]))) (sSeq (sSet 8 (eLZ (aCons (fz (eLc (iSeq (eVar 2)) (tN2 5 6) (tAll) (eVar 5) [5, 6])) (aCons (eVar 4) (aNil))))) (sSeq (sFor (iRg1 (aCons (eB gMulX (eC (.int 2)) (eVar 3)) (aNil))) (tN 9) (sSeq (sPar 10 11 (aCons (eCl (M_reel_draw) 2 (aCons (eVar 0) (aCons (eVar 3) (aNil)))) (aCons (eCl (M_reel_draw) 2 (aCons (eVar 0) (aCons (eVar 3) (aNil)))) (aNil)))) (sIf (tB (eB gLe (eCB gMax (aCons (eVar 10) (aCons (eVar 11) (aNil)))) (eCB gMin2 (aCons (eB gIx (eB gIx (eVar 8) (eVar 10)) (eC (.int 1))) (aCons (eB gIx (eB gIx (eVar 8) (eVar 11)) (eC (.int 1))) (aNil)))))) (sSw (eTup (aCons (eB gIx (eVar 8) (eVar 11)) (aCons (eB gIx (eVar 8) (eVar 10)) (aNil)))) (eVar 8) (eVar 10) (eVar 8) (eVar 11)) (sNop)))) (sRt (eCB gTuple (aCons (fz (eLc (iSeq (eVar 8)) (tN2 5 6) (tAll) (eTup (aCons (eVar 5) (aCons (eIf (tB (eB gLtI (eVar 6) (eB gSub (eVar 3) (eC (.int 1))))) (eVar 6) (eB gAdd (eVar 6) (eCl (M_reel_draw) 2 (aCons (eVar 0) (aCons (eC (.int 3)) (aNil)))))) (aNil)))) [5, 6])) (aNil)))))))))
abbrev M_reel_home_deck : List D → M D := fnM 12 (m_reel_home_deck)
end
end Sb
end
section
set_option Elab.async false
set_option linter.all false
set_option maxRecDepth 100000
namespace Sb
open PySem PySem.Spec PyProof.Rows L2
noncomputable section
end
end Sb
end
section
set_option Elab.async false
set_option linter.all false
set_option maxRecDepth 100000
namespace Sb
open PySem PySem.Spec PyProof.Rows L2
noncomputable section
end
end Sb
end
section
set_option Elab.async false
set_option linter.all false
set_option maxRecDepth 100000
set_option maxHeartbeats 0
namespace K41
open PySem PySem.Spec PyProof.Rows L2 Sb
def top (i : Nat) : Stmt := PySem.Challenge.pw_slideback_k41_steps_to_near_decks.main.body.getD i (.Pass ⟨0, 0, 0, 0⟩)
abbrev s_is_whole : Stmt := top 7
abbrev s_is_depth : Stmt := top 8
abbrev s_is_listed : Stmt := top 9
abbrev s_is_name : Stmt := top 10
abbrev s_is_card : Stmt := top 11
abbrev s_deck_of : Stmt := top 14
abbrev s_reach_of : Stmt := top 15
abbrev s_names_of : Stmt := top 17
abbrev s_closed_of : Stmt := top 18
abbrev s_is_home_at : Stmt := top 19
abbrev s_away_places : Stmt := top 20
abbrev s_hand_of : Stmt := top 21
abbrev s_ring_of : Stmt := top 22
abbrev s_pattern_of : Stmt := top 24
abbrev s_often_round : Stmt := top 26
abbrev s_rows_of : Stmt := top 27
abbrev s_settled_rows : Stmt := top 29
abbrev s_require_settled : Stmt := top 30
abbrev s_turn_of : Stmt := top 31
abbrev s_rounds_by : Stmt := top 32
abbrev s_times_until : Stmt := top 33
abbrev s_steps_between : Stmt := top 34
abbrev s_steps_to : Stmt := top 35
abbrev s_reel_reel : Stmt := top 37
abbrev s_reel_draw : Stmt := top 38
abbrev s_reel_names : Stmt := top 39
abbrev s_reel_depths : Stmt := top 40
abbrev s_reel_deck : Stmt := top 41
abbrev s_reel_reach : Stmt := top 42
abbrev s_reel_slid : Stmt := top 43
abbrev s_reel_closed : Stmt := top 44
abbrev s_reel_away : Stmt := top 45
abbrev s_reel_home_deck : Stmt := top 46
abbrev s_reel_dressed : Stmt := top 47
abbrev s_reel_spoilt : Stmt := top 48
abbrev s_reel_round : Stmt := top 49
abbrev s_reel_others : Stmt := top 50
abbrev s_law : Stmt := top 51
def d_is_whole : He.DefD := ⟨("is_whole", none), "is_whole", "is_whole", defArgs s_is_whole, defBody s_is_whole, defScope s_is_whole, [], []⟩
def d_is_depth : He.DefD := ⟨("is_depth", none), "is_depth", "is_depth", defArgs s_is_depth, defBody s_is_depth, defScope s_is_depth, [], []⟩
def d_is_listed : He.DefD := ⟨("is_listed", none), "is_listed", "is_listed", defArgs s_is_listed, defBody s_is_listed, defScope s_is_listed, [], []⟩
def d_is_name : He.DefD := ⟨("is_name", none), "is_name", "is_name", defArgs s_is_name, defBody s_is_name, defScope s_is_name, [], []⟩
def d_is_card : He.DefD := ⟨("is_card", none), "is_card", "is_card", defArgs s_is_card, defBody s_is_card, defScope s_is_card, [], []⟩
def d_deck_of : He.DefD := ⟨("deck_of", none), "deck_of", "deck_of", defArgs s_deck_of, defBody s_deck_of, defScope s_deck_of, [], []⟩
def d_reach_of : He.DefD := ⟨("reach_of", none), "reach_of", "reach_of", defArgs s_reach_of, defBody s_reach_of, defScope s_reach_of, [], []⟩
def d_names_of : He.DefD := ⟨("names_of", none), "names_of", "names_of", defArgs s_names_of, defBody s_names_of, defScope s_names_of, [], []⟩
def d_closed_of : He.DefD := ⟨("closed_of", none), "closed_of", "closed_of", defArgs s_closed_of, defBody s_closed_of, defScope s_closed_of, [], []⟩
def d_is_home_at : He.DefD := ⟨("is_home_at", none), "is_home_at", "is_home_at", defArgs s_is_home_at, defBody s_is_home_at, defScope s_is_home_at, [], []⟩
def d_away_places : He.DefD := ⟨("away_places", none), "away_places", "away_places", defArgs s_away_places, defBody s_away_places, defScope s_away_places, [], []⟩
def d_hand_of : He.DefD := ⟨("hand_of", none), "hand_of", "hand_of", defArgs s_hand_of, defBody s_hand_of, defScope s_hand_of, [], []⟩
def d_ring_of : He.DefD := ⟨("ring_of", none), "ring_of", "ring_of", defArgs s_ring_of, defBody s_ring_of, defScope s_ring_of, [], []⟩
def d_pattern_of : He.DefD := ⟨("pattern_of", none), "pattern_of", "pattern_of", defArgs s_pattern_of, defBody s_pattern_of, defScope s_pattern_of, [], []⟩
def d_often_round : He.DefD := ⟨("often_round", none), "often_round", "often_round", defArgs s_often_round, defBody s_often_round, defScope s_often_round, [], []⟩
def d_rows_of : He.DefD := ⟨("rows_of", none), "rows_of", "rows_of", defArgs s_rows_of, defBody s_rows_of, defScope s_rows_of, [], []⟩
def d_settled_rows : He.DefD := ⟨("settled_rows", none), "settled_rows", "settled_rows", defArgs s_settled_rows, defBody s_settled_rows, defScope s_settled_rows, [], []⟩
def d_require_settled : He.DefD := ⟨("require_settled", none), "require_settled", "require_settled", defArgs s_require_settled, defBody s_require_settled, defScope s_require_settled, [], []⟩
def d_turn_of : He.DefD := ⟨("turn_of", none), "turn_of", "turn_of", defArgs s_turn_of, defBody s_turn_of, defScope s_turn_of, [], []⟩
def d_rounds_by : He.DefD := ⟨("rounds_by", none), "rounds_by", "rounds_by", defArgs s_rounds_by, defBody s_rounds_by, defScope s_rounds_by, [], []⟩
def d_times_until : He.DefD := ⟨("times_until", none), "times_until", "times_until", defArgs s_times_until, defBody s_times_until, defScope s_times_until, [], []⟩
def d_steps_between : He.DefD := ⟨("steps_between", none), "steps_between", "steps_between", defArgs s_steps_between, defBody s_steps_between, defScope s_steps_between, [], []⟩
def d_steps_to : He.DefD := ⟨("steps_to", none), "steps_to", "steps_to", defArgs s_steps_to, defBody s_steps_to, defScope s_steps_to, [], []⟩
def d_reel_reel : He.DefD := ⟨("_law_reel", none), "_law_reel", "_law_reel", defArgs s_reel_reel, defBody s_reel_reel, defScope s_reel_reel, [], []⟩
def d_reel_draw : He.DefD := ⟨("_law_draw", none), "_law_draw", "_law_draw", defArgs s_reel_draw, defBody s_reel_draw, defScope s_reel_draw, [], []⟩
def d_reel_names : He.DefD := ⟨("_law_names", none), "_law_names", "_law_names", defArgs s_reel_names, defBody s_reel_names, defScope s_reel_names, [], []⟩
def d_reel_depths : He.DefD := ⟨("_law_depths", none), "_law_depths", "_law_depths", defArgs s_reel_depths, defBody s_reel_depths, defScope s_reel_depths, [], []⟩
def d_reel_deck : He.DefD := ⟨("_law_deck", none), "_law_deck", "_law_deck", defArgs s_reel_deck, defBody s_reel_deck, defScope s_reel_deck, [], []⟩
def d_reel_reach : He.DefD := ⟨("_law_reach", none), "_law_reach", "_law_reach", defArgs s_reel_reach, defBody s_reel_reach, defScope s_reel_reach, [], []⟩
def d_reel_slid : He.DefD := ⟨("_law_slid", none), "_law_slid", "_law_slid", defArgs s_reel_slid, defBody s_reel_slid, defScope s_reel_slid, [], []⟩
def d_reel_closed : He.DefD := ⟨("_law_closed", none), "_law_closed", "_law_closed", defArgs s_reel_closed, defBody s_reel_closed, defScope s_reel_closed, [], []⟩
def d_reel_away : He.DefD := ⟨("_law_away", none), "_law_away", "_law_away", defArgs s_reel_away, defBody s_reel_away, defScope s_reel_away, [], []⟩
def d_reel_home_deck : He.DefD := ⟨("_law_home_deck", none), "_law_home_deck", "_law_home_deck", defArgs s_reel_home_deck, defBody s_reel_home_deck, defScope s_reel_home_deck, [], []⟩
def d_reel_dressed : He.DefD := ⟨("_law_dressed", none), "_law_dressed", "_law_dressed", defArgs s_reel_dressed, defBody s_reel_dressed, defScope s_reel_dressed, [], []⟩
def d_reel_spoilt : He.DefD := ⟨("_law_spoilt", none), "_law_spoilt", "_law_spoilt", defArgs s_reel_spoilt, defBody s_reel_spoilt, defScope s_reel_spoilt, [], []⟩
def d_reel_round : He.DefD := ⟨("_law_round", none), "_law_round", "_law_round", defArgs s_reel_round, defBody s_reel_round, defScope s_reel_round, [], []⟩
def d_reel_others : He.DefD := ⟨("_law_others", none), "_law_others", "_law_others", defArgs s_reel_others, defBody s_reel_others, defScope s_reel_others, [], []⟩
def d_law : He.DefD := ⟨("law", none), "law", "law", defArgs s_law, defBody s_law, defScope s_law, [], []⟩
def fn : List He.DefD := [d_is_whole, d_is_depth, d_is_listed, d_is_name, d_is_card, d_deck_of, d_reach_of, d_names_of, d_closed_of, d_is_home_at, d_away_places, d_hand_of, d_ring_of, d_pattern_of, d_often_round, d_rows_of, d_settled_rows, d_require_settled, d_turn_of, d_rounds_by, d_times_until, d_steps_between, d_steps_to, d_reel_reel, d_reel_draw, d_reel_names, d_reel_depths, d_reel_deck, d_reel_reach, d_reel_slid, d_reel_closed, d_reel_away, d_reel_home_deck, d_reel_dressed, d_reel_spoilt, d_reel_round, d_reel_others, d_law]
def fa0 : List He.Fa := [.glo "is_whole", .glo "is_depth", .glo "is_listed", .glo "is_name", .glo "is_card", .glo "deck_of", .glo "reach_of", .glo "names_of", .glo "closed_of", .glo "is_home_at", .glo "away_places", .glo "hand_of", .glo "ring_of", .glo "pattern_of", .glo "often_round", .glo "rows_of", .glo "settled_rows", .glo "require_settled", .glo "turn_of", .glo "rounds_by", .glo "times_until", .glo "steps_between", .glo "steps_to", .glo "_law_reel", .glo "_law_draw", .glo "_law_names", .glo "_law_depths", .glo "_law_deck", .glo "_law_reach", .glo "_law_slid"]
def fa1 : List He.Fa := [.glo "_law_closed", .glo "_law_away", .glo "_law_home_deck", .glo "_law_dressed", .glo "_law_spoilt", .glo "_law_round", .glo "_law_others", .glo "law", .free "all", .free "bool", .free "divmod", .free "enumerate", .free "int", .free "isinstance", .free "len", .free "list", .free "max", .free "min", .free "range", .free "repr", .free "sorted", .free "str", .free "tuple", .free "zip", .int "MOST_LETTERS" 8, .int "MOST_CARDS" 40, .glo "DeckError", .exc "DeckError", .glo "NoDeck", .exc "NoDeck"]
def fa2 : List He.Fa := [.glo "NotSettled", .exc "NotSettled"]
def fa : List He.Fa := fa0 ++ fa1 ++ fa2
def tf : List He.Defn := [("is_name", none), ("deck_of", none)]
abbrev R : PySem.W.OpenRow := PySem.W.OpenLaw.row PySem.Challenge.rw_slideback_k41_steps_to_near_decks
abbrev hk : PySem.W.Hook := Sb.hookS 4 fa fn tf ((fun K => Sb.clsB [] K && Sb.gcdB K))
def ob (s : PySem.W.SharedT) : He.AlX × Bool := Sb.obsS 4 fa fn tf ((fun K => Sb.clsB [] K && Sb.gcdB K)) (HandSHeadRun.getT s)
theorem ob_eq (s : PySem.W.SharedT) : ob s = hk.obs s.abs := Sb.obsS_eq (HandSHeadRun.getT_eq s)
def lo0 : List PySem.Str := ["DeckError", "NoDeck", "NotSettled", "MOST_LETTERS", "MOST_CARDS", "is_whole", "is_depth", "is_listed", "is_name", "is_card", "deck_of", "reach_of", "names_of", "closed_of", "is_home_at", "away_places", "hand_of", "ring_of", "pattern_of", "often_round", "rows_of", "settled_rows", "require_settled", "turn_of", "rounds_by", "times_until", "steps_between", "steps_to", "_law_reel", "_law_draw"]
def lo1 : List PySem.Str := ["_law_names", "_law_depths", "_law_deck", "_law_reach", "_law_slid", "_law_closed", "_law_away", "_law_home_deck", "_law_dressed", "_law_spoilt", "_law_round", "_law_others"]
def loose : List PySem.Str := lo0 ++ lo1
abbrev lawAt : Nat := 51
abbrev steps : Nat := 12000
theorem run (w : World) : HandSHeadRun.RunEqI R (PySem.W.view R.prog [0, 51]) hk ob 12000 loose w := by
  unfold HandSHeadRun.RunEqI
  kernel_rfl
structure Ev (P : Program) (w : World) (mg : Str → Option Value) (base : Heap) (K : PySem.W.Frag) : Prop where
  says : He.SaysD fa fn K
  kin : K.In base
  ns : base.Ns mainGlobals mg
  tbs : ∀ p ∈ tf.map (He.cT K), GxR.TabB base mg p.1 p.2
  sys : ∃ o, base.get? sysModules = some o
  gcd : mg "gcd" = some (.builtin "math.gcd")
abbrev TT (P : Program) (w : World) (K : PySem.W.Frag) : Sb.Tb := ⟨P, w, K, (tf.map (He.cT K)).map (·.2)⟩
section
variable {P : Program} {w : World} {mg : Str → Option Value} {base : Heap} {K : PySem.W.Frag}
theorem Ev.tb (e : Ev P w mg base K) (p : He.Defn) (h : p ∈ tf) : GxR.TabB base mg (He.codeOf K p) (He.tabOf K (He.codeOf K p)) := e.tbs (He.cT K p) (List.mem_map_of_mem h)
theorem Ev.tbm (e : Ev P w mg base K) (p : He.Defn) (h : p ∈ tf) : He.tabOf K (He.codeOf K p) ∈ (TT P w K).tabs := List.mem_map_of_mem (f := (·.2)) (List.mem_map_of_mem (f := He.cT K) h)
theorem Ev.gl_is_whole (e : Ev P w mg base K) : mg "is_whole" = some (.ref (He.ga K "is_whole")) := He.glo_ok e.kin e.ns (e.says.fact 0 (f := .glo "is_whole") rfl)
theorem Ev.gl_is_depth (e : Ev P w mg base K) : mg "is_depth" = some (.ref (He.ga K "is_depth")) := He.glo_ok e.kin e.ns (e.says.fact 1 (f := .glo "is_depth") rfl)
theorem Ev.gl_is_listed (e : Ev P w mg base K) : mg "is_listed" = some (.ref (He.ga K "is_listed")) := He.glo_ok e.kin e.ns (e.says.fact 2 (f := .glo "is_listed") rfl)
theorem Ev.gl_is_name (e : Ev P w mg base K) : mg "is_name" = some (.ref (He.ga K "is_name")) := He.glo_ok e.kin e.ns (e.says.fact 3 (f := .glo "is_name") rfl)
theorem Ev.gl_is_card (e : Ev P w mg base K) : mg "is_card" = some (.ref (He.ga K "is_card")) := He.glo_ok e.kin e.ns (e.says.fact 4 (f := .glo "is_card") rfl)
theorem Ev.gl_deck_of (e : Ev P w mg base K) : mg "deck_of" = some (.ref (He.ga K "deck_of")) := He.glo_ok e.kin e.ns (e.says.fact 5 (f := .glo "deck_of") rfl)
theorem Ev.gl_reach_of (e : Ev P w mg base K) : mg "reach_of" = some (.ref (He.ga K "reach_of")) := He.glo_ok e.kin e.ns (e.says.fact 6 (f := .glo "reach_of") rfl)
theorem Ev.gl_names_of (e : Ev P w mg base K) : mg "names_of" = some (.ref (He.ga K "names_of")) := He.glo_ok e.kin e.ns (e.says.fact 7 (f := .glo "names_of") rfl)
theorem Ev.gl_closed_of (e : Ev P w mg base K) : mg "closed_of" = some (.ref (He.ga K "closed_of")) := He.glo_ok e.kin e.ns (e.says.fact 8 (f := .glo "closed_of") rfl)
theorem Ev.gl_is_home_at (e : Ev P w mg base K) : mg "is_home_at" = some (.ref (He.ga K "is_home_at")) := He.glo_ok e.kin e.ns (e.says.fact 9 (f := .glo "is_home_at") rfl)
theorem Ev.gl_away_places (e : Ev P w mg base K) : mg "away_places" = some (.ref (He.ga K "away_places")) := He.glo_ok e.kin e.ns (e.says.fact 10 (f := .glo "away_places") rfl)
theorem Ev.gl_hand_of (e : Ev P w mg base K) : mg "hand_of" = some (.ref (He.ga K "hand_of")) := He.glo_ok e.kin e.ns (e.says.fact 11 (f := .glo "hand_of") rfl)
theorem Ev.gl_ring_of (e : Ev P w mg base K) : mg "ring_of" = some (.ref (He.ga K "ring_of")) := He.glo_ok e.kin e.ns (e.says.fact 12 (f := .glo "ring_of") rfl)
theorem Ev.gl_pattern_of (e : Ev P w mg base K) : mg "pattern_of" = some (.ref (He.ga K "pattern_of")) := He.glo_ok e.kin e.ns (e.says.fact 13 (f := .glo "pattern_of") rfl)
theorem Ev.gl_often_round (e : Ev P w mg base K) : mg "often_round" = some (.ref (He.ga K "often_round")) := He.glo_ok e.kin e.ns (e.says.fact 14 (f := .glo "often_round") rfl)
theorem Ev.gl_rows_of (e : Ev P w mg base K) : mg "rows_of" = some (.ref (He.ga K "rows_of")) := He.glo_ok e.kin e.ns (e.says.fact 15 (f := .glo "rows_of") rfl)
theorem Ev.gl_settled_rows (e : Ev P w mg base K) : mg "settled_rows" = some (.ref (He.ga K "settled_rows")) := He.glo_ok e.kin e.ns (e.says.fact 16 (f := .glo "settled_rows") rfl)
theorem Ev.gl_require_settled (e : Ev P w mg base K) : mg "require_settled" = some (.ref (He.ga K "require_settled")) := He.glo_ok e.kin e.ns (e.says.fact 17 (f := .glo "require_settled") rfl)
theorem Ev.gl_turn_of (e : Ev P w mg base K) : mg "turn_of" = some (.ref (He.ga K "turn_of")) := He.glo_ok e.kin e.ns (e.says.fact 18 (f := .glo "turn_of") rfl)
theorem Ev.gl_rounds_by (e : Ev P w mg base K) : mg "rounds_by" = some (.ref (He.ga K "rounds_by")) := He.glo_ok e.kin e.ns (e.says.fact 19 (f := .glo "rounds_by") rfl)
theorem Ev.gl_times_until (e : Ev P w mg base K) : mg "times_until" = some (.ref (He.ga K "times_until")) := He.glo_ok e.kin e.ns (e.says.fact 20 (f := .glo "times_until") rfl)
theorem Ev.gl_steps_between (e : Ev P w mg base K) : mg "steps_between" = some (.ref (He.ga K "steps_between")) := He.glo_ok e.kin e.ns (e.says.fact 21 (f := .glo "steps_between") rfl)
theorem Ev.gl_steps_to (e : Ev P w mg base K) : mg "steps_to" = some (.ref (He.ga K "steps_to")) := He.glo_ok e.kin e.ns (e.says.fact 22 (f := .glo "steps_to") rfl)
theorem Ev.gl__law_reel (e : Ev P w mg base K) : mg "_law_reel" = some (.ref (He.ga K "_law_reel")) := He.glo_ok e.kin e.ns (e.says.fact 23 (f := .glo "_law_reel") rfl)
theorem Ev.gl__law_draw (e : Ev P w mg base K) : mg "_law_draw" = some (.ref (He.ga K "_law_draw")) := He.glo_ok e.kin e.ns (e.says.fact 24 (f := .glo "_law_draw") rfl)
theorem Ev.gl__law_names (e : Ev P w mg base K) : mg "_law_names" = some (.ref (He.ga K "_law_names")) := He.glo_ok e.kin e.ns (e.says.fact 25 (f := .glo "_law_names") rfl)
theorem Ev.gl__law_depths (e : Ev P w mg base K) : mg "_law_depths" = some (.ref (He.ga K "_law_depths")) := He.glo_ok e.kin e.ns (e.says.fact 26 (f := .glo "_law_depths") rfl)
theorem Ev.gl__law_deck (e : Ev P w mg base K) : mg "_law_deck" = some (.ref (He.ga K "_law_deck")) := He.glo_ok e.kin e.ns (e.says.fact 27 (f := .glo "_law_deck") rfl)
theorem Ev.gl__law_reach (e : Ev P w mg base K) : mg "_law_reach" = some (.ref (He.ga K "_law_reach")) := He.glo_ok e.kin e.ns (e.says.fact 28 (f := .glo "_law_reach") rfl)
theorem Ev.gl__law_slid (e : Ev P w mg base K) : mg "_law_slid" = some (.ref (He.ga K "_law_slid")) := He.glo_ok e.kin e.ns (e.says.fact 29 (f := .glo "_law_slid") rfl)
theorem Ev.gl__law_closed (e : Ev P w mg base K) : mg "_law_closed" = some (.ref (He.ga K "_law_closed")) := He.glo_ok e.kin e.ns (e.says.fact 30 (f := .glo "_law_closed") rfl)
theorem Ev.gl__law_away (e : Ev P w mg base K) : mg "_law_away" = some (.ref (He.ga K "_law_away")) := He.glo_ok e.kin e.ns (e.says.fact 31 (f := .glo "_law_away") rfl)
theorem Ev.gl__law_home_deck (e : Ev P w mg base K) : mg "_law_home_deck" = some (.ref (He.ga K "_law_home_deck")) := He.glo_ok e.kin e.ns (e.says.fact 32 (f := .glo "_law_home_deck") rfl)
theorem Ev.gl__law_dressed (e : Ev P w mg base K) : mg "_law_dressed" = some (.ref (He.ga K "_law_dressed")) := He.glo_ok e.kin e.ns (e.says.fact 33 (f := .glo "_law_dressed") rfl)
theorem Ev.gl__law_round (e : Ev P w mg base K) : mg "_law_round" = some (.ref (He.ga K "_law_round")) := He.glo_ok e.kin e.ns (e.says.fact 35 (f := .glo "_law_round") rfl)
theorem Ev.gl__law_others (e : Ev P w mg base K) : mg "_law_others" = some (.ref (He.ga K "_law_others")) := He.glo_ok e.kin e.ns (e.says.fact 36 (f := .glo "_law_others") rfl)
theorem Ev.fr_all (e : Ev P w mg base K) : mg "all" = none := He.free_ok e.kin e.ns (e.says.fact 38 (f := .free "all") rfl)
theorem Ev.fr_bool (e : Ev P w mg base K) : mg "bool" = none := He.free_ok e.kin e.ns (e.says.fact 39 (f := .free "bool") rfl)
theorem Ev.fr_divmod (e : Ev P w mg base K) : mg "divmod" = none := He.free_ok e.kin e.ns (e.says.fact 40 (f := .free "divmod") rfl)
theorem Ev.fr_enumerate (e : Ev P w mg base K) : mg "enumerate" = none := He.free_ok e.kin e.ns (e.says.fact 41 (f := .free "enumerate") rfl)
theorem Ev.fr_int (e : Ev P w mg base K) : mg "int" = none := He.free_ok e.kin e.ns (e.says.fact 42 (f := .free "int") rfl)
theorem Ev.fr_isinstance (e : Ev P w mg base K) : mg "isinstance" = none := He.free_ok e.kin e.ns (e.says.fact 43 (f := .free "isinstance") rfl)
theorem Ev.fr_len (e : Ev P w mg base K) : mg "len" = none := He.free_ok e.kin e.ns (e.says.fact 44 (f := .free "len") rfl)
theorem Ev.fr_list (e : Ev P w mg base K) : mg "list" = none := He.free_ok e.kin e.ns (e.says.fact 45 (f := .free "list") rfl)
theorem Ev.fr_max (e : Ev P w mg base K) : mg "max" = none := He.free_ok e.kin e.ns (e.says.fact 46 (f := .free "max") rfl)
theorem Ev.fr_min (e : Ev P w mg base K) : mg "min" = none := He.free_ok e.kin e.ns (e.says.fact 47 (f := .free "min") rfl)
theorem Ev.fr_range (e : Ev P w mg base K) : mg "range" = none := He.free_ok e.kin e.ns (e.says.fact 48 (f := .free "range") rfl)
theorem Ev.fr_repr (e : Ev P w mg base K) : mg "repr" = none := He.free_ok e.kin e.ns (e.says.fact 49 (f := .free "repr") rfl)
theorem Ev.fr_sorted (e : Ev P w mg base K) : mg "sorted" = none := He.free_ok e.kin e.ns (e.says.fact 50 (f := .free "sorted") rfl)
theorem Ev.fr_str (e : Ev P w mg base K) : mg "str" = none := He.free_ok e.kin e.ns (e.says.fact 51 (f := .free "str") rfl)
theorem Ev.fr_tuple (e : Ev P w mg base K) : mg "tuple" = none := He.free_ok e.kin e.ns (e.says.fact 52 (f := .free "tuple") rfl)
theorem Ev.fr_zip (e : Ev P w mg base K) : mg "zip" = none := He.free_ok e.kin e.ns (e.says.fact 53 (f := .free "zip") rfl)
theorem Ev.ct_MOST_LETTERS (e : Ev P w mg base K) : ∃ t, mg "MOST_LETTERS" = some (.int 8 t) := He.int_ok e.kin e.ns (e.says.fact 54 (f := .int "MOST_LETTERS" 8) rfl)
theorem Ev.ct_MOST_CARDS (e : Ev P w mg base K) : ∃ t, mg "MOST_CARDS" = some (.int 40 t) := He.int_ok e.kin e.ns (e.says.fact 55 (f := .int "MOST_CARDS" 40) rfl)
theorem Ev.gl_NoDeck (e : Ev P w mg base K) : mg "NoDeck" = some (.ref (He.ga K "NoDeck")) := He.glo_ok e.kin e.ns (e.says.fact 58 (f := .glo "NoDeck") rfl)
theorem Ev.ex_NoDeck (e : Ev P w mg base K) : PySem.W.excIn K (He.ga K "NoDeck") He.veBase "ValueError.__new__" = true ∧ PySem.W.keepIn K (.ref (He.ga K "NoDeck")) = true ∧ PySem.W.subIn K (.ref (He.ga K "NoDeck")) (.type "BaseException") = some true ∧ PySem.W.typeIn K (.ref (He.ga K "NoDeck")) = some (.type "type") := He.exc_ok (e.says.fact 59 (f := .exc "NoDeck") rfl)
theorem Ev.gl_NotSettled (e : Ev P w mg base K) : mg "NotSettled" = some (.ref (He.ga K "NotSettled")) := He.glo_ok e.kin e.ns (e.says.fact 60 (f := .glo "NotSettled") rfl)
theorem Ev.ex_NotSettled (e : Ev P w mg base K) : PySem.W.excIn K (He.ga K "NotSettled") He.veBase "ValueError.__new__" = true ∧ PySem.W.keepIn K (.ref (He.ga K "NotSettled")) = true ∧ PySem.W.subIn K (.ref (He.ga K "NotSettled")) (.type "BaseException") = some true ∧ PySem.W.typeIn K (.ref (He.ga K "NotSettled")) = some (.type "type") := He.exc_ok (e.says.fact 61 (f := .exc "NotSettled") rfl)
end
/-! is_whole: 0 thing -/
theorem sc_is_whole : FnScope ["thing"] ["thing"] (defScope s_is_whole) := ⟨rfl, rfl, rfl, by decide +kernel, rfl, by decide +kernel, by decide +kernel⟩
abbrev lv_is_whole : Nat := 1
theorem ok_is_whole {P : Program} {w : World} {mg : Str → Option Value} {base : Heap} {K : PySem.W.Frag} (e : Ev P w mg base K) : CalG P w mg base (TT P w K) lv_is_whole 1 "is_whole" (M_is_whole) := by
  obtain ⟨fd, F⟩ := e.says.def_ 0 (d := d_is_whole) rfl
  refine cal_ofG (T := TT P w K) (p := ("is_whole", none)) (N := ["thing"]) (ps := ["thing"]) (k := 0) F sc_is_whole e.gl_is_whole (fun _ _ _ _ _ _ us hl => match us, hl with | [_], _ => rfl) (fun A outer s H E hr hq => ?_)
  exact b_one (s_ret (d_and (d_is (by rfl) e.fr_isinstance (by rfl) e.fr_int (by decide +kernel) (d_var 0)) (d_one (d_not (d_is (by rfl) e.fr_isinstance (by rfl) e.fr_bool (by decide +kernel) (d_var 0))))))
/-! is_depth: 0 thing -/
theorem sc_is_depth : FnScope ["thing"] ["thing"] (defScope s_is_depth) := ⟨rfl, rfl, rfl, by decide +kernel, rfl, by decide +kernel, by decide +kernel⟩
abbrev lv_is_depth : Nat := 2
theorem ok_is_depth {P : Program} {w : World} {mg : Str → Option Value} {base : Heap} {K : PySem.W.Frag} (e : Ev P w mg base K) : CalG P w mg base (TT P w K) lv_is_depth 1 "is_depth" (M_is_depth) := by
  obtain ⟨fd, F⟩ := e.says.def_ 1 (d := d_is_depth) rfl
  refine cal_ofG (T := TT P w K) (p := ("is_depth", none)) (N := ["thing"]) (ps := ["thing"]) (k := 1) F sc_is_depth e.gl_is_depth (fun _ _ _ _ _ _ us hl => match us, hl with | [_], _ => rfl) (fun A outer s H E hr hq => ?_)
  exact b_one (s_ret (d_and (d_callCG (k := lv_is_whole) (ok_is_whole e) (by rfl) (hr.mono (by decide)) hq bX_takes (d_cons (d_var 0) (d_nil))) (d_one (d_cmp o_ge (d_var 0) (d_int) (by first | exact nobehind _ (by decide) (by decide) | rfl)))))
/-! is_listed: 0 thing -/
theorem sc_is_listed : FnScope ["thing"] ["thing"] (defScope s_is_listed) := ⟨rfl, rfl, rfl, by decide +kernel, rfl, by decide +kernel, by decide +kernel⟩
abbrev lv_is_listed : Nat := 1
theorem ok_is_listed {P : Program} {w : World} {mg : Str → Option Value} {base : Heap} {K : PySem.W.Frag} (e : Ev P w mg base K) : CalG P w mg base (TT P w K) lv_is_listed 1 "is_listed" (M_is_listed) := by
  obtain ⟨fd, F⟩ := e.says.def_ 2 (d := d_is_listed) rfl
  refine cal_ofG (T := TT P w K) (p := ("is_listed", none)) (N := ["thing"]) (ps := ["thing"]) (k := 0) F sc_is_listed e.gl_is_listed (fun _ _ _ _ _ _ us hl => match us, hl with | [_], _ => rfl) (fun A outer s H E hr hq => ?_)
  exact b_one (s_ret (d_is2 (by rfl) e.fr_isinstance (by rfl) e.fr_list (by decide +kernel) (by rfl) e.fr_tuple (by decide +kernel) (d_var 0)))
/-! is_name: 0 thing, 1 sign -/
theorem sc_is_name : FnScope ["thing", "sign"] ["thing"] (defScope s_is_name) := ⟨rfl, rfl, rfl, by decide +kernel, rfl, by decide +kernel, by decide +kernel⟩
abbrev lv_is_name : Nat := 2
theorem ok_is_name {P : Program} {w : World} {mg : Str → Option Value} {base : Heap} {K : PySem.W.Frag} (e : Ev P w mg base K) : CalG P w mg base (TT P w K) lv_is_name 1 "is_name" (M_is_name) := by
  obtain ⟨fd, F⟩ := e.says.def_ 3 (d := d_is_name) rfl
  obtain ⟨t_MOST_LETTERS, hc_MOST_LETTERS⟩ := e.ct_MOST_LETTERS
  refine cal_ofG (T := TT P w K) (p := ("is_name", none)) (N := ["thing", "sign"]) (ps := ["thing"]) (k := 1) F sc_is_name e.gl_is_name (fun _ _ _ _ _ _ us hl => match us, hl with | [_], _ => rfl) (fun A outer s H E hr hq => ?_)
  exact b_cons (s_if (ptw (w_or (t_not (t_val (d_is (by rfl) e.fr_isinstance (by rfl) e.fr_str (by decide +kernel) (d_var 0)))) (w_or1 (t_not (t_chain o_le o_le (d_int) (d_callB (c_lenX (by rfl) (by rfl) (by rfl)) (by rfl) e.fr_len (by decide +kernel) (d_cons (d_var 0) (d_nil))) (d_num (by rfl) hc_MOST_LETTERS)))))) (b_one (s_ret (d_bl))) (b_nil))
      (b_one (s_ret (d_all (k := 0) rfl (hr.mono (by decide)) (by rfl) e.fr_all (e.tb _ (by decide)) (e.tbm _ (by decide)) rfl ⟨rfl, rfl, by decide +kernel, by decide +kernel, by decide +kernel⟩ (i_seq (d_var 0)) (fun _ _ _ _ _ _ _ _ _ => g_name (i := 1) sc_is_name.nd (by rfl) (by first | exact Or.inl rfl | exact Or.inr rfl)) (fun _ _ _ _ _ _ _ hr2 hq2 => d_chain o_le o_le (d_str) (d_var 1) (d_str)))))
/-! is_card: 0 thing -/
theorem sc_is_card : FnScope ["thing"] ["thing"] (defScope s_is_card) := ⟨rfl, rfl, rfl, by decide +kernel, rfl, by decide +kernel, by decide +kernel⟩
abbrev lv_is_card : Nat := 3
theorem ok_is_card {P : Program} {w : World} {mg : Str → Option Value} {base : Heap} {K : PySem.W.Frag} (e : Ev P w mg base K) : CalG P w mg base (TT P w K) lv_is_card 1 "is_card" (M_is_card) := by
  obtain ⟨fd, F⟩ := e.says.def_ 4 (d := d_is_card) rfl
  refine cal_ofG (T := TT P w K) (p := ("is_card", none)) (N := ["thing"]) (ps := ["thing"]) (k := 2) F sc_is_card e.gl_is_card (fun _ _ _ _ _ _ us hl => match us, hl with | [_], _ => rfl) (fun A outer s H E hr hq => ?_)
  exact b_cons (s_if (ptw (w_or (t_not (t_val (d_callCG (k := lv_is_listed) (ok_is_listed e) (by rfl) (hr.mono (by decide)) hq bX_takes (d_cons (d_var 0) (d_nil))))) (w_or1 (t_cmp (o_ne hr.u64) (d_callB (c_lenX (by rfl) (by rfl) (by rfl)) (by rfl) e.fr_len (by decide +kernel) (d_cons (d_var 0) (d_nil))) (d_int) (by first | exact nobehind _ (by decide) (by decide) | rfl))))) (b_one (s_ret (d_bl))) (b_nil))
      (b_one (s_ret (d_and (d_callCG (k := lv_is_name) (ok_is_name e) (by rfl) (hr.mono (by decide)) hq bX_takes (d_cons (d_ix (x_ix (by rfl)) (d_var 0) (d_int)) (d_nil))) (d_one (d_callCG (k := lv_is_depth) (ok_is_depth e) (by rfl) (hr.mono (by decide)) hq bX_takes (d_cons (d_ix (x_ix (by rfl)) (d_var 0) (d_int)) (d_nil)))))))
/-! deck_of: 0 cards, 1 card, 2 deck, 3 name, 4 depth -/
theorem sc_deck_of : FnScope ["cards", "card", "deck", "name", "depth"] ["cards"] (defScope s_deck_of) := ⟨rfl, rfl, rfl, by decide +kernel, rfl, by decide +kernel, by decide +kernel⟩
abbrev lv_deck_of : Nat := 5
theorem ok_deck_of {P : Program} {w : World} {mg : Str → Option Value} {base : Heap} {K : PySem.W.Frag} (e : Ev P w mg base K) : CalG P w mg base (TT P w K) lv_deck_of 1 "deck_of" (M_deck_of K) := by
  obtain ⟨fd, F⟩ := e.says.def_ 5 (d := d_deck_of) rfl
  obtain ⟨t_MOST_CARDS, hc_MOST_CARDS⟩ := e.ct_MOST_CARDS
  refine cal_ofG (T := TT P w K) (p := ("deck_of", none)) (N := ["cards", "card", "deck", "name", "depth"]) (ps := ["cards"]) (k := 4) F sc_deck_of e.gl_deck_of (fun _ _ _ _ _ _ us hl => match us, hl with | [_], _ => rfl) (fun A outer s H E hr hq => ?_)
  exact b_cons (s_if (ptw (w_or (t_not (t_val (d_callCG (k := lv_is_listed) (ok_is_listed e) (by rfl) (hr.mono (by decide)) hq bX_takes (d_cons (d_var 0) (d_nil))))) (w_or1 (t_not (t_chain o_le o_le (d_int) (d_callB (c_lenX (by rfl) (by rfl) (by rfl)) (by rfl) e.fr_len (by decide +kernel) (d_cons (d_var 0) (d_nil))) (d_num (by rfl) hc_MOST_CARDS)))))) (b_one (s_raise (by rfl) bX_takes e.gl_NoDeck e.ex_NoDeck)) (b_nil))
      (b_cons (s_if (t_not (t_val (d_all (k := 3) rfl (hr.mono (by decide)) (by rfl) e.fr_all (e.tb _ (by decide)) (e.tbm _ (by decide)) rfl ⟨rfl, rfl, by decide +kernel, by decide +kernel, by decide +kernel⟩ (i_seq (d_var 0)) (fun _ _ _ _ _ _ _ _ _ => g_name (i := 1) sc_deck_of.nd (by rfl) (by first | exact Or.inl rfl | exact Or.inr rfl)) (fun _ _ _ _ _ _ _ hr2 hq2 => d_callCG (k := lv_is_card) (ok_is_card e) (by rfl) (hr2.mono (by decide)) (hq2 hq) takes0 (d_cons (d_var 1) (d_nil)))))) (b_one (s_raise (by rfl) bX_takes e.gl_NoDeck e.ex_NoDeck)) (b_nil))
      (b_cons (s_set (i := 2) sc_deck_of.nd (by rfl) (by first | exact Or.inl rfl | exact Or.inr rfl) (d_callTy (c_tuple (by rfl)) (by rfl) e.fr_tuple (by decide +kernel) (d_cons (d_lc (own := [("name", 3), ("depth", 4)]) (by rfl) sc_deck_of.nd (i_seq (d_var 0)) (blkOk_by (by kernel_rfl)) (fun _ _ _ _ _ => g_two (i := 3) (j := 4) (by rfl) (by rfl) sc_deck_of.nd (by rfl) (by first | exact Or.inl rfl | exact Or.inr rfl) (by rfl) (by first | exact Or.inl rfl | exact Or.inr rfl)) (fun _ _ _ _ _ => ts_nil) (fun _ _ _ _ _ => d_tup (d_cons (d_var 3) (d_cons (d_var 4) (d_nil))))) (d_nil))))
      (b_cons (s_if (t_cmp o_lt (d_callB (c_lenX (by rfl) (by rfl) (by rfl)) (by rfl) e.fr_len (by decide +kernel) (d_cons (d_sc (own := [("card", 1)]) (by rfl) (by rfl) (by rfl) sc_deck_of.nd (i_seq (d_var 2)) (blkOk_by (by kernel_rfl)) (fun _ _ _ _ _ => g_name (i := 1) sc_deck_of.nd (by rfl) (by first | exact Or.inl rfl | exact Or.inr rfl)) (fun _ _ _ _ _ => d_ix (x_ix (by rfl)) (d_var 1) (d_int))) (d_nil))) (d_callB (c_lenX (by rfl) (by rfl) (by rfl)) (by rfl) e.fr_len (by decide +kernel) (d_cons (d_var 2) (d_nil))) (by first | exact nobehind _ (by decide) (by decide) | rfl)) (b_one (s_raise (by rfl) bX_takes e.gl_NoDeck e.ex_NoDeck)) (b_nil))
      (b_one (s_ret (d_var 2))))))
/-! reach_of: 0 card, 1 many -/
theorem sc_reach_of : FnScope ["card", "many"] ["card", "many"] (defScope s_reach_of) := ⟨rfl, rfl, rfl, by decide +kernel, rfl, by decide +kernel, by decide +kernel⟩
abbrev lv_reach_of : Nat := 1
theorem ok_reach_of {P : Program} {w : World} {mg : Str → Option Value} {base : Heap} {K : PySem.W.Frag} (e : Ev P w mg base K) : CalG P w mg base (TT P w K) lv_reach_of 2 "reach_of" (M_reach_of) := by
  obtain ⟨fd, F⟩ := e.says.def_ 6 (d := d_reach_of) rfl
  refine cal_ofG (T := TT P w K) (p := ("reach_of", none)) (N := ["card", "many"]) (ps := ["card", "many"]) (k := 0) F sc_reach_of e.gl_reach_of (fun _ _ _ _ _ _ us hl => match us, hl with | [_, _], _ => rfl) (fun A outer s H E hr hq => ?_)
  exact b_one (s_ret (d_callB (c_min2 (by rfl)) (by rfl) e.fr_min (by decide +kernel) (d_cons (d_ix (x_ix (by rfl)) (d_var 0) (d_int)) (d_cons (d_bin o_sub (d_var 1) (d_int)) (d_nil)))))
/-! names_of: 0 cards, 1 card -/
theorem sc_names_of : FnScope ["cards", "card"] ["cards"] (defScope s_names_of) := ⟨rfl, rfl, rfl, by decide +kernel, rfl, by decide +kernel, by decide +kernel⟩
abbrev lv_names_of : Nat := 1
theorem ok_names_of {P : Program} {w : World} {mg : Str → Option Value} {base : Heap} {K : PySem.W.Frag} (e : Ev P w mg base K) : CalG P w mg base (TT P w K) lv_names_of 1 "names_of" (M_names_of) := by
  obtain ⟨fd, F⟩ := e.says.def_ 7 (d := d_names_of) rfl
  refine cal_ofG (T := TT P w K) (p := ("names_of", none)) (N := ["cards", "card"]) (ps := ["cards"]) (k := 0) F sc_names_of e.gl_names_of (fun _ _ _ _ _ _ us hl => match us, hl with | [_], _ => rfl) (fun A outer s H E hr hq => ?_)
  exact b_one (s_ret (d_fz (d_lc (own := [("card", 1)]) (by rfl) sc_names_of.nd (i_seq (d_var 0)) (blkOk_by (by kernel_rfl)) (fun _ _ _ _ _ => g_name (i := 1) sc_names_of.nd (by rfl) (by first | exact Or.inl rfl | exact Or.inr rfl)) (fun _ _ _ _ _ => ts_nil) (fun _ _ _ _ _ => d_ix (x_ix (by rfl)) (d_var 1) (d_int)))))
/-! closed_of: 0 deck, 1 farthest, 2 place, 3 card -/
theorem sc_closed_of : FnScope ["deck", "farthest", "place", "card"] ["deck"] (defScope s_closed_of) := ⟨rfl, rfl, rfl, by decide +kernel, rfl, by decide +kernel, by decide +kernel⟩
abbrev lv_closed_of : Nat := 2
theorem ok_closed_of {P : Program} {w : World} {mg : Str → Option Value} {base : Heap} {K : PySem.W.Frag} (e : Ev P w mg base K) : CalG P w mg base (TT P w K) lv_closed_of 1 "closed_of" (M_closed_of) := by
  obtain ⟨fd, F⟩ := e.says.def_ 8 (d := d_closed_of) rfl
  refine cal_ofG (T := TT P w K) (p := ("closed_of", none)) (N := ["deck", "farthest", "place", "card"]) (ps := ["deck"]) (k := 1) F sc_closed_of e.gl_closed_of (fun _ _ _ _ _ _ us hl => match us, hl with | [_], _ => rfl) (fun A outer s H E hr hq => ?_)
  exact b_cons (s_set (i := 1) sc_closed_of.nd (by rfl) (by first | exact Or.inl rfl | exact Or.inr rfl) (d_int))
      (b_cons (s_for bX_passes (by rfl) (i_enum (by rfl) (by rfl) e.fr_enumerate (d_cons (d_var 0) (d_nil))) (g_two (i := 2) (j := 3) (by rfl) (by rfl) sc_closed_of.nd (by rfl) (by first | exact Or.inl rfl | exact Or.inr rfl) (by rfl) (by first | exact Or.inl rfl | exact Or.inr rfl))
      (b_cons (s_if (t_cmp o_lt (d_var 1) (d_var 2) (by first | exact nobehind _ (by decide) (by decide) | rfl)) (b_one (s_ret (d_var 2))) (b_nil))
      (b_one (s_set (i := 1) sc_closed_of.nd (by rfl) (by first | exact Or.inl rfl | exact Or.inr rfl) (d_callB (c_max (by rfl) (by rfl)) (by rfl) e.fr_max (by decide +kernel) (d_cons (d_var 1) (d_cons (d_callCG (k := lv_reach_of) (ok_reach_of e) (by rfl) (hr.mono (by decide)) hq bX_takes (d_cons (d_var 3) (d_cons (d_callB (c_lenX (by rfl) (by rfl) (by rfl)) (by rfl) e.fr_len (by decide +kernel) (d_cons (d_var 0) (d_nil))) (d_nil)))) (d_nil))))))))
      (b_one (s_ret (d_callB (c_lenX (by rfl) (by rfl) (by rfl)) (by rfl) e.fr_len (by decide +kernel) (d_cons (d_var 0) (d_nil))))))
/-! is_home_at: 0 deck, 1 place -/
theorem sc_is_home_at : FnScope ["deck", "place"] ["deck", "place"] (defScope s_is_home_at) := ⟨rfl, rfl, rfl, by decide +kernel, rfl, by decide +kernel, by decide +kernel⟩
abbrev lv_is_home_at : Nat := 2
theorem ok_is_home_at {P : Program} {w : World} {mg : Str → Option Value} {base : Heap} {K : PySem.W.Frag} (e : Ev P w mg base K) : CalG P w mg base (TT P w K) lv_is_home_at 2 "is_home_at" (M_is_home_at) := by
  obtain ⟨fd, F⟩ := e.says.def_ 9 (d := d_is_home_at) rfl
  refine cal_ofG (T := TT P w K) (p := ("is_home_at", none)) (N := ["deck", "place"]) (ps := ["deck", "place"]) (k := 1) F sc_is_home_at e.gl_is_home_at (fun _ _ _ _ _ _ us hl => match us, hl with | [_, _], _ => rfl) (fun A outer s H E hr hq => ?_)
  exact b_one (s_ret (d_cmp o_le (d_var 1) (d_callCG (k := lv_reach_of) (ok_reach_of e) (by rfl) (hr.mono (by decide)) hq bX_takes (d_cons (d_ix (x_ix (by rfl)) (d_var 0) (d_var 1)) (d_cons (d_callB (c_lenX (by rfl) (by rfl) (by rfl)) (by rfl) e.fr_len (by decide +kernel) (d_cons (d_var 0) (d_nil))) (d_nil)))) (by first | exact nobehind _ (by decide) (by decide) | rfl)))
/-! away_places: 0 deck, 1 place -/
theorem sc_away_places : FnScope ["deck", "place"] ["deck"] (defScope s_away_places) := ⟨rfl, rfl, rfl, by decide +kernel, rfl, by decide +kernel, by decide +kernel⟩
abbrev lv_away_places : Nat := 3
theorem ok_away_places {P : Program} {w : World} {mg : Str → Option Value} {base : Heap} {K : PySem.W.Frag} (e : Ev P w mg base K) : CalG P w mg base (TT P w K) lv_away_places 1 "away_places" (M_away_places) := by
  obtain ⟨fd, F⟩ := e.says.def_ 10 (d := d_away_places) rfl
  refine cal_ofG (T := TT P w K) (p := ("away_places", none)) (N := ["deck", "place"]) (ps := ["deck"]) (k := 2) F sc_away_places e.gl_away_places (fun _ _ _ _ _ _ us hl => match us, hl with | [_], _ => rfl) (fun A outer s H E hr hq => ?_)
  exact b_one (s_ret (d_fz (d_lc (own := [("place", 1)]) (by rfl) sc_away_places.nd (i_rg1 (by rfl) e.fr_range (d_cons (d_callCG (k := lv_closed_of) (ok_closed_of e) (by rfl) (hr.mono (by decide)) hq bX_takes (d_cons (d_var 0) (d_nil))) (d_nil))) (blkOk_by (by kernel_rfl)) (fun _ _ _ _ _ => g_name (i := 1) sc_away_places.nd (by rfl) (by first | exact Or.inl rfl | exact Or.inr rfl)) (fun _ _ _ _ _ => ts_one (t_not (t_val (d_callCG (k := lv_is_home_at) (ok_is_home_at e) (by rfl) (hr.mono (by decide)) hq takes0 (d_cons (d_var 0) (d_cons (d_var 1) (d_nil))))))) (fun _ _ _ _ _ => d_var 1))))
/-! hand_of: 0 deck, 1 level, 2 card -/
theorem sc_hand_of : FnScope ["deck", "level", "card"] ["deck", "level"] (defScope s_hand_of) := ⟨rfl, rfl, rfl, by decide +kernel, rfl, by decide +kernel, by decide +kernel⟩
abbrev lv_hand_of : Nat := 2
theorem ok_hand_of {P : Program} {w : World} {mg : Str → Option Value} {base : Heap} {K : PySem.W.Frag} (e : Ev P w mg base K) : CalG P w mg base (TT P w K) lv_hand_of 2 "hand_of" (M_hand_of) := by
  obtain ⟨fd, F⟩ := e.says.def_ 11 (d := d_hand_of) rfl
  refine cal_ofG (T := TT P w K) (p := ("hand_of", none)) (N := ["deck", "level", "card"]) (ps := ["deck", "level"]) (k := 1) F sc_hand_of e.gl_hand_of (fun _ _ _ _ _ _ us hl => match us, hl with | [_, _], _ => rfl) (fun A outer s H E hr hq => ?_)
  exact b_one (s_ret (d_fz (d_lc (own := [("card", 2)]) (by rfl) sc_hand_of.nd (i_seq (d_sl (by rfl) (d_var 0) (d_noPart) (d_part (d_var 1)))) (blkOk_by (by kernel_rfl)) (fun _ _ _ _ _ => g_name (i := 2) sc_hand_of.nd (by rfl) (by first | exact Or.inl rfl | exact Or.inr rfl)) (fun _ _ _ _ _ => ts_one (t_cmp o_ge (d_callCG (k := lv_reach_of) (ok_reach_of e) (by rfl) (hr.mono (by decide)) hq takes0 (d_cons (d_var 2) (d_cons (d_callB (c_lenX (by rfl) (by rfl) (by rfl)) (by rfl) e.fr_len (by decide +kernel) (d_cons (d_var 0) (d_nil))) (d_nil)))) (d_var 1) (by first | exact nobehind _ (by decide) (by decide) | rfl))) (fun _ _ _ _ _ => d_var 2))))
/-! ring_of: 0 deck, 1 level -/
theorem sc_ring_of : FnScope ["deck", "level"] ["deck", "level"] (defScope s_ring_of) := ⟨rfl, rfl, rfl, by decide +kernel, rfl, by decide +kernel, by decide +kernel⟩
abbrev lv_ring_of : Nat := 3
theorem ok_ring_of {P : Program} {w : World} {mg : Str → Option Value} {base : Heap} {K : PySem.W.Frag} (e : Ev P w mg base K) : CalG P w mg base (TT P w K) lv_ring_of 2 "ring_of" (M_ring_of) := by
  obtain ⟨fd, F⟩ := e.says.def_ 12 (d := d_ring_of) rfl
  refine cal_ofG (T := TT P w K) (p := ("ring_of", none)) (N := ["deck", "level"]) (ps := ["deck", "level"]) (k := 2) F sc_ring_of e.gl_ring_of (fun _ _ _ _ _ _ us hl => match us, hl with | [_, _], _ => rfl) (fun A outer s H E hr hq => ?_)
  exact b_one (s_ret (d_bin o_add (d_callCG (k := lv_hand_of) (ok_hand_of e) (by rfl) (hr.mono (by decide)) hq bX_takes (d_cons (d_var 0) (d_cons (d_var 1) (d_nil)))) (d_fz (d_lst (d_cons (d_ix (x_ix (by rfl)) (d_var 0) (d_var 1)) (d_nil))))))
/-! pattern_of: 0 deck, 1 level, 2 many, 3 card -/
theorem sc_pattern_of : FnScope ["deck", "level", "many", "card"] ["deck", "level"] (defScope s_pattern_of) := ⟨rfl, rfl, rfl, by decide +kernel, rfl, by decide +kernel, by decide +kernel⟩
abbrev lv_pattern_of : Nat := 4
theorem ok_pattern_of {P : Program} {w : World} {mg : Str → Option Value} {base : Heap} {K : PySem.W.Frag} (e : Ev P w mg base K) : CalG P w mg base (TT P w K) lv_pattern_of 2 "pattern_of" (M_pattern_of) := by
  obtain ⟨fd, F⟩ := e.says.def_ 13 (d := d_pattern_of) rfl
  refine cal_ofG (T := TT P w K) (p := ("pattern_of", none)) (N := ["deck", "level", "many", "card"]) (ps := ["deck", "level"]) (k := 3) F sc_pattern_of e.gl_pattern_of (fun _ _ _ _ _ _ us hl => match us, hl with | [_, _], _ => rfl) (fun A outer s H E hr hq => ?_)
  exact b_cons (s_set (i := 2) sc_pattern_of.nd (by rfl) (by first | exact Or.inl rfl | exact Or.inr rfl) (d_callB (c_lenX (by rfl) (by rfl) (by rfl)) (by rfl) e.fr_len (by decide +kernel) (d_cons (d_var 0) (d_nil))))
      (b_one (s_ret (d_fz (d_lc (own := [("card", 3)]) (by rfl) sc_pattern_of.nd (i_seq (d_callCG (k := lv_ring_of) (ok_ring_of e) (by rfl) (hr.mono (by decide)) hq bX_takes (d_cons (d_var 0) (d_cons (d_var 1) (d_nil))))) (blkOk_by (by kernel_rfl)) (fun _ _ _ _ _ => g_name (i := 3) sc_pattern_of.nd (by rfl) (by first | exact Or.inl rfl | exact Or.inr rfl)) (fun _ _ _ _ _ => ts_nil) (fun _ _ _ _ _ => d_if (t_cmp o_gt (d_callCG (k := lv_reach_of) (ok_reach_of e) (by rfl) (hr.mono (by decide)) hq takes0 (d_cons (d_var 3) (d_cons (d_var 2) (d_nil)))) (d_var 1) (by first | exact nobehind _ (by decide) (by decide) | rfl)) (d_non) (d_ix (x_ix (by rfl)) (d_var 3) (d_int)))))))
/-! often_round: 0 row, 1 thing, 2 many, 3 turns, 4 phase -/
theorem sc_often_round : FnScope ["row", "thing", "many", "turns", "phase"] ["row", "thing", "many"] (defScope s_often_round) := ⟨rfl, rfl, rfl, by decide +kernel, rfl, by decide +kernel, by decide +kernel⟩
abbrev lv_often_round : Nat := 1
theorem ok_often_round {P : Program} {w : World} {mg : Str → Option Value} {base : Heap} {K : PySem.W.Frag} (e : Ev P w mg base K) : CalG P w mg base (TT P w K) lv_often_round 3 "often_round" (M_often_round) := by
  obtain ⟨fd, F⟩ := e.says.def_ 14 (d := d_often_round) rfl
  refine cal_ofG (T := TT P w K) (p := ("often_round", none)) (N := ["row", "thing", "many", "turns", "phase"]) (ps := ["row", "thing", "many"]) (k := 0) F sc_often_round e.gl_often_round (fun _ _ _ _ _ _ us hl => match us, hl with | [_, _, _], _ => rfl) (fun A outer s H E hr hq => ?_)
  exact b_cons (s_asg (d_callB (c_divmod) (by rfl) e.fr_divmod (by decide +kernel) (d_cons (d_var 2) (d_cons (d_callB (c_lenX (by rfl) (by rfl) (by rfl)) (by rfl) e.fr_len (by decide +kernel) (d_cons (d_var 0) (d_nil))) (d_nil)))) (g_two (i := 3) (j := 4) (by rfl) (by rfl) sc_often_round.nd (by rfl) (by first | exact Or.inl rfl | exact Or.inr rfl) (by rfl) (by first | exact Or.inl rfl | exact Or.inr rfl)))
      (b_one (s_ret (d_bin o_add (d_bin o_mul (d_var 3) (d_bm PySem.F.plainAttrs_list PySem.F.slot_list_count PySem.F.type_list_count (m_count hr.u65) (d_var 0) (d_cons (d_var 1) (d_nil)))) (d_bm PySem.F.plainAttrs_list PySem.F.slot_list_count PySem.F.type_list_count (m_count hr.u65) (d_sl (by rfl) (d_var 0) (d_noPart) (d_part (d_var 4))) (d_cons (d_var 1) (d_nil))))))
/-! rows_of: 0 deck, 1 last, 2 rows, 3 level -/
theorem sc_rows_of : FnScope ["deck", "last", "rows", "level"] ["deck", "last"] (defScope s_rows_of) := ⟨rfl, rfl, rfl, by decide +kernel, rfl, by decide +kernel, by decide +kernel⟩
abbrev lv_rows_of : Nat := 5
theorem ok_rows_of {P : Program} {w : World} {mg : Str → Option Value} {base : Heap} {K : PySem.W.Frag} (e : Ev P w mg base K) : CalG P w mg base (TT P w K) lv_rows_of 2 "rows_of" (M_rows_of) := by
  obtain ⟨fd, F⟩ := e.says.def_ 15 (d := d_rows_of) rfl
  refine cal_ofG (T := TT P w K) (p := ("rows_of", none)) (N := ["deck", "last", "rows", "level"]) (ps := ["deck", "last"]) (k := 4) F sc_rows_of e.gl_rows_of (fun _ _ _ _ _ _ us hl => match us, hl with | [_, _], _ => rfl) (fun A outer s H E hr hq => ?_)
  exact b_cons (s_setLc (i := 2) (own := [("level", 3)]) (by rfl) sc_rows_of.nd (by rfl) (by rfl) (by rfl) (i_rg1 (by rfl) e.fr_range (d_cons (d_var 1) (d_nil))) (blkOk_by (by kernel_rfl)) (fun _ _ _ _ _ => g_name (i := 3) sc_rows_of.nd (by rfl) (by first | exact Or.inl rfl | exact Or.inr rfl)) (fun _ _ _ _ _ => ts_nil) (fun _ _ _ _ _ => d_callCG (k := lv_pattern_of) (ok_pattern_of e) (by rfl) (hr.mono (by decide)) hq takes0 (d_cons (d_var 0) (d_cons (d_var 3) (d_nil)))))
      (b_cons (s_expr (d_bm PySem.F.plainAttrs_list PySem.F.slot_list_append PySem.F.type_list_append (m_append) (d_var 2) (d_cons (d_callCG (k := lv_names_of) (ok_names_of e) (by rfl) (hr.mono (by decide)) hq bX_takes (d_cons (d_callCG (k := lv_ring_of) (ok_ring_of e) (by rfl) (hr.mono (by decide)) hq bX_takes (d_cons (d_var 0) (d_cons (d_var 1) (d_nil)))) (d_nil))) (d_nil))))
      (b_one (s_ret (d_var 2))))
/-! settled_rows: 0 deck -/
theorem sc_settled_rows : FnScope ["deck"] ["deck"] (defScope s_settled_rows) := ⟨rfl, rfl, rfl, by decide +kernel, rfl, by decide +kernel, by decide +kernel⟩
abbrev lv_settled_rows : Nat := 6
theorem ok_settled_rows {P : Program} {w : World} {mg : Str → Option Value} {base : Heap} {K : PySem.W.Frag} (e : Ev P w mg base K) : CalG P w mg base (TT P w K) lv_settled_rows 1 "settled_rows" (M_settled_rows) := by
  obtain ⟨fd, F⟩ := e.says.def_ 16 (d := d_settled_rows) rfl
  refine cal_ofG (T := TT P w K) (p := ("settled_rows", none)) (N := ["deck"]) (ps := ["deck"]) (k := 5) F sc_settled_rows e.gl_settled_rows (fun _ _ _ _ _ _ us hl => match us, hl with | [_], _ => rfl) (fun A outer s H E hr hq => ?_)
  exact b_one (s_ret (d_fz (d_callCG (k := lv_rows_of) (ok_rows_of e) (by rfl) (hr.mono (by decide)) hq bX_takes (d_cons (d_var 0) (d_cons (d_bin o_sub (d_callCG (k := lv_closed_of) (ok_closed_of e) (by rfl) (hr.mono (by decide)) hq bX_takes (d_cons (d_var 0) (d_nil))) (d_int)) (d_nil))))))
/-! require_settled: 0 deck -/
theorem sc_require_settled : FnScope ["deck"] ["deck"] (defScope s_require_settled) := ⟨rfl, rfl, rfl, by decide +kernel, rfl, by decide +kernel, by decide +kernel⟩
abbrev lv_require_settled : Nat := 4
theorem ok_require_settled {P : Program} {w : World} {mg : Str → Option Value} {base : Heap} {K : PySem.W.Frag} (e : Ev P w mg base K) : CalG P w mg base (TT P w K) lv_require_settled 1 "require_settled" (M_require_settled K) := by
  obtain ⟨fd, F⟩ := e.says.def_ 17 (d := d_require_settled) rfl
  refine cal_ofG (T := TT P w K) (p := ("require_settled", none)) (N := ["deck"]) (ps := ["deck"]) (k := 3) F sc_require_settled e.gl_require_settled (fun _ _ _ _ _ _ us hl => match us, hl with | [_], _ => rfl) (fun A outer s H E hr hq => ?_)
  exact b_one (s_if (t_tru (d_callCG (k := lv_away_places) (ok_away_places e) (by rfl) (hr.mono (by decide)) hq bX_takes (d_cons (d_var 0) (d_nil)))) (b_one (s_raise (by rfl) bX_takes e.gl_NotSettled e.ex_NotSettled)) (b_nil))
/-! turn_of: 0 row -/
theorem sc_turn_of : FnScope ["row"] ["row"] (defScope s_turn_of) := ⟨rfl, rfl, rfl, by decide +kernel, rfl, by decide +kernel, by decide +kernel⟩
abbrev lv_turn_of : Nat := 1
theorem ok_turn_of {P : Program} {w : World} {mg : Str → Option Value} {base : Heap} {K : PySem.W.Frag} (e : Ev P w mg base K) : CalG P w mg base (TT P w K) lv_turn_of 1 "turn_of" (M_turn_of) := by
  obtain ⟨fd, F⟩ := e.says.def_ 18 (d := d_turn_of) rfl
  refine cal_ofG (T := TT P w K) (p := ("turn_of", none)) (N := ["row"]) (ps := ["row"]) (k := 0) F sc_turn_of e.gl_turn_of (fun _ _ _ _ _ _ us hl => match us, hl with | [_], _ => rfl) (fun A outer s H E hr hq => ?_)
  exact b_one (s_ret (d_if (t_cmp (o_eq hr.u64) (d_bm PySem.F.plainAttrs_list PySem.F.slot_list_count PySem.F.type_list_count (m_count hr.u65) (d_var 0) (d_cons (d_non) (d_nil))) (d_callB (c_lenX (by rfl) (by rfl) (by rfl)) (by rfl) e.fr_len (by decide +kernel) (d_cons (d_var 0) (d_nil))) (by first | exact nobehind _ (by decide) (by decide) | rfl)) (d_int) (d_callB (c_lenX (by rfl) (by rfl) (by rfl)) (by rfl) e.fr_len (by decide +kernel) (d_cons (d_var 0) (d_nil)))))
/-! rounds_by: 0 row, 1 unit, 2 turn -/
theorem sc_rounds_by : FnScope ["row", "unit", "turn"] ["row", "unit"] (defScope s_rounds_by) := ⟨rfl, rfl, rfl, by decide +kernel, rfl, by decide +kernel, by decide +kernel⟩
abbrev lv_rounds_by : Nat := 2
theorem ok_rounds_by {P : Program} {w : World} {mg : Str → Option Value} {base : Heap} {K : PySem.W.Frag} (e : Ev P w mg base K) : CalG P w mg base (TT P w K) lv_rounds_by 2 "rounds_by" (M_rounds_by) := by
  obtain ⟨fd, F⟩ := e.says.def_ 19 (d := d_rounds_by) rfl
  refine cal_ofG (T := TT P w K) (p := ("rounds_by", none)) (N := ["row", "unit", "turn"]) (ps := ["row", "unit"]) (k := 1) F sc_rounds_by e.gl_rounds_by (fun _ _ _ _ _ _ us hl => match us, hl with | [_, _], _ => rfl) (fun A outer s H E hr hq => ?_)
  exact b_cons (s_set (i := 2) sc_rounds_by.nd (by rfl) (by first | exact Or.inl rfl | exact Or.inr rfl) (d_callCG (k := lv_turn_of) (ok_turn_of e) (by rfl) (hr.mono (by decide)) hq bX_takes (d_cons (d_var 0) (d_nil))))
      (b_one (s_ret (d_bin o_div (d_var 2) (d_callBf c_gcd (by rfl) e.gcd (d_cons (d_var 2) (d_cons (d_var 1) (d_nil)))))))
/-! times_until: 0 row, 1 aim, 2 index, 3 unit, 4 most, 5 times, 6 phase -/
def m_times_until : SF := sSeq (sFor (iRg1 (aCons (eVar 4) (aNil))) (tN 5) (sSeq (sSet 6 (eB gMod (eB gAdd (eVar 2) (eB gMul (eVar 3) (eVar 5))) (eCB gLenX (aCons (eVar 0) (aNil))))) (sIf (tB (eB (gEq false) (eB gAdd (eSl (eVar 0) (oSo (eVar 6)) (oNo)) (eSl (eVar 0) (oNo) (oSo (eVar 6)))) (eVar 1))) (sRt (eVar 5)) (sNop)))) (sRt (eC .non))
abbrev M_times_until : List D → M D := fnM 7 (m_times_until)
theorem sc_times_until : FnScope ["row", "aim", "index", "unit", "most", "times", "phase"] ["row", "aim", "index", "unit", "most"] (defScope s_times_until) := ⟨rfl, rfl, rfl, by decide +kernel, rfl, by decide +kernel, by decide +kernel⟩
abbrev lv_times_until : Nat := 1
theorem ok_times_until {P : Program} {w : World} {mg : Str → Option Value} {base : Heap} {K : PySem.W.Frag} (e : Ev P w mg base K) : CalG P w mg base (TT P w K) lv_times_until 5 "times_until" (M_times_until) := by
  obtain ⟨fd, F⟩ := e.says.def_ 20 (d := d_times_until) rfl
  refine cal_ofG (T := TT P w K) (p := ("times_until", none)) (N := ["row", "aim", "index", "unit", "most", "times", "phase"]) (ps := ["row", "aim", "index", "unit", "most"]) (k := 0) F sc_times_until e.gl_times_until (fun _ _ _ _ _ _ us hl => match us, hl with | [_, _, _, _, _], _ => rfl) (fun A outer s H E hr hq => ?_)
  exact b_cons (s_for bX_passes (by rfl) (i_rg1 (by rfl) e.fr_range (d_cons (d_var 4) (d_nil))) (g_name (i := 5) sc_times_until.nd (by rfl) (by first | exact Or.inl rfl | exact Or.inr rfl))
      (b_cons (s_set (i := 6) sc_times_until.nd (by rfl) (by first | exact Or.inl rfl | exact Or.inr rfl) (d_bin o_mod (d_bin o_add (d_var 2) (d_bin o_mul (d_var 3) (d_var 5))) (d_callB (c_lenX (by rfl) (by rfl) (by rfl)) (by rfl) e.fr_len (by decide +kernel) (d_cons (d_var 0) (d_nil)))))
      (b_one (s_if (t_cmp (o_eq hr.u64) (d_bin o_add (d_sl (by rfl) (d_var 0) (d_part (d_var 6)) (d_noPart)) (d_sl (by rfl) (d_var 0) (d_noPart) (d_part (d_var 6)))) (d_var 1) (by first | exact nobehind _ (by decide) (by decide) | rfl)) (b_one (s_ret (d_var 5))) (b_nil)))))
      (b_one (s_ret (d_non)))
/-! steps_between: 0 rows, 1 aims, 2 steps, 3 length, 4 index, 5 unit, 6 row, 7 aim, 8 most, 9 times -/
def m_steps_between : SF := sSeq (sSet 2 (eC (.int 0))) (sSeq (sSet 3 (eC (.int 1))) (sSeq (sSet 4 (eC (.int 0))) (sSeq (sSet 5 (eC (.int 1))) (sSeq (sFor (iZp (aCons (eVar 0) (aCons (eVar 1) (aNil)))) (tN2 6 7) (sSeq (sSet 8 (eCl (M_rounds_by) 2 (aCons (eVar 6) (aCons (eVar 5) (aNil))))) (sSeq (sSet 9 (eCl (M_times_until) 5 (aCons (eVar 6) (aCons (eVar 7) (aCons (eVar 4) (aCons (eVar 5) (aCons (eVar 8) (aNil)))))))) (sSeq (sIf (tB (eB (gIsN false) (eVar 9) (eC .non))) (sRt (eC .non)) (sNop)) (sSeq (sSet 2 (eB gAddI (eVar 2) (eB gMul (eVar 3) (eVar 9)))) (sSeq (sSet 3 (eB gMul (eVar 3) (eVar 8))) (sSeq (sSet 4 (eCl (M_often_round) 3 (aCons (eVar 6) (aCons (eC .non) (aCons (eB gAdd (eVar 4) (eB gMul (eVar 5) (eVar 9))) (aNil)))))) (sSet 5 (eCl (M_often_round) 3 (aCons (eVar 6) (aCons (eC .non) (aCons (eB gMul (eVar 5) (eVar 8)) (aNil))))))))))))) (sRt (eVar 2))))))
abbrev M_steps_between : List D → M D := fnM 10 (m_steps_between)
theorem sc_steps_between : FnScope ["rows", "aims", "steps", "length", "index", "unit", "row", "aim", "most", "times"] ["rows", "aims"] (defScope s_steps_between) := ⟨rfl, rfl, rfl, by decide +kernel, rfl, by decide +kernel, by decide +kernel⟩
abbrev lv_steps_between : Nat := 3
theorem ok_steps_between {P : Program} {w : World} {mg : Str → Option Value} {base : Heap} {K : PySem.W.Frag} (e : Ev P w mg base K) : CalG P w mg base (TT P w K) lv_steps_between 2 "steps_between" (M_steps_between) := by
  obtain ⟨fd, F⟩ := e.says.def_ 21 (d := d_steps_between) rfl
  refine cal_ofG (T := TT P w K) (p := ("steps_between", none)) (N := ["rows", "aims", "steps", "length", "index", "unit", "row", "aim", "most", "times"]) (ps := ["rows", "aims"]) (k := 2) F sc_steps_between e.gl_steps_between (fun _ _ _ _ _ _ us hl => match us, hl with | [_, _], _ => rfl) (fun A outer s H E hr hq => ?_)
  exact b_cons (s_set (i := 2) sc_steps_between.nd (by rfl) (by first | exact Or.inl rfl | exact Or.inr rfl) (d_int))
      (b_cons (s_set (i := 3) sc_steps_between.nd (by rfl) (by first | exact Or.inl rfl | exact Or.inr rfl) (d_int))
      (b_cons (s_set (i := 4) sc_steps_between.nd (by rfl) (by first | exact Or.inl rfl | exact Or.inr rfl) (d_int))
      (b_cons (s_set (i := 5) sc_steps_between.nd (by rfl) (by first | exact Or.inl rfl | exact Or.inr rfl) (d_int))
      (b_cons (s_for bX_passes (by rfl) (i_zp (by rfl) (by rfl) e.fr_zip (d_cons (d_var 0) (d_cons (d_var 1) (d_nil)))) (g_two (i := 6) (j := 7) (by rfl) (by rfl) sc_steps_between.nd (by rfl) (by first | exact Or.inl rfl | exact Or.inr rfl) (by rfl) (by first | exact Or.inl rfl | exact Or.inr rfl))
      (b_cons (s_set (i := 8) sc_steps_between.nd (by rfl) (by first | exact Or.inl rfl | exact Or.inr rfl) (d_callCG (k := lv_rounds_by) (ok_rounds_by e) (by rfl) (hr.mono (by decide)) hq bX_takes (d_cons (d_var 6) (d_cons (d_var 5) (d_nil)))))
      (b_cons (s_set (i := 9) sc_steps_between.nd (by rfl) (by first | exact Or.inl rfl | exact Or.inr rfl) (d_callCG (k := lv_times_until) (ok_times_until e) (by rfl) (hr.mono (by decide)) hq bX_takes (d_cons (d_var 6) (d_cons (d_var 7) (d_cons (d_var 4) (d_cons (d_var 5) (d_cons (d_var 8) (d_nil))))))))
      (b_cons (s_if (t_cmp o_isN (d_var 9) (d_non) (by first | exact nobehind _ (by decide) (by decide) | rfl)) (b_one (s_ret (d_non))) (b_nil))
      (b_cons (s_augN (i := 2) sc_steps_between.nd (by rfl) (by first | exact Or.inl rfl | exact Or.inr rfl) io_add (d_bin o_mul (d_var 3) (d_var 9)))
      (b_cons (s_augN (i := 3) sc_steps_between.nd (by rfl) (by first | exact Or.inl rfl | exact Or.inr rfl) io_mul (d_var 8))
      (b_cons (s_set (i := 4) sc_steps_between.nd (by rfl) (by first | exact Or.inl rfl | exact Or.inr rfl) (d_callCG (k := lv_often_round) (ok_often_round e) (by rfl) (hr.mono (by decide)) hq bX_takes (d_cons (d_var 6) (d_cons (d_non) (d_cons (d_bin o_add (d_var 4) (d_bin o_mul (d_var 5) (d_var 9))) (d_nil))))))
      (b_one (s_set (i := 5) sc_steps_between.nd (by rfl) (by first | exact Or.inl rfl | exact Or.inr rfl) (d_callCG (k := lv_often_round) (ok_often_round e) (by rfl) (hr.mono (by decide)) hq bX_takes (d_cons (d_var 6) (d_cons (d_non) (d_cons (d_bin o_mul (d_var 5) (d_var 8)) (d_nil))))))))))))))
      (b_one (s_ret (d_var 2)))))))
/-! steps_to: 0 one, 1 other, 2 here, 3 there, 4 rows -/
def m_steps_to (K : PySem.W.Frag) : SF := sSeq (sSet 2 (fz (eCl (M_deck_of K) 1 (aCons (eVar 0) (aNil))))) (sSeq (sSet 3 (fz (eCl (M_deck_of K) 1 (aCons (eVar 1) (aNil))))) (sSeq (sEx (eCl (M_require_settled K) 1 (aCons (eVar 2) (aNil)))) (sSeq (sEx (eCl (M_require_settled K) 1 (aCons (eVar 3) (aNil)))) (sSeq (sSet 4 (eCl (M_settled_rows) 1 (aCons (eVar 2) (aNil)))) (sSeq (sIf (tOr' (tB (eB (gEq true) (fz (eCB gSorted (aCons (eVar 2) (aNil)))) (fz (eCB gSorted (aCons (eVar 3) (aNil)))))) (tB (eB (gEq true) (eSl (eVar 2) (oSo (eCB gLenX (aCons (eVar 4) (aNil)))) (oNo)) (eSl (eVar 3) (oSo (eCB gLenX (aCons (eVar 4) (aNil)))) (oNo))))) (sRt (eC .non)) (sNop)) (sRt (eCl (M_steps_between) 2 (aCons (eVar 4) (aCons (eCl (M_settled_rows) 1 (aCons (eVar 3) (aNil))) (aNil))))))))))
abbrev M_steps_to (K : PySem.W.Frag) : List D → M D := fnM 5 (m_steps_to K)
theorem sc_steps_to : FnScope ["one", "other", "here", "there", "rows"] ["one", "other"] (defScope s_steps_to) := ⟨rfl, rfl, rfl, by decide +kernel, rfl, by decide +kernel, by decide +kernel⟩
abbrev lv_steps_to : Nat := 7
theorem ok_steps_to {P : Program} {w : World} {mg : Str → Option Value} {base : Heap} {K : PySem.W.Frag} (e : Ev P w mg base K) : CalG P w mg base (TT P w K) lv_steps_to 2 "steps_to" (M_steps_to K) := by
  obtain ⟨fd, F⟩ := e.says.def_ 22 (d := d_steps_to) rfl
  refine cal_ofG (T := TT P w K) (p := ("steps_to", none)) (N := ["one", "other", "here", "there", "rows"]) (ps := ["one", "other"]) (k := 6) F sc_steps_to e.gl_steps_to (fun _ _ _ _ _ _ us hl => match us, hl with | [_, _], _ => rfl) (fun A outer s H E hr hq => ?_)
  exact b_cons (s_set (i := 2) sc_steps_to.nd (by rfl) (by first | exact Or.inl rfl | exact Or.inr rfl) (d_fz (d_callCG (k := lv_deck_of) (ok_deck_of e) (by rfl) (hr.mono (by decide)) hq bX_takes (d_cons (d_var 0) (d_nil)))))
      (b_cons (s_set (i := 3) sc_steps_to.nd (by rfl) (by first | exact Or.inl rfl | exact Or.inr rfl) (d_fz (d_callCG (k := lv_deck_of) (ok_deck_of e) (by rfl) (hr.mono (by decide)) hq bX_takes (d_cons (d_var 1) (d_nil)))))
      (b_cons (s_expr (d_callCG (k := lv_require_settled) (ok_require_settled e) (by rfl) (hr.mono (by decide)) hq bX_takes (d_cons (d_var 2) (d_nil))))
      (b_cons (s_expr (d_callCG (k := lv_require_settled) (ok_require_settled e) (by rfl) (hr.mono (by decide)) hq bX_takes (d_cons (d_var 3) (d_nil))))
      (b_cons (s_set (i := 4) sc_steps_to.nd (by rfl) (by first | exact Or.inl rfl | exact Or.inr rfl) (d_callCG (k := lv_settled_rows) (ok_settled_rows e) (by rfl) (hr.mono (by decide)) hq bX_takes (d_cons (d_var 2) (d_nil))))
      (b_cons (s_if (ptw (w_or (t_cmp (o_ne hr.u64) (d_fz (d_callB (c_sorted (by rfl) hr.u64) (by rfl) e.fr_sorted (by decide +kernel) (d_cons (d_var 2) (d_nil)))) (d_fz (d_callB (c_sorted (by rfl) hr.u64) (by rfl) e.fr_sorted (by decide +kernel) (d_cons (d_var 3) (d_nil)))) (by first | exact nobehind _ (by decide) (by decide) | rfl)) (w_or1 (t_cmp (o_ne hr.u64) (d_sl (by rfl) (d_var 2) (d_part (d_callB (c_lenX (by rfl) (by rfl) (by rfl)) (by rfl) e.fr_len (by decide +kernel) (d_cons (d_var 4) (d_nil)))) (d_noPart)) (d_sl (by rfl) (d_var 3) (d_part (d_callB (c_lenX (by rfl) (by rfl) (by rfl)) (by rfl) e.fr_len (by decide +kernel) (d_cons (d_var 4) (d_nil)))) (d_noPart)) (by first | exact nobehind _ (by decide) (by decide) | rfl))))) (b_one (s_ret (d_non))) (b_nil))
      (b_one (s_ret (d_callCG (k := lv_steps_between) (ok_steps_between e) (by rfl) (hr.mono (by decide)) hq bX_takes (d_cons (d_var 4) (d_cons (d_callCG (k := lv_settled_rows) (ok_settled_rows e) (by rfl) (hr.mono (by decide)) hq bX_takes (d_cons (d_var 3) (d_nil))) (d_nil)))))))))))
/-! _law_reel: 0 script, 1 stir, 2 cell, 3 great -/
theorem sc_reel_reel : FnScope ["script", "stir", "cell", "great"] ["script"] (defScope s_reel_reel) := ⟨rfl, rfl, rfl, by decide +kernel, rfl, by decide +kernel, by decide +kernel⟩
abbrev lv_reel_reel : Nat := 1
/-! _law_reel: 0 script, 1 stir, 2 cell, 3 great -/
theorem ok_x_reel_reel {P : Program} {w : World} {mg : Str → Option Value} {base : Heap} {K : PySem.W.Frag} (e : Ev P w mg base K) : CalG P w mg base (TT P w K) lv_reel_reel 1 "_law_reel" (M_x_reel_reel) := by
  obtain ⟨fd, F⟩ := e.says.def_ 23 (d := d_reel_reel) rfl
  refine cal_ofG (T := TT P w K) (p := ("_law_reel", none)) (N := ["script", "stir", "cell", "great"]) (ps := ["script"]) (k := 0) F sc_reel_reel e.gl__law_reel (fun _ _ _ _ _ _ us hl => match us, hl with | [_], _ => rfl) (fun A outer s H E hr hq => ?_)
  exact b_cons (s_set (i := 1) sc_reel_reel.nd (by rfl) (by first | exact Or.inl rfl | exact Or.inr rfl) (d_bin o_pow (d_int) (d_int)))
      (b_cons (s_for bX_passes (by rfl) (i_seq (d_fz (d_slX (by rfl) (d_var 0) (d_noPart) (d_part (d_int))))) (g_name (i := 2) sc_reel_reel.nd (by rfl) (by first | exact Or.inl rfl | exact Or.inr rfl))
      (b_one (s_set (i := 1) sc_reel_reel.nd (by rfl) (by first | exact Or.inl rfl | exact Or.inr rfl) (d_bin o_mod (d_bin o_add (d_bin o_add (d_bin o_mulX (d_var 1) (d_var 1)) (d_bin o_mod (d_var 2) (d_int))) (d_int)) (d_bin o_sub (d_bin o_mulX (d_bin o_pow (d_int) (d_int)) (d_bin o_pow (d_int) (d_int))) (d_int))))))
      (b_cons (s_setLcF (i := 3) (own := [("cell", 2)]) (by rfl) sc_reel_reel.nd (by rfl) (by rfl) (by rfl) (i_seq (d_fz (d_slX (by rfl) (d_var 0) (d_noPart) (d_part (d_int))))) (blkOk_by (by kernel_rfl)) (fun _ _ _ _ _ => g_name (i := 2) sc_reel_reel.nd (by rfl) (by first | exact Or.inl rfl | exact Or.inr rfl)) (fun _ _ _ _ _ => ts_one (t_cmp o_ge (d_var 2) (d_bin o_pow (d_int) (d_int)) (by first | exact nobehind _ (by decide) (by decide) | rfl))) (fun _ _ _ _ _ => d_bin o_sub (d_var 2) (d_bin o_pow (d_int) (d_int))))
      (b_one (s_ret (d_lst (d_cons (d_var 3) (d_cons (d_bin o_add (d_fz (d_lc (own := [("cell", 2)]) (by rfl) sc_reel_reel.nd (i_seq (d_fz (d_slX (by rfl) (d_var 0) (d_noPart) (d_part (d_int))))) (blkOk_by (by kernel_rfl)) (fun _ _ _ _ _ => g_name (i := 2) sc_reel_reel.nd (by rfl) (by first | exact Or.inl rfl | exact Or.inr rfl)) (fun _ _ _ _ _ => ts_nil) (fun _ _ _ _ _ => d_bin o_mod (d_var 2) (d_int)))) (d_fz (d_lst (d_cons (d_int) (d_nil))))) (d_cons (d_int) (d_cons (d_var 1) (d_nil))))))))))
/-! _law_draw: 0 reel, 1 many, 2 rest, 3 told, 4 stir -/
theorem sc_reel_draw : FnScope ["reel", "many", "rest", "told", "stir"] ["reel", "many"] (defScope s_reel_draw) := ⟨rfl, rfl, rfl, by decide +kernel, rfl, by decide +kernel, by decide +kernel⟩
abbrev lv_reel_draw : Nat := 1
theorem ok_reel_draw {P : Program} {w : World} {mg : Str → Option Value} {base : Heap} {K : PySem.W.Frag} (e : Ev P w mg base K) : CalG P w mg base (TT P w K) lv_reel_draw 2 "_law_draw" (M_reel_draw) := by
  obtain ⟨fd, F⟩ := e.says.def_ 24 (d := d_reel_draw) rfl
  refine cal_ofG (T := TT P w K) (p := ("_law_draw", none)) (N := ["reel", "many", "rest", "told", "stir"]) (ps := ["reel", "many"]) (k := 0) F sc_reel_draw e.gl__law_draw (fun _ _ _ _ _ _ us hl => match us, hl with | [_, _], _ => rfl) (fun A outer s H E hr hq => ?_)
  exact b_cons (s_if (t_cmp (o_ne hr.u64) (d_ix (x_ix (by rfl)) (d_var 0) (d_int)) (d_fz (d_lst (d_nil))) (by first | exact nobehind _ (by decide) (by decide) | rfl)) (b_cons (s_set (i := 2) sc_reel_draw.nd (by rfl) (by first | exact Or.inl rfl | exact Or.inr rfl) (d_ix (x_ix (by rfl)) (d_ix (x_ix (by rfl)) (d_var 0) (d_int)) (d_int)))
      (b_cons (s_put (d_bin o_add (d_bin o_mulL (d_fz (d_lst (d_cons (d_bin o_div (d_var 2) (d_var 1)) (d_nil)))) (d_callTy (c_int) (by rfl) e.fr_int (by decide +kernel) (d_cons (d_cmp o_ge (d_var 2) (d_var 1) (by first | exact nobehind _ (by decide) (by decide) | rfl)) (d_nil)))) (d_slX (by rfl) (d_ix (x_ix (by rfl)) (d_var 0) (d_int)) (d_part (d_int)) (d_noPart))) (d_var 0) (d_int))
      (b_one (s_ret (d_bin o_mod (d_var 2) (d_var 1)))))) (b_nil))
      (b_cons (s_put (d_bin o_add (d_ix (x_ix (by rfl)) (d_var 0) (d_int)) (d_int)) (d_var 0) (d_int))
      (b_cons (s_set (i := 3) sc_reel_draw.nd (by rfl) (by first | exact Or.inl rfl | exact Or.inr rfl) (d_ix (x_ix (by rfl)) (d_ix (x_ix (by rfl)) (d_var 0) (d_int)) (d_bin o_mod (d_ix (x_ix (by rfl)) (d_var 0) (d_int)) (d_callB (c_lenX (by rfl) (by rfl) (by rfl)) (by rfl) e.fr_len (by decide +kernel) (d_cons (d_ix (x_ix (by rfl)) (d_var 0) (d_int)) (d_nil))))))
      (b_cons (s_set (i := 4) sc_reel_draw.nd (by rfl) (by first | exact Or.inl rfl | exact Or.inr rfl) (d_bin o_add (d_bin o_add (d_bin o_mulX (d_ix (x_ix (by rfl)) (d_var 0) (d_int)) (d_ix (x_ix (by rfl)) (d_var 0) (d_int))) (d_bin o_mulX (d_bin o_add (d_var 3) (d_int)) (d_int))) (d_bin o_mulX (d_ix (x_ix (by rfl)) (d_var 0) (d_int)) (d_int))))
      (b_cons (s_put (d_bin o_mod (d_var 4) (d_bin o_sub (d_bin o_mulX (d_bin o_pow (d_int) (d_int)) (d_bin o_pow (d_int) (d_int))) (d_int))) (d_var 0) (d_int))
      (b_one (s_ret (d_bin o_mod (d_bin o_div (d_ix (x_ix (by rfl)) (d_var 0) (d_int)) (d_bin o_pow (d_int) (d_int))) (d_var 1))))))))
/-! _law_names: 0 reel, 1 size, 2 letters, 3 left, 4 sign, 5 k -/
theorem sc_reel_names : FnScope ["reel", "size", "letters", "left", "sign", "k"] ["reel", "size"] (defScope s_reel_names) := ⟨rfl, rfl, rfl, by decide +kernel, rfl, by decide +kernel, by decide +kernel⟩
abbrev lv_reel_names : Nat := 2
theorem ok_reel_names {P : Program} {w : World} {mg : Str → Option Value} {base : Heap} {K : PySem.W.Frag} (e : Ev P w mg base K) : CalG P w mg base (TT P w K) lv_reel_names 2 "_law_names" (M_reel_names) := by
  obtain ⟨fd, F⟩ := e.says.def_ 25 (d := d_reel_names) rfl
  refine cal_ofG (T := TT P w K) (p := ("_law_names", none)) (N := ["reel", "size", "letters", "left", "sign", "k"]) (ps := ["reel", "size"]) (k := 1) F sc_reel_names e.gl__law_names (fun _ _ _ _ _ _ us hl => match us, hl with | [_, _], _ => rfl) (fun A outer s H E hr hq => ?_)
  exact b_cons (s_set (i := 2) sc_reel_names.nd (by rfl) (by first | exact Or.inl rfl | exact Or.inr rfl) (d_str))
      (b_cons (s_set (i := 3) sc_reel_names.nd (by rfl) (by first | exact Or.inl rfl | exact Or.inr rfl) (d_bin o_add (d_bin o_add (d_callTy (c_listX (by rfl) (by rfl)) (by rfl) e.fr_list (by decide +kernel) (d_cons (d_var 2) (d_nil))) (d_lc (own := [("sign", 4)]) (by rfl) sc_reel_names.nd (i_seq (d_slX (by rfl) (d_var 2) (d_noPart) (d_part (d_int)))) (blkOk_by (by kernel_rfl)) (fun _ _ _ _ _ => g_name (i := 4) sc_reel_names.nd (by rfl) (by first | exact Or.inl rfl | exact Or.inr rfl)) (fun _ _ _ _ _ => ts_nil) (fun _ _ _ _ _ => d_bin o_add (d_str) (d_var 4)))) (d_lst (d_cons (d_str) (d_cons (d_str) (d_nil))))))
      (b_one (s_ret (d_fz (d_lc (own := [("k", 5)]) (by rfl) sc_reel_names.nd (i_rg1 (by rfl) e.fr_range (d_cons (d_var 1) (d_nil))) (blkOk_by (by kernel_rfl)) (fun _ _ _ _ _ => g_name (i := 5) sc_reel_names.nd (by rfl) (by first | exact Or.inl rfl | exact Or.inr rfl)) (fun _ _ _ _ _ => ts_nil) (fun _ _ _ _ _ => d_bm PySem.F.plainAttrs_list PySem.F.slot_list_pop PySem.F.type_list_pop (m_popAt) (d_var 3) (d_cons (d_callCG (k := lv_reel_draw) (ok_reel_draw e) (by rfl) (hr.mono (by decide)) hq takes0 (d_cons (d_var 0) (d_cons (d_callB (c_lenX (by rfl) (by rfl) (by rfl)) (by rfl) e.fr_len (by decide +kernel) (d_cons (d_var 3) (d_nil))) (d_nil)))) (d_nil))))))))
/-! _law_depths: 0 reel, 1 size, 2 kind, 3 found, 4 k, 5 some -/
theorem sc_reel_depths : FnScope ["reel", "size", "kind", "found", "k", "some"] ["reel", "size"] (defScope s_reel_depths) := ⟨rfl, rfl, rfl, by decide +kernel, rfl, by decide +kernel, by decide +kernel⟩
abbrev lv_reel_depths : Nat := 2
theorem ok_reel_depths {P : Program} {w : World} {mg : Str → Option Value} {base : Heap} {K : PySem.W.Frag} (e : Ev P w mg base K) : CalG P w mg base (TT P w K) lv_reel_depths 2 "_law_depths" (M_reel_depths) := by
  obtain ⟨fd, F⟩ := e.says.def_ 26 (d := d_reel_depths) rfl
  refine cal_ofG (T := TT P w K) (p := ("_law_depths", none)) (N := ["reel", "size", "kind", "found", "k", "some"]) (ps := ["reel", "size"]) (k := 1) F sc_reel_depths e.gl__law_depths (fun _ _ _ _ _ _ us hl => match us, hl with | [_, _], _ => rfl) (fun A outer s H E hr hq => ?_)
  exact b_cons (s_set (i := 2) sc_reel_depths.nd (by rfl) (by first | exact Or.inl rfl | exact Or.inr rfl) (d_callCG (k := lv_reel_draw) (ok_reel_draw e) (by rfl) (hr.mono (by decide)) hq bX_takes (d_cons (d_var 0) (d_cons (d_int) (d_nil)))))
      (b_cons (s_set (i := 3) sc_reel_depths.nd (by rfl) (by first | exact Or.inl rfl | exact Or.inr rfl) (d_lst (d_nil)))
      (b_cons (s_for bX_passes (by rfl) (i_rg1 (by rfl) e.fr_range (d_cons (d_var 1) (d_nil))) (g_name (i := 4) sc_reel_depths.nd (by rfl) (by first | exact Or.inl rfl | exact Or.inr rfl))
      (b_cons (s_set (i := 5) sc_reel_depths.nd (by rfl) (by first | exact Or.inl rfl | exact Or.inr rfl) (d_fz (d_lst (d_cons (d_callCG (k := lv_reel_draw) (ok_reel_draw e) (by rfl) (hr.mono (by decide)) hq bX_takes (d_cons (d_var 0) (d_cons (d_var 1) (d_nil)))) (d_cons (d_callCG (k := lv_reel_draw) (ok_reel_draw e) (by rfl) (hr.mono (by decide)) hq bX_takes (d_cons (d_var 0) (d_cons (d_int) (d_nil)))) (d_cons (d_callB (c_max (by rfl) (by rfl)) (by rfl) e.fr_max (by decide +kernel) (d_cons (d_int) (d_cons (d_bin o_sub (d_bin o_add (d_var 4) (d_callCG (k := lv_reel_draw) (ok_reel_draw e) (by rfl) (hr.mono (by decide)) hq bX_takes (d_cons (d_var 0) (d_cons (d_int) (d_nil))))) (d_int)) (d_nil)))) (d_cons (d_callB (c_min2 (by rfl)) (by rfl) e.fr_min (by decide +kernel) (d_cons (d_bin o_add (d_var 4) (d_int)) (d_cons (d_bin o_sub (d_var 1) (d_int)) (d_nil)))) (d_nil))))))))
      (b_cons (s_set (i := 5) sc_reel_depths.nd (by rfl) (by first | exact Or.inl rfl | exact Or.inr rfl) (d_bin o_add (d_var 5) (d_fz (d_lst (d_cons (d_bin o_div (d_var 1) (d_int)) (d_cons (d_ix (x_ix (by rfl)) (d_fz (d_lst (d_cons (d_var 4) (d_cons (d_bin o_add (d_var 4) (d_int)) (d_cons (d_bin o_pow (d_int) (d_int)) (d_cons (d_var 1) (d_nil))))))) (d_callCG (k := lv_reel_draw) (ok_reel_draw e) (by rfl) (hr.mono (by decide)) hq bX_takes (d_cons (d_var 0) (d_cons (d_int) (d_nil))))) (d_nil)))))))
      (b_one (s_expr (d_bm PySem.F.plainAttrs_list PySem.F.slot_list_append PySem.F.type_list_append (m_append) (d_var 3) (d_cons (d_ix (x_ix (by rfl)) (d_var 5) (d_var 2)) (d_nil))))))))
      (b_one (s_ret (d_var 3)))))
/-! _law_deck: 0 reel, 1 most, 2 size, 3 cards, 4 k -/
theorem sc_reel_deck : FnScope ["reel", "most", "size", "cards", "k"] ["reel", "most"] (defScope s_reel_deck) := ⟨rfl, rfl, rfl, by decide +kernel, rfl, by decide +kernel, by decide +kernel⟩
abbrev lv_reel_deck : Nat := 3
theorem ok_reel_deck {P : Program} {w : World} {mg : Str → Option Value} {base : Heap} {K : PySem.W.Frag} (e : Ev P w mg base K) : CalG P w mg base (TT P w K) lv_reel_deck 2 "_law_deck" (M_reel_deck) := by
  obtain ⟨fd, F⟩ := e.says.def_ 27 (d := d_reel_deck) rfl
  refine cal_ofG (T := TT P w K) (p := ("_law_deck", none)) (N := ["reel", "most", "size", "cards", "k"]) (ps := ["reel", "most"]) (k := 2) F sc_reel_deck e.gl__law_deck (fun _ _ _ _ _ _ us hl => match us, hl with | [_, _], _ => rfl) (fun A outer s H E hr hq => ?_)
  exact b_cons (s_set (i := 2) sc_reel_deck.nd (by rfl) (by first | exact Or.inl rfl | exact Or.inr rfl) (d_callB (c_min2 (by rfl)) (by rfl) e.fr_min (by decide +kernel) (d_cons (d_var 1) (d_cons (d_ix (x_ix (by rfl)) (d_fz (d_lst (d_cons (d_bin o_add (d_int) (d_callCG (k := lv_reel_draw) (ok_reel_draw e) (by rfl) (hr.mono (by decide)) hq bX_takes (d_cons (d_var 0) (d_cons (d_int) (d_nil))))) (d_cons (d_bin o_add (d_int) (d_callCG (k := lv_reel_draw) (ok_reel_draw e) (by rfl) (hr.mono (by decide)) hq bX_takes (d_cons (d_var 0) (d_cons (d_int) (d_nil))))) (d_cons (d_bin o_add (d_int) (d_callCG (k := lv_reel_draw) (ok_reel_draw e) (by rfl) (hr.mono (by decide)) hq bX_takes (d_cons (d_var 0) (d_cons (d_var 1) (d_nil))))) (d_nil)))))) (d_callCG (k := lv_reel_draw) (ok_reel_draw e) (by rfl) (hr.mono (by decide)) hq bX_takes (d_cons (d_var 0) (d_cons (d_int) (d_nil))))) (d_nil)))))
      (b_cons (s_set (i := 3) sc_reel_deck.nd (by rfl) (by first | exact Or.inl rfl | exact Or.inr rfl) (d_listzip rfl rfl (by rfl) e.fr_list (by rfl) e.fr_zip (d_cons (d_fz (d_callCG (k := lv_reel_names) (ok_reel_names e) (by rfl) (hr.mono (by decide)) hq bX_takes (d_cons (d_var 0) (d_cons (d_var 2) (d_nil))))) (d_cons (d_fz (d_callCG (k := lv_reel_depths) (ok_reel_depths e) (by rfl) (hr.mono (by decide)) hq bX_takes (d_cons (d_var 0) (d_cons (d_var 2) (d_nil))))) (d_nil)))))
      (b_cons (s_if (t_cmp (o_eq hr.u64) (d_callCG (k := lv_reel_draw) (ok_reel_draw e) (by rfl) (hr.mono (by decide)) hq bX_takes (d_cons (d_var 0) (d_cons (d_int) (d_nil)))) (d_int) (by first | exact nobehind _ (by decide) (by decide) | rfl)) (b_one (s_set (i := 3) sc_reel_deck.nd (by rfl) (by first | exact Or.inl rfl | exact Or.inr rfl) (d_lc (own := [("k", 4)]) (by rfl) sc_reel_deck.nd (i_rg1 (by rfl) e.fr_range (d_cons (d_var 2) (d_nil))) (blkOk_by (by kernel_rfl)) (fun _ _ _ _ _ => g_name (i := 4) sc_reel_deck.nd (by rfl) (by first | exact Or.inl rfl | exact Or.inr rfl)) (fun _ _ _ _ _ => ts_nil) (fun _ _ _ _ _ => d_bm PySem.F.plainAttrs_list PySem.F.slot_list_pop PySem.F.type_list_pop (m_popAt) (d_var 3) (d_cons (d_callCG (k := lv_reel_draw) (ok_reel_draw e) (by rfl) (hr.mono (by decide)) hq takes0 (d_cons (d_var 0) (d_cons (d_callB (c_lenX (by rfl) (by rfl) (by rfl)) (by rfl) e.fr_len (by decide +kernel) (d_cons (d_var 3) (d_nil))) (d_nil)))) (d_nil)))))) (b_nil))
      (b_one (s_ret (d_callTy (c_tuple (by rfl)) (by rfl) e.fr_tuple (by decide +kernel) (d_cons (d_var 3) (d_nil)))))))
/-! _law_reach: 0 deck, 1 card -/
theorem sc_reel_reach : FnScope ["deck", "card"] ["deck", "card"] (defScope s_reel_reach) := ⟨rfl, rfl, rfl, by decide +kernel, rfl, by decide +kernel, by decide +kernel⟩
abbrev lv_reel_reach : Nat := 1
theorem ok_reel_reach {P : Program} {w : World} {mg : Str → Option Value} {base : Heap} {K : PySem.W.Frag} (e : Ev P w mg base K) : CalG P w mg base (TT P w K) lv_reel_reach 2 "_law_reach" (M_reel_reach) := by
  obtain ⟨fd, F⟩ := e.says.def_ 28 (d := d_reel_reach) rfl
  refine cal_ofG (T := TT P w K) (p := ("_law_reach", none)) (N := ["deck", "card"]) (ps := ["deck", "card"]) (k := 0) F sc_reel_reach e.gl__law_reach (fun _ _ _ _ _ _ us hl => match us, hl with | [_, _], _ => rfl) (fun A outer s H E hr hq => ?_)
  exact b_one (s_ret (d_callB (c_min2 (by rfl)) (by rfl) e.fr_min (by decide +kernel) (d_cons (d_ix (x_ix (by rfl)) (d_var 1) (d_int)) (d_cons (d_bin o_sub (d_callB (c_lenX (by rfl) (by rfl) (by rfl)) (by rfl) e.fr_len (by decide +kernel) (d_cons (d_var 0) (d_nil))) (d_int)) (d_nil)))))
/-! _law_slid: 0 deck, 1 reach -/
theorem sc_reel_slid : FnScope ["deck", "reach"] ["deck"] (defScope s_reel_slid) := ⟨rfl, rfl, rfl, by decide +kernel, rfl, by decide +kernel, by decide +kernel⟩
abbrev lv_reel_slid : Nat := 2
theorem ok_reel_slid {P : Program} {w : World} {mg : Str → Option Value} {base : Heap} {K : PySem.W.Frag} (e : Ev P w mg base K) : CalG P w mg base (TT P w K) lv_reel_slid 1 "_law_slid" (M_reel_slid) := by
  obtain ⟨fd, F⟩ := e.says.def_ 29 (d := d_reel_slid) rfl
  refine cal_ofG (T := TT P w K) (p := ("_law_slid", none)) (N := ["deck", "reach"]) (ps := ["deck"]) (k := 1) F sc_reel_slid e.gl__law_slid (fun _ _ _ _ _ _ us hl => match us, hl with | [_], _ => rfl) (fun A outer s H E hr hq => ?_)
  exact b_cons (s_set (i := 1) sc_reel_slid.nd (by rfl) (by first | exact Or.inl rfl | exact Or.inr rfl) (d_callCG (k := lv_reel_reach) (ok_reel_reach e) (by rfl) (hr.mono (by decide)) hq bX_takes (d_cons (d_var 0) (d_cons (d_ix (x_ix (by rfl)) (d_var 0) (d_int)) (d_nil)))))
      (b_one (s_ret (d_bin o_add (d_bin o_add (d_slX (by rfl) (d_var 0) (d_part (d_int)) (d_part (d_bin o_add (d_var 1) (d_int)))) (d_slX (by rfl) (d_var 0) (d_noPart) (d_part (d_int)))) (d_slX (by rfl) (d_var 0) (d_part (d_bin o_add (d_var 1) (d_int))) (d_noPart)))))
/-! _law_closed: 0 deck, 1 down_to, 2 card, 3 m -/
theorem sc_reel_closed : FnScope ["deck", "down_to", "card", "m"] ["deck"] (defScope s_reel_closed) := ⟨rfl, rfl, rfl, by decide +kernel, rfl, by decide +kernel, by decide +kernel⟩
abbrev lv_reel_closed : Nat := 2
theorem ok_reel_closed {P : Program} {w : World} {mg : Str → Option Value} {base : Heap} {K : PySem.W.Frag} (e : Ev P w mg base K) : CalG P w mg base (TT P w K) lv_reel_closed 1 "_law_closed" (M_reel_closed) := by
  obtain ⟨fd, F⟩ := e.says.def_ 30 (d := d_reel_closed) rfl
  refine cal_ofG (T := TT P w K) (p := ("_law_closed", none)) (N := ["deck", "down_to", "card", "m"]) (ps := ["deck"]) (k := 1) F sc_reel_closed e.gl__law_closed (fun _ _ _ _ _ _ us hl => match us, hl with | [_], _ => rfl) (fun A outer s H E hr hq => ?_)
  exact b_cons (s_set (i := 1) sc_reel_closed.nd (by rfl) (by first | exact Or.inl rfl | exact Or.inr rfl) (d_fz (d_lc (own := [("card", 2)]) (by rfl) sc_reel_closed.nd (i_seq (d_var 0)) (blkOk_by (by kernel_rfl)) (fun _ _ _ _ _ => g_name (i := 2) sc_reel_closed.nd (by rfl) (by first | exact Or.inl rfl | exact Or.inr rfl)) (fun _ _ _ _ _ => ts_nil) (fun _ _ _ _ _ => d_callCG (k := lv_reel_reach) (ok_reel_reach e) (by rfl) (hr.mono (by decide)) hq takes0 (d_cons (d_var 0) (d_cons (d_var 2) (d_nil)))))))
      (b_one (s_ret (d_ix (x_ix (by rfl)) (d_fz (d_lc (own := [("m", 3)]) (by rfl) sc_reel_closed.nd (i_rg2 (by rfl) e.fr_range (d_cons (d_int) (d_cons (d_bin o_add (d_callB (c_lenX (by rfl) (by rfl) (by rfl)) (by rfl) e.fr_len (by decide +kernel) (d_cons (d_var 0) (d_nil))) (d_int)) (d_nil)))) (blkOk_by (by kernel_rfl)) (fun _ _ _ _ _ => g_name (i := 3) sc_reel_closed.nd (by rfl) (by first | exact Or.inl rfl | exact Or.inr rfl)) (fun _ _ _ _ _ => ts_one (t_cmp o_lt (d_callB (c_max (by rfl) (by rfl)) (by rfl) e.fr_max (by decide +kernel) (d_cons (d_slX (by rfl) (d_var 1) (d_noPart) (d_part (d_var 3))) (d_nil))) (d_var 3) (by first | exact nobehind _ (by decide) (by decide) | rfl))) (fun _ _ _ _ _ => d_var 3))) (d_int))))
/-! _law_away: 0 deck, 1 place -/
theorem sc_reel_away : FnScope ["deck", "place"] ["deck"] (defScope s_reel_away) := ⟨rfl, rfl, rfl, by decide +kernel, rfl, by decide +kernel, by decide +kernel⟩
abbrev lv_reel_away : Nat := 3
theorem ok_reel_away {P : Program} {w : World} {mg : Str → Option Value} {base : Heap} {K : PySem.W.Frag} (e : Ev P w mg base K) : CalG P w mg base (TT P w K) lv_reel_away 1 "_law_away" (M_reel_away) := by
  obtain ⟨fd, F⟩ := e.says.def_ 31 (d := d_reel_away) rfl
  refine cal_ofG (T := TT P w K) (p := ("_law_away", none)) (N := ["deck", "place"]) (ps := ["deck"]) (k := 2) F sc_reel_away e.gl__law_away (fun _ _ _ _ _ _ us hl => match us, hl with | [_], _ => rfl) (fun A outer s H E hr hq => ?_)
  exact b_one (s_ret (d_fz (d_lc (own := [("place", 1)]) (by rfl) sc_reel_away.nd (i_rg1 (by rfl) e.fr_range (d_cons (d_callCG (k := lv_reel_closed) (ok_reel_closed e) (by rfl) (hr.mono (by decide)) hq bX_takes (d_cons (d_var 0) (d_nil))) (d_nil))) (blkOk_by (by kernel_rfl)) (fun _ _ _ _ _ => g_name (i := 1) sc_reel_away.nd (by rfl) (by first | exact Or.inl rfl | exact Or.inr rfl)) (fun _ _ _ _ _ => ts_one (t_cmp o_gt (d_var 1) (d_callCG (k := lv_reel_reach) (ok_reel_reach e) (by rfl) (hr.mono (by decide)) hq takes0 (d_cons (d_var 0) (d_cons (d_ix (x_ix (by rfl)) (d_var 0) (d_var 1)) (d_nil)))) (by first | exact nobehind _ (by decide) (by decide) | rfl))) (fun _ _ _ _ _ => d_var 1))))
/-! _law_home_deck: 0 reel, 1 most, 2 deck, 3 size, 4 depths, 5 name, 6 depth, 7 place, 8 cards, 9 turn, 10 one, 11 other -/
theorem sc_reel_home_deck : FnScope ["reel", "most", "deck", "size", "depths", "name", "depth", "place", "cards", "turn", "one", "other"] ["reel", "most"] (defScope s_reel_home_deck) := ⟨rfl, rfl, rfl, by decide +kernel, rfl, by decide +kernel, by decide +kernel⟩
abbrev lv_reel_home_deck : Nat := 4
theorem ok_reel_home_deck {P : Program} {w : World} {mg : Str → Option Value} {base : Heap} {K : PySem.W.Frag} (e : Ev P w mg base K) : CalG P w mg base (TT P w K) lv_reel_home_deck 2 "_law_home_deck" (M_reel_home_deck) := by
  obtain ⟨fd, F⟩ := e.says.def_ 32 (d := d_reel_home_deck) rfl
  refine cal_ofG (T := TT P w K) (p := ("_law_home_deck", none)) (N := ["reel", "most", "deck", "size", "depths", "name", "depth", "place", "cards", "turn", "one", "other"]) (ps := ["reel", "most"]) (k := 3) F sc_reel_home_deck e.gl__law_home_deck (fun _ _ _ _ _ _ us hl => match us, hl with | [_, _], _ => rfl) (fun A outer s H E hr hq => ?_)
  exact b_cons (s_set (i := 2) sc_reel_home_deck.nd (by rfl) (by first | exact Or.inl rfl | exact Or.inr rfl) (d_fz (d_callCG (k := lv_reel_deck) (ok_reel_deck e) (by rfl) (hr.mono (by decide)) hq bX_takes (d_cons (d_var 0) (d_cons (d_var 1) (d_nil))))))
      (b_cons (s_set (i := 3) sc_reel_home_deck.nd (by rfl) (by first | exact Or.inl rfl | exact Or.inr rfl) (d_callB (c_lenX (by rfl) (by rfl) (by rfl)) (by rfl) e.fr_len (by decide +kernel) (d_cons (d_var 2) (d_nil))))
      (b_cons (s_set (i := 4) sc_reel_home_deck.nd (by rfl) (by first | exact Or.inl rfl | exact Or.inr rfl) (d_fz (d_callB (c_sortedI) (by rfl) e.fr_sorted (by decide +kernel) (d_cons (d_fz (d_lc (own := [("name", 5), ("depth", 6)]) (by rfl) sc_reel_home_deck.nd (i_seq (d_var 2)) (blkOk_by (by kernel_rfl)) (fun _ _ _ _ _ => g_two (i := 5) (j := 6) (by rfl) (by rfl) sc_reel_home_deck.nd (by rfl) (by first | exact Or.inl rfl | exact Or.inr rfl) (by rfl) (by first | exact Or.inl rfl | exact Or.inr rfl)) (fun _ _ _ _ _ => ts_nil) (fun _ _ _ _ _ => d_callB (c_min2 (by rfl)) (by rfl) e.fr_min (by decide +kernel) (d_cons (d_var 6) (d_cons (d_bin o_sub (d_var 3) (d_int)) (d_nil)))))) (d_nil)))))
      (b_cons (s_setLcF (i := 4) (own := [("place", 7), ("depth", 6)]) (by rfl) sc_reel_home_deck.nd (by rfl) (by rfl) (by rfl) (i_enumX (by rfl) (by rfl) e.fr_enumerate (d_cons (d_var 4) (d_nil))) (blkOk_by (by kernel_rfl)) (fun _ _ _ _ _ => g_two (i := 7) (j := 6) (by rfl) (by rfl) sc_reel_home_deck.nd (by rfl) (by first | exact Or.inl rfl | exact Or.inr rfl) (by rfl) (by first | exact Or.inl rfl | exact Or.inr rfl)) (fun _ _ _ _ _ => ts_nil) (fun _ _ _ _ _ => d_callB (c_max (by rfl) (by rfl)) (by rfl) e.fr_max (by decide +kernel) (d_cons (d_var 6) (d_cons (d_var 7) (d_nil)))))
      (b_cons (s_set (i := 8) sc_reel_home_deck.nd (by rfl) (by first | exact Or.inl rfl | exact Or.inr rfl) (d_listzip rfl rfl (by rfl) e.fr_list (by rfl) e.fr_zip (d_cons (d_fz (d_lc (own := [("name", 5), ("depth", 6)]) (by rfl) sc_reel_home_deck.nd (i_seq (d_var 2)) (blkOk_by (by kernel_rfl)) (fun _ _ _ _ _ => g_two (i := 5) (j := 6) (by rfl) (by rfl) sc_reel_home_deck.nd (by rfl) (by first | exact Or.inl rfl | exact Or.inr rfl) (by rfl) (by first | exact Or.inl rfl | exact Or.inr rfl)) (fun _ _ _ _ _ => ts_nil) (fun _ _ _ _ _ => d_var 5))) (d_cons (d_var 4) (d_nil)))))
      (b_cons (s_for bX_passes (by rfl) (i_rg1 (by rfl) e.fr_range (d_cons (d_bin o_mulX (d_int) (d_var 3)) (d_nil))) (g_name (i := 9) sc_reel_home_deck.nd (by rfl) (by first | exact Or.inl rfl | exact Or.inr rfl))
      (b_cons (s_par (i := 10) (j := 11) (by rfl) sc_reel_home_deck.nd (by rfl) (by rfl) (by decide) (by rfl) (by rfl) (d_cons (d_callCG (k := lv_reel_draw) (ok_reel_draw e) (by rfl) (hr.mono (by decide)) hq bX_takes (d_cons (d_var 0) (d_cons (d_var 3) (d_nil)))) (d_cons (d_callCG (k := lv_reel_draw) (ok_reel_draw e) (by rfl) (hr.mono (by decide)) hq bX_takes (d_cons (d_var 0) (d_cons (d_var 3) (d_nil)))) (d_nil))) (by rfl))
      (b_one (s_if (t_cmp o_le (d_callB (c_max (by rfl) (by rfl)) (by rfl) e.fr_max (by decide +kernel) (d_cons (d_var 10) (d_cons (d_var 11) (d_nil)))) (d_callB (c_min2 (by rfl)) (by rfl) e.fr_min (by decide +kernel) (d_cons (d_ix (x_ix (by rfl)) (d_ix (x_ix (by rfl)) (d_var 8) (d_var 10)) (d_int)) (d_cons (d_ix (x_ix (by rfl)) (d_ix (x_ix (by rfl)) (d_var 8) (d_var 11)) (d_int)) (d_nil)))) (by first | exact nobehind _ (by decide) (by decide) | rfl)) (b_one (s_sw (by rfl) (by rfl) (d_tup (d_cons (d_ix (x_ix (by rfl)) (d_var 8) (d_var 11)) (d_cons (d_ix (x_ix (by rfl)) (d_var 8) (d_var 10)) (d_nil)))) (d_var 8) (d_var 10) (d_var 8) (d_var 11))) (b_nil)))))
      (b_one (s_ret (d_callTy (c_tuple (by rfl)) (by rfl) e.fr_tuple (by decide +kernel) (d_cons (d_fz (d_lc (own := [("name", 5), ("depth", 6)]) (by rfl) sc_reel_home_deck.nd (i_seq (d_var 8)) (blkOk_by (by kernel_rfl)) (fun _ _ _ _ _ => g_two (i := 5) (j := 6) (by rfl) (by rfl) sc_reel_home_deck.nd (by rfl) (by first | exact Or.inl rfl | exact Or.inr rfl) (by rfl) (by first | exact Or.inl rfl | exact Or.inr rfl)) (fun _ _ _ _ _ => ts_nil) (fun _ _ _ _ _ => d_tup (d_cons (d_var 5) (d_cons (d_if (t_cmp o_lt (d_var 6) (d_bin o_sub (d_var 3) (d_int)) (by first | exact nobehind _ (by decide) (by decide) | rfl)) (d_var 6) (d_bin o_add (d_var 6) (d_callCG (k := lv_reel_draw) (ok_reel_draw e) (by rfl) (hr.mono (by decide)) hq takes0 (d_cons (d_var 0) (d_cons (d_int) (d_nil)))))) (d_nil)))))) (d_nil))))))))))
/-! _law_dressed (calls itself): 0 reel, 1 thing, 2 found, 3 one -/
theorem sc_reel_dressed : FnScope ["reel", "thing", "found", "one"] ["reel", "thing"] (defScope s_reel_dressed) := ⟨rfl, rfl, rfl, by decide +kernel, rfl, by decide +kernel, by decide +kernel⟩
abbrev lv_reel_dressed : Nat := 8
theorem okr_reel_dressed {P : Program} {w : World} {mg : Str → Option Value} {base : Heap} {K : PySem.W.Frag} (e : Ev P w mg base K) : ∀ n, CalG P w mg base (TT P w K) (2 + n) 2 "_law_dressed" (M_reel_dressed n)
  | 0 => by
    obtain ⟨fd, F⟩ := e.says.def_ 33 (d := d_reel_dressed) rfl
    exact calG_0 (T := TT P w K) (p := ("_law_dressed", none)) (ps := ["reel", "thing"]) F e.gl__law_dressed (fun _ _ _ _ _ _ us hl => match us, hl with | [_, _], _ => rfl)
  | n + 1 => by
    have ih := okr_reel_dressed e n
    obtain ⟨fd, F⟩ := e.says.def_ 33 (d := d_reel_dressed) rfl
    refine cal_ofG (T := TT P w K) (p := ("_law_dressed", none)) (N := ["reel", "thing", "found", "one"]) (ps := ["reel", "thing"]) (k := 2 + n) (g := m_reel_dressed (M_reel_dressed n)) F sc_reel_dressed e.gl__law_dressed (fun _ _ _ _ _ _ us hl => match us, hl with | [_, _], _ => rfl) (fun A outer s H E hr hq => ?_)
    exact b_cons (s_if (t_val (d_is (by rfl) e.fr_isinstance (by rfl) e.fr_tuple (by decide +kernel) (d_var 1))) (b_cons (s_setLcF (i := 2) (own := [("one", 3)]) (by rfl) sc_reel_dressed.nd (by rfl) (by rfl) (by rfl) (i_seq (d_var 1)) (blkOk_by (by kernel_rfl)) (fun _ _ _ _ _ => g_name (i := 3) sc_reel_dressed.nd (by rfl) (by first | exact Or.inl rfl | exact Or.inr rfl)) (fun _ _ _ _ _ => ts_nil) (fun _ _ _ _ _ => d_fz (d_callCG (k := 2 + n) ih (by rfl) (hr.mono (Nat.le_refl _)) hq takes0 (d_cons (d_var 0) (d_cons (d_var 3) (d_nil))))))
      (b_one (s_ret (d_if (t_cmp (o_eq hr.u64) (d_callCG (k := lv_reel_draw) (ok_reel_draw e) (by rfl) (hr.mono (Nat.le_trans (by decide) (Nat.le_add_right 2 _))) hq bX_takes (d_cons (d_var 0) (d_cons (d_int) (d_nil)))) (d_int) (by first | exact nobehind _ (by decide) (by decide) | rfl)) (d_var 2) (d_callTy (c_tuple (by rfl)) (by rfl) e.fr_tuple (by decide +kernel) (d_cons (d_var 2) (d_nil))))))) (b_nil))
      (b_one (s_ret (d_var 1)))
theorem ok_reel_dressed {P : Program} {w : World} {mg : Str → Option Value} {base : Heap} {K : PySem.W.Frag} (e : Ev P w mg base K) : CalG P w mg base (TT P w K) lv_reel_dressed 2 "_law_dressed" (M_reel_dressed 6) := okr_reel_dressed e 6
/-! _law_spoilt (calls itself): 0 thing, 1 one -/
/-! _law_round: 0 deck, 1 found, 2 later -/
def m_reel_round : SF := sSeq (sSet 1 (eLst (aCons (eVar 0) (aNil)))) (sSeq (sWh (tB (eB gLtI (eCB gLenX (aCons (eVar 1) (aNil))) (eC (.int 401)))) (sSeq (sSet 2 (eCl (M_reel_slid) 1 (aCons (eB gIx (eVar 1) (eNeg (eC (.int 1)))) (aNil)))) (sSeq (sIf (tB (eB (gEq false) (eVar 2) (eVar 0))) (sRt (eVar 1)) (sNop)) (sEx (eBM "list" gAppend (eVar 1) (aCons (eVar 2) (aNil))))))) (sRt (eC .non)))
abbrev M_reel_round : List D → M D := fnM 3 (m_reel_round)
theorem sc_reel_round : FnScope ["deck", "found", "later"] ["deck"] (defScope s_reel_round) := ⟨rfl, rfl, rfl, by decide +kernel, rfl, by decide +kernel, by decide +kernel⟩
abbrev lv_reel_round : Nat := 3
theorem ok_reel_round {P : Program} {w : World} {mg : Str → Option Value} {base : Heap} {K : PySem.W.Frag} (e : Ev P w mg base K) : CalG P w mg base (TT P w K) lv_reel_round 1 "_law_round" (M_reel_round) := by
  obtain ⟨fd, F⟩ := e.says.def_ 35 (d := d_reel_round) rfl
  refine cal_ofG (T := TT P w K) (p := ("_law_round", none)) (N := ["deck", "found", "later"]) (ps := ["deck"]) (k := 2) F sc_reel_round e.gl__law_round (fun _ _ _ _ _ _ us hl => match us, hl with | [_], _ => rfl) (fun A outer s H E hr hq => ?_)
  exact b_cons (s_set (i := 1) sc_reel_round.nd (by rfl) (by first | exact Or.inl rfl | exact Or.inr rfl) (d_lst (d_cons (d_var 0) (d_nil))))
      (b_cons (s_while bX_passes (t_cmp o_lt (d_callB (c_lenX (by rfl) (by rfl) (by rfl)) (by rfl) e.fr_len (by decide +kernel) (d_cons (d_var 1) (d_nil))) (d_int) (by first | exact nobehind _ (by decide) (by decide) | rfl)) (b_cons (s_set (i := 2) sc_reel_round.nd (by rfl) (by first | exact Or.inl rfl | exact Or.inr rfl) (d_callCG (k := lv_reel_slid) (ok_reel_slid e) (by rfl) (hr.mono (by decide)) hq bX_takes (d_cons (d_ix (x_ix (by rfl)) (d_var 1) (d_neg (d_int))) (d_nil))))
      (b_cons (s_if (t_cmp (o_eq hr.u64) (d_var 2) (d_var 0) (by first | exact nobehind _ (by decide) (by decide) | rfl)) (b_one (s_ret (d_var 1))) (b_nil))
      (b_one (s_expr (d_bm PySem.F.plainAttrs_list PySem.F.slot_list_append PySem.F.type_list_append (m_append) (d_var 1) (d_cons (d_var 2) (d_nil))))))))
      (b_one (s_ret (d_non))))
/-! _law_others: 0 reel, 1 row, 2 deck, 3 size, 4 one, 5 other, 6 cards, 7 name, 8 depth -/
def m_reel_others : SF := sSeq (sSet 2 (eB gIx (eVar 1) (eCl (M_reel_draw) 2 (aCons (eVar 0) (aCons (eCB gLenX (aCons (eVar 1) (aNil))) (aNil)))))) (sSeq (sSet 3 (eCB gLenX (aCons (eVar 2) (aNil)))) (sSeq (sPar 4 5 (aCons (eCl (M_reel_draw) 2 (aCons (eVar 0) (aCons (eVar 3) (aNil)))) (aCons (eCl (M_reel_draw) 2 (aCons (eVar 0) (aCons (eVar 3) (aNil)))) (aNil)))) (sSeq (sSet 6 (eCB gList (aCons (eVar 2) (aNil)))) (sSeq (sSw (eTup (aCons (eB gIx (eVar 6) (eVar 5)) (aCons (eB gIx (eVar 6) (eVar 4)) (aNil)))) (eVar 6) (eVar 4) (eVar 6) (eVar 5)) (sSeq (sAs (tN2 7 8) (eB gIx (eVar 2) (eVar 4))) (sRt (fz (eLst (aCons (eVar 2) (aCons (eCB gTuple (aCons (eVar 6) (aNil))) (aCons (eB gAdd (eB gAdd (eSlX (eVar 2) (oNo) (oSo (eVar 4))) (eTup (aCons (eTup (aCons (eVar 7) (aCons (eB gAdd (eVar 8) (eC (.int 1))) (aNil)))) (aNil)))) (eSlX (eVar 2) (oSo (eB gAdd (eVar 4) (eC (.int 1)))) (oNo))) (aCons (eB gAdd (eVar 2) (eTup (aCons (eTup (aCons (eC (.str "qqqqqqqq")) (aCons (eVar 3) (aNil)))) (aNil)))) (aCons (eB gAdd (eB gAdd (eSlX (eVar 2) (oNo) (oSo (eVar 4))) (eTup (aCons (eTup (aCons (eC (.str "qqqqqqqq")) (aCons (eVar 8) (aNil)))) (aNil)))) (eSlX (eVar 2) (oSo (eB gAdd (eVar 4) (eC (.int 1)))) (oNo))) (aNil))))))))))))))
abbrev M_reel_others : List D → M D := fnM 9 (m_reel_others)
theorem sc_reel_others : FnScope ["reel", "row", "deck", "size", "one", "other", "cards", "name", "depth"] ["reel", "row"] (defScope s_reel_others) := ⟨rfl, rfl, rfl, by decide +kernel, rfl, by decide +kernel, by decide +kernel⟩
abbrev lv_reel_others : Nat := 2
theorem ok_reel_others {P : Program} {w : World} {mg : Str → Option Value} {base : Heap} {K : PySem.W.Frag} (e : Ev P w mg base K) : CalG P w mg base (TT P w K) lv_reel_others 2 "_law_others" (M_reel_others) := by
  obtain ⟨fd, F⟩ := e.says.def_ 36 (d := d_reel_others) rfl
  refine cal_ofG (T := TT P w K) (p := ("_law_others", none)) (N := ["reel", "row", "deck", "size", "one", "other", "cards", "name", "depth"]) (ps := ["reel", "row"]) (k := 1) F sc_reel_others e.gl__law_others (fun _ _ _ _ _ _ us hl => match us, hl with | [_, _], _ => rfl) (fun A outer s H E hr hq => ?_)
  exact b_cons (s_set (i := 2) sc_reel_others.nd (by rfl) (by first | exact Or.inl rfl | exact Or.inr rfl) (d_ix (x_ix (by rfl)) (d_var 1) (d_callCG (k := lv_reel_draw) (ok_reel_draw e) (by rfl) (hr.mono (by decide)) hq bX_takes (d_cons (d_var 0) (d_cons (d_callB (c_lenX (by rfl) (by rfl) (by rfl)) (by rfl) e.fr_len (by decide +kernel) (d_cons (d_var 1) (d_nil))) (d_nil))))))
      (b_cons (s_set (i := 3) sc_reel_others.nd (by rfl) (by first | exact Or.inl rfl | exact Or.inr rfl) (d_callB (c_lenX (by rfl) (by rfl) (by rfl)) (by rfl) e.fr_len (by decide +kernel) (d_cons (d_var 2) (d_nil))))
      (b_cons (s_par (i := 4) (j := 5) (by rfl) sc_reel_others.nd (by rfl) (by rfl) (by decide) (by rfl) (by rfl) (d_cons (d_callCG (k := lv_reel_draw) (ok_reel_draw e) (by rfl) (hr.mono (by decide)) hq bX_takes (d_cons (d_var 0) (d_cons (d_var 3) (d_nil)))) (d_cons (d_callCG (k := lv_reel_draw) (ok_reel_draw e) (by rfl) (hr.mono (by decide)) hq bX_takes (d_cons (d_var 0) (d_cons (d_var 3) (d_nil)))) (d_nil))) (by rfl))
      (b_cons (s_set (i := 6) sc_reel_others.nd (by rfl) (by first | exact Or.inl rfl | exact Or.inr rfl) (d_callTy (c_list (by rfl)) (by rfl) e.fr_list (by decide +kernel) (d_cons (d_var 2) (d_nil))))
      (b_cons (s_sw (by rfl) (by rfl) (d_tup (d_cons (d_ix (x_ix (by rfl)) (d_var 6) (d_var 5)) (d_cons (d_ix (x_ix (by rfl)) (d_var 6) (d_var 4)) (d_nil)))) (d_var 6) (d_var 4) (d_var 6) (d_var 5))
      (b_cons (s_asg (d_ix (x_ix (by rfl)) (d_var 2) (d_var 4)) (g_two (i := 7) (j := 8) (by rfl) (by rfl) sc_reel_others.nd (by rfl) (by first | exact Or.inl rfl | exact Or.inr rfl) (by rfl) (by first | exact Or.inl rfl | exact Or.inr rfl)))
      (b_one (s_ret (d_fz (d_lst (d_cons (d_var 2) (d_cons (d_callTy (c_tuple (by rfl)) (by rfl) e.fr_tuple (by decide +kernel) (d_cons (d_var 6) (d_nil))) (d_cons (d_bin o_add (d_bin o_add (d_slX (by rfl) (d_var 2) (d_noPart) (d_part (d_var 4))) (d_tup (d_cons (d_tup (d_cons (d_var 7) (d_cons (d_bin o_add (d_var 8) (d_int)) (d_nil)))) (d_nil)))) (d_slX (by rfl) (d_var 2) (d_part (d_bin o_add (d_var 4) (d_int))) (d_noPart))) (d_cons (d_bin o_add (d_var 2) (d_tup (d_cons (d_tup (d_cons (d_str) (d_cons (d_var 3) (d_nil)))) (d_nil)))) (d_cons (d_bin o_add (d_bin o_add (d_slX (by rfl) (d_var 2) (d_noPart) (d_part (d_var 4))) (d_tup (d_cons (d_tup (d_cons (d_str) (d_cons (d_var 8) (d_nil)))) (d_nil)))) (d_slX (by rfl) (d_var 2) (d_part (d_bin o_add (d_var 4) (d_int))) (d_noPart))) (d_nil)))))))))))))))
/-! law: 0 script, 1 reel, 2 k, 3 row, 4 turn, 5 at, 6 goal, 7 due, 8 both, 9 stays, 10 told -/
def m_law (K : PySem.W.Frag) : SF := sSeq (sSet 1 (eCl (M_x_reel_reel) 1 (aCons (eVar 0) (aNil)))) (sSeq (sFor (iRg1 (aCons (eB gAdd (eC (.int 1)) (eCB gMin2 (aCons (eCB gLenX (aCons (eVar 0) (aNil))) (aCons (eC (.int 5)) (aNil))))) (aNil))) (tN 2) (sSeq (sSet 3 (fz (eCl (M_reel_round) 1 (aCons (fz (eCl (M_reel_home_deck) 2 (aCons (eVar 1) (aCons (eC (.int 12)) (aNil))))) (aNil))))) (sIf (tB (eB (gIsN true) (eVar 3) (eC .non))) (sFor (iRg1 (aCons (eC (.int 4)) (aNil))) (tN 4) (sSeq (sSet 5 (eCl (M_reel_draw) 2 (aCons (eVar 1) (aCons (eCB gLenX (aCons (eVar 3) (aNil))) (aNil))))) (sFor (iSeq (fz (eCl (M_reel_others) 2 (aCons (eVar 1) (aCons (eVar 3) (aNil)))))) (tN 6) (sIf (tB (eB (gEq false) (eCl (M_reel_away) 1 (aCons (eVar 6) (aNil))) (fz (eLst (aNil))))) (sSeq (sSet 7 (eC .non)) (sSeq (sIf (tB (eB (gIn false) (eVar 6) (eVar 3))) (sSet 7 (eB gMod (eB gSub (eBM "list" gIndex (eVar 3) (aCons (eVar 6) (aNil))) (eVar 5)) (eCB gLenX (aCons (eVar 3) (aNil))))) (sNop)) (sSeq (sSet 8 (fz (eLst (aCons (fz (eCl (M_reel_dressed 6) 2 (aCons (eVar 1) (aCons (eB gIx (eVar 3) (eVar 5)) (aNil))))) (aCons (fz (eCl (M_reel_dressed 6) 2 (aCons (eVar 1) (aCons (eVar 6) (aNil))))) (aNil)))))) (sSeq (sSet 9 (eCB gReprX (aCons (eVar 8) (aNil)))) (sSeq (sSet 10 (eCl (M_steps_to K) 2 (aCons (eB gIx (eVar 8) (eC (.int 0))) (aCons (eB gIx (eVar 8) (eC (.int 1))) (aNil))))) (sIf (tOr' (tB (eB (gEq true) (eVar 10) (eVar 7))) (tOr' (tB (eIs "bool" (eVar 10))) (tB (eB (gEqS true) (eCB gReprX (aCons (eVar 8) (aNil))) (eVar 9))))) (sRt (eC (.bl false))) (sNop))))))) (sNop))))) (sNop)))) (sRt (eC (.bl true))))
abbrev M_law (K : PySem.W.Frag) : List D → M D := fnM 11 (m_law K)
theorem sc_law : FnScope ["script", "reel", "k", "row", "turn", "at", "goal", "due", "both", "stays", "told"] ["script"] (defScope s_law) := ⟨rfl, rfl, rfl, by decide +kernel, rfl, by decide +kernel, by decide +kernel⟩
abbrev lv_law : Nat := 9
theorem fo_law {P : Program} {w : World} {mg : Str → Option Value} {base : Heap} {K : PySem.W.Frag} (e : Ev P w mg base K) {fd : FuncData} (F : FunD K d_law.name d_law.qual d_law.params d_law.body d_law.scope [] [] (He.fAd K ("law", none)) fd) : FnOkG P w K mg base (L2.CX P w) lv_law (He.fAd K ("law", none)) fd ["script"] (spM (TT P w K) (M_law K) 1) := by
  refine fn_sbG (T := TT P w K) (p := ("law", none)) (N := ["script", "reel", "k", "row", "turn", "at", "goal", "due", "both", "stays", "told"]) (ps := ["script"]) (k := 8) (g := m_law K) F sc_law (fun A outer s H E hr hq => ?_)
  exact b_cons (s_set (i := 1) sc_law.nd (by rfl) (by first | exact Or.inl rfl | exact Or.inr rfl) (d_callCG (k := lv_reel_reel) (ok_x_reel_reel e) (by rfl) (hr.mono (by decide)) hq bX_takes (d_cons (d_var 0) (d_nil))))
      (b_cons (s_for bX_passes (by rfl) (i_rg1 (by rfl) e.fr_range (d_cons (d_bin o_add (d_int) (d_callB (c_min2 (by rfl)) (by rfl) e.fr_min (by decide +kernel) (d_cons (d_callB (c_lenX (by rfl) (by rfl) (by rfl)) (by rfl) e.fr_len (by decide +kernel) (d_cons (d_var 0) (d_nil))) (d_cons (d_int) (d_nil))))) (d_nil))) (g_name (i := 2) sc_law.nd (by rfl) (by first | exact Or.inl rfl | exact Or.inr rfl))
      (b_cons (s_set (i := 3) sc_law.nd (by rfl) (by first | exact Or.inl rfl | exact Or.inr rfl) (d_fz (d_callCG (k := lv_reel_round) (ok_reel_round e) (by rfl) (hr.mono (by decide)) hq bX_takes (d_cons (d_fz (d_callCG (k := lv_reel_home_deck) (ok_reel_home_deck e) (by rfl) (hr.mono (by decide)) hq bX_takes (d_cons (d_var 1) (d_cons (d_int) (d_nil))))) (d_nil)))))
      (b_one (s_if (t_cmp o_notN (d_var 3) (d_non) (by first | exact nobehind _ (by decide) (by decide) | rfl)) (b_one (s_for bX_passes (by rfl) (i_rg1 (by rfl) e.fr_range (d_cons (d_int) (d_nil))) (g_name (i := 4) sc_law.nd (by rfl) (by first | exact Or.inl rfl | exact Or.inr rfl))
      (b_cons (s_set (i := 5) sc_law.nd (by rfl) (by first | exact Or.inl rfl | exact Or.inr rfl) (d_callCG (k := lv_reel_draw) (ok_reel_draw e) (by rfl) (hr.mono (by decide)) hq bX_takes (d_cons (d_var 1) (d_cons (d_callB (c_lenX (by rfl) (by rfl) (by rfl)) (by rfl) e.fr_len (by decide +kernel) (d_cons (d_var 3) (d_nil))) (d_nil)))))
      (b_one (s_for bX_passes (by rfl) (i_seq (d_fz (d_callCG (k := lv_reel_others) (ok_reel_others e) (by rfl) (hr.mono (by decide)) hq bX_takes (d_cons (d_var 1) (d_cons (d_var 3) (d_nil)))))) (g_name (i := 6) sc_law.nd (by rfl) (by first | exact Or.inl rfl | exact Or.inr rfl))
      (b_one (s_if (t_cmp (o_eq hr.u64) (d_callCG (k := lv_reel_away) (ok_reel_away e) (by rfl) (hr.mono (by decide)) hq bX_takes (d_cons (d_var 6) (d_nil))) (d_fz (d_lst (d_nil))) (by first | exact nobehind _ (by decide) (by decide) | rfl)) (b_cons (s_set (i := 7) sc_law.nd (by rfl) (by first | exact Or.inl rfl | exact Or.inr rfl) (d_non))
      (b_cons (s_if (t_cmp (o_in hr.u65) (d_var 6) (d_var 3) (by first | exact nobehind _ (by decide) (by decide) | rfl)) (b_one (s_set (i := 7) sc_law.nd (by rfl) (by first | exact Or.inl rfl | exact Or.inr rfl) (d_bin o_mod (d_bin o_sub (d_bm PySem.F.plainAttrs_list PySem.F.slot_list_index PySem.F.type_list_index (m_index hr.u65) (d_var 3) (d_cons (d_var 6) (d_nil))) (d_var 5)) (d_callB (c_lenX (by rfl) (by rfl) (by rfl)) (by rfl) e.fr_len (by decide +kernel) (d_cons (d_var 3) (d_nil)))))) (b_nil))
      (b_cons (s_set (i := 8) sc_law.nd (by rfl) (by first | exact Or.inl rfl | exact Or.inr rfl) (d_fz (d_lst (d_cons (d_fz (d_callCG (k := lv_reel_dressed) (ok_reel_dressed e) (by rfl) (hr.mono (by decide)) hq bX_takes (d_cons (d_var 1) (d_cons (d_ix (x_ix (by rfl)) (d_var 3) (d_var 5)) (d_nil))))) (d_cons (d_fz (d_callCG (k := lv_reel_dressed) (ok_reel_dressed e) (by rfl) (hr.mono (by decide)) hq bX_takes (d_cons (d_var 1) (d_cons (d_var 6) (d_nil))))) (d_nil))))))
      (b_cons (s_set (i := 9) sc_law.nd (by rfl) (by first | exact Or.inl rfl | exact Or.inr rfl) (d_callB ((call_reprX (by rfl) e.sys hq hr.u64)) (by rfl) e.fr_repr (by decide +kernel) (d_cons (d_var 8) (d_nil))))
      (b_cons (s_set (i := 10) sc_law.nd (by rfl) (by first | exact Or.inl rfl | exact Or.inr rfl) (d_callCG (k := lv_steps_to) (ok_steps_to e) (by rfl) (hr.mono (by decide)) hq bX_takes (d_cons (d_ix (x_ix (by rfl)) (d_var 8) (d_int)) (d_cons (d_ix (x_ix (by rfl)) (d_var 8) (d_int)) (d_nil)))))
      (b_one (s_if (ptw (w_or (t_cmp (o_ne hr.u64) (d_var 10) (d_var 7) (by first | exact nobehind _ (by decide) (by decide) | rfl)) (w_or (t_val (d_is (by rfl) e.fr_isinstance (by rfl) e.fr_bool (by decide +kernel) (d_var 10))) (w_or1 (t_cmp o_neS (d_callB ((call_reprX (by rfl) e.sys hq hr.u64)) (by rfl) e.fr_repr (by decide +kernel) (d_cons (d_var 8) (d_nil))) (d_var 9) (by first | exact nobehind _ (by decide) (by decide) | rfl)))))) (b_one (s_ret (d_bl))) (b_nil)))))))) (b_nil)))))))) (b_nil)))))
      (b_one (s_ret (d_bl))))
end K41
end
section
set_option Elab.async false
set_option linter.all false
set_option maxRecDepth 100000
set_option maxHeartbeats 4000000
namespace Sb
open PySem PySem.Spec PyProof.Rows L2
/-! ## a step, place by place -/
theorem stp_k {c : Card} {r : List Card} : stp (c :: r) = r.take (ra (c :: r) 0) ++ c :: r.drop (ra (c :: r) 0) := by
  unfold stp ra rch at0; simp
theorem ra0_le {c : Card} {r : List Card} : ra (c :: r) 0 ≤ r.length := by unfold ra rch at0; simp; omega
theorem stp_at0 {l : List Card} {i : Nat} (h : 1 ≤ l.length) : at0 (stp l) i = if i < ra l 0 then at0 l (i + 1) else if i = ra l 0 then at0 l 0 else at0 l i := by
  cases l with
  | nil => simp at h
  | cons c r =>
    have hk := ra0_le (c := c) (r := r)
    rw [stp_k]
    generalize ra (c :: r) 0 = k at hk ⊢
    unfold at0
    simp only [List.getD_eq_getElem?_getD]
    by_cases h1 : i < k
    · rw [if_pos h1, List.getElem?_append_left (by rw [List.length_take]; omega), List.getElem?_take_of_lt h1, List.getElem?_cons_succ]
    · rw [if_neg h1]
      rw [List.getElem?_append_right (by rw [List.length_take]; omega), List.length_take, Nat.min_eq_left hk]
      by_cases h2 : i = k
      · subst h2; simp
      · rw [if_neg h2]
        obtain ⟨j, rfl⟩ : ∃ j, i = k + j + 1 := ⟨i - k - 1, by omega⟩
        rw [show k + j + 1 - k = j + 1 by omega, List.getElem?_cons_succ, List.getElem?_drop, List.getElem?_cons_succ]
theorem ra_stp {l : List Card} {i : Nat} (h : 1 ≤ l.length) : ra (stp l) i = if i < ra l 0 then ra l (i + 1) else if i = ra l 0 then ra l 0 else ra l i := by
  have e : ra (stp l) i = rch l.length (at0 (stp l) i) := by unfold ra; rw [stp_len]
  rw [e, stp_at0 h]
  by_cases h1 : i < ra l 0
  · rw [if_pos h1, if_pos h1]; rfl
  · rw [if_neg h1, if_neg h1]
    by_cases h2 : i = ra l 0
    · rw [if_pos h2, if_pos h2]; rfl
    · rw [if_neg h2, if_neg h2]; rfl
/-- home by its place -/
theorem HomeD.ra {l : List Card} (h : HomeD l) {i : Nat} (hi : i < l.length) : i ≤ ra l i := by
  have := h i hi
  unfold Sb.ra rch; omega
/-- the closed place goes no nearer to the end by a step -/
theorem clo_all {l : List Card} (hl : 1 ≤ l.length) : ∀ m, 1 ≤ m → (∀ i, i < m → ra l i < m) → ∀ i, i < m → ra (stp l) i < m := by
  intro m hm h i hi
  have h0 := h 0 (by omega)
  rw [ra_stp hl]
  split
  · exact h _ (by omega)
  · split
    · exact h0
    · exact h i hi
/-! ## rings by a step -/
theorem hand_lo {c : Card} {r : List Card} {m : Nat} (h : ra (c :: r) 0 < m) : hand (stp (c :: r)) m = hand (c :: r) m := by
  have hk := ra0_le (c := c) (r := r)
  have hp : decide (m ≤ rch (c :: r).length c) = false := decide_eq_false (by have : ra (c :: r) 0 = rch (c :: r).length c := rfl; omega)
  unfold hand
  rw [stp_len, stp_k]
  generalize ra (c :: r) 0 = k at h hk
  obtain ⟨j, rfl⟩ : ∃ j, m = k + 1 + j := ⟨m - k - 1, by omega⟩
  have e1 : (r.take k ++ c :: r.drop k).take (k + 1 + j) = r.take k ++ c :: (r.drop k).take j := by
    rw [List.take_append, List.take_of_length_le (by rw [List.length_take]; omega), List.length_take, Nat.min_eq_left hk, show k + 1 + j - k = j + 1 by omega, List.take_succ_cons]
  rw [e1, List.filter_append, List.filter_cons, if_neg (by rw [hp]; simp), ← List.filter_append, show k + 1 + j = (k + j) + 1 by omega, List.take_succ_cons, List.filter_cons, if_neg (by rw [show k + j + 1 = k + 1 + j by omega, hp]; simp)]
  rw [List.take_add]
theorem ring_lo {l : List Card} {m : Nat} (h : ra l 0 < m) (hm : m < l.length) : ring (stp l) m = ring l m := by
  cases l with
  | nil => simp at hm
  | cons c r =>
    unfold ring
    rw [hand_lo h, stp_at0 (by simp), if_neg (by omega), if_neg (by omega)]
theorem ring_hi2 {l : List Card} {m : Nat} (h : m ≤ ra l 0) (hm : m < l.length) : ring (stp l) m = hand (stp l) m ++ [if m < ra l 0 then at0 l (m + 1) else at0 l 0] := by
  unfold ring
  rw [stp_at0 (by omega)]
  congr 2
  split
  · rfl
  · rw [if_pos (by omega)]
/-! ## ends of told lists -/
theorem ix_head {ds : List D} {x : D} {S : Sto} : gIx (.fl (x :: ds)) (.int 0) S = some (x, S) := by
  have e : ixN (x :: ds).length 0 = some 0 := by
    unfold ixN
    rw [if_pos (by decide), List.length_cons, if_pos (by omega)]; rfl
  simp only [gIx, seqD, Option.bind_some, atI, e]
  simp
theorem or_f {t u : BF} {τ : Sl} {S : Sto} (h1 : t τ S = some (.ok false S)) (h2 : u τ S = some (.ok false S)) : tOr' t u τ S = some (.ok false S) := tOr_f h1 h2
theorem app_last {S : Sto} {ds : List D} {x : D} (h : ds.length < sizeLine) : gAppend (.loc S.length) [x] (S ++ [.lst ds]) = some (.non, S ++ [.lst (ds ++ [x])]) := by
  simp only [gAppend, listD, get_last, Option.bind_some, if_pos h, set_last]
end Sb
end
section
set_option Elab.async false
set_option linter.all false
set_option maxRecDepth 100000
set_option maxHeartbeats 4000000
namespace Sb
open PySem PySem.Spec PyProof.Rows L2
/-! ## patterns, and what they show -/
abbrev Pat := List (Option Str)
def pat (l : List Card) (m : Nat) : Pat := (ring l m).map fun c => if m < rch l.length c then none else some c.1
def told (l : List Card) : List Pat := (List.range (clo l)).map (pat l)
def nxt (p : Pat) (i : Nat) : Nat := i / p.length * p.count none + (p.take (i % p.length)).count none
theorem pat_ne (l : List Card) (m : Nat) : 1 ≤ (pat l m).length := by unfold pat ring; simp
theorem rot_nxt {a : Option Str} {Q : Pat} {i : Nat} : nxt (a :: Q) (i + 1) = (if a = none then 1 else 0) + nxt (Q ++ [a]) i := by
  unfold nxt
  have hc : ∀ R : Pat, (a :: R).count none = (if a = none then 1 else 0) + R.count none := fun R => by
    rw [List.count_cons]
    cases a <;> simp [Nat.add_comm]
  have hc2 : (Q ++ [a]).count none = (if a = none then 1 else 0) + Q.count none := by
    rw [List.count_append, ← hc]
    cases a <;> simp [Nat.add_comm, List.count_cons]
  rw [hc, hc2]
  simp only [List.length_cons, List.length_append, List.length_nil, Nat.zero_add]
  have ht := Nat.mod_lt i (show 0 < Q.length + 1 by omega)
  have hd := Nat.div_add_mod i (Q.length + 1)
  by_cases h : i % (Q.length + 1) + 1 < Q.length + 1
  · have e1 : (i + 1) / (Q.length + 1) = i / (Q.length + 1) := by
      rw [Nat.div_eq_iff (by omega)]
      generalize i / (Q.length + 1) = q at *
      have : q * (Q.length + 1) = (Q.length + 1) * q := Nat.mul_comm _ _
      omega
    have e2 : (i + 1) % (Q.length + 1) = i % (Q.length + 1) + 1 := by
      have := Nat.div_add_mod (i + 1) (Q.length + 1)
      rw [e1] at this; omega
    rw [e1, e2, List.take_succ_cons, hc, List.take_append_of_le_length (by omega)]
    omega
  · have e : i % (Q.length + 1) = Q.length := by omega
    have e1 : (i + 1) / (Q.length + 1) = i / (Q.length + 1) + 1 := by
      rw [Nat.div_eq_iff (by omega)]
      rw [e] at hd
      generalize i / (Q.length + 1) = q at *
      have : (q + 1) * (Q.length + 1) = (Q.length + 1) * q + (Q.length + 1) := by rw [Nat.add_mul, Nat.mul_comm, Nat.one_mul]
      omega
    have e2 : (i + 1) % (Q.length + 1) = 0 := by
      have := Nat.div_add_mod (i + 1) (Q.length + 1)
      rw [e1, Nat.mul_add] at this; omega
    rw [e1, e2, e, List.take_zero, List.take_left, Nat.add_mul, Nat.one_mul, List.count_nil]
    omega
theorem pat_lo {l : List Card} {m : Nat} (h : ra l 0 < m) (hm : m < l.length) : pat (stp l) m = pat l m := by
  unfold pat
  rw [ring_lo h hm, stp_len]
end Sb
end
section
set_option Elab.async false
set_option linter.all false
set_option maxRecDepth 100000
set_option maxHeartbeats 4000000
namespace Sb
open PySem PySem.Spec PyProof.Rows L2
variable {K : PySem.W.Frag} {S : Sto}
def optD : Option Str → D
  | none => .non
  | some x => .str x
def optP : Option Str → PyData
  | none => .none
  | some x => .str x
abbrev pD (p : Pat) : D := .fl (p.map optD)
@[simp] theorem bd_opt {k : Nat} {o : Option Str} : bd k (optD o) = true := by cases o <;> rfl
@[simp] theorem bd_pD {k : Nat} {p : Pat} : bd k (pD p) = true := by
  show bds k _ = true
  exact bds_map fun _ _ => bd_opt
theorem tTr_ok {fe : EF} {τ : Sl} {d : D} {b : Bool} {S S1 : Sto} (h : fe τ S = some (.ok d S1)) (h2 : truD S1 d = some b) : tTr fe τ S = some (.ok b S1) := by simp only [tTr, M.bnd, h, h2, Option.bind_some]
theorem pattern_ok {l : List Card} {m : Nat} (w : Wf S) (ok : DeckOk l) (hm : m < l.length) : M_pattern_of [dK l, .int (m : Nat)] S = some (.ok (pD (pat l m)) S) := by
  have h1 := ok.lo
  have h2 := ok.hi
  have hl := hand_len l m
  refine fnM_rt ((sSeq_nx (sSet_ok (eCB_ok (a1_ok rfl) len_deck))).trans (sRt_ok ?_))
  have e := lc_pu (fi := iSeq (eCl (M_ring_of) 2 (aCons (eVar 0) (aCons (eVar 1) (aNil))))) (g := tN 3) (t := tAll) (fe := eIf (tB (eB gGtI (eCl (M_reach_of) 2 (aCons (eVar 3) (aCons (eVar 2) (aNil)))) (eVar 1))) (eC .non) (eB gIx (eVar 3) (eC (.int 0)))) (vs := [3]) (τ := [some (dK l), some (.int (m : Nat)), some (.int (l.length : Nat)), none]) (S := S) (ds := (ring l m).map dC)
    (fun _ => true) (fun d => match d with | .tup [.str x, .int i] => optD (if m < rch l.length (x, i) then none else some x) | _ => .non) w (iSeq_ok (eCl_ok (a2_ok rfl rfl) rfl (ring_ok w ok hm)) wk_fl) wks_ds (by unfold ring; simp; omega)
    (fun d hd _ => by obtain ⟨c, _, rfl⟩ := List.mem_map.mp hd; exact bd_opt)
    (fun d hd S' _ _ => by
      obtain ⟨c, hc, rfl⟩ := List.mem_map.mp hd
      have hr := reach_n (S := S') (c := c) (n := l.length) (ok.dep _ (ring_mem hm hc)) h1
      refine ⟨_, rfl, rfl, fun _ => ?_⟩
      by_cases q : m < rch l.length c
      · refine (eIf_t (tB_ok (eB_ok (eCl_ok (a2_ok rfl rfl) rfl hr) rfl (gGt_i.trans (by rw [dec_lt, decide_eq_true q])))) rfl).trans ?_
        show _ = some (Rs.ok (optD (if m < rch l.length c then none else some c.1)) S')
        rw [if_pos q]; rfl
      · refine (eIf_f (tB_ok (eB_ok (eCl_ok (a2_ok rfl rfl) rfl hr) rfl (gGt_i.trans (by rw [dec_lt, decide_eq_false q])))) (eB_ok rfl rfl ix_name)).trans ?_
        show _ = some (Rs.ok (optD (if m < rch l.length c then none else some c.1)) S')
        rw [if_neg q]; rfl)
  rw [filter_tt, List.map_map] at e
  show _ = some (Rs.ok (D.fl ((pat l m).map optD)) S)
  rw [show (pat l m).map optD = (ring l m).map fun c => optD (if m < rch l.length c then none else some c.1) from by unfold pat; rw [List.map_map]; rfl]
  exact e
/-! ## what a told list of patterns shows -/
theorem toPy_pat (n : Nat) (S : Sto) (p : Pat) : toPy (n + 2) S (pD p) = some (.list (p.map optP)) := by
  show ((p.map optD).mapM (toPy (n + 1) S)).map PyData.list = _
  rw [List.mapM_map, mapM_some (f := toPy (n + 1) S ∘ optD) (g := optP) fun x _ => by cases x <;> rfl]
  rfl
def PatNm (p : Pat) : Prop := ∀ x, some x ∈ p → Nm x
theorem shp_pat {p : Pat} (h : PatNm p) : SeqAt.shaped (.list (p.map optP)) = true := by
  unfold SeqAt.shaped
  have e1 : PyData.canLay0 (.list (p.map optP)) = true := lay_all fun x hx => by
    cases x with
    | none => rfl
    | some x => exact nm_ok (h x hx)
  have e2 : PyData.depth (.list (p.map optP)) ≤ 1 := Nat.succ_le_succ (depth_all (k := 0) fun x _ => by cases x <;> exact Nat.le_refl 0)
  rw [e1, Bool.true_and]
  exact decide_eq_true (Nat.le_trans e2 (by decide))
theorem cnt_none {ds : List D} {p : Pat} (hp : PatNm p) (e : ds = p.map optD) : gCount (.fl ds) [.non] S = some (.int (p.count none : Nat), S) := by
  subst e
  have h1 : toPy 8 S (.fl (p.map optD)) = some (.list (p.map optP)) := toPy_pat 6 S p
  have h2 : toPy 8 S .non = some .none := rfl
  have h3 : SeqAt.shaped .none = true := by decide +kernel
  simp only [gCount, h1, h2, shp_pat hp, h3, and_self, if_true]
  have : (p.map optP).countP (fun z => PyData.eqv z .none) = p.count none := by
    rw [List.countP_map, List.count]
    refine List.countP_congr fun x _ => ?_
    cases x with
    | none => simp [optP, PyData.eqv]
    | some x => simp [optP, PyData.eqv]
  rw [this]
theorem len_fl {ds : List D} : gLenX [.fl ds] S = some (.int ds.length, S) := by simp [gLenX, gLen, seqD]
theorem cut_fl {ds : List D} {b : Nat} : gSl (.fl ds) none (some (b : Nat)) S = some (.fl (ds.take b), S) := by
  have : cutD ds none (some (b : Int)) = ds.take b := by
    unfold cutD
    rw [HT.sIx_nat, HT.sIx_none, List.drop_zero, Nat.sub_zero]
    by_cases h : b ≤ ds.length
    · rw [Nat.min_eq_left h]
    · rw [Nat.min_eq_right (by omega), List.take_of_length_le (Nat.le_refl _), List.take_of_length_le (by omega)]
  simp only [gSl, this]
theorem gMod_n {i j : Nat} (h : 0 < j) : gMod (.int (i : Nat)) (.int (j : Nat)) S = some (.int (i % j : Nat), S) := by
  have : (0 : Int) < (j : Nat) := by omega
  simp only [gMod, gI, decide_eq_true this, if_true]
  rfl
theorem gMul_n {i j : Nat} (h : i < 2 ^ 400000) (h2 : j < 2 ^ 400000) : gMul (.int (i : Nat)) (.int (j : Nat)) S = some (.int (i * j : Nat), S) := by
  have : (((i : Nat) : Int)).natAbs.log2 + (((j : Nat) : Int)).natAbs.log2 < 1000000 := by
    have a : (((i : Nat) : Int)).natAbs.log2 < 400000 := log2_lt (by decide) h
    have b : (((j : Nat) : Int)).natAbs.log2 < 400000 := log2_lt (by decide) h2
    omega
  simp only [gMul, gI, decide_eq_true this, if_true]
  rfl
theorem nxt_le {p : Pat} (i : Nat) : nxt p i ≤ i := by
  unfold nxt
  have h1 : p.count none ≤ p.length := List.count_le_length
  have h2 : (p.take (i % p.length)).count none ≤ i % p.length := Nat.le_trans List.count_le_length (by rw [List.length_take]; omega)
  have h3 := Nat.div_add_mod i p.length
  have h4 : i / p.length * p.count none ≤ p.length * (i / p.length) := by rw [Nat.mul_comm p.length]; exact Nat.mul_le_mul_left _ h1
  omega
end Sb
end
section
set_option Elab.async false
set_option linter.all false
set_option maxRecDepth 100000
set_option maxHeartbeats 4000000
namespace Sb
open PySem PySem.Spec PyProof.Rows L2
/-! ## comprehensions that draw -/
/-- a list under way behind S1, at its end -/
structure Und (n k : Nat) (S1 S' : Sto) (acc : List D) : Prop where
  len : S'.length = S1.length + 1
  at_ : S'[S1.length]? = some (.lst acc)
  keep : ∀ j, j ≠ n → j < S1.length → S'[j]? = S1[j]?
  sp : Spr n k S'
  wf : Wf S'
theorem Und.take {n k : Nat} {S1 S' : Sto} {acc : List D} (u : Und n k S1 S' acc) (hn : n < S1.length) (w : Wf S1) : Sm n S1 (S'.take S1.length) ∧ Spr n k (S'.take S1.length) ∧ Wf (S'.take S1.length) := by
  have sm : Sm n S1 (S'.take S1.length) := ⟨by rw [List.length_take, u.len]; omega, fun i hi => by
    by_cases q : i < S1.length
    · rw [List.getElem?_take_of_lt q]; exact u.keep i hi q
    · rw [List.getElem?_eq_none (by rw [List.length_take]; omega), List.getElem?_eq_none (by omega)]⟩
  have sp' : Spr n k (S'.take S1.length) := by
    obtain ⟨a, b, c, e, r⟩ := u.sp
    exact ⟨a, b, c, by rw [List.getElem?_take_of_lt hn]; exact e, r⟩
  exact ⟨sm, sp', sm.wf w sp'⟩
/-! ## decks alike above a place -/
structure Top (c : Nat) (l m : List Card) : Prop where
  h1 : c ≤ l.length
  h2 : c ≤ m.length
  nm : ∀ i, i < c → (at0 l i).1 = (at0 m i).1
  ra : ∀ i, i < c → ra l i = ra m i
  lt : ∀ i, i < c → Sb.ra l i < c
theorem Top.pos {c : Nat} {l m : List Card} (t : Top c l m) (h : 1 ≤ c) : 1 ≤ l.length ∧ 1 ≤ m.length := ⟨Nat.le_trans h t.h1, Nat.le_trans h t.h2⟩
theorem Top.stp {c : Nat} {l m : List Card} (t : Top c l m) (h : 1 ≤ c) : Top c (stp l) (stp m) := by
  obtain ⟨p1, p2⟩ := t.pos h
  have h0 := t.lt 0 h
  have e0 := t.ra 0 h
  refine ⟨by rw [stp_len]; exact t.h1, by rw [stp_len]; exact t.h2, fun i hi => ?_, fun i hi => ?_, fun i hi => ?_⟩
  · rw [stp_at0 p1, stp_at0 p2, ← e0]
    split
    · exact t.nm _ (by omega)
    · split
      · exact t.nm _ h
      · exact t.nm _ hi
  · rw [ra_stp p1, ra_stp p2, ← e0]
    split
    · exact t.ra _ (by omega)
    · split
      · rfl
      · exact t.ra _ hi
  · exact clo_all p1 c h t.lt i hi
theorem Top.stps {c : Nat} {l m : List Card} (t : Top c l m) (h : 1 ≤ c) : ∀ n, Top c (stps n l) (stps n m)
  | 0 => t
  | n + 1 => (t.stps h n).stp h
theorem Top.clo {l m : List Card} (hl : 1 ≤ l.length) (t : Top (clo l) l m) : Sb.clo m = Sb.clo l := by
  have A := clo_is hl
  have B := clo_is (l := m) (t.pos A.lo).2
  refine B.uniq ⟨A.lo, t.h2, fun i hi => by rw [← t.ra i hi]; exact A.all i hi, fun k h1 h2 => ?_⟩
  obtain ⟨i, h3, h4⟩ := A.no k h1 h2
  exact ⟨i, h3, by rw [← t.ra i (by omega)]; exact h4⟩
/-- hands by their places -/
theorem take_range {l : List Card} {m : Nat} (h : m ≤ l.length) : l.take m = (List.range m).map (at0 l) := by
  refine List.ext_getElem (by simp; omega) fun i h1 h2 => ?_
  simp at h1 h2
  rw [List.getElem_take, List.getElem_map, List.getElem_range, at0_eq (by omega)]
theorem hand_range {l : List Card} {m : Nat} (h : m ≤ l.length) : hand l m = ((List.range m).filter fun i => decide (m ≤ ra l i)).map (at0 l) := by
  unfold hand
  rw [take_range h, List.filter_map]; rfl
theorem Top.hand {c m : Nat} {l k : List Card} (t : Top c l k) (h : m ≤ c) : nms (Sb.hand k m) = nms (Sb.hand l m) := by
  rw [hand_range (Nat.le_trans h t.h1), hand_range (Nat.le_trans h t.h2)]
  unfold nms
  rw [List.map_map, List.map_map]
  have e : ((List.range m).filter fun i => decide (m ≤ Sb.ra k i)) = (List.range m).filter fun i => decide (m ≤ Sb.ra l i) := List.filter_congr fun i hi => by rw [t.ra i (by have := List.mem_range.mp hi; omega)]
  rw [e]
  exact List.map_congr_left fun i hi => (t.nm i (by have := List.mem_range.mp (List.mem_filter.mp hi).1; omega)).symm
theorem Top.ring {c m : Nat} {l k : List Card} (t : Top c l k) (h : m < c) : nms (Sb.ring k m) = nms (Sb.ring l m) := by
  have e := t.hand (m := m) (by omega)
  unfold Sb.ring nms at *
  rw [List.map_append, List.map_append, e, List.map_singleton, List.map_singleton, t.nm m h]
end Sb
end
section
set_option Elab.async false
set_option linter.all false
set_option maxRecDepth 100000
set_option maxHeartbeats 4000000
namespace Sb
open PySem PySem.Spec PyProof.Rows L2
variable {K : PySem.W.Frag} {S : Sto}
/-! ### a deck as lists of lists -/
abbrev oC (c : Card) : Ob := .lst [.str c.1, .int c.2]
/-- a card as a list -/
abbrev fC (c : Card) : D := .fl [.str c.1, .int c.2]
/-! ### a deck handed in otherwise -/
def HD (l : List Card) (d : D) : Prop := ∃ es : List D, (d = .tup es ∨ d = .fl es) ∧ es.length = l.length ∧ ∀ i, (h : i < l.length) → es[i]? = some (dC l[i]) ∨ es[i]? = some (fC l[i])
theorem HD.deck {l : List Card} {d : D} (h : HD l d) : isDeck S d l := by
  obtain ⟨es, h1, h2, h3⟩ := h
  refine ⟨es, h1.imp id .inl, h2, fun i e c he hc => ?_⟩
  obtain ⟨hi, rfl⟩ := List.getElem?_eq_some_iff.mp hc
  rcases h3 i hi with q | q
  · rw [he] at q; cases q; exact .inl rfl
  · rw [he] at q; cases q; exact .inr (.inl rfl)
theorem HD.items {l : List Card} {es : List D} (h2 : es.length = l.length) (h3 : ∀ i, (h : i < l.length) → es[i]? = some (dC l[i]) ∨ es[i]? = some (fC l[i])) : ∀ e ∈ es, ∃ c ∈ l, e = dC c ∨ e = fC c := fun e he => by
  obtain ⟨i, hi, rfl⟩ := List.getElem_of_mem he
  have hi' : i < l.length := by omega
  refine ⟨l[i], List.getElem_mem hi', ?_⟩
  rcases h3 i hi' with q | q <;> rw [List.getElem?_eq_getElem hi] at q
  · exact .inl (Option.some.inj q)
  · exact .inr (Option.some.inj q)
theorem HD.bd {l : List Card} {d : D} (h : HD l d) {k : Nat} : Sb.bd k d = true := by
  obtain ⟨es, h1, h2, h3⟩ := h
  have : bds k es = true := bds_all.mpr fun e he => by
    obtain ⟨c, _, q | q⟩ := HD.items h2 h3 e he <;> rw [q] <;> rfl
  rcases h1 with rfl | rfl <;> simpa [Sb.bd] using this
def Big (l : List Card) : Prop := ∀ c ∈ l, c.2 < 10 ^ 40
theorem Big.stp {l : List Card} (h : Big l) : Big (stp l) := fun c hc => h c ((stp_perm l).mem_iff.mp hc)
abbrev pF (c : Card) : PyData := .list [.str c.1, .int c.2]
/-- its repr -/
theorem shown_card {c : Card} (hn : Nm c.1) (h0 : 0 ≤ c.2) (hb : c.2 < 10 ^ 40) : ∀ p, p = pC c ∨ p = pF c → PyData.showable p = true ∧ PyData.hasDict p = false ∧ PyData.leavesShort 50 p = true ∧ PyData.weight p ≤ 200 ∧ PyData.depth p ≤ 1 := by
  have e40 : (10 : Int) ^ 40 = 10000000000000000000000000000000000000000 := by decide
  have hlog : c.2.natAbs.log2 < 140 := log2_lt (by decide) (by
    have : (2 : Nat) ^ 140 = 1393796574908163946345982392040522594123776 := by decide
    rw [this]; omega)
  have hs : PyData.showable (.int c.2) = true := decide_eq_true (by omega)
  have hz : c.1.cps.size ≤ 8 := hn.hi
  have hl : PyData.leavesShort 50 (.int c.2) = true := by
    refine decide_eq_true ?_
    have e := int_text_length_le10 (a := c.2) (k := 40) (by decide) (by
      have : (10 : Nat) ^ 40 = 10000000000000000000000000000000000000000 := by decide
      rw [this]; omega)
    show (Str.ofString (toString c.2)).length ≤ 50
    rw [PySem.ofString_length]; omega
  have hl2 : PyData.leavesShort 50 (.str c.1) = true := by
    simp only [PyData.leavesShort, List.all_eq_true, decide_eq_true_eq]
    intro x hx
    have := (hn.let_ x hx).2
    have e : (16 : Nat) ^ 8 = 4294967296 := by decide
    omega
  have hw : PyData.weight (.int c.2) ≤ 141 := by simp only [PyData.weight]; split <;> omega
  rintro p (rfl | rfl) <;> refine ⟨?_, rfl, ?_, ?_, ?_⟩
  · simp only [pC, PyData.showable, PyData.showableAll]; rw [decide_eq_true (by omega)]; rfl
  · simp only [pC, PyData.leavesShort, PyData.leavesShortAll] at hl hl2 ⊢; rw [hl, hl2]; rfl
  · simp only [pC, PyData.weight, PyData.weightAll] at hw ⊢; omega
  · exact dep_card c
  · simp only [pF, PyData.showable, PyData.showableAll]; rw [decide_eq_true (by omega)]; rfl
  · simp only [pF, PyData.leavesShort, PyData.leavesShortAll] at hl hl2 ⊢; rw [hl, hl2]; rfl
  · simp only [pF, PyData.weight, PyData.weightAll] at hw ⊢; omega
  · exact dep_card c
theorem all_show {ps : List PyData} {N : Nat} (h : ∀ p ∈ ps, PyData.showable p = true ∧ PyData.hasDict p = false ∧ PyData.leavesShort 50 p = true ∧ PyData.weight p ≤ 200 ∧ PyData.depth p ≤ 1) (hl : ps.length ≤ N) :
    PyData.showableAll ps = true ∧ PyData.hasDictAll ps = false ∧ PyData.leavesShortAll 50 ps = true ∧ PyData.weightAll ps ≤ 201 * ps.length ∧ PyData.depthAll ps ≤ 1 := by
  induction ps generalizing N with
  | nil => exact ⟨rfl, rfl, rfl, Nat.zero_le _, Nat.zero_le _⟩
  | cons p ps ih =>
    obtain ⟨h1, h2, h3, h4, h5⟩ := h p List.mem_cons_self
    obtain ⟨g1, g2, g3, g4, g5⟩ := ih (N := ps.length) (fun q hq => h q (List.mem_cons_of_mem _ hq)) (Nat.le_refl _)
    refine ⟨?_, ?_, ?_, ?_, ?_⟩
    · simp only [PyData.showableAll, h1, g1, Bool.and_self]
    · simp only [PyData.hasDictAll, h2, g2, Bool.or_self]
    · simp only [PyData.leavesShortAll, h3, g3, Bool.and_self]
    · simp only [PyData.weightAll, List.length_cons]; omega
    · simp only [PyData.depthAll]; exact Nat.max_le.mpr ⟨h5, g5⟩
theorem HD.repr {l : List Card} {d : D} (h : HD l d) (ok : DeckOk l) (hb : Big l) : ∃ t : Str, ∀ S : Sto, gRepr [d] S = some (.str t, S) := by
  obtain ⟨es, h1, h2, h3⟩ := h
  have hi := HD.items h2 h3
  let pf : D → PyData := fun e => match e with | .tup [.str x, .int i] => pC (x, i) | .fl [.str x, .int i] => pF (x, i) | _ => .none
  have hm : ∀ (n : Nat) (S : Sto), es.mapM (toPy (n + 2) S) = some (es.map pf) := fun n S => mapM_some fun e he => by
    obtain ⟨c, _, q | q⟩ := hi e he <;> rw [q] <;> rfl
  have hs := all_show (ps := es.map pf) (N := 40) (fun p hp => by
    obtain ⟨e, he, rfl⟩ := List.mem_map.mp hp
    obtain ⟨c, hc, q | q⟩ := hi e he <;> rw [q]
    · exact shown_card (ok.nm c hc) (ok.dep c hc) (hb c hc) _ (.inl rfl)
    · exact shown_card (ok.nm c hc) (ok.dep c hc) (hb c hc) _ (.inr rfl)) (by have := ok.hi; simp; omega)
  obtain ⟨g1, g2, g3, g4, g5⟩ := hs
  have hlen : (es.map pf).length ≤ 40 := by have := ok.hi; simp; omega
  have hz := sizeLine_eq
  have key : ∀ p : PyData, (p = .tuple (es.map pf) ∨ p = .list (es.map pf)) → p.showable = true ∧ p.hasDict = false ∧ p.depth ≤ 8 ∧ p.shown.length ≤ sizeLine := by
    rintro p (rfl | rfl)
    · refine ⟨by simp only [PyData.showable, g1], by simp only [PyData.hasDict, g2], by simp only [PyData.depth]; omega, ?_⟩
      have := PyData.shown_le 50 (by decide) (.tuple (es.map pf)) (by simp only [PyData.leavesShort, g3])
      simp only [PyData.weight] at this
      omega
    · refine ⟨by simp only [PyData.showable, g1], by simp only [PyData.hasDict, g2], by simp only [PyData.depth]; omega, ?_⟩
      have := PyData.shown_le 50 (by decide) (.list (es.map pf)) (by simp only [PyData.leavesShort, g3])
      simp only [PyData.weight] at this
      omega
  rcases h1 with rfl | rfl
  · refine ⟨PyData.shown (.tuple (es.map pf)), fun S => ?_⟩
    have e : toPy 8 S (.tup es) = some (.tuple (es.map pf)) := by show (es.mapM (toPy 7 S)).map PyData.tuple = _; rw [hm 5 S]; rfl
    simp only [gRepr, e, Option.bind_some, if_pos (key _ (.inl rfl))]
  · refine ⟨PyData.shown (.list (es.map pf)), fun S => ?_⟩
    have e : toPy 8 S (.fl es) = some (.list (es.map pf)) := by show (es.mapM (toPy 7 S)).map PyData.list = _; rw [hm 5 S]; rfl
    simp only [gRepr, e, Option.bind_some, if_pos (key _ (.inr rfl))]
theorem gEqS_same {x : Str} : gEqS true (.str x) (.str x) S = some (.bl false, S) := by simp [gEqS]
end Sb
end
section
set_option Elab.async false
set_option linter.all false
set_option maxRecDepth 100000
set_option maxHeartbeats 4000000
namespace Sb
open PySem PySem.Spec PyProof.Rows L2
variable {K : PySem.W.Frag} {S : Sto}
/-! ## alike, of the same kinds all through -/
def Rl : Nat → Sto → D → D → Prop
  | 0, _, _, _ => False
  | n + 1, S, d, e => (d = .non ∧ e = .non) ∨ (∃ b, d = .bl b ∧ e = .bl b) ∨ (∃ i, d = .int i ∧ e = .int i) ∨ (∃ x, SeqAt.shaped (.str x) = true ∧ d = .str x ∧ e = .str x) ∨
    ∃ (ds es : List D) (c : String), kindD S d = some c ∧ kindD S e = some c ∧ (c = "list" ∨ c = "tuple") ∧ seqD S d = some ds ∧ seqD S e = some es ∧ ds.length = es.length ∧ es.length ≤ 10000 ∧ ∀ (i : Nat) (a b : D), ds[i]? = some a → es[i]? = some b → Rl n S a b
theorem seqD_app {d : D} {ds : List D} {X : Sto} (h : seqD S d = some ds) : seqD (S ++ X) d = some ds := by
  cases d with
  | loc n =>
    simp only [seqD] at h ⊢
    split at h
    · rename_i q; cases h; rw [pre_get q]
    · cases h
  | _ => exact h
theorem kindD_app {d : D} {c : String} {X : Sto} (h : kindD S d = some c) : kindD (S ++ X) d = some c := by
  cases d with
  | loc n =>
    simp only [kindD] at h ⊢
    split at h
    · rename_i q; rw [pre_get q]; exact h
    · rename_i q; rw [pre_get q]; exact h
    · cases h
  | _ => exact h
theorem Rl.app : ∀ {n : Nat} {d e : D} {X : Sto}, Rl n S d e → Rl n (S ++ X) d e
  | 0, _, _, _, h => h
  | n + 1, d, e, X, h => by
    rcases h with h | h | h | h | ⟨ds, es, c, h1, h2, h3, h4, h5, h6, h7, h8⟩
    · exact .inl h
    · exact .inr (.inl h)
    · exact .inr (.inr (.inl h))
    · exact .inr (.inr (.inr (.inl h)))
    · exact .inr (.inr (.inr (.inr ⟨ds, es, c, kindD_app h1, kindD_app h2, h3, seqD_app h4, seqD_app h5, h6, h7, fun i a b ha hb => (h8 i a b ha hb).app⟩)))
theorem ix_seq' {d : D} {ds : List D} {i : Nat} {x : D} {c : String} (hk : kindD S d = some c) (h : seqD S d = some ds) (hx : ds[i]? = some x) : gIx d (.int (i : Nat)) S = some (x, S) := by
  have hi := (List.getElem?_eq_some_iff.mp hx).1
  have h1 : ((i : Nat) : Int) < (ds.length : Int) := by omega
  have h0 : (0 : Int) ≤ (i : Nat) := by omega
  cases d with
  | str z => cases h
  | _ => simp only [gIx, h, Option.bind_some, atI, ixN, if_pos h0, if_pos h1, Int.toNat_natCast, hx]
theorem eIs_ok {n : String} {f : EF} {τ : Sl} {d : D} {S S1 : Sto} {c : String} {b : Bool} (h : f τ S = some (.ok d S1)) (hk : kindD S1 d = some c) (hb : kitB c n = some b) : eIs n f τ S = some (.ok (.bl b) S1) := by
  simp only [eIs, M.bnd, h, hk, hb, Option.bind_some]
/-- what has no place in the store is alike itself -/
def shD : Nat → D → Bool
  | 0, _ => false
  | n + 1, d => match d with
    | .non => true
    | .bl _ => true
    | .int _ => true
    | .str x => SeqAt.shaped (.str x)
    | .tup ds => decide (ds.length ≤ 10000) && ds.all (shD n)
    | .fl ds => decide (ds.length ≤ 10000) && ds.all (shD n)
    | _ => false
theorem Rl.self : ∀ {n : Nat} {d : D}, shD n d = true → Rl n S d d
  | 0, _, h => by cases h
  | n + 1, d, h => by
    cases d with
    | non => exact .inl ⟨rfl, rfl⟩
    | bl b => exact .inr (.inl ⟨b, rfl, rfl⟩)
    | int i => exact .inr (.inr (.inl ⟨i, rfl, rfl⟩))
    | str x => exact .inr (.inr (.inr (.inl ⟨x, h, rfl, rfl⟩)))
    | tup ds =>
      simp only [shD, Bool.and_eq_true, decide_eq_true_eq, List.all_eq_true] at h
      exact .inr (.inr (.inr (.inr ⟨ds, ds, "tuple", rfl, rfl, .inr rfl, rfl, rfl, rfl, h.1, fun i a b ha hb => by rw [ha] at hb; cases hb; exact Rl.self (h.2 a (List.mem_of_getElem? ha))⟩)))
    | exn c => cases h
    | fd ks ds => cases h
    | fl ds =>
      simp only [shD, Bool.and_eq_true, decide_eq_true_eq, List.all_eq_true] at h
      exact .inr (.inr (.inr (.inr ⟨ds, ds, "list", rfl, rfl, .inl rfl, rfl, rfl, rfl, h.1, fun i a b ha hb => by rw [ha] at hb; cases hb; exact Rl.self (h.2 a (List.mem_of_getElem? ha))⟩)))
    | loc n => cases h
    | scr n => cases h
theorem Rl.lst {n k : Nat} {ds : List D} (h : S[k]? = some (.lst ds)) (hl : ds.length ≤ 10000) (hs : ∀ d ∈ ds, shD n d = true) : Rl (n + 1) S (.loc k) (.fl ds) :=
  .inr (.inr (.inr (.inr ⟨ds, ds, "list", by simp [kindD, h], rfl, .inl rfl, by simp [seqD, h], rfl, rfl, hl, fun i a b ha hb => by rw [ha] at hb; cases hb; exact Rl.self (hs a (List.mem_of_getElem? ha))⟩)))
theorem shD_names {n : Nat} {l : List Str} (hl : l.length ≤ 10000) (h : ∀ x ∈ l, Nm x) : shD (n + 2) (.fl (l.map D.str)) = true := by
  simp only [shD, Bool.and_eq_true, decide_eq_true_eq, List.all_eq_true]
  refine ⟨by simpa using hl, fun d hd => ?_⟩
  obtain ⟨x, hx, rfl⟩ := List.mem_map.mp hd
  exact shp_str (h x hx)
end Sb
end
section
set_option Elab.async false
set_option linter.all false
set_option maxRecDepth 100000
set_option maxHeartbeats 4000000
namespace Sb
open PySem PySem.Spec PyProof.Rows L2
variable {K : PySem.W.Frag} {S : Sto}
/-! ## lists of lists that are changed in place -/
structure HeldQ (p : Nat) (l : List Card) (qs : List Nat) (S : Sto) : Prop where
  at_ : S[p]? = some (.lst (qs.map D.loc))
  len : qs.length = l.length
  nd : qs.Nodup
  gt : ∀ q ∈ qs, p < q
  obj : ∀ (i : Nat) (q : Nat) (c : Card), qs[i]? = some q → l[i]? = some c → S[q]? = some (oC c)
def Held (p : Nat) (l : List Card) (S : Sto) : Prop := ∃ qs, HeldQ p l qs S
theorem Held.deck {p : Nat} {l : List Card} (h : Held p l S) : isDeck S (.loc p) l := by
  obtain ⟨qs, h⟩ := h
  refine ⟨qs.map D.loc, .inr (.inr ⟨p, rfl, h.at_⟩), by simp [h.len], fun i e c he hc => ?_⟩
  rw [List.getElem?_map, Option.map_eq_some_iff] at he
  obtain ⟨q, hq, rfl⟩ := he
  exact .inr (.inr ⟨q, rfl, h.obj i q c hq hc⟩)
theorem HeldQ.sm {n p : Nat} {l : List Card} {qs : List Nat} {S S' : Sto} (h : HeldQ p l qs S) (sm : Sm n S S') (hn : n < p) : HeldQ p l qs S' :=
  ⟨sm.get h.at_ (by omega), h.len, h.nd, h.gt, fun i q c hq hc => sm.get (h.obj i q c hq hc) (by have := h.gt q (List.mem_of_getElem? hq); omega)⟩
/-- two exchanged -/
def exch {α : Type} (l : List α) (a b : Nat) : List α := match l[a]?, l[b]? with
  | some x, some y => (l.set a y).set b x
  | _, _ => l
theorem exch_len {α : Type} (l : List α) (a b : Nat) : (exch l a b).length = l.length := by
  unfold exch
  split <;> simp
theorem exch_get {α : Type} {l : List α} {a b : Nat} (ha : a < l.length) (hb : b < l.length) (i : Nat) : (exch l a b)[i]? = if i = b then l[a]? else if i = a then l[b]? else l[i]? := by
  unfold exch
  rw [List.getElem?_eq_getElem ha, List.getElem?_eq_getElem hb]
  simp only
  by_cases h1 : i = b
  · subst h1; rw [if_pos rfl, List.getElem?_set_self (by simp; omega)]
  · rw [if_neg h1, List.getElem?_set_ne (Ne.symm h1)]
    by_cases h2 : i = a
    · subst h2; rw [if_pos rfl, List.getElem?_set_self (by omega)]
    · rw [if_neg h2, List.getElem?_set_ne (Ne.symm h2)]
theorem exch_mem {α : Type} {l : List α} {a b : Nat} (ha : a < l.length) (hb : b < l.length) {x : α} : x ∈ exch l a b → x ∈ l := fun h => by
  obtain ⟨i, hi⟩ := List.getElem?_of_mem h
  rw [exch_get ha hb] at hi
  split at hi
  · exact List.mem_of_getElem? hi
  · split at hi <;> exact List.mem_of_getElem? hi
theorem exch_nodup {α : Type} {l : List α} {a b : Nat} (ha : a < l.length) (hb : b < l.length) (h : l.Nodup) : (exch l a b).Nodup := by
  rw [List.Nodup, List.pairwise_iff_getElem]
  intro i j hi hj hij e0
  have e : (exch l a b)[i]? = (exch l a b)[j]? := by rw [List.getElem?_eq_getElem hi, List.getElem?_eq_getElem hj, e0]
  rw [exch_len] at hj hi
  have hσ : ∀ x : Nat, (exch l a b)[x]? = l[if x = b then a else if x = a then b else x]? := fun x => by
    rw [exch_get ha hb]
    split
    · rfl
    · split <;> rfl
  have hin : ∀ x : Nat, x < l.length → (if x = b then a else if x = a then b else x) < l.length := fun x hx => by
    split
    · exact ha
    · split
      · exact hb
      · exact hx
  rw [hσ, hσ, List.getElem?_eq_getElem (hin i hi), List.getElem?_eq_getElem (hin j hj)] at e
  have := (List.getElem_inj h).mp (Option.some.inj e)
  (repeat' split at this) <;> omega
theorem HeldQ.swap {p : Nat} {l : List Card} {qs : List Nat} {a b : Nat} (h : HeldQ p l qs S) (ha : a < l.length) (hb : b < l.length) : HeldQ p (exch l a b) (exch qs a b) (S.set p (.lst ((exch qs a b).map D.loc))) := by
  have ha' : a < qs.length := by rw [h.len]; exact ha
  have hb' : b < qs.length := by rw [h.len]; exact hb
  have hp : p < S.length := (List.getElem?_eq_some_iff.mp h.at_).1
  refine ⟨List.getElem?_set_self hp, by rw [exch_len, exch_len, h.len], exch_nodup ha' hb' h.nd, fun q hq => h.gt q (exch_mem ha' hb' hq), fun i q c hq hc => ?_⟩
  have hqp : q ∈ qs := exch_mem ha' hb' (List.mem_of_getElem? hq)
  rw [List.getElem?_set_ne (by have := h.gt q hqp; omega)]
  rw [exch_get ha' hb'] at hq
  rw [exch_get ha hb] at hc
  split at hq
  · rename_i e; rw [if_pos e] at hc; exact h.obj _ _ _ hq hc
  · rename_i e; rw [if_neg e] at hc
    split at hq
    · rename_i e2; rw [if_pos e2] at hc; exact h.obj _ _ _ hq hc
    · rename_i e2; rw [if_neg e2] at hc; exact h.obj _ _ _ hq hc
end Sb
end
section
set_option Elab.async false
set_option linter.all false
set_option maxRecDepth 100000
set_option maxHeartbeats 4000000
namespace Sb
open PySem PySem.Spec PyProof.Rows L2
variable {K : PySem.W.Frag} {S : Sto}
/-- what lies below p stands, but the spring -/
structure Bel (n p : Nat) (S S' : Sto) : Prop where
  len : S'.length = S.length
  at_ : ∀ j, j < p → j ≠ n → S'[j]? = S[j]?
theorem Bel.trans {n p : Nat} {S S1 S2 : Sto} (a : Bel n p S S1) (b : Bel n p S1 S2) : Bel n p S S2 := ⟨b.len.trans a.len, fun j h1 h2 => (b.at_ j h1 h2).trans (a.at_ j h1 h2)⟩
theorem Bel.set {n p q : Nat} {o : Ob} (h : p ≤ q) : Bel n p S (S.set q o) := ⟨by simp, fun j h1 _ => List.getElem?_set_ne (by omega)⟩
theorem Bel.refl {n p : Nat} : Bel n p S S := ⟨rfl, fun _ _ _ => rfl⟩
theorem sPut_ok {fe fo fi : EF} {τ : Sl} {d x y : D} {S S1 S2 S3 S4 : Sto} (h1 : fe τ S = some (.ok d S1)) (h2 : fo τ S1 = some (.ok x S2)) (h3 : fi τ S2 = some (.ok y S3)) (h4 : putD x y d S3 = some S4) : sPut fe fo fi τ S = some (.nx τ, S4) := by
  simp only [sPut, sx, h1, h2, h3, h4, Option.bind_some]
theorem putD_ok {p i : Nat} {es : List D} {d : D} (h : S[p]? = some (.lst es)) (hi : i < es.length) : putD (.loc p) (.int (i : Nat)) d S = some (S.set p (.lst (es.set i d))) := by
  have h1 : ((i : Nat) : Int) < (es.length : Int) := by omega
  have h0 : (0 : Int) ≤ (i : Nat) := by omega
  simp only [putD, listD, h, Option.bind_some, ixN, if_pos h0, if_pos h1, Int.toNat_natCast]
theorem ix_loc {p i : Nat} {es : List D} {x : D} (h : S[p]? = some (.lst es)) (hx : es[i]? = some x) : gIx (.loc p) (.int (i : Nat)) S = some (x, S) :=
  ix_seq' (c := "list") (by simp [kindD, h]) (by simp [seqD, h]) hx
end Sb
end
section
set_option Elab.async false
set_option linter.all false
set_option maxRecDepth 100000
set_option maxHeartbeats 4000000
namespace Sb
open PySem PySem.Spec PyProof.Rows L2
variable {K : PySem.W.Frag} {S : Sto}
theorem toPy_fcards (n : Nat) (S : Sto) (xs : List Card) : toPy (n + 3) S (.fl (xs.map dC)) = some (.list (xs.map pC)) := by
  show ((xs.map dC).mapM (toPy (n + 2) S)).map PyData.list = _
  rw [List.mapM_map, mapM_some (f := toPy (n + 2) S ∘ dC) (g := pC) fun x _ => rfl]
  rfl
theorem gEq_fcards {neg : Bool} {l m : List Card} (hl : ∀ c ∈ l, Nm c.1) (hm : ∀ c ∈ m, Nm c.1) : gEq neg (.fl (l.map dC)) (.fl (m.map dC)) S = some (.bl (if neg then !decide (l = m) else decide (l = m)), S) := by
  have e : PyData.eqv (.list (l.map pC)) (.list (m.map pC)) = decide (l = m) := eqv_all eqv_card l m
  simp only [gEq, toPy_fcards, shp_cards hl, shp_cards hm, and_self, if_true, e]
theorem iRg2_ok {r : AF} {τ : Sl} {a b : Nat} {S S1 : Sto} (h1 : r τ S = some (.ok [.int (a : Nat), .int (b : Nat)] S1)) (hb : b ≤ 1000000) (ha : a ≤ 1000000) : iRg2 r τ S = some (.ok (wkR a (b - a)) S1) := by
  have e : ((b : Int) - (a : Int)).toNat = b - a := by omega
  have c : -(2 ^ 62) ≤ (a : Int) ∧ (a : Int) < 2 ^ 62 ∧ -(2 ^ 62) ≤ (b : Int) ∧ (b : Int) < 2 ^ 62 := by refine ⟨?_, ?_, ?_, ?_⟩ <;> omega
  simp only [iRg2, M.bnd, h1]
  first | (rw [if_pos c, e]) | (simp [c, e])
end Sb
end
section
set_option Elab.async false
set_option linter.all false
set_option maxRecDepth 100000
set_option maxHeartbeats 4000000
namespace Sb
open PySem PySem.Spec PyProof.Rows L2
variable {K : PySem.W.Frag} {S : Sto}
/-- raw lists of names -/
theorem lc_raw {fi : IF} {g : TF} {fe : EF} {vs : List Nat} {τ : Sl} {S : Sto} {wk : Wk} {ds : List D} (q : D → D) (w : Wf S) (hi : fi τ S = some (.ok wk S)) (hw : Wks wk ds fun S' => ∃ X, S' = S ++ X)
    (hl : ds.length ≤ 100000) (hb : ∀ d ∈ ds, bd S.length (q d) = true)
    (h : ∀ d ∈ ds, ∀ S', Wf S' → (∃ X, S' = S ++ X) → ∃ τ1, g d S' (wipeD τ vs) = some τ1 ∧ fe τ1 S' = some (.ok (q d) S')) :
    eLc fi g tAll fe vs τ S = some (.ok (.loc S.length) (S ++ [.lst (ds.map q)])) := by
  have bdq : ∀ i, bds S.length ((ds.take i).map q) = true := fun i => bds_map fun x hx => hb x (List.mem_of_mem_take hx)
  obtain ⟨S', L, rfl⟩ := goC_inv (nxt := wk.nxt) (g := g) (t := tAll) (fe := fe) (l := S.length) (τ0 := wipeD τ vs) (n := ds.length)
    (fun i S' => S' = S ++ [.lst ((ds.take i).map q)]) (fun i => ds.getD i default)
    (fun i S' hi e => by
      subst e
      have e3 := List.getElem?_eq_getElem hi
      have e4 : ds.getD i default = ds[i] := by rw [List.getD_eq_getElem?_getD, e3]; rfl
      have hw' : Wf (S ++ [.lst ((ds.take i).map q)]) := wf_app w (bds_mono (Nat.le_add_right _ _) _ (bdq i))
      obtain ⟨τ1, h1, h3⟩ := h ds[i] (List.getElem_mem hi) _ hw' ⟨_, rfl⟩
      refine ⟨by rw [hw.nxt i _ ⟨_, rfl⟩, e4, e3], τ1, by rw [e4]; exact h1, ?_⟩
      have et : ds.take (i + 1) = ds.take i ++ [ds[i]] := by rw [List.take_append_getElem hi]
      refine .inr ⟨_, q ds[i], _, _, rfl, h3, get_last _ _, ?_, ?_⟩
      · have : ((ds.take i).map q).length ≤ i := by rw [List.length_map, List.length_take]; omega
        have := sizeLine_eq
        omega
      · rw [set_last, et, List.map_append]; rfl)
    (fun S' e => by subst e; rw [hw.nxt _ _ ⟨_, rfl⟩, List.getElem?_eq_none (Nat.le_refl _)]) (wk.bound + 1) 0 (S ++ [.lst []]) (Nat.zero_le _) (by have := hw.bound; omega) (by simp)
  rw [List.take_length] at L
  simp only [eLc, hi, L, Option.bind_some]
theorem Rl.bl {n : Nat} {b : Bool} : Rl (n + 1) S (.bl b) (.bl b) := .inr (.inl ⟨_, rfl, rfl⟩)
theorem Rl.names {n : Nat} {l : List Str} (hl : l.length ≤ 1000) (h : ∀ x ∈ l, Nm x) : Rl (n + 2) S (.fl (l.map D.str)) (.fl (l.map D.str)) := Rl.self (shD_names (by omega) h)
theorem shD_deck {n : Nat} {l : List Card} (hl : l.length ≤ 10000) (h : ∀ c ∈ l, Nm c.1) : shD (n + 3) (dK l) = true := by
  simp only [dK, shD, Bool.and_eq_true, decide_eq_true_eq, List.all_eq_true]
  refine ⟨by simpa using hl, fun d hd => ?_⟩
  obtain ⟨c, hc, rfl⟩ := List.mem_map.mp hd
  simp only [dC, shD, Bool.and_eq_true, decide_eq_true_eq, List.all_eq_true]
  refine ⟨by simp, fun d hd => ?_⟩
  simp at hd
  rcases hd with rfl | rfl
  · exact shp_str (h c hc)
  · rfl
theorem Rl.deck {n : Nat} {l : List Card} (ok : DeckOk l) : Rl (n + 3) S (dK l) (dK l) := Rl.self (shD_deck (by have := ok.hi; omega) ok.nm)
end Sb
end
section
set_option Elab.async false
set_option linter.all false
set_option maxRecDepth 100000
set_option maxHeartbeats 4000000
namespace Sb
open PySem PySem.Spec PyProof.Rows L2
variable {K : PySem.W.Frag} {S : Sto}
/-! ## draws from any source: P n k S, the source lies at n and has been asked k times at most -/
structure Src (P : Nat → Nat → Sto → Prop) : Prop where
  fr : ∀ {n k : Nat} {S S' : Sto}, P n k S → S'[n]? = S[n]? → P n k S'
  ex : ∀ {n k : Nat} {S : Sto}, P n k S → ∃ o, S[n]? = some o ∧ bdO 0 o = true
  mono : ∀ {n k k' : Nat} {S : Sto}, P n k S → k ≤ k' → P n k' S
/-- its def of a draw; m below 2 ^ B -/
def Drw (P : Nat → Nat → Sto → Prop) (m : List D → M D) : Prop := ∀ {n k : Nat} {S : Sto} {b : Nat}, Wf S → P n k S → k < 2 ^ 40 → 0 < b → b < 2 ^ 200 →
  ∃ (v : Nat) (S' : Sto), m [.loc n, .int (b : Nat)] S = some (.ok (.int (v : Nat)) S') ∧ v < b ∧ P n (k + 1) S' ∧ Sm n S S'
section
variable {P : Nat → Nat → Sto → Prop} (sr : Src P) {m : List D → M D}
include sr
theorem Src.lt {n k : Nat} {S : Sto} (h : P n k S) : n < S.length := by
  obtain ⟨o, e, _⟩ := sr.ex h
  exact (List.getElem?_eq_some_iff.mp e).1
theorem Src.app {n k : Nat} {S X : Sto} (h : P n k S) : P n k (S ++ X) := sr.fr h (List.getElem?_append_left (sr.lt h))
theorem Src.wf {n k : Nat} {S S' : Sto} (a : Sm n S S') (w : Wf S) (h : P n k S') : Wf S' := by
  unfold Wf wfk
  rw [List.all_eq_true]
  intro x hx
  obtain ⟨i, hi, rfl⟩ := List.getElem_of_mem hx
  rw [a.len]
  by_cases q : i = n
  · subst q
    obtain ⟨o, e, hb⟩ := sr.ex h
    have := List.getElem?_eq_getElem hi
    rw [e] at this
    rw [← Option.some.inj this]
    exact bdO_mono (Nat.zero_le _) o hb
  · have e := a.at_ i q
    rw [List.getElem?_eq_getElem hi, List.getElem?_eq_getElem (by rw [← a.len]; exact hi)] at e
    rw [Option.some.inj e]
    exact List.all_eq_true.mp w _ (List.getElem_mem _)
theorem Src.draw (dm : Drw P m) {n k j : Nat} {τ : Sl} {fm : EF} {b : Nat} (w : Wf S) (h0 : τ[j]? = some (some (.loc n))) (hm : fm τ S = some (.ok (.int (b : Nat)) S)) (h : P n k S) (hk : k < 2 ^ 40) (hm0 : 0 < b) (hm1 : b < 2 ^ 200) :
    ∃ (v : Nat) (S' : Sto), eCl m 2 (aCons (eVar j) (aCons fm aNil)) τ S = some (.ok (.int (v : Nat)) S') ∧ v < b ∧ P n (k + 1) S' ∧ Sm n S S' ∧ Wf S' := by
  obtain ⟨v, S', e, v1, sp, sm⟩ := dm w h hk hm0 hm1
  exact ⟨v, S', eCl_ok (a2_ok (by simp only [eVar, h0]) hm) rfl e, v1, sp, sm, sr.wf sm w sp⟩
/-- new objects dropped -/
theorem Src.cut {n k : Nat} {S S' : Sto} (w : Wf S) (fr : Fr n S S') (sp : P n k S') (hn : n < S.length) : Sm n S (S'.take S.length) ∧ P n k (S'.take S.length) ∧ Wf (S'.take S.length) := by
  have sm : Sm n S (S'.take S.length) := ⟨by rw [List.length_take]; have := fr.le; omega, fun i hi => by
    by_cases q : i < S.length
    · rw [List.getElem?_take_of_lt q]; exact fr.at_ i hi q
    · rw [List.getElem?_eq_none (by rw [List.length_take]; omega), List.getElem?_eq_none (by omega)]⟩
  have sp' : P n k (S'.take S.length) := sr.fr sp (by rw [List.getElem?_take_of_lt hn])
  exact ⟨sm, sp', sr.wf sm w sp'⟩
theorem Src.fz {f : EF} {τ : Sl} {S S' : Sto} {n k : Nat} {d : D} (w : Wf S) (e : f τ S = some (.ok d S')) (fr : Fr n S S') (sp : P n k S') (hn : n < S.length) (h : bd S.length d = true) :
    ∃ S1, Sb.fz f τ S = some (.ok d S1) ∧ Sm n S S1 ∧ P n k S1 ∧ Wf S1 := by
  obtain ⟨sm, sp', w'⟩ := sr.cut w fr sp hn
  refine ⟨_, ?_, sm, sp', w'⟩
  have w2 : wfk S.length (S'.take S.length) = true := by
    have := w'
    unfold Wf at this
    rwa [sm.len] at this
  rw [fz_eq, e]
  simp only [fzR, if_pos w2, rb_bd h, Option.map_some]
theorem Src.fz_lst {f : EF} {τ : Sl} {S S' : Sto} {n k j : Nat} {ds : List D} (w : Wf S) (e : f τ S = some (.ok (.loc j) S')) (e2 : S'[j]? = some (.lst ds)) (hj : S.length ≤ j) (fr : Fr n S S') (sp : P n k S') (hn : n < S.length) (h : bds S.length ds = true) :
    ∃ S1, Sb.fz f τ S = some (.ok (.fl ds) S1) ∧ Sm n S S1 ∧ P n k S1 ∧ Wf S1 := by
  obtain ⟨sm, sp', w'⟩ := sr.cut w fr sp hn
  have w2 : wfk S.length (S'.take S.length) = true := by
    have := w'
    unfold Wf at this
    rwa [sm.len] at this
  have nb : ¬ (bd S.length (.loc j) = true) := by simp only [bd, decide_eq_true_eq]; omega
  have hm : ds.mapM (rb S' S.length 7) = some ds := by
    have := mapM_some (f := rb S' S.length 7) (g := fun d => d) (l := ds) fun d hd => rb_bd (bds_all.mp h d hd)
    rwa [List.map_id'] at this
  refine ⟨_, ?_, sm, sp', w'⟩
  rw [fz_eq, e]
  simp only [fzR, if_pos w2, rb_loc nb e2, hm, Option.map_some]
end
/-! ## a comprehension whose turns may change the store -/
theorem lc_gen {fi : IF} {g : TF} {t : BF} {fe : EF} {vs : List Nat} {τ : Sl} {S S1 : Sto} {wk : Wk} {ds : List D} (J : Nat → List D → Sto → Prop) (hi : fi τ S = some (.ok wk S1)) (hl : S1.length = S.length) (w : Wf S1) (hw : Wks wk ds fun _ => True)
    (hds : ds.length ≤ 100000) (hJ : ∀ i acc S' S'', (∀ j, j < S1.length → S''[j]? = S'[j]?) → J i acc S' → J i acc S'') (h0 : J 0 [] S1)
    (hwt : ∀ acc S', J ds.length acc S' → S'.length = S1.length + 1 → wfk S1.length (S'.take S1.length) = true)
    (h : ∀ i acc S', (hi : i < ds.length) → J i acc S' → S'.length = S1.length + 1 → S'[S1.length]? = some (.lst acc) → Wf S' → ∃ τ1, g ds[i] S' (wipeD τ vs) = some τ1 ∧
      ((∃ S'', t τ1 S' = some (.ok false S'') ∧ S''.length = S1.length + 1 ∧ S''[S1.length]? = some (.lst acc) ∧ Wf S'' ∧ J (i + 1) acc S'') ∨
       ∃ S2 y S'', t τ1 S' = some (.ok true S2) ∧ fe τ1 S2 = some (.ok y S'') ∧ S''.length = S1.length + 1 ∧ S''[S1.length]? = some (.lst acc) ∧ Wf S'' ∧ bd 0 y = true ∧ J (i + 1) (acc ++ [y]) S'')) :
    ∃ S2 acc, fz (eLc fi g t fe vs) τ S = some (.ok (.fl acc) S2) ∧ J ds.length acc S2 ∧ S2.length = S1.length ∧ Wf S2 ∧ acc.length ≤ ds.length := by
  obtain ⟨S', L, acc, hJ2, hlen, hat, hwf, hb, hle⟩ := goC_inv (nxt := wk.nxt) (g := g) (t := t) (fe := fe) (l := S1.length) (τ0 := wipeD τ vs) (n := ds.length)
    (fun i S' => ∃ acc, J i acc S' ∧ S'.length = S1.length + 1 ∧ S'[S1.length]? = some (.lst acc) ∧ Wf S' ∧ bds 0 acc = true ∧ acc.length ≤ i) (fun i => ds.getD i default)
    (fun i S' hi' ⟨acc, hj, hlen, hat, hwf, hb, hle⟩ => by
      have e3 := List.getElem?_eq_getElem hi'
      have e4 : ds.getD i default = ds[i] := by rw [List.getD_eq_getElem?_getD, e3]; rfl
      obtain ⟨τ1, h1, h2⟩ := h i acc S' hi' hj hlen hat hwf
      refine ⟨by rw [hw.nxt i _ trivial, e4, e3], τ1, by rw [e4]; exact h1, ?_⟩
      rcases h2 with ⟨S'', h3, l2, a2, w2, hJ'⟩ | ⟨S2, y, S'', h3, h4, l2, a2, w2, hy, hJ'⟩
      · exact .inl ⟨S'', h3, acc, hJ', l2, a2, w2, hb, by omega⟩
      · have hz := sizeLine_eq
        have hb' : bds 0 (acc ++ [y]) = true := bds_all.mpr fun d hd => by
          rcases List.mem_append.mp hd with q | q
          · exact bds_all.mp hb d q
          · simp at q; subst q; exact hy
        refine .inr ⟨S2, y, S'', acc, h3, h4, a2, by omega, acc ++ [y], hJ _ _ _ _ (fun j hj => List.getElem?_set_ne (by omega)) hJ', by rw [List.length_set]; exact l2, by rw [List.getElem?_set_self (by omega)], wf_set w2 (bds_mono (Nat.zero_le _) _ hb'), hb', by simp; omega⟩)
    (fun S' _ => by rw [hw.nxt _ _ trivial, List.getElem?_eq_none (Nat.le_refl _)]) (wk.bound + 1) 0 (S1 ++ [.lst []]) (Nat.zero_le _) (by have := hw.bound; omega)
    ⟨[], hJ _ _ _ _ (fun j hj => List.getElem?_append_left hj) h0, by simp, get_last _ _, wf_app w rfl, rfl, Nat.le_refl _⟩
  have e : eLc fi g t fe vs τ S = some (.ok (.loc S1.length) S') := by simp only [eLc, hi, L, Option.bind_some]
  have w1 := hwt acc S' hJ2 hlen
  have hlt : (S'.take S1.length).length = S1.length := by rw [List.length_take]; omega
  refine ⟨S'.take S1.length, acc, ?_, hJ _ _ _ _ (fun j hj => List.getElem?_take_of_lt hj) hJ2, hlt, by unfold Wf; rw [hlt]; exact w1, hle⟩
  have nb : ¬ (bd S.length (.loc S1.length) = true) := by simp only [bd, decide_eq_true_eq]; omega
  have hm : acc.mapM (rb S' S.length 7) = some acc := by
    have := mapM_some (f := rb S' S.length 7) (g := fun d => d) (l := acc) fun d hd => rb_bd (bds_all.mp (bds_mono (Nat.zero_le _) _ hb) d hd)
    rwa [List.map_id'] at this
  rw [hl] at w1
  rw [fz_eq, e, hl]
  rw [hl] at hat nb
  simp only [fzR, if_pos w1, rb_loc nb hat, hm, Option.map_some]
/-- a store like another one but at some places, which refer to none -/
theorem wfk_but {S1 S' : Sto} {k : Nat} (A : Nat → Prop) (hk : k ≤ S1.length) (w : wfk k (S1.take k) = true) (hl : k ≤ S'.length) (h1 : ∀ i, i < k → ¬ A i → S'[i]? = S1[i]?) (h2 : ∀ i, i < k → A i → ∃ o, S'[i]? = some o ∧ bdO 0 o = true) : wfk k (S'.take k) = true := by
  unfold wfk at w ⊢
  rw [List.all_eq_true] at w ⊢
  intro o ho
  obtain ⟨i, hi, rfl⟩ := List.getElem_of_mem ho
  have hi1 : i < k := by rw [List.length_take] at hi; omega
  rw [List.getElem_take]
  have e1 : S'[i]? = some S'[i] := List.getElem?_eq_getElem (by omega)
  by_cases q : A i
  · obtain ⟨o, e, hb⟩ := h2 i hi1 q
    rw [e1] at e
    rw [Option.some.inj e]
    exact bdO_mono (Nat.zero_le _) o hb
  · have e := h1 i hi1 q
    rw [e1, List.getElem?_eq_getElem (by omega)] at e
    rw [Option.some.inj e]
    refine w _ ?_
    have : (S1.take k)[i]? = some S1[i] := by rw [List.getElem?_take_of_lt hi1]; exact List.getElem?_eq_getElem (by omega)
    exact List.mem_of_getElem? this
theorem Sm.wfk {n k : Nat} {P : Nat → Nat → Sto → Prop} (sr : Src P) {S S' : Sto} (w : Wf S) (hl : S.length ≤ S'.length) (h : ∀ i, i ≠ n → i < S.length → S'[i]? = S[i]?) (sp : P n k S') : Sb.wfk S.length (S'.take S.length) = true := by
  refine wfk_but (S1 := S) (fun i => i = n) (Nat.le_refl _) (by rw [List.take_length]; exact w) hl (fun i hi hn => h i hn hi) fun i hi hn => ?_
  subst hn
  exact sr.ex sp
end Sb
end
section
set_option Elab.async false
set_option linter.all false
set_option maxRecDepth 100000
set_option maxHeartbeats 4000000
namespace Sb
open PySem PySem.Spec PyProof.Rows L2
variable {K : PySem.W.Frag} {S : Sto}
/-! ## the word of a kept exception -/
theorem fl_add {ds es : List D} (h : ds.length + es.length ≤ 1000) : gAdd (.fl ds) (.fl es) S = some (.fl (ds ++ es), S) := by
  have : ds.length + es.length ≤ sizeLine := by rw [sizeLine_eq]; omega
  simp [gAdd, flD, seqD, this]
end Sb
end
section
set_option Elab.async false
set_option linter.all false
set_option maxRecDepth 100000
set_option maxHeartbeats 4000000
namespace Sb
open PySem PySem.Spec PyProof.Rows L2
variable {K : PySem.W.Frag} {S : Sto}
/-! ## what is no deck -/
theorem or_t {t u : BF} {τ : Sl} {S S1 : Sto} (h1 : t τ S = some (.ok true S1)) : tOr' t u τ S = some (.ok true S1) := by simp [tOr', M.bnd, h1]
/-! ### decks that are none -/
def Sq (d : D) (ds : List D) : Prop := d = .tup ds ∨ d = .fl ds
theorem Sq.len {d : D} {ds : List D} (h : Sq d ds) (S : Sto) : gLenX [d] S = some (.int ds.length, S) := by rcases h with rfl | rfl <;> rfl
theorem Sq.wk {d : D} {ds : List D} (h : Sq d ds) (S : Sto) : wkD S d = some ⟨ds.length, fun i _ => some ds[i]?⟩ := by rcases h with rfl | rfl <;> rfl
end Sb
end
section
set_option Elab.async false
set_option linter.all false
set_option maxRecDepth 100000
set_option maxHeartbeats 4000000
namespace Sb
open PySem PySem.Spec PyProof.Rows L2
variable {S : Sto}
/-! ## what repr shows, put together from its parts: w bounds its weight, k its depth -/
structure Pk (p : PyData) (w k : Nat) : Prop where
  sh : p.showable = true
  lf : PyData.leavesShort 50 p = true
  wt : p.weight ≤ w
  dp : p.depth ≤ k
def Rp (d : D) (w k : Nat) : Prop := ∃ p, (∀ (m : Nat) (S : Sto), k ≤ m → toPyR (m + 1) S d = some p) ∧ Pk p w k
theorem Rp.mono {d : D} {w w' k k' : Nat} (h : Rp d w k) (hw : w ≤ w') (hk : k ≤ k') : Rp d w' k' := by
  obtain ⟨p, h1, h2⟩ := h
  exact ⟨p, fun m S hm => h1 m S (by omega), h2.sh, h2.lf, Nat.le_trans h2.wt hw, Nat.le_trans h2.dp hk⟩
theorem Rp.non {w k : Nat} : Rp .non w k := ⟨.none, fun _ _ _ => rfl, rfl, rfl, Nat.zero_le _, Nat.zero_le _⟩
theorem Rp.bl {b : Bool} {w k : Nat} : Rp (.bl b) w k := ⟨.bool b, fun _ _ _ => rfl, rfl, rfl, Nat.zero_le _, Nat.zero_le _⟩
theorem Rp.int {i : Int} {k : Nat} (h : i.natAbs < 10 ^ 40) : Rp (.int i) 200 k := by
  have hlog : i.natAbs.log2 < 140 := log2_lt (by decide) (by
    have : (2 : Nat) ^ 140 = 1393796574908163946345982392040522594123776 := by decide
    have e40 : (10 : Nat) ^ 40 = 10000000000000000000000000000000000000000 := by decide
    rw [this]; omega)
  refine ⟨.int i, fun _ _ _ => rfl, decide_eq_true (by omega), ?_, ?_, Nat.zero_le _⟩
  · refine decide_eq_true ?_
    have e := int_text_length_le10 (a := i) (k := 40) (by decide) h
    show (Str.ofString (toString i)).length ≤ 50
    rw [PySem.ofString_length]; omega
  · simp only [PyData.weight]; split <;> omega
theorem Rp.str {x : Str} {k : Nat} (h : ∀ c ∈ x.cps.toList, c < 16 ^ 8) (hs : x.cps.size ≤ 200) : Rp (.str x) 200 k := by
  refine ⟨.str x, fun _ _ _ => rfl, rfl, ?_, hs, Nat.zero_le _⟩
  simp only [PyData.leavesShort, List.all_eq_true, decide_eq_true_eq]
  exact h
theorem Rp.name {x : Str} {k : Nat} (h : Nm x) : Rp (.str x) 200 k := Rp.str (fun c hc => by
  have := (h.let_ c hc).2
  have e : (16 : Nat) ^ 8 = 4294967296 := by decide
  omega) (by have := h.hi; omega)
theorem pk_all {w k : Nat} : ∀ {ps : List PyData}, (∀ p ∈ ps, Pk p w k) → PyData.showableAll ps = true ∧ PyData.leavesShortAll 50 ps = true ∧ PyData.weightAll ps ≤ (w + 1) * ps.length ∧ PyData.depthAll ps ≤ k
  | [], _ => ⟨rfl, rfl, Nat.zero_le _, Nat.zero_le _⟩
  | p :: ps, h => by
    obtain ⟨h1, h2, h3, h4⟩ := h p List.mem_cons_self
    obtain ⟨g1, g2, g3, g4⟩ := pk_all (ps := ps) fun q hq => h q (List.mem_cons_of_mem _ hq)
    refine ⟨by simp only [PyData.showableAll, h1, g1, Bool.and_self], by simp only [PyData.leavesShortAll, h2, g2, Bool.and_self], ?_, ?_⟩
    · simp only [PyData.weightAll, List.length_cons]
      rw [Nat.mul_succ]; omega
    · simp only [PyData.depthAll]; exact Nat.max_le.mpr ⟨h4, g4⟩
theorem sh_all {w k : Nat} : ∀ {ds : List D}, (∀ d ∈ ds, Rp d w k) → ∃ ps : List PyData, (∀ (m : Nat) (S : Sto), k ≤ m → ds.mapM (toPyR (m + 1) S) = some ps) ∧ (∀ p ∈ ps, Pk p w k) ∧ ps.length = ds.length
  | [], _ => ⟨[], fun _ _ _ => rfl, by simp, rfl⟩
  | d :: ds, h => by
    obtain ⟨p, h1, h2⟩ := h d List.mem_cons_self
    obtain ⟨ps, g1, g2, g3⟩ := sh_all (ds := ds) fun q hq => h q (List.mem_cons_of_mem _ hq)
    refine ⟨p :: ps, fun m S hm => ?_, fun q hq => (List.mem_cons.mp hq).elim (fun z => z ▸ h2) (g2 q), by simp [g3]⟩
    rw [List.mapM_cons, h1 m S hm, g1 m S hm]; rfl
theorem Rp.seq {w k n : Nat} {ds : List D} (h : ∀ d ∈ ds, Rp d w k) (hn : ds.length ≤ n) : Rp (.tup ds) ((w + 1) * n) (k + 1) ∧ Rp (.fl ds) ((w + 1) * n) (k + 1) := by
  obtain ⟨ps, g1, g2, g3⟩ := sh_all h
  obtain ⟨a1, a2, a3, a4⟩ := pk_all g2
  have a5 : (w + 1) * ps.length ≤ (w + 1) * n := Nat.mul_le_mul_left _ (by omega)
  constructor
  · refine ⟨.tuple ps, fun m S hm => ?_, by simp only [PyData.showable, a1], by simp only [PyData.leavesShort, a2], by simp only [PyData.weight]; omega, by simp only [PyData.depth]; omega⟩
    obtain ⟨m, rfl⟩ : ∃ j, m = j + 1 := ⟨m - 1, by omega⟩
    show (ds.mapM (toPyR (m + 1) S)).map PyData.tuple = _
    rw [g1 m S (by omega)]; rfl
  · refine ⟨.list ps, fun m S hm => ?_, by simp only [PyData.showable, a1], by simp only [PyData.leavesShort, a2], by simp only [PyData.weight]; omega, by simp only [PyData.depth]; omega⟩
    obtain ⟨m, rfl⟩ : ∃ j, m = j + 1 := ⟨m - 1, by omega⟩
    show (ds.mapM (toPyR (m + 1) S)).map PyData.list = _
    rw [g1 m S (by omega)]; rfl
theorem Rp.sq {w k n : Nat} {d : D} {ds : List D} (q : Sq d ds) (h : ∀ d ∈ ds, Rp d w k) (hn : ds.length ≤ n) : Rp d ((w + 1) * n) (k + 1) := by
  rcases q with rfl | rfl
  · exact (Rp.seq h hn).1
  · exact (Rp.seq h hn).2
theorem Rp.card {c : Card} (hn : Nm c.1) (h0 : 0 ≤ c.2) (hb : c.2 < 10 ^ 40) : Rp (dC c) 402 1 := (Rp.seq (n := 2) (w := 200) (k := 0) (fun d hd => by
  simp at hd
  rcases hd with rfl | rfl
  · exact .name hn
  · refine .int ?_
    have : (10 : Int) ^ 40 = 10000000000000000000000000000000000000000 := by decide
    have e40 : (10 : Nat) ^ 40 = 10000000000000000000000000000000000000000 := by decide
    omega) (by simp)).1
theorem Rp.deck {l : List Card} (ok : DeckOk l) (hb : Big l) : Rp (dK l) 16120 2 := (Rp.seq (w := 402) (k := 1) (n := 40) (fun d hd => by
  obtain ⟨c, hc, rfl⟩ := List.mem_map.mp hd
  exact .card (ok.nm c hc) (ok.dep c hc) (hb c hc)) (by have := ok.hi; simpa using this)).1
theorem Rp.fd {ks : List Key} {ds : List D} {n : Nat} (hk : ∀ k ∈ ks, ∃ x, k = .inr x ∧ Nm x) (h : ∀ d ∈ ds, Rp d 200 0) (hl : ks.length = ds.length) (hn : ds.length ≤ n) : Rp (.fd ks ds) (402 * n) 1 := by
  obtain ⟨ps, g1, g2, g3⟩ := sh_all h
  have key : ∀ (ks : List Key) (ps : List PyData), (∀ k ∈ ks, ∃ x, k = .inr x ∧ Nm x) → (∀ p ∈ ps, Pk p 200 0) → ks.length = ps.length → PyData.showableKv ((ks.map kP).zip ps) = true ∧ PyData.leavesShortKv 50 ((ks.map kP).zip ps) = true ∧ PyData.weightKv ((ks.map kP).zip ps) ≤ 402 * ps.length ∧ PyData.depthKv ((ks.map kP).zip ps) ≤ 0 := by
    intro ks
    induction ks with
    | nil => intro ps _ _ hl; cases ps with
      | nil => exact ⟨rfl, rfl, Nat.zero_le _, Nat.zero_le _⟩
      | cons _ _ => simp at hl
    | cons k ks ih =>
      intro ps h1 h2 hl
      cases ps with
      | nil => simp at hl
      | cons p ps =>
        obtain ⟨x, rfl, hx⟩ := h1 k List.mem_cons_self
        obtain ⟨px, e1, e2⟩ := Rp.name (k := 0) hx
        have e3 := e1 0 [] (Nat.le_refl _)
        cases e3
        have e4 := h2 p List.mem_cons_self
        obtain ⟨i1, i2, i3, i4⟩ := ih ps (fun z hz => h1 z (List.mem_cons_of_mem _ hz)) (fun z hz => h2 z (List.mem_cons_of_mem _ hz)) (by simpa using hl)
        refine ⟨?_, ?_, ?_, ?_⟩
        · show PyData.showableKv ((PyData.str x, p) :: (ks.map kP).zip ps) = true
          simp only [PyData.showableKv, e2.sh, e4.sh, i1, Bool.and_self]
        · show PyData.leavesShortKv 50 ((PyData.str x, p) :: (ks.map kP).zip ps) = true
          simp only [PyData.leavesShortKv, e2.lf, e4.lf, i2, Bool.and_self]
        · show PyData.weightKv ((PyData.str x, p) :: (ks.map kP).zip ps) ≤ _
          have := e2.wt
          have := e4.wt
          simp only [PyData.weightKv, List.length_cons]
          omega
        · show PyData.depthKv ((PyData.str x, p) :: (ks.map kP).zip ps) ≤ _
          have := e2.dp
          have := e4.dp
          simp only [PyData.depthKv]
          omega
  obtain ⟨a1, a2, a3, a4⟩ := key ks ps hk g2 (by omega)
  refine ⟨.dict ((ks.map kP).zip ps), fun m S hm => ?_, by simp only [PyData.showable, a1], by simp only [PyData.leavesShort, a2], by simp only [PyData.weight]; omega, by simp only [PyData.depth]; omega⟩
  obtain ⟨m, rfl⟩ : ∃ j, m = j + 1 := ⟨m - 1, by omega⟩
  show (if ks.length = ds.length then _ else none) = _
  rw [if_pos hl, g1 m S (by omega)]; rfl
/-- repr of what lies at an address, of none, of a truth, of a text -/
theorem Rp.repr {d : D} {w k : Nat} (h : Rp d w k) (hk : k ≤ 7) (hw : w ≤ 300000) (hd : (∃ ds, d = .tup ds) ∨ (∃ ds, d = .fl ds) ∨ (∃ ks ds, d = .fd ks ds) ∨ d = .non ∨ (∃ b, d = .bl b) ∨ (∃ x, d = .str x) ∨ ∃ i : Int, d = .int i ∧ i.natAbs.log2 < 1920) : ∃ t : Str, ∀ S : Sto, gReprX [d] S = some (.str t, S) := by
  obtain ⟨p, h1, h2⟩ := h
  have hz := sizeLine_eq
  have hl := PyData.shown_le 50 (by decide) p h2.lf
  have hw2 := h2.wt
  have hdp := h2.dp
  have c : p.showable = true ∧ p.depth ≤ 8 ∧ p.shown.length ≤ sizeLine := ⟨h2.sh, by omega, by omega⟩
  refine ⟨p.shown, fun S => ?_⟩
  have e := h1 7 S hk
  rcases hd with ⟨ds, rfl⟩ | ⟨ds, rfl⟩ | ⟨ks, ds, rfl⟩ | rfl | ⟨b, rfl⟩ | ⟨x, rfl⟩ | ⟨i, rfl, hi⟩
  all_goals simp only [gReprX, e, Option.bind_some, if_pos c]
  rw [if_pos hi]
end Sb
end
section
set_option Elab.async false
set_option linter.all false
set_option maxRecDepth 100000
set_option maxHeartbeats 4000000
namespace Sb
open PySem PySem.Spec PyProof.Rows L2
variable {K : PySem.W.Frag} {S : Sto}
/-! ## a deck handed in otherwise, lists kept -/
/-- an item: the card, or a list of it at b or beyond, not at p -/
def YI (b p : Nat) (S : Sto) (e : D) (c : Card) : Prop := e = dC c ∨ ∃ q, e = .loc q ∧ b ≤ q ∧ q ≠ p ∧ S[q]? = some (oC c)
structure YD (b p : Nat) (l : List Card) (d : D) (es : List D) (S : Sto) : Prop where
  is : d = .tup es ∨ d = .loc p ∧ b ≤ p ∧ S[p]? = some (.lst es)
  len : es.length = l.length
  it : ∀ (i : Nat) (e : D) (c : Card), es[i]? = some e → l[i]? = some c → YI b p S e c
theorem YD.deck {b p : Nat} {l : List Card} {d : D} {es : List D} (h : YD b p l d es S) : isDeck S d l := by
  refine ⟨es, ?_, h.len, fun i e c he hc => ?_⟩
  · rcases h.is with q | ⟨q, _, z⟩
    · exact .inl q
    · exact .inr (.inr ⟨p, q, z⟩)
  · rcases h.it i e c he hc with q | ⟨r, q, _, _, z⟩
    · exact .inl q
    · exact .inr (.inr ⟨r, q, z⟩)
theorem mapM_zip {α β γ : Type} {f : α → Option β} {g : α → γ → α} : ∀ {l : List α} {m : List γ}, l.length = m.length → (∀ (i : Nat) (x : α) (y : γ), l[i]? = some x → m[i]? = some y → f x = f (g x y)) → l.mapM f = (List.zipWith g l m).mapM f
  | [], [], _, _ => rfl
  | x :: l, y :: m, h, k => by
    rw [List.zipWith_cons_cons, List.mapM_cons, List.mapM_cons, k 0 x y rfl rfl, mapM_zip (by simpa using h) fun i a b ha hb => k (i + 1) a b (by simpa using ha) (by simpa using hb)]
def frz (e : D) (c : Card) : D := match e with | .loc _ => fC c | e => e
theorem YD.repr {b p : Nat} {l : List Card} {d : D} {es : List D} (h : YD b p l d es S) (ok : DeckOk l) (hb : Big l) : ∃ t : Str, ∀ S : Sto, YD b p l d es S → gRepr [d] S = some (.str t, S) := by
  -- the same as of told lists
  let d2 : D := match d with | .tup _ => .tup (List.zipWith frz es l) | _ => .fl (List.zipWith frz es l)
  have hd : HD l d2 := by
    refine ⟨List.zipWith frz es l, ?_, by simp [h.len], fun i hi => ?_⟩
    · rcases h.is with rfl | ⟨rfl, _, _⟩
      · exact .inl rfl
      · exact .inr rfl
    · have hi' : i < es.length := by rw [h.len]; exact hi
      have he := List.getElem?_eq_getElem hi'
      have hc := List.getElem?_eq_getElem hi
      have e2 : (List.zipWith frz es l)[i]? = some (frz es[i] l[i]) := by rw [List.getElem?_zipWith, he, hc]
      rw [e2]
      rcases h.it i _ _ he hc with q | ⟨r, q, _, _, _⟩
      · exact .inl (by rw [q]; rfl)
      · exact .inr (by rw [q]; rfl)
  obtain ⟨t, et⟩ := hd.repr ok hb
  refine ⟨t, fun S h => ?_⟩
  have hm : es.mapM (toPy 7 S) = (List.zipWith frz es l).mapM (toPy 7 S) := mapM_zip h.len fun i e c he hc => by
    rcases h.it i e c he hc with rfl | ⟨q, rfl, _, _, z⟩
    · rfl
    · simp only [frz, toPy, z]
  have e2 := et S
  rcases h.is with rfl | ⟨rfl, _, z⟩
  · have q : toPy 8 S (.tup es) = toPy 8 S (.tup (List.zipWith frz es l)) := by
      show (es.mapM (toPy 7 S)).map PyData.tuple = ((List.zipWith frz es l).mapM (toPy 7 S)).map PyData.tuple
      rw [hm]
    have e3 : gRepr [.tup (List.zipWith frz es l)] S = some (.str t, S) := e2
    simp only [gRepr] at e3 ⊢
    rw [q]; exact e3
  · have q : toPy 8 S (.loc p) = toPy 8 S (.fl (List.zipWith frz es l)) := by
      show (match S[p]? with | some (.lst ds) => (ds.mapM (toPy 7 S)).map .list | _ => none) = ((List.zipWith frz es l).mapM (toPy 7 S)).map PyData.list
      rw [z]
      simp only
      rw [hm]
    have e3 : gRepr [.fl (List.zipWith frz es l)] S = some (.str t, S) := e2
    simp only [gRepr] at e3 ⊢
    rw [q]; exact e3
theorem YD.sm {b p n : Nat} {l : List Card} {d : D} {es : List D} {S' : Sto} (h : YD b p l d es S) (sm : Sm n S S') (hn : n < b) : YD b p l d es S' :=
  ⟨h.is.imp id fun ⟨a, b, c⟩ => ⟨a, b, sm.get c (by omega)⟩, h.len, fun i e c he hc => (h.it i e c he hc).imp id fun ⟨q, a, b, c, d⟩ => ⟨q, a, b, c, sm.get d (by omega)⟩⟩
theorem YI.app {b p : Nat} {e : D} {c : Card} {X : Sto} (h : YI b p S e c) : YI b p (S ++ X) e c := h.imp id fun ⟨q, a, b, c, d⟩ => ⟨q, a, b, c, pre_get d⟩
end Sb
end
section
set_option Elab.async false
set_option linter.all false
set_option maxRecDepth 100000
set_option maxHeartbeats 4000000
namespace Sb
open PySem PySem.Spec PyProof.Rows L2
variable {K : PySem.W.Frag} {S : Sto}
theorem Held.app {p : Nat} {l : List Card} (h : Held p l S) (X : Sto) : Held p l (S ++ X) := by
  obtain ⟨qs, q⟩ := h
  exact ⟨qs, pre_get q.at_, q.len, q.nd, q.gt, fun i a c h1 h2 => pre_get (q.obj i a c h1 h2)⟩
end Sb
end
section
set_option Elab.async false
set_option linter.all false
set_option maxRecDepth 100000
set_option maxHeartbeats 4000000
namespace Sb
open PySem PySem.Spec PyProof.Rows L2
variable {K : PySem.W.Frag} {S : Sto}
/-! ## the bag -/
theorem bds_ints0 {k : Nat} (ns : List Int) : bds k (ns.map D.int) = true := bds_map fun _ _ => rfl
theorem mulX {i j : Int} (hi : i.natAbs < 2 ^ 300) (hj : j.natAbs < 2 ^ 300) : gMulX (.int i) (.int j) S = some (.int (i * j), S) := by
  have a : i.natAbs.log2 < 300 := log2_lt (by decide) hi
  have b : j.natAbs.log2 < 300 := log2_lt (by decide) hj
  have : i.natAbs.log2 + j.natAbs.log2 < 1000000 := by omega
  simp only [gMulX, if_pos this]
theorem gMod_i {i j : Int} (h : 0 < j) : gMod (.int i) (.int j) S = some (.int (i % j), S) := by simp only [gMod, gI, decide_eq_true h, if_true]
theorem gDiv_i {i j : Int} (h : 0 < j) (h2 : j < 2 ^ 300) : gDiv (.int i) (.int j) S = some (.int (i / j), S) := by
  have : 0 < j ∧ j.natAbs.log2 < 9000 := ⟨h, by
    have : j.natAbs.log2 < 300 := log2_lt (by decide) (by omega)
    omega⟩
  simp only [gDiv, gI, decide_eq_true this, if_true]
theorem p300 {i : Int} (h0 : 0 ≤ i) (h : i < 2 ^ 200) : i.natAbs < 2 ^ 300 := by
  have : (2 : Nat) ^ 200 < 2 ^ 300 := by decide
  omega
theorem bif_t {t : BF} {f g : SF} {τ : Sl} {S S1 : Sto} {Q : Fl → Sto → Prop} (h : t τ S = some (.ok true S1)) (k : Ws (f τ S1) Q) : Ws (sIf t f g τ S) Q := by
  rw [show sIf t f g τ S = f τ S1 from sIf_t h]; exact k
theorem bif_f {t : BF} {f g : SF} {τ : Sl} {S S1 : Sto} {Q : Fl → Sto → Prop} (h : t τ S = some (.ok false S1)) (k : Ws (g τ S1) Q) : Ws (sIf t f g τ S) Q := by
  rw [show sIf t f g τ S = g τ S1 from sIf_f h]; exact k
end Sb
end
section
set_option Elab.async false
set_option linter.all false
set_option maxRecDepth 100000
set_option maxHeartbeats 4000000
namespace Sb
open PySem PySem.Spec PyProof.Rows L2
variable {K : PySem.W.Frag} {S : Sto}
end Sb
end
section
set_option Elab.async false
set_option linter.all false
set_option maxRecDepth 100000
set_option maxHeartbeats 4000000
namespace Sb
open PySem PySem.Spec PyProof.Rows L2
variable {K : PySem.W.Frag} {S : Sto}
theorem seqIx_nat {v l : Nat} (h : v < l) : seqIndex? ((v : Nat) : Int) l = some v := by
  unfold seqIndex?
  simp only
  have c1 : ¬ ((v : Int) < 0) := by omega
  rw [if_neg c1]
  have c2 : 0 ≤ (v : Int) ∧ (v : Int) < l := by omega
  first | rw [if_pos c2]; simp | simp [c2, h]
theorem perm_erase {α : Type} {l : List α} {v : Nat} (h : v < l.length) : l.Perm (l[v] :: l.eraseIdx v) := by
  rw [List.eraseIdx_eq_take_drop_succ]
  conv => lhs; rw [← List.take_append_drop v l, List.drop_eq_getElem_cons h]
  exact List.perm_middle
end Sb
end
section
set_option Elab.async false
set_option linter.all false
set_option maxRecDepth 100000
set_option maxHeartbeats 4000000
namespace Sb
open PySem PySem.Spec PyProof.Rows L2
variable {K : PySem.W.Frag} {S : Sto}
end Sb
end
section
set_option Elab.async false
set_option linter.all false
set_option maxRecDepth 100000
set_option maxHeartbeats 4000000
namespace Sb
open PySem PySem.Spec PyProof.Rows L2
variable {K : PySem.W.Frag} {S : Sto}
structure NmL (m : Nat) (xs : List Str) : Prop where
  nd : xs.Nodup
  lo : m ≤ xs.length
  hi : xs.length ≤ 40
  nm : ∀ x ∈ xs, Nm x
theorem NmL.of {m : Nat} {xs : List Str} {z : Nat} (h : xs.Nodup ∧ xs.length = z ∧ ∀ x ∈ xs, nmB x = true) (h1 : m ≤ z) (h2 : z ≤ 40) : NmL m xs := ⟨h.1, by omega, by omega, fun x hx => nm_of (h.2.2 x hx)⟩
end Sb
end
section
set_option Elab.async false
set_option linter.all false
set_option maxRecDepth 100000
set_option maxHeartbeats 4000000
namespace Sb
open PySem PySem.Spec PyProof.Rows L2
variable {K : PySem.W.Frag} {S : Sto}
/-- no card above some closed place is away -/
def StlAt (c : Nat) (l : List Card) : Prop := 1 ≤ c ∧ c ≤ l.length ∧ ∀ i, i < c → i ≤ ra l i ∧ ra l i < c
def Stl (l : List Card) : Prop := ∃ c, StlAt c l
theorem gSub_nat {i j : Nat} (h : j ≤ i) : gSub (.int (i : Nat)) (.int (j : Nat)) S = some (.int ((i - j : Nat) : Nat), S) := by
  rw [gSub_i]; congr 3; omega
theorem gAdd_nat {i j : Nat} : gAdd (.int (i : Nat)) (.int (j : Nat)) S = some (.int ((i + j : Nat) : Nat), S) := by
  rw [gAdd_i]; congr 3
theorem gInt_bl {b : Bool} : gInt [.bl b] S = some (.int ((if b then 1 else 0 : Nat) : Nat), S) := by cases b <;> rfl
/-- depths of a settled deck, as they are drawn -/
structure DepS (m c : Nat) (l : List Card) : Prop where
  lo : ∀ d ∈ l, 0 ≤ d.2
  hi : ∀ d ∈ l, d.2 < 10 ^ 29
  st : ∀ i, i < l.length → i < c → (i : Int) ≤ (at0 l i).2 ∧ (c < m → (at0 l i).2 < c)
theorem DepS.stl {m c : Nat} {l : List Card} (h : DepS m c l) (hl : l.length = m) (hc : 1 ≤ c) (hm : c ≤ m) : StlAt c l := by
  refine ⟨hc, by omega, fun i hi => ?_⟩
  obtain ⟨h1, h2⟩ := h.st i (by omega) hi
  unfold ra rch
  by_cases q : c < m
  · have := h2 q
    omega
  · omega
end Sb
end
section
set_option Elab.async false
set_option linter.all false
set_option maxRecDepth 100000
set_option maxHeartbeats 4000000
namespace Sb
open PySem PySem.Spec PyProof.Rows L2
/-! ## rows that turn: the levels above q as patterns, q's ring -/
def rot (p : Pat) (k : Nat) : Pat := p.drop k ++ p.take k
def trn : List Pat → Nat → List Pat
  | [], _ => []
  | p :: ps, i => rot p (i % p.length) :: trn ps (nxt p i)
def adv : List Pat → Nat → Nat
  | [], i => i
  | p :: ps, i => adv ps (nxt p i)
def lring (l : List Card) (q : Nat) : Pat := (ring l q).map fun c => some c.1
def pats (l : List Card) (q m : Nat) : List Pat := (List.range' m (q - m)).map (pat l)
def frk (l : List Card) (q m : Nat) : List Pat := pats l q m ++ [lring l q]
abbrev frw (l : List Card) (q : Nat) : List Pat := frk l q 0
theorem pats_cons {l : List Card} {q m : Nat} (h : m < q) : pats l q m = pat l m :: pats l q (m + 1) := by
  unfold pats
  rw [show q - m = (q - (m + 1)) + 1 by omega, List.range'_succ, List.map_cons]
theorem pats_end {l : List Card} {q : Nat} : pats l q q = [] := by unfold pats; rw [Nat.sub_self]; rfl
theorem frk_cons {l : List Card} {q m : Nat} (h : m < q) : frk l q m = pat l m :: frk l q (m + 1) := by
  unfold frk; rw [pats_cons h, List.cons_append]
theorem frk_end {l : List Card} {q : Nat} : frk l q q = [lring l q] := by unfold frk; rw [pats_end]; rfl
theorem rot_rot {a : Option Str} {Q : Pat} {i : Nat} : rot (a :: Q) ((i + 1) % (a :: Q).length) = rot (Q ++ [a]) (i % (Q ++ [a]).length) := by
  simp only [List.length_cons, List.length_append, List.length_nil, Nat.zero_add]
  have ht := Nat.mod_lt i (show 0 < Q.length + 1 by omega)
  rw [Nat.add_mod]
  by_cases h : i % (Q.length + 1) + 1 < Q.length + 1
  · rw [show 1 % (Q.length + 1) = 1 from Nat.mod_eq_of_lt (by omega), Nat.mod_eq_of_lt h]
    unfold rot
    rw [List.drop_succ_cons, List.take_succ_cons, List.drop_append_of_le_length (by omega), List.take_append_of_le_length (by omega), List.append_assoc]; rfl
  · have e : i % (Q.length + 1) = Q.length := by omega
    rw [e]
    have e2 : (Q.length + 1 % (Q.length + 1)) % (Q.length + 1) = 0 := by
      by_cases hq : Q.length = 0
      · rw [hq]
      · rw [show 1 % (Q.length + 1) = 1 from Nat.mod_eq_of_lt (by omega), Nat.mod_self]
    rw [e2]
    unfold rot
    simp
theorem rot_zero (p : Pat) : rot p 0 = p := by unfold rot; simp
theorem nxt_zero (p : Pat) : nxt p 0 = 0 := by unfold nxt; simp
theorem trn_zero : ∀ ps : List Pat, trn ps 0 = ps
  | [] => rfl
  | p :: ps => by unfold trn; rw [Nat.zero_mod, rot_zero, nxt_zero, trn_zero ps]
theorem adv_zero : ∀ ps : List Pat, adv ps 0 = 0
  | [] => rfl
  | p :: ps => by unfold adv; rw [nxt_zero, adv_zero ps]
/-! ## a ring whose card at its place is home -/
theorem ring_hi1' {c : Card} {r : List Card} {m : Nat} (hh : m ≤ ra (c :: r) m) (h : m ≤ ra (c :: r) 0) (hm : m < (c :: r).length) : ring (c :: r) m = c :: hand (stp (c :: r)) m := by
  have hk := ra0_le (c := c) (r := r)
  have hc : decide (m ≤ rch (c :: r).length c) = true := decide_eq_true h
  unfold ring hand
  rw [stp_len, stp_k]
  generalize ra (c :: r) 0 = k at h hk
  rw [List.take_append_of_le_length (by rw [List.length_take]; omega), List.take_take, Nat.min_eq_left h]
  cases m with
  | zero => simp [at0]
  | succ m =>
    rw [List.take_succ_cons, List.filter_cons, if_pos hc, List.cons_append]
    have hm' : m < r.length := by simp at hm; omega
    have e : at0 (c :: r) (m + 1) = r[m] := by rw [at0_eq hm]; rfl
    have hp : decide (m + 1 ≤ rch (c :: r).length r[m]) = true := by rw [← e]; exact decide_eq_true hh
    rw [List.take_succ_eq_append_getElem hm', List.filter_append, e]
    congr 2
    rw [List.filter_cons, if_pos hp]; rfl
theorem pat_hi' {l : List Card} {m : Nat} (hl : 1 ≤ l.length) (h : m ≤ ra l 0) (h1 : m ≤ ra l m) (h2 : m < ra l 0 → m + 1 ≤ ra l (m + 1)) : ∃ Q : Pat, ∃ a : Option Str, pat l m = a :: Q ∧ pat (stp l) m = Q ++ [a] ∧ a = if m < ra l 0 then none else some (at0 l 0).1 := by
  cases l with
  | nil => simp at hl
  | cons c r =>
    have hm : m < (c :: r).length := by have := ra_lt (l := c :: r) (by simp) 0; omega
    refine ⟨(hand (stp (c :: r)) m).map fun x => if m < rch (c :: r).length x then none else some x.1, _, ?_, ?_, rfl⟩
    · unfold pat
      rw [ring_hi1' h1 h hm, List.map_cons]; rfl
    · unfold pat
      rw [ring_hi2 h hm, stp_len, List.map_append, List.map_singleton]
      congr 2
      by_cases q : m < ra (c :: r) 0
      · rw [if_pos q, if_pos q, if_pos]
        exact h2 q
      · rw [if_neg q, if_neg q, if_neg]
        have : ra (c :: r) 0 = rch (c :: r).length (at0 (c :: r) 0) := rfl
        omega
/-- all above q are home -/
def HomeTo (l : List Card) (q : Nat) : Prop := q < l.length ∧ ∀ i, i < q → i ≤ ra l i
/-- the step moves none but above q, or q is home as well and none reaches deeper -/
def StepIn (l : List Card) (q : Nat) : Prop := ra l 0 < q ∨ (q ≤ ra l q ∧ ra l 0 ≤ q)
theorem lring_lo {l : List Card} {q : Nat} (h : ra l 0 < q) (hq : q < l.length) : lring (stp l) q = lring l q := by unfold lring; rw [ring_lo h hq]
theorem frk_lo {l : List Card} {q m : Nat} (h : ra l 0 < m) (hm : m ≤ q) (hq : q < l.length) : frk (stp l) q m = frk l q m := by
  unfold frk pats
  rw [lring_lo (by omega) hq]
  congr 1
  refine List.map_congr_left fun i hi => ?_
  rw [List.mem_range'_1] at hi
  exact pat_lo (by omega) (by omega)
theorem StepIn.nxt {l : List Card} {q m : Nat} (hs : StepIn l q) (hh : HomeTo l q) (h : m < ra l 0) : m + 1 ≤ ra l (m + 1) := by
  rcases hs with hs | ⟨h1, h2⟩
  · exact hh.2 _ (by omega)
  · by_cases e : m + 1 = q
    · rw [e]; exact h1
    · exact hh.2 _ (by omega)
theorem StepIn.le {l : List Card} {q : Nat} (hs : StepIn l q) : ra l 0 ≤ q := by rcases hs with h | h <;> omega
theorem trn_step {l : List Card} {q : Nat} (hs : StepIn l q) (hh : HomeTo l q) : ∀ (j m : Nat), ra l 0 - m = j → m ≤ ra l 0 → ∀ s, trn (frk l q m) (s + 1) = trn (frk (stp l) q m) s := by
  have hl : 1 ≤ l.length := by have := hh.1; omega
  have hle := hs.le
  intro j
  induction j with
  | zero =>
    intro m hj hm s
    have e : m = ra l 0 := by omega
    by_cases hq : m < q
    · obtain ⟨Q, a, h1, h2, h3⟩ := pat_hi' hl hm (hh.2 m hq) (fun h => by omega)
      rw [if_neg (by omega)] at h3
      subst h3
      rw [frk_cons (l := l) hq, frk_cons (l := stp l) hq, h1, h2]
      unfold trn
      rw [rot_rot, rot_nxt, if_neg (by simp), Nat.zero_add, frk_lo (by omega) (by omega) hh.1]
    · have e2 : m = q := by omega
      subst e2
      rcases hs with hs | ⟨h1, _⟩
      · omega
      rw [frk_end, frk_end]
      cases l with
      | nil => simp at hl
      | cons c r =>
        have r1 := ring_hi1' h1 hm hh.1
        have r2 := ring_hi2 hm hh.1
        rw [if_neg (by omega)] at r2
        have e1 : lring (c :: r) m = some c.1 :: (hand (stp (c :: r)) m).map fun c => some c.1 := by unfold lring; rw [r1]; rfl
        have e2 : lring (stp (c :: r)) m = ((hand (stp (c :: r)) m).map fun c => some c.1) ++ [some c.1] := by unfold lring; rw [r2, List.map_append]; rfl
        rw [e1, e2]
        unfold trn
        rw [rot_rot]
        rfl
  | succ j ih =>
    intro m hj hm s
    have hq : m < q := by omega
    obtain ⟨Q, a, h1, h2, h3⟩ := pat_hi' hl hm (hh.2 m hq) (fun h => hs.nxt hh h)
    rw [if_pos (by omega)] at h3
    subst h3
    rw [frk_cons (l := l) hq, frk_cons (l := stp l) hq, h1, h2]
    unfold trn
    rw [rot_rot, rot_nxt, if_pos rfl, Nat.add_comm 1, ih (m + 1) (by omega) (by omega)]
theorem trn_stp {l : List Card} {q : Nat} (hs : StepIn l q) (hh : HomeTo l q) (s : Nat) : trn (frw l q) (s + 1) = trn (frw (stp l) q) s := trn_step hs hh _ 0 rfl (Nat.zero_le _) s
theorem homeTo_stp {l : List Card} {q : Nat} (hs : StepIn l q) (hh : HomeTo l q) : HomeTo (stp l) q := by
  have hl : 1 ≤ l.length := by have := hh.1; omega
  refine ⟨by rw [stp_len]; exact hh.1, fun i hi => ?_⟩
  rw [ra_stp hl]
  split
  · rename_i h
    have := hs.nxt hh h; omega
  · split
    · omega
    · exact hh.2 i hi
theorem drop_stp {l : List Card} {q : Nat} (h : ra l 0 ≤ q) : (stp l).drop (q + 1) = l.drop (q + 1) := by
  cases l with
  | nil => rfl
  | cons c r =>
    have hk := ra0_le (c := c) (r := r)
    rw [stp_k, List.drop_succ_cons]
    generalize ra (c :: r) 0 = k at h hk
    rw [List.drop_append, List.drop_of_length_le (by rw [List.length_take]; omega), List.nil_append, List.length_take, Nat.min_eq_left hk, show q + 1 - k = (q - k) + 1 by omega, List.drop_succ_cons, List.drop_drop]
    congr 1; omega
theorem stps_front (n : Nat) (l : List Card) : stps (n + 1) l = stps n (stp l) := by
  induction n with
  | zero => rfl
  | succ n ih => show stp (stps (n + 1) l) = _; rw [ih]; rfl
/-- all of the first s steps are within -/
def Within (l : List Card) (q s : Nat) : Prop := ∀ t, t < s → StepIn (stps t l) q
theorem within_all : ∀ (s : Nat) {l : List Card} {q : Nat}, HomeTo l q → Within l q s → HomeTo (stps s l) q ∧ trn (frw l q) s = frw (stps s l) q ∧ (stps s l).drop (q + 1) = l.drop (q + 1)
  | 0, l, q, hh, hw => ⟨hh, trn_zero _, rfl⟩
  | s + 1, l, q, hh, hw => by
    have h0 : StepIn l q := hw 0 (by omega)
    have hh1 := homeTo_stp h0 hh
    obtain ⟨a, b, c⟩ := within_all s hh1 (fun t ht => by have := hw (t + 1) (by omega); rwa [stps_front] at this)
    rw [stps_front, trn_stp h0 hh]
    exact ⟨a, b, c.trans (drop_stp h0.le)⟩
/-! ## rows put together again -/
def fil : Pat → List Str → List Str
  | [], _ => []
  | some x :: r, h => x :: fil r h
  | none :: r, h => h.headD "" :: fil r h.tail
def bl : List Pat → List Str × List Str
  | [] => ([], [])
  | p :: ps => ((fil p (bl ps).1).dropLast, (bl ps).2 ++ [(fil p (bl ps).1).getLastD ""])
theorem fil_map {P : Card → Bool} : ∀ (L : List Card), fil (L.map fun c => if P c = true then none else some c.1) ((L.filter P).map (·.1)) = L.map (·.1)
  | [] => rfl
  | c :: r => by
    rw [List.map_cons, List.filter_cons]
    by_cases h : P c = true
    · rw [if_pos h, if_pos h, List.map_cons]
      show _ :: fil _ _ = _
      rw [List.tail_cons, fil_map r]; rfl
    · rw [if_neg h, if_neg h]
      show _ :: fil _ _ = _
      rw [fil_map r]; rfl
theorem fil_some : ∀ (L : List Card) (h : List Str), fil (L.map fun c => some c.1) h = L.map (·.1)
  | [], _ => rfl
  | c :: r, h => by
    rw [List.map_cons]
    show _ :: fil _ _ = _
    rw [fil_some r]; rfl
theorem ring_take {l : List Card} {m : Nat} (hm : m < l.length) (h : m ≤ ra l m) : ring l m = (l.take (m + 1)).filter fun c => decide (m ≤ rch l.length c) := by
  unfold ring hand
  rw [List.take_succ_eq_append_getElem hm, List.filter_append]
  congr 1
  rw [at0_eq hm, List.filter_cons, if_pos]
  · rfl
  · have : ra l m = rch l.length l[m] := by unfold ra; rw [at0_eq hm]
    rw [← this]; exact decide_eq_true h
theorem ring_holes {l : List Card} {m : Nat} (hm : m < l.length) (h : m ≤ ra l m) : (ring l m).filter (fun c => decide (m < rch l.length c)) = hand l (m + 1) := by
  rw [ring_take hm h, List.filter_filter]
  unfold hand
  refine List.filter_congr fun c _ => ?_
  by_cases q : m < rch l.length c
  · have : m + 1 ≤ rch l.length c := q
    simp [q, this]; omega
  · have : ¬ (m + 1 ≤ rch l.length c) := q
    simp [q, this]
theorem fil_pat {l : List Card} {m : Nat} (hm : m < l.length) (h : m ≤ ra l m) : fil (pat l m) (nms (hand l (m + 1))) = nms (ring l m) := by
  rw [← ring_holes hm h]
  have := fil_map (P := fun c => decide (m < rch l.length c)) (ring l m)
  unfold pat
  simp only [decide_eq_true_eq] at this
  exact this
theorem nms_ring_init {l : List Card} {m : Nat} : (nms (ring l m)).dropLast = nms (hand l m) := by
  unfold ring nms; rw [List.map_append]; simp
theorem nms_ring_last {l : List Card} {m : Nat} : (nms (ring l m)).getLastD "" = (at0 l m).1 := by
  unfold ring nms; rw [List.map_append]; simp
theorem bl_frk {l : List Card} {q : Nat} (hh : HomeTo l q) : ∀ (j m : Nat), q - m = j → m ≤ q → bl (frk l q m) = (nms (hand l m), (nms ((l.take (q + 1)).drop m)).reverse)
  | 0, m, hj, hm => by
    have e : m = q := by omega
    subst e
    rw [frk_end]
    unfold bl bl
    have e1 : fil (lring l m) [] = nms (ring l m) := fil_some _ _
    show ((fil (lring l m) []).dropLast, [] ++ [(fil (lring l m) []).getLastD ""]) = _
    rw [e1, nms_ring_init, nms_ring_last]
    have e2 : (l.take (m + 1)).drop m = [at0 l m] := by
      rw [List.drop_take, show m + 1 - m = 1 by omega, List.drop_eq_getElem_cons hh.1, at0_eq hh.1]; rfl
    rw [e2]; rfl
  | j + 1, m, hj, hm => by
    have hq : m < q := by omega
    rw [frk_cons hq]
    unfold bl
    rw [bl_frk hh j (m + 1) (by omega) (by omega)]
    show ((fil (pat l m) (nms (hand l (m + 1)))).dropLast, _ ++ [(fil (pat l m) (nms (hand l (m + 1)))).getLastD ""]) = _
    rw [fil_pat (by have := hh.1; omega) (hh.2 m hq), nms_ring_init, nms_ring_last]
    have hml : m < (l.take (q + 1)).length := by rw [List.length_take]; have := hh.1; omega
    have e2 : (l.take (q + 1)).drop m = at0 l m :: (l.take (q + 1)).drop (m + 1) := by
      rw [List.drop_eq_getElem_cons hml, List.getElem_take, at0_eq (by have := hh.1; omega)]
    rw [e2]
    unfold nms
    rw [List.map_cons, List.reverse_cons]
theorem bl_frw {l : List Card} {q : Nat} (hh : HomeTo l q) : bl (frw l q) = ([], (nms (l.take (q + 1))).reverse) := by
  have := bl_frk hh _ 0 rfl (Nat.zero_le _)
  rw [this, List.drop_zero]
  unfold hand; simp
/-! ## how far a stretch goes -/
def idx (p : Pat) (x : Option Str) : List Nat := (List.range p.length).filter fun i => decide (p.getD i none = x)
def whn (p : Pat) (x : Option Str) (k : Nat) : Nat := k / (idx p x).length * p.length + (idx p x).getD (k % (idx p x).length) 0
def shw : List Pat → Nat → Nat
  | [], i => i
  | p :: ps, i => whn p none (shw ps i)
end Sb
end
section
set_option Elab.async false
set_option linter.all false
set_option maxRecDepth 100000
set_option maxHeartbeats 4000000
namespace Sb
open PySem PySem.Spec PyProof.Rows L2
/-! ## how often, and when, a thing is shown by a row that goes round -/
def cnt (p : Pat) (x : Option Str) (b : Nat) : Nat := (p.take b).count x
def ofr (p : Pat) (x : Option Str) (i : Nat) : Nat := i / p.length * p.count x + (p.take (i % p.length)).count x
theorem nxt_ofr (p : Pat) (i : Nat) : nxt p i = ofr p none i := rfl
theorem filt_at {P : Nat → Bool} : ∀ (n j b : Nat), ((List.range n).filter P)[j]? = some b → b < n ∧ P b = true ∧ ((List.range b).filter P).length = j
  | 0, j, b, h => by simp at h
  | n + 1, j, b, h => by
    rw [List.range_succ, List.filter_append] at h
    by_cases q : j < ((List.range n).filter P).length
    · rw [List.getElem?_append_left q] at h
      obtain ⟨h1, h2, h3⟩ := filt_at n j b h
      exact ⟨by omega, h2, h3⟩
    · rw [List.getElem?_append_right (by omega)] at h
      by_cases hP : P n = true
      · rw [List.filter_cons, if_pos hP] at h
        have hj : j - ((List.range n).filter P).length = 0 := by
          have := (List.getElem?_eq_some_iff.mp h).1
          simp at this; omega
        rw [hj] at h
        simp at h
        subst h
        exact ⟨by omega, hP, by omega⟩
      · rw [List.filter_cons, if_neg hP] at h
        simp at h
theorem cnt_filt {p : Pat} {x : Option Str} : ∀ {b : Nat}, b ≤ p.length → cnt p x b = ((List.range b).filter fun i => decide (p.getD i none = x)).length
  | 0, _ => by simp [cnt]
  | b + 1, h => by
    have ih := cnt_filt (p := p) (x := x) (b := b) (by omega)
    unfold cnt at ih ⊢
    rw [List.take_succ_eq_append_getElem (by omega), List.count_append, ih, List.range_succ, List.filter_append, List.length_append]
    congr 1
    have e : p.getD b none = p[b] := by rw [List.getD_eq_getElem?_getD, List.getElem?_eq_getElem (by omega)]; rfl
    rw [List.filter_cons]
    by_cases q : p[b] = x
    · rw [if_pos (by rw [e]; exact decide_eq_true q), q]; simp
    · rw [if_neg (by rw [e]; simpa using q), List.count_singleton]
      simp only [List.filter_nil, List.length_nil]
      rw [if_neg]; simpa using q
theorem idx_len (p : Pat) (x : Option Str) : (idx p x).length = p.count x := by
  have := cnt_filt (p := p) (x := x) (Nat.le_refl _)
  unfold cnt at this
  rw [List.take_length] at this
  unfold idx
  exact this.symm
theorem idx_at {p : Pat} {x : Option Str} {j : Nat} (h : j < p.count x) : (idx p x).getD j 0 < p.length ∧ p.getD ((idx p x).getD j 0) none = x ∧ cnt p x ((idx p x).getD j 0) = j := by
  have hj : j < (idx p x).length := by rw [idx_len]; exact h
  have e : (idx p x)[j]? = some ((idx p x).getD j 0) := by rw [List.getD_eq_getElem?_getD, List.getElem?_eq_getElem hj]; rfl
  obtain ⟨h1, h2, h3⟩ := filt_at _ _ _ e
  exact ⟨h1, of_decide_eq_true h2, by rw [cnt_filt (by omega)]; exact h3⟩
theorem ofr_succ {p : Pat} {x : Option Str} (hp : 1 ≤ p.length) (i : Nat) : ofr p x (i + 1) = ofr p x i + (if p.getD (i % p.length) none = x then 1 else 0) := by
  unfold ofr
  have ht := Nat.mod_lt i (show 0 < p.length by omega)
  have hd := Nat.div_add_mod i p.length
  have e : p.getD (i % p.length) none = p[i % p.length] := by rw [List.getD_eq_getElem?_getD, List.getElem?_eq_getElem ht]; rfl
  have hc : (p.take (i % p.length + 1)).count x = (p.take (i % p.length)).count x + (if p.getD (i % p.length) none = x then 1 else 0) := by
    rw [List.take_succ_eq_append_getElem ht, List.count_append, List.count_singleton, e]
    congr 1
    by_cases q : p[i % p.length] = x
    · rw [if_pos q, q]; simp
    · rw [if_neg q, if_neg]; simpa using q
  by_cases h : i % p.length + 1 < p.length
  · have e1 : (i + 1) / p.length = i / p.length := by
      rw [Nat.div_eq_iff (by omega)]
      generalize i / p.length = q at *
      have : q * p.length = p.length * q := Nat.mul_comm _ _
      omega
    have e2 : (i + 1) % p.length = i % p.length + 1 := by
      have := Nat.div_add_mod (i + 1) p.length
      rw [e1] at this; omega
    rw [e1, e2, hc]; omega
  · have e0 : i % p.length + 1 = p.length := by omega
    have e1 : (i + 1) / p.length = i / p.length + 1 := by
      rw [Nat.div_eq_iff (by omega)]
      generalize i / p.length = q at *
      have : (q + 1) * p.length = p.length * q + p.length := by rw [Nat.add_mul, Nat.mul_comm, Nat.one_mul]
      omega
    have e2 : (i + 1) % p.length = 0 := by
      have := Nat.div_add_mod (i + 1) p.length
      rw [e1, Nat.mul_add] at this; omega
    rw [e0, List.take_length] at hc
    rw [e1, e2, List.take_zero, List.count_nil, Nat.add_mul, Nat.one_mul]; omega
theorem whn_at {p : Pat} {x : Option Str} (h : 1 ≤ p.count x) (k : Nat) : ofr p x (whn p x k) = k ∧ p.getD (whn p x k % p.length) none = x := by
  obtain ⟨h1, h2, h3⟩ := idx_at (p := p) (x := x) (j := k % p.count x) (Nat.mod_lt _ h)
  unfold whn ofr
  rw [idx_len]
  generalize (idx p x).getD (k % p.count x) 0 = b at *
  have e1 : (k / p.count x * p.length + b) / p.length = k / p.count x := by
    rw [Nat.mul_comm, Nat.mul_add_div (by omega), Nat.div_eq_of_lt h1, Nat.add_zero]
  have e2 : (k / p.count x * p.length + b) % p.length = b := by
    rw [Nat.mul_comm, Nat.mul_add_mod, Nat.mod_eq_of_lt h1]
  rw [e1, e2]
  refine ⟨?_, h2⟩
  have : (p.take b).count x = k % p.count x := h3
  rw [this, Nat.mul_comm]
  exact Nat.div_add_mod k _
theorem whn_len {p : Pat} {x : Option Str} (h : 1 ≤ p.count x) : 1 ≤ p.length := Nat.le_trans h List.count_le_length
theorem whn_succ {p : Pat} {x : Option Str} (h : 1 ≤ p.count x) (k : Nat) : ofr p x (whn p x k + 1) = k + 1 := by
  obtain ⟨h1, h2⟩ := whn_at h k
  rw [ofr_succ (whn_len h), h1, if_pos h2]
def Holed (ps : List Pat) : Prop := ∀ p ∈ ps, 1 ≤ p.count none
theorem adv_shw : ∀ {ps : List Pat}, Holed ps → ∀ k, adv ps (shw ps k) = k ∧ adv ps (shw ps k + 1) = k + 1
  | [], _, k => ⟨rfl, rfl⟩
  | p :: ps, h, k => by
    obtain ⟨i1, i2⟩ := adv_shw (ps := ps) (fun q hq => h q (List.mem_cons_of_mem _ hq)) k
    have hp := h p List.mem_cons_self
    unfold adv shw
    rw [nxt_ofr, nxt_ofr, (whn_at hp _).1, whn_succ hp]
    exact ⟨i1, i2⟩
/-! ## a stretch: up to the first step of q's level -/
theorem adv_lo {l : List Card} {q : Nat} (hs : ra l 0 < q) (hh : HomeTo l q) : ∀ (j m : Nat), ra l 0 - m = j → m ≤ ra l 0 → ∀ s, adv (pats l q m) (s + 1) = adv (pats (stp l) q m) s := by
  have hl : 1 ≤ l.length := by have := hh.1; omega
  intro j
  induction j with
  | zero =>
    intro m hj hm s
    have hq : m < q := by omega
    obtain ⟨Q, a, h1, h2, h3⟩ := pat_hi' hl hm (hh.2 m hq) (fun h => by omega)
    rw [if_neg (by omega)] at h3
    subst h3
    rw [pats_cons (l := l) hq, pats_cons (l := stp l) hq, h1, h2]
    unfold adv
    rw [rot_nxt, if_neg (by simp), Nat.zero_add]
    have : pats (stp l) q (m + 1) = pats l q (m + 1) := by
      unfold pats
      refine List.map_congr_left fun i hi => ?_
      rw [List.mem_range'_1] at hi
      exact pat_lo (by omega) (by have := hh.1; omega)
    rw [this]
  | succ j ih =>
    intro m hj hm s
    have hq : m < q := by omega
    obtain ⟨Q, a, h1, h2, h3⟩ := pat_hi' hl hm (hh.2 m hq) (fun h => hh.2 _ (by omega))
    rw [if_pos (by omega)] at h3
    subst h3
    rw [pats_cons (l := l) hq, pats_cons (l := stp l) hq, h1, h2]
    unfold adv
    rw [rot_nxt, if_pos rfl, Nat.add_comm 1, ih (m + 1) (by omega) (by omega)]
theorem adv_hi {l : List Card} {q : Nat} (hs : q ≤ ra l 0) (hh : HomeTo l q) : ∀ (j m : Nat), q - m = j → m ≤ q → ∀ i, 1 ≤ adv (pats l q m) (i + 1) := by
  have hl : 1 ≤ l.length := by have := hh.1; omega
  intro j
  induction j with
  | zero =>
    intro m hj hm i
    have e : m = q := by omega
    subst e
    rw [pats_end]
    unfold adv; omega
  | succ j ih =>
    intro m hj hm i
    have hq : m < q := by omega
    have hml : m < l.length := by have := hh.1; omega
    have hp : ∃ Q : Pat, pat l m = none :: Q := by
      cases l with
      | nil => simp at hl
      | cons c r =>
        refine ⟨(hand (stp (c :: r)) m).map fun x => if m < rch (c :: r).length x then none else some x.1, ?_⟩
        unfold pat
        rw [ring_hi1' (hh.2 m hq) (by omega) hml, List.map_cons, if_pos]
        have : ra (c :: r) 0 = rch (c :: r).length c := rfl
        omega
    obtain ⟨Q, hQ⟩ := hp
    rw [pats_cons hq, hQ]
    unfold adv
    rw [rot_nxt, if_pos rfl, Nat.add_comm 1]
    exact ih (m + 1) (by omega) (by omega) _
theorem below_of {q : Nat} : ∀ (s : Nat) {l : List Card}, HomeTo l q → adv (pats l q 0) s = 0 → ∀ t, t < s → ra (stps t l) 0 < q
  | 0, l, hh, ha, t, ht => absurd ht (Nat.not_lt_zero _)
  | s + 1, l, hh, ha, t, ht => by
    have h0 : ra l 0 < q := by
      rcases Nat.lt_or_ge (ra l 0) q with z | z
      · exact z
      · have := adv_hi z hh _ 0 rfl (Nat.zero_le _) s
        omega
    cases t with
    | zero => exact h0
    | succ t =>
      rw [stps_front]
      refine below_of s (homeTo_stp (.inl h0) hh) ?_ t (by omega)
      rw [← adv_lo h0 hh _ 0 rfl (Nat.zero_le _)]; exact ha
theorem adv_on {q : Nat} : ∀ (s : Nat) {l : List Card}, HomeTo l q → (∀ t, t < s → ra (stps t l) 0 < q) → ∀ d, adv (pats l q 0) (s + d) = adv (pats (stps s l) q 0) d
  | 0, l, hh, _, d => by rw [Nat.zero_add]; rfl
  | s + 1, l, hh, hb, d => by
    have h0 : ra l 0 < q := hb 0 (by omega)
    rw [show s + 1 + d = (s + d) + 1 by omega, adv_lo h0 hh _ 0 rfl (Nat.zero_le _), stps_front]
    exact adv_on s (homeTo_stp (.inl h0) hh) (fun t ht => by have := hb (t + 1) (by omega); rwa [stps_front] at this) d
/-- the steps of a stretch less its last one -/
def stl (l : List Card) (q : Nat) : Nat := shw (pats l q 0) 0
theorem holed {l : List Card} {q : Nat} (ok : DeckOk l) (hh : HomeTo l q) (hq : q < clo l) : Holed (pats l q 0) := fun p hp => by
  unfold pats at hp
  obtain ⟨m, hm, rfl⟩ := List.mem_map.mp hp
  rw [List.mem_range'_1] at hm
  obtain ⟨i, h1, h2⟩ := (clo_is ok.lo).no (m + 1) (by omega) (by omega)
  have hml : m < l.length := by have := hh.1; omega
  have hc : at0 l i ∈ ring l m := by
    rw [ring_take hml (hh.2 m (by omega))]
    refine List.mem_filter.mpr ⟨?_, decide_eq_true (by show m ≤ ra l i; omega)⟩
    rw [at0_eq (by omega)]
    exact List.mem_take_iff_getElem.mpr ⟨i, by omega, rfl⟩
  unfold pat
  refine List.count_pos_iff.mpr (List.mem_map.mpr ⟨at0 l i, hc, if_pos ?_⟩)
  have : ra l i = rch l.length (at0 l i) := rfl
  omega
theorem stretch {l : List Card} {q : Nat} (ok : DeckOk l) (hh : HomeTo l q) (hq : q < clo l) : (∀ t, t < stl l q → ra (stps t l) 0 < q) ∧ q ≤ ra (stps (stl l q) l) 0 := by
  obtain ⟨h1, h2⟩ := adv_shw (holed ok hh hq) 0
  have hb := below_of (stl l q) hh h1
  refine ⟨hb, ?_⟩
  have h3 := adv_on (stl l q) hh hb 1
  have h4 : adv (pats l q 0) (stl l q + 1) = 1 := h2
  rw [h4] at h3
  rcases Nat.lt_or_ge (ra (stps (stl l q) l) 0) q with z | z
  · have hh' : HomeTo (stps (stl l q) l) q := (within_all _ hh fun t ht => .inl (hb t ht)).1
    have h5 : adv (pats (stps (stl l q) l) q 0) 1 = adv (pats (stp (stps (stl l q) l)) q 0) 0 := adv_lo z hh' _ 0 rfl (Nat.zero_le _) 0
    rw [adv_zero] at h5
    omega
  · exact z
/-! ## how far the cards are from home, in all -/
def sm (f : Nat → Nat) : Nat → Nat
  | 0 => 0
  | n + 1 => sm f n + f n
end Sb
end
section
set_option Elab.async false
set_option linter.all false
set_option maxRecDepth 100000
set_option maxHeartbeats 4000000
namespace Sb
open PySem PySem.Spec PyProof.Rows L2
variable {K : PySem.W.Frag} {S : Sto}
/-! ## the law's own reading of a deck -/
theorem min_rch {c : Card} {n : Nat} (h : 0 ≤ c.2) (hn : 1 ≤ n) : gMin2 [.int c.2, .int ((n - 1 : Nat) : Nat)] S = some (.int (rch n c : Nat), S) := by
  simp only [gMin2]
  congr 3
  unfold rch
  split <;> omega
theorem slX_tup {ds : List D} {lo hi : Option Int} : gSlX (.tup ds) lo hi S = gSl (.tup ds) lo hi S := rfl
theorem slX_fl {ds : List D} {lo hi : Option Int} : gSlX (.fl ds) lo hi S = gSl (.fl ds) lo hi S := rfl
theorem maxI_lt {ns : List Int} (h : ns ≠ []) {m : Int} : maxI ns < m ↔ ∀ x ∈ ns, x < m := by
  induction ns with
  | nil => exact absurd rfl h
  | cons i r ih =>
    cases r with
    | nil => simp [maxI]
    | cons j r2 =>
      have e : maxI (i :: j :: r2) = max i (maxI (j :: r2)) := rfl
      rw [e]
      constructor
      · intro q x hx
        rcases List.mem_cons.mp hx with rfl | hx
        · omega
        · exact (ih (by simp)).mp (by omega) x hx
      · intro q
        have a := q i (by simp)
        have b := (ih (by simp)).mpr fun x hx => q x (List.mem_cons_of_mem _ hx)
        omega
end Sb
end
section
set_option Elab.async false
set_option linter.all false
set_option maxRecDepth 100000
set_option maxHeartbeats 4000000
namespace Sb
open PySem PySem.Spec PyProof.Rows L2
variable {K : PySem.W.Frag} {S : Sto}
/-! ## a loop with a break -/
theorem sAs_ok {g : TF} {fe : EF} {τ τ1 : Sl} {d : D} {S S1 : Sto} (h : fe τ S = some (.ok d S1)) (h2 : g d S1 τ = some τ1) : sAs g fe τ S = some (.nx τ1, S1) := by
  simp only [sAs, sx, h, h2, Option.bind_some]
theorem eVar_at {τ : Sl} {i : Nat} {d : D} {S : Sto} (h : τ[i]? = some (some d)) : eVar i τ S = some (.ok d S) := by simp only [eVar, h]
/-! ## papers -/
def rowD (i : Nat) (p : Pat) : D := .tup [.int (i : Nat), .int (i / p.length : Nat), .int (i % p.length : Nat)]
end Sb
end
section
set_option Elab.async false
set_option linter.all false
set_option maxRecDepth 100000
set_option maxHeartbeats 4000000
namespace Sb
open PySem PySem.Spec PyProof.Rows L2
variable {K : PySem.W.Frag} {S : Sto}
/-! ## settled decks -/
theorem Stl.clo {l : List Card} (hl : 1 ≤ l.length) (h : Stl l) : ∀ i, i < Sb.clo l → i ≤ ra l i := by
  obtain ⟨c, h1, h2, h3⟩ := h
  have A := clo_is hl
  have hc : Sb.clo l ≤ c := by
    apply Classical.byContradiction
    intro q
    obtain ⟨i, hi, hr⟩ := A.no c h1 (by omega)
    have := (h3 i hi).2
    omega
  exact fun i hi => (h3 i (by omega)).1
theorem aw_stl {l : List Card} (hl : 1 ≤ l.length) (h : Stl l) : aw l = [] := by
  unfold aw
  rw [List.filter_eq_nil_iff]
  intro i hi
  have := h.clo hl i (List.mem_range.mp hi)
  simp [this]
theorem pat_range {l : List Card} {m : Nat} (h : m ≤ l.length) : pat l m = (((List.range m).filter fun i => decide (m ≤ ra l i)) ++ [m]).map fun i => if m < ra l i then none else some (at0 l i).1 := by
  unfold pat ring
  rw [hand_range h, List.map_append, List.map_append, List.map_map]
  rfl
theorem Top.pat {c m : Nat} {l k : List Card} (t : Top c l k) (h : m < c) : Sb.pat k m = Sb.pat l m := by
  have h1 := t.h1
  have h2 := t.h2
  rw [pat_range (by omega), pat_range (by omega)]
  have e : ((List.range m).filter fun i => decide (m ≤ Sb.ra k i)) = (List.range m).filter fun i => decide (m ≤ Sb.ra l i) := List.filter_congr fun i hi => by rw [t.ra i (by have := List.mem_range.mp hi; omega)]
  rw [e]
  refine List.map_congr_left fun i hi => ?_
  have hi' : i < c := by
    rcases List.mem_append.mp hi with q | q
    · have := List.mem_range.mp (List.mem_filter.mp q).1
      omega
    · simp at q; omega
  rw [t.ra i hi', t.nm i hi']
/-! ## papers of the program -/
theorem last_pat {l : List Card} (ok : DeckOk l) : pD (pat l (clo l - 1)) = .fl ((nms (ring l (clo l - 1))).map D.str) := by
  have A := clo_is ok.lo
  show D.fl _ = D.fl _
  congr 1
  unfold pat nms
  rw [List.map_map, List.map_map]
  refine List.map_congr_left fun c hc => ?_
  have hr : rch l.length c < clo l := by
    have h1 := A.lo
    have h2 := A.hi
    have : ∃ i, i < clo l ∧ c = at0 l i := by
      unfold ring at hc
      rcases List.mem_append.mp hc with q | q
      · rw [hand_range (by omega)] at q
        obtain ⟨i, hi, rfl⟩ := List.mem_map.mp q
        have := List.mem_range.mp (List.mem_filter.mp hi).1
        exact ⟨i, by omega, rfl⟩
      · simp at q; exact ⟨clo l - 1, by omega, q⟩
    obtain ⟨i, hi, rfl⟩ := this
    exact A.all i hi
  simp only [Function.comp]
  rw [if_neg (by omega)]; rfl
theorem settled_rows_ok {l : List Card} (w : Wf S) (ok : DeckOk l) : M_settled_rows [dK l] S = some (.ok (.fl ((told l).map pD)) S) := by
  have A := clo_is ok.lo
  have h1 := A.lo
  have h2 := A.hi
  have h3 := ok.hi
  have hz := sizeLine_eq
  have e : M_rows_of [dK l, .int ((clo l - 1 : Nat) : Nat)] S = some (.ok (.loc S.length) (S ++ [.lst ((told l).map pD)])) := by
    refine fnM_rt ?_
    have r := lc_raw (fi := iRg1 (aCons (eVar 1) (aNil))) (g := tN 3) (fe := eCl (M_pattern_of) 2 (aCons (eVar 0) (aCons (eVar 3) (aNil)))) (vs := [3]) (τ := [some (dK l), some (.int ((clo l - 1 : Nat) : Nat)), none, none]) (S := S) (ds := (List.range (clo l - 1)).map fun i : Nat => D.int i)
      (fun d => match d with | .int z => pD (pat l z.toNat) | _ => .non) w (iRg1_ok (n := clo l - 1) (a1_ok rfl) (by omega)) wks_rg (by simp; omega)
      (fun d hd => by obtain ⟨i, _, rfl⟩ := List.mem_map.mp hd; exact bd_pD)
      (fun d hd S' w' _ => by
        obtain ⟨i, hi, rfl⟩ := List.mem_map.mp hd
        have hi' := List.mem_range.mp hi
        exact ⟨_, rfl, eCl_ok (a2_ok rfl rfl) rfl (pattern_ok w' ok (by omega))⟩)
    rw [List.map_map] at r
    refine (sSeq_nx (sSet_ok r)).trans ?_
    generalize hrow : (List.map ((fun d => match d with | .int z => pD (pat l z.toNat) | _ => .non) ∘ fun i : Nat => D.int i) (List.range (clo l - 1))) = row
    have hrl : row.length = clo l - 1 := by rw [← hrow]; simp
    have hre : row = (List.range (clo l - 1)).map fun i => pD (pat l i) := by rw [← hrow]; rfl
    have wX : Wf (S ++ [.lst row]) := wf_app w (by rw [hre]; exact bds_map fun _ _ => bd_pD)
    have en := names_of_ok (S := S ++ [.lst row]) (m := ring l (clo l - 1)) wX (by have := hand_len l (clo l - 1); unfold ring; simp; omega)
    refine (sSeq_nx (sEx_ok (eBM_ok rfl (ty_list (get_last _ _)) (a1_ok (eCl_ok (a1_ok (eCl_ok (a2_ok rfl rfl) rfl (ring_ok wX ok (by omega)))) rfl en)) (app_last (by omega))))).trans ?_
    refine (sRt_ok rfl).trans ?_
    rw [← last_pat ok, hre]
    have : (told l).map pD = (List.range (clo l - 1)).map (fun i => pD (pat l i)) ++ [pD (pat l (clo l - 1))] := by
      unfold told
      conv => lhs; rw [show clo l = (clo l - 1) + 1 by omega]
      rw [List.range_succ, List.map_append, List.map_append, List.map_map]
      rfl
    rw [this]
  refine fnM_rt (sRt_ok ?_)
  exact fz_lst (X := [.lst ((told l).map pD)]) w (eCl_ok (a2_ok rfl (eB_ok (eCl_ok (a1_ok rfl) rfl (closed_ok ok)) rfl (gSub_nat (i := clo l) (j := 1) h1))) rfl e) (get_last _ _) (Nat.le_refl _) (bds_map fun _ _ => bd_pD)
theorem require_settled_ok {l : List Card} (w : Wf S) (ok : DeckOk l) (h : Stl l) : M_require_settled K [dK l] S = some (.ok .non S) := by
  refine fnM_nx ((sIf_f (tTr_ok (eCl_ok (a1_ok rfl) rfl (away_places_ok w ok)) (by rw [aw_stl ok.lo h]; rfl))).trans rfl)
/-! ## rows alike, rows shown -/
end Sb
end
section
set_option Elab.async false
set_option linter.all false
set_option maxRecDepth 100000
set_option maxHeartbeats 4000000
namespace Sb
open PySem PySem.Spec PyProof.Rows L2
variable {K : PySem.W.Frag} {S : Sto}
/-! ## rows as data -/
def RowOk (p : Pat) : Prop := 1 ≤ p.length ∧ p.length ≤ 100 ∧ PatNm p
theorem divmod_n {i n : Nat} (h : 1 ≤ n) (h2 : n ≤ 100) : gDivmod [.int (i : Nat), .int (n : Nat)] S = some (.tup [.int (i / n : Nat), .int (i % n : Nat)], S) := by
  have c : (0 : Int) < (n : Nat) ∧ ((n : Nat) : Int) < 1073741824 := by omega
  simp only [gDivmod, if_pos c]
  rfl
theorem big {n i : Nat} (h : n ≤ i) (hi : i < 2 ^ 1000) : n < 2 ^ 400000 := Nat.lt_of_le_of_lt h (Nat.lt_of_lt_of_le hi (pow_le2 (by decide)))
theorem big100 {n : Nat} (h : n ≤ 100) : n < 2 ^ 400000 := big (i := 100) h (Nat.lt_of_lt_of_le (show 100 < 2 ^ 7 by decide) (pow_le2 (by decide)))
theorem often_none {p : Pat} {i : Nat} (h : RowOk p) (hi : i < 2 ^ 1000) : M_often_round [pD p, .non, .int (i : Nat)] S = some (.ok (.int (nxt p i : Nat)) S) := by
  obtain ⟨h1, h2, h3⟩ := h
  have hpt : PatNm (p.take (i % p.length)) := fun x hx => h3 x (List.mem_of_mem_take hx)
  have dm := divmod_n (S := S) (i := i) h1 h2
  have hl : (((p.map optD).length : Nat) : Int) = (p.length : Nat) := by rw [List.length_map]
  refine fnM_rt ((sSeq_nx (sAs_ok (eCB_ok (a2_ok rfl (eCB_ok (a1_ok rfl) len_fl)) (by rw [hl]; exact dm)) rfl)).trans (sRt_ok ?_))
  exact eB_ok (eB_ok rfl (eBM_ok rfl rfl (a1_ok rfl) (cnt_none h3 rfl)) (gMul_n (big (Nat.div_le_self _ _) hi) (big100 (Nat.le_trans List.count_le_length h2)))) (eBM_ok (eSl_ok rfl rfl (oSo_ok rfl) cut_fl) rfl (a1_ok rfl) (cnt_none hpt (by rw [List.map_take]))) gAdd_nat
/-! ### when -/
/-! ### rows put together -/
end Sb
end
section
set_option Elab.async false
set_option linter.all false
set_option maxRecDepth 100000
set_option maxHeartbeats 4000000
namespace Sb
open PySem PySem.Spec PyProof.Rows L2
variable {K : PySem.W.Frag} {S : Sto}
theorem cut_flf {ds : List D} {a : Nat} : gSl (.fl ds) (some (a : Nat)) none S = some (.fl (ds.drop a), S) := by
  have : cutD ds (some (a : Int)) none = ds.drop a := by
    unfold Sb.cutD
    rw [HT.sIx_nat, HT.sIx_none]
    by_cases h : a ≤ ds.length
    · rw [Nat.min_eq_left h, List.take_of_length_le (by simp)]
    · rw [Nat.min_eq_right (by omega), List.drop_of_length_le (by omega), List.drop_of_length_le (by omega)]; simp
  simp only [gSl, this]
theorem gAdd_fl {a b : List D} (h : a.length + b.length ≤ 100000) : gAdd (.fl a) (.fl b) S = some (.fl (a ++ b), S) := by
  have hz := sizeLine_eq
  simp only [gAdd, flD, Option.bind_some]
  rw [if_pos (by omega)]
theorem cut_deckf {l : List Card} {a : Nat} : gSl (dK l) (some (a : Nat)) none S = some (dK (l.drop a), S) := by
  have := cut_from (l := l) (a := a)
  exact sl_deck this
theorem rows_ok {l : List Card} {q : Nat} (ok : DeckOk l) (hq : q < l.length) : ∀ p ∈ frw l q, RowOk p := fun p hp => by
  have h2 := ok.hi
  rcases List.mem_append.mp hp with h | h
  · unfold pats at h
    obtain ⟨m, hm, rfl⟩ := List.mem_map.mp h
    rw [List.mem_range'_1] at hm
    refine ⟨pat_ne l m, ?_, fun x hx => ?_⟩
    · have := hand_len l m
      unfold pat ring; simp; omega
    · obtain ⟨c, hc, e⟩ := List.mem_map.mp hx
      split at e
      · cases e
      · cases e
        exact ok.nm c (ring_mem (by omega) hc)
  · rw [List.mem_singleton.mp h]
    refine ⟨by unfold lring ring; simp, ?_, fun x hx => ?_⟩
    · have := hand_len l q
      unfold lring ring; simp; omega
    · obtain ⟨c, hc, e⟩ := List.mem_map.mp hx
      cases e
      exact ok.nm c (ring_mem hq hc)
theorem trn_len : ∀ (ps : List Pat) (i : Nat), (trn ps i).length = ps.length
  | [], _ => rfl
  | p :: ps, i => by simp [trn, trn_len ps]
theorem stps_perm (l : List Card) : ∀ n, (stps n l).Perm l
  | 0 => .refl _
  | n + 1 => (stp_perm _).trans (stps_perm l n)
end Sb
end
section
set_option Elab.async false
set_option linter.all false
set_option maxRecDepth 100000
set_option maxHeartbeats 4000000
namespace Sb
open PySem PySem.Spec PyProof.Rows L2
variable {K : PySem.W.Frag} {S : Sto}
/-! ## the reel -/
abbrev reelO (gs cs : List Int) (c t : Int) : Ob := .lst [.fl (gs.map D.int), .fl (cs.map D.int), .int c, .int t]
def Reel (n k : Nat) (S : Sto) : Prop := ∃ (gs cs : List Int) (c t : Int), S[n]? = some (reelO gs cs c t) ∧ (∀ g ∈ gs, 0 ≤ g) ∧ gs.length ≤ 1000 ∧ 1 ≤ cs.length ∧ cs.length ≤ 1000 ∧ (∀ x ∈ cs, 0 ≤ x ∧ x < 1000003) ∧ 0 ≤ c ∧ c ≤ k ∧ 0 ≤ t ∧ t < 2 ^ 127
theorem reel_src : Src Reel where
  fr := fun ⟨gs, cs, c, t, e, h⟩ q => ⟨gs, cs, c, t, q.trans e, h⟩
  ex := fun ⟨gs, cs, c, t, e, h⟩ => ⟨_, e, by simp only [bdO, bds, bd, bds_ints0, Bool.and_self]⟩
  mono := fun ⟨gs, cs, c, t, e, h1, h2, h3, h4, h5, h6, h7, h8⟩ hk => ⟨gs, cs, c, t, e, h1, h2, h3, h4, h5, h6, by omega, h8⟩
theorem gEq_fi {neg : Bool} {l m : List Int} : gEq neg (.fl (l.map D.int)) (.fl (m.map D.int)) S = some (.bl (if neg then !decide (l = m) else decide (l = m)), S) := by
  have tp : ∀ l : List Int, toPy 8 S (.fl (l.map D.int)) = some (.list (l.map PyData.int)) := fun l => by
    show ((l.map D.int).mapM (toPy 7 S)).map PyData.list = _
    rw [List.mapM_map, mapM_some (f := toPy 7 S ∘ D.int) (g := PyData.int) fun x _ => rfl]
    rfl
  have sh : ∀ l : List Int, SeqAt.shaped (.list (l.map PyData.int)) = true := fun l => by
    unfold SeqAt.shaped
    have e1 : PyData.canLay0 (.list (l.map PyData.int)) = true := lay_all fun c hc => rfl
    have e2 : PyData.depth (.list (l.map PyData.int)) ≤ 1 := Nat.succ_le_succ (depth_all (k := 0) fun c _ => Nat.le_refl 0)
    rw [e1, Bool.true_and]
    exact decide_eq_true (Nat.le_trans e2 (by decide))
  have e1 : ∀ a b : Int, PyData.eqv (.int a) (.int b) = decide (a = b) := fun a b => by
    show (a == b) = _
    by_cases h : a = b <;> simp [h]
  have eq : ∀ l m : List Int, PyData.eqv (.list (l.map PyData.int)) (.list (m.map PyData.int)) = decide (l = m) := fun l m => eqv_all e1 l m
  unfold gEq
  rw [tp, tp]
  simp only [sh, and_self, if_true, eq]
theorem reel_draw_ok : Drw Reel M_reel_draw := by
  intro n k S m w h hk hm0 hm1
  obtain ⟨gs, cs, c, t, e, hg, hgl, hc1, hc2, hcs, hc0, hck, ht0, ht1⟩ := h
  have hn : n < S.length := (List.getElem?_eq_some_iff.mp e).1
  have i200 : ((m : Nat) : Int) < 2 ^ 300 := by
    have : (2 : Nat) ^ 200 < 2 ^ 300 := by decide
    omega
  have smS : ∀ o, Sm n S (S.set n o) := fun o => ⟨by simp, fun i hi => List.getElem?_set_ne (Ne.symm hi)⟩
  have last : ∀ v : Int, 0 ≤ v → ∃ u : Nat, v % (m : Int) = (u : Int) ∧ u < m := fun v hv => by
    have h1 : 0 ≤ v % (m : Int) := Int.emod_nonneg _ (by omega)
    have h2 : v % (m : Int) < m := Int.emod_lt_of_pos _ (by omega)
    exact ⟨(v % (m : Int)).toNat, by omega, by omega⟩
  have g0 : gIx (.loc n) (.int 0) S = some (.fl (gs.map D.int), S) := ix_loc e (i := 0) rfl
  have main : Ws (m_reel_draw (ini 5 [.loc n, .int (m : Nat)]) S) fun fl S' => ∃ d, fl = .rt d ∧ ∃ v : Nat, d = .int (v : Nat) ∧ v < m ∧ Reel n (k + 1) S' ∧ Sm n S S' := by
    have tst : (tB (eB (gEq true) (eB gIx (eVar 0) (eC (.int 0))) (fz (eLst (aNil))))) [some (.loc n), some (.int (m : Nat)), none, none, none] S = some (.ok (!decide (gs = [])) S) :=
      tB_ok (eB_ok (eB_ok rfl rfl g0) (fz_list aNil_ok rfl w (by simp) rfl) (gEq_fi (l := gs) (m := [])))
    cases gs with
    | cons g r =>
      obtain ⟨u, eu, hu⟩ := last g (hg g List.mem_cons_self)
      refine ws_seq (bif_t (tst.trans (show _ = some (Rs.ok true S) by simp)) ?_)
      refine ws_set (eB_ok (eB_ok rfl rfl g0) rfl ix_head) ?_
      have e1 : ∀ {τ : Sl}, τ[1]? = some (some (.int (m : Nat))) → τ[2]? = some (some (.int g)) → fz (eLst (aCons (eB gDiv (eVar 2) (eVar 1)) (aNil))) τ S = some (.ok (.fl [.int (g / m)]) S) := fun h1 h2 =>
        fz_list (a1_ok (eB_ok (eVar_at h2) (eVar_at h1) (gDiv_i (by omega) i200))) rfl w (by simp) rfl
      have e2 : gMulL (.fl [.int (g / m)]) (.int ((if decide ((m : Int) ≤ g) then 1 else 0 : Nat) : Nat)) S = some (.fl ((if (m : Int) ≤ g then [g / m] else []).map D.int), S) := by
        by_cases q : (m : Int) ≤ g
        · simp [gMulL, q]
        · simp [gMulL, q]
      have e3 : gSlX (.fl ((g :: r).map D.int)) (some 1) none S = some (.fl (r.map D.int), S) := cut_flf (ds := (g :: r).map D.int) (a := 1)
      refine ws_nx (sPut_ok (S4 := S.set n (reelO ((if (m : Int) ≤ g then [g / m] else []) ++ r) cs c t)) (eB_ok (eB_ok (e1 rfl rfl) (eCB_ok (a1_ok (eB_ok rfl rfl gGe_i)) gInt_bl) e2) (eSlX_ok (eB_ok rfl rfl g0) (oSo_ok rfl) rfl e3) (gAdd_fl (by split <;> simp <;> simp at hgl <;> omega))) rfl rfl ((putD_ok (i := 0) e (by simp)).trans (by rw [← List.map_append]; rfl))) ?_
      refine ws_rt (eB_ok rfl rfl (gMod_i (by omega))) ⟨_, rfl, u, by rw [eu], hu, ⟨_, cs, c, t, List.getElem?_set_self hn, fun x hx => ?_, ?_, hc1, hc2, hcs, hc0, by omega, ht0, ht1⟩, smS _⟩
      · rcases List.mem_append.mp hx with z | z
        · split at z
          · rw [List.mem_singleton.mp z]
            exact Int.ediv_nonneg (hg g List.mem_cons_self) (by omega)
          · cases z
        · exact hg x (List.mem_cons_of_mem _ z)
      · simp at hgl
        split <;> simp <;> omega
    | nil =>
      refine ws_no (tst.trans (show _ = some (Rs.ok false S) by simp)) ?_
      let S1 : Sto := S.set n (reelO [] cs (c + 1) t)
      have g1 : S1[n]? = some (reelO [] cs (c + 1) t) := List.getElem?_set_self hn
      refine ws_nx (sPut_ok (eB_ok (eB_ok rfl rfl (ix_loc e (i := 2) rfl)) rfl gAdd_i) rfl rfl (S4 := S1) (putD_ok (i := 2) e (by simp))) ?_
      have hlen : (0 : Int) < (cs.length : Nat) := by omega
      obtain ⟨j, hj, hj2⟩ : ∃ j : Nat, (c + 1) % (cs.length : Int) = (j : Int) ∧ j < cs.length := by
        have h1 : 0 ≤ (c + 1) % (cs.length : Int) := Int.emod_nonneg _ (by omega)
        have h2 : (c + 1) % (cs.length : Int) < cs.length := Int.emod_lt_of_pos _ (by omega)
        exact ⟨((c + 1) % (cs.length : Int)).toNat, by omega, by omega⟩
      have hx := hcs (cs.getD j 0) (getD_mem hj2)
      have q1 : gIx (.loc n) (.int 1) S1 = some (.fl (cs.map D.int), S1) := ix_loc g1 (i := 1) rfl
      have q2 : gIx (.loc n) (.int 2) S1 = some (.int (c + 1), S1) := ix_loc g1 (i := 2) rfl
      have q3 : gIx (.loc n) (.int 3) S1 = some (.int t, S1) := ix_loc g1 (i := 3) rfl
      have hl2 : (((cs.map D.int).length : Nat) : Int) = (cs.length : Nat) := by rw [List.length_map]
      refine ws_set (eB_ok (eB_ok rfl rfl q1) (eB_ok (eB_ok rfl rfl q2) (eCB_ok (a1_ok (eB_ok rfl rfl q1)) len_fl) ((gMod_i (by rw [hl2]; exact hlen)).trans (by rw [hl2, hj]))) (ix_fints hj2)) ?_
      have b1 : t.natAbs < 2 ^ 300 := p300 ht0 (by omega)
      have b2 : (cs.getD j 0 + 7).natAbs < 2 ^ 300 := p300 (by omega) (by omega)
      have b3 : (c + 1).natAbs < 2 ^ 300 := p300 (by omega) (by omega)
      refine ws_set (eB_ok (eB_ok (eB_ok (eB_ok rfl rfl q3) (eB_ok rfl rfl q3) (mulX b1 b1)) (eB_ok (eB_ok rfl rfl gAdd_i) rfl (mulX b2 (by decide))) gAdd_i) (eB_ok (eB_ok rfl rfl q2) rfl (mulX b3 (by decide))) gAdd_i) ?_
      generalize hv : t * t + (cs.getD j 0 + 7) * 69621 + (c + 1) * 1000003 = v
      have em : ∀ {τ : Sl}, (eB gSub (eB gMulX (eB gPow (eC (.int 2)) (eC (.int 64))) (eB gPow (eC (.int 2)) (eC (.int 63)))) (eC (.int 1))) τ S1 = some (.ok (.int (2 ^ 127 - 1)) S1) := fun {τ} =>
        eB_ok (eB_ok (show (eB gPow (eC (.int 2)) (eC (.int 64))) τ S1 = some (.ok (.int 18446744073709551616) S1) from eB_ok rfl rfl rfl) (show (eB gPow (eC (.int 2)) (eC (.int 63))) τ S1 = some (.ok (.int 9223372036854775808) S1) from eB_ok rfl rfl rfl) (mulX (by decide) (by decide))) rfl gSub_i
      let S2 : Sto := S.set n (reelO [] cs (c + 1) (v % (2 ^ 127 - 1)))
      have e2 : S1.set n (reelO [] cs (c + 1) (v % (2 ^ 127 - 1))) = S2 := List.set_set ..
      have g2 : S2[n]? = some (reelO [] cs (c + 1) (v % (2 ^ 127 - 1))) := List.getElem?_set_self hn
      refine ws_nx (sPut_ok (eB_ok rfl em (gMod_i (by decide))) rfl rfl (S4 := S2) ((putD_ok (i := 3) g1 (by simp)).trans (by rw [← e2]; rfl))) ?_
      have v0 : 0 ≤ v % (2 ^ 127 - 1) := Int.emod_nonneg _ (by decide)
      have v1 : v % (2 ^ 127 - 1) < 2 ^ 127 - 1 := Int.emod_lt_of_pos _ (by decide)
      obtain ⟨u, eu, hu⟩ := last (v % (2 ^ 127 - 1) / 1099511627776) (Int.ediv_nonneg v0 (by decide))
      refine ws_rt (eB_ok (eB_ok (eB_ok rfl rfl (ix_loc g2 (i := 3) rfl)) (show (eB gPow (eC (.int 2)) (eC (.int 40))) _ S2 = some (.ok (.int 1099511627776) S2) from eB_ok rfl rfl rfl) (gDiv_i (by decide) (by decide))) rfl (gMod_i (by omega))) ⟨_, rfl, u, by rw [eu], hu, ⟨[], cs, c + 1, _, g2, fun x hx => (by cases hx), (by simp), hc1, hc2, hcs, by omega, by omega, v0, by omega⟩, smS _⟩
  obtain ⟨d, S', e2, v, rfl, h2, h3, h4⟩ := fn_ws main
  exact ⟨v, S', e2, h2, h3, h4⟩
end Sb
end
section
set_option Elab.async false
set_option linter.all false
set_option maxRecDepth 100000
set_option maxHeartbeats 4000000
namespace Sb
open PySem PySem.Spec PyProof.Rows L2
variable {K : PySem.W.Frag} {S : Sto}
theorem b200' {b : Nat} (h : b ≤ 10 ^ 30) : b < 2 ^ 200 := Nat.lt_of_le_of_lt h (by decide)
abbrev cF (c : Card) : D := .fl [.str c.1, .int c.2]
/-- a deck, dressed otherwise -/
def Drs (l : List Card) (d : D) : Prop := d = .fl (l.map cF) ∨ d = .tup (l.map cF) ∨ d = .fl (l.map dC)
theorem Drs.deck {l : List Card} {d : D} (h : Drs l d) (S : Sto) : isDeck S d l := by
  rcases h with rfl | rfl | rfl
  · refine ⟨l.map cF, .inr (.inl rfl), by simp, fun i e c h1 h2 => ?_⟩
    rw [List.getElem?_map, h2] at h1
    cases h1; exact .inr (.inl rfl)
  · refine ⟨l.map cF, .inl rfl, by simp, fun i e c h1 h2 => ?_⟩
    rw [List.getElem?_map, h2] at h1
    cases h1; exact .inr (.inl rfl)
  · refine ⟨l.map dC, .inr (.inl rfl), by simp, fun i e c h1 h2 => ?_⟩
    rw [List.getElem?_map, h2] at h1
    cases h1; exact .inl rfl
end Sb
end
section
set_option Elab.async false
set_option linter.all false
set_option maxRecDepth 100000
set_option maxHeartbeats 4000000
namespace Sb
open PySem PySem.Spec PyProof.Rows L2
variable {K : PySem.W.Frag} {S : Sto}
theorem reel_drw {n k j : Nat} {τ : Sl} {fm : EF} {b : Nat} (w : Wf S) (h0 : τ[j]? = some (some (.loc n))) (hm : fm τ S = some (.ok (.int (b : Nat)) S)) (h : Reel n k S) (hk : k < 2 ^ 40) (hm0 : 0 < b) (hm1 : b < 2 ^ 200) :
    ∃ (v : Nat) (S' : Sto), eCl M_reel_draw 2 (aCons (eVar j) (aCons fm aNil)) τ S = some (.ok (.int (v : Nat)) S') ∧ v < b ∧ Reel n (k + 1) S' ∧ Sm n S S' ∧ Wf S' := reel_src.draw reel_draw_ok w h0 hm h hk hm0 hm1
theorem cut_seq {d : D} {ds : List D} {b : Nat} (hd : seqD S d = some ds) (ht : ∀ ds, d ≠ .tup ds ∧ d ≠ .fl ds) : gSlX d none (some (b : Nat)) S = some (.loc S.length, S ++ [.lst (ds.take b)]) := by
  have : cutD ds none (some (b : Int)) = ds.take b := by
    unfold cutD
    rw [HT.sIx_nat, HT.sIx_none, List.drop_zero, Nat.sub_zero]
    first | rfl | (rw [List.take_eq_take_iff]; omega)
  cases d with
  | tup es => exact absurd rfl (ht es).1
  | fl es => exact absurd rfl (ht es).2
  | str z => cases hd
  | _ => first | (cases hd; done) | (simp only [gSlX, gSl]; rw [hd]; simp only [Option.bind_some, this])
theorem reel_reel_ok {d : D} {ns : List Int} (hd : seqD S d = some (ns.map D.int)) (ht : ∀ ds, d ≠ .tup ds ∧ d ≠ .fl ds) (w : Wf S) :
    ∃ o, M_x_reel_reel [d] S = some (.ok (.loc S.length) (S ++ [o])) ∧ Reel S.length 0 (S ++ [o]) ∧ Wf (S ++ [o]) := by
  have main : Ws (m_x_reel_reel (ini 4 [d]) S) fun fl S' => ∃ d', fl = .rt d' ∧ d' = .loc S.length ∧ ∃ o, S' = S ++ [o] ∧ Reel S.length 0 S' ∧ Wf S' := by
    have e0 : ∀ {τ : Sl}, (eB gPow (eC (.int 3)) (eC (.int 60))) τ S = some (.ok (.int 42391158275216203514294433201) S) := fun {τ} => eB_ok rfl rfl rfl
    refine ws_set e0 ?_
    have cut : ∀ {τ : Sl}, τ[0]? = some (some d) → fz (eSlX (eVar 0) (oNo) (oSo (eC (.int 63)))) τ S = some (.ok (.fl ((ns.take 63).map D.int)) S) := fun {τ} h =>
      fz_lst (X := [.lst ((ns.take 63).map D.int)]) w (eSlX_ok (eVar_at h) rfl (oSo_ok rfl) ((cut_seq (b := 63) hd ht).trans (by rw [List.map_take]))) (get_last _ _) (Nat.le_refl _) (bds_ints0 _)
    generalize hms : ns.take 63 = ms at cut
    have hm63 : ms.length ≤ 63 := by rw [← hms, List.length_take]; omega
    refine ws_for ms.length (fun i τ S' => S' = S ∧ ∃ (t : Int) (x y : Option D), τ = [some d, some (.int t), x, y] ∧ 0 ≤ t ∧ t < 2 ^ 127) (fun i => .int (ms.getD i 0)) (iSeq_ok (cut rfl) wk_fl) (by simp) ⟨rfl, _, none, none, rfl, by decide, by decide⟩ ?_ ?_ ?_
    · rintro i τ S' hi ⟨rfl, t, x, y, rfl, h0, h1⟩
      refine ⟨by show some (List.map D.int ms)[i]? = _; rw [List.getElem?_map, List.getElem?_eq_getElem hi, List.getD_eq_getElem?_getD, List.getElem?_eq_getElem hi]; rfl, _, rfl, ?_⟩
      have em : ∀ {τ : Sl}, (eB gSub (eB gMulX (eB gPow (eC (.int 2)) (eC (.int 64))) (eB gPow (eC (.int 2)) (eC (.int 63)))) (eC (.int 1))) τ S' = some (.ok (.int (2 ^ 127 - 1)) S') := fun {τ} =>
        eB_ok (eB_ok (show (eB gPow (eC (.int 2)) (eC (.int 64))) τ S' = some (.ok (.int 18446744073709551616) S') from eB_ok rfl rfl rfl) (show (eB gPow (eC (.int 2)) (eC (.int 63))) τ S' = some (.ok (.int 9223372036854775808) S') from eB_ok rfl rfl rfl) (mulX (by decide) (by decide))) rfl gSub_i
      have b1 : t.natAbs < 2 ^ 300 := p300 h0 (by omega)
      refine ws_set1 (eB_ok (eB_ok (eB_ok (eB_ok rfl rfl (mulX b1 b1)) (eB_ok rfl rfl (gMod_i (by decide))) gAdd_i) rfl gAdd_i) em (gMod_i (by decide))) ⟨rfl, _, _, _, rfl, Int.emod_nonneg _ (by decide), ?_⟩
      exact Int.lt_of_lt_of_le (Int.emod_lt_of_pos _ (by decide)) (by decide)
    · rintro τ S' ⟨rfl, t, x, y, rfl, h0, h1⟩
      show some (List.map D.int ms)[ms.length]? = _
      rw [List.getElem?_eq_none (by simp)]
    · rintro τ S' ⟨rfl, t, x, y, rfl, h0, h1⟩
      have p18 : ∀ {τ : Sl}, (eB gPow (eC (.int 10)) (eC (.int 18))) τ S' = some (.ok (.int 1000000000000000000) S') := fun {τ} => eB_ok rfl rfl rfl
      have p18' : ∀ {τ : Sl} {S : Sto}, (eB gPow (eC (.int 10)) (eC (.int 18))) τ S = some (.ok (.int 1000000000000000000) S) := fun {τ S} => eB_ok rfl rfl rfl
      let gs := (ms.filter fun x => decide (1000000000000000000 ≤ x)).map (· - 1000000000000000000)
      have e1 := lc_pu (fi := iSeq (fz (eSlX (eVar 0) (oNo) (oSo (eC (.int 63)))))) (g := tN 2) (t := tB (eB gGeI (eVar 2) (eB gPow (eC (.int 10)) (eC (.int 18))))) (fe := eB gSub (eVar 2) (eB gPow (eC (.int 10)) (eC (.int 18)))) (vs := [2]) (τ := [some d, some (.int t), x, y]) (S := S') (ds := ms.map D.int)
        (fun d => match d with | .int x => decide (1000000000000000000 ≤ x) | _ => false) (fun d => match d with | .int x => .int (x - 1000000000000000000) | _ => .non) w (iSeq_ok (cut rfl) wk_fl) wks_ds (by rw [List.length_map]; omega)
        (fun d hd _ => by obtain ⟨c, _, rfl⟩ := List.mem_map.mp hd; rfl)
        (fun d hd S' _ _ => by
          obtain ⟨c, _, rfl⟩ := List.mem_map.mp hd
          exact ⟨_, rfl, tB_ok (eB_ok rfl p18' gGe_i), fun _ => eB_ok rfl p18' gSub_i⟩)
      have f1 : (((ms.map D.int).filter (fun d => match d with | .int x => decide (1000000000000000000 ≤ x) | _ => false)).map (fun d => match d with | .int x => D.int (x - 1000000000000000000) | _ => .non)) = gs.map D.int := by
        simp only [gs, List.filter_map, List.map_map]
        rfl
      rw [f1] at e1
      refine ws_set e1 ?_
      have e2 := lc_pu (fi := iSeq (fz (eSlX (eVar 0) (oNo) (oSo (eC (.int 63)))))) (g := tN 2) (t := tAll) (fe := eB gMod (eVar 2) (eC (.int 1000003))) (vs := [2]) (τ := [some d, some (.int t), x, some (.fl (gs.map D.int))]) (S := S') (ds := ms.map D.int)
        (fun _ => true) (fun d => match d with | .int x => .int (x % 1000003) | _ => .non) w (iSeq_ok (cut rfl) wk_fl) wks_ds (by rw [List.length_map]; omega)
        (fun d hd _ => by obtain ⟨c, _, rfl⟩ := List.mem_map.mp hd; rfl)
        (fun d hd S' _ _ => by
          obtain ⟨c, _, rfl⟩ := List.mem_map.mp hd
          exact ⟨_, rfl, rfl, fun _ => eB_ok rfl rfl (gMod_i (by decide))⟩)
      rw [filter_tt] at e2
      rw [show (ms.map D.int).map (fun d => match d with | .int x => D.int (x % 1000003) | _ => .non) = (ms.map (· % 1000003)).map D.int by rw [List.map_map, List.map_map]; rfl] at e2
      have e3 : fz (eLst (aCons (eC (.int 41)) (aNil))) [some d, some (.int t), x, some (.fl (gs.map D.int))] S' = some (.ok (.fl [.int 41]) S') := fz_list (a1_ok rfl) rfl w (by simp) rfl
      let cs := ms.map (· % 1000003) ++ [41]
      have e4 : gAdd (.fl ((ms.map (· % 1000003)).map D.int)) (.fl [.int 41]) S' = some (.fl (cs.map D.int), S') := by
        refine (gAdd_fl (by simp; omega)).trans ?_
        rw [show cs.map D.int = (ms.map (· % 1000003)).map D.int ++ [.int 41] by simp [cs]]
      refine ws_rt (eLst_ok (aCons_ok rfl (aCons_ok (eB_ok e2 e3 e4) (aCons_ok rfl (aCons_ok rfl aNil_ok)))) (by simp)) ⟨_, rfl, rfl, _, rfl, ⟨gs, cs, 0, t, get_last _ _, ?_, ?_, ?_, ?_, ?_, by omega, by omega, h0, h1⟩, wf_app w (by simp [bdO, bds, bd, bds_ints0])⟩
      · intro g hg
        obtain ⟨x, hx, rfl⟩ := List.mem_map.mp hg
        have := of_decide_eq_true (List.mem_filter.mp hx).2
        omega
      · show (List.map _ _).length ≤ _
        rw [List.length_map]
        exact Nat.le_trans (List.length_filter_le _ _) (by omega)
      · simp [cs]
      · simp [cs]; omega
      · intro x hx
        rcases List.mem_append.mp hx with z | z
        · obtain ⟨q, _, rfl⟩ := List.mem_map.mp z
          exact ⟨Int.emod_nonneg _ (by decide), Int.emod_lt_of_pos _ (by decide)⟩
        · rw [List.mem_singleton.mp z]; decide
  obtain ⟨d', S', e, rfl, o, rfl, h1, h2⟩ := fn_ws main
  exact ⟨o, e, h1, h2⟩
/-! ## pops drawn -/
theorem lc_rawg {fi : IF} {g : TF} {t : BF} {fe : EF} {vs : List Nat} {τ : Sl} {S S1 : Sto} {wk : Wk} {ds : List D} (J : Nat → List D → Sto → Prop) (hi : fi τ S = some (.ok wk S1)) (w : Wf S1) (hw : Wks wk ds fun _ => True)
    (hds : ds.length ≤ 100000) (hJ : ∀ i acc S' S'', (∀ j, j < S1.length → S''[j]? = S'[j]?) → J i acc S' → J i acc S'') (h0 : J 0 [] S1)
    (h : ∀ i acc S', (hi : i < ds.length) → J i acc S' → S'.length = S1.length + 1 → S'[S1.length]? = some (.lst acc) → Wf S' → ∃ τ1, g ds[i] S' (wipeD τ vs) = some τ1 ∧
       ∃ S2 y S'', t τ1 S' = some (.ok true S2) ∧ fe τ1 S2 = some (.ok y S'') ∧ S''.length = S1.length + 1 ∧ S''[S1.length]? = some (.lst acc) ∧ Wf S'' ∧ bd 0 y = true ∧ J (i + 1) (acc ++ [y]) S'') :
    ∃ S2 acc, eLc fi g t fe vs τ S = some (.ok (.loc S1.length) S2) ∧ S2[S1.length]? = some (.lst acc) ∧ J ds.length acc S2 ∧ S2.length = S1.length + 1 ∧ Wf S2 ∧ bds 0 acc = true := by
  obtain ⟨S', L, acc, hJ2, hlen, hat, hwf, hb, hle⟩ := goC_inv (nxt := wk.nxt) (g := g) (t := t) (fe := fe) (l := S1.length) (τ0 := wipeD τ vs) (n := ds.length)
    (fun i S' => ∃ acc, J i acc S' ∧ S'.length = S1.length + 1 ∧ S'[S1.length]? = some (.lst acc) ∧ Wf S' ∧ bds 0 acc = true ∧ acc.length ≤ i) (fun i => ds.getD i default)
    (fun i S' hi' ⟨acc, hj, hlen, hat, hwf, hb, hle⟩ => by
      have e3 := List.getElem?_eq_getElem hi'
      have e4 : ds.getD i default = ds[i] := by rw [List.getD_eq_getElem?_getD, e3]; rfl
      obtain ⟨τ1, h1, h2⟩ := h i acc S' hi' hj hlen hat hwf
      refine ⟨by rw [hw.nxt i _ trivial, e4, e3], τ1, by rw [e4]; exact h1, ?_⟩
      obtain ⟨S2, y, S'', h3, h4, l2, a2, w2, hy, hJ'⟩ := h2
      have hz := sizeLine_eq
      have hb' : bds 0 (acc ++ [y]) = true := bds_all.mpr fun d hd => by
        rcases List.mem_append.mp hd with q | q
        · exact bds_all.mp hb d q
        · simp at q; subst q; exact hy
      refine .inr ⟨S2, y, S'', acc, h3, h4, a2, by omega, acc ++ [y], hJ _ _ _ _ (fun j hj => List.getElem?_set_ne (by omega)) hJ', by rw [List.length_set]; exact l2, by rw [List.getElem?_set_self (by omega)], wf_set w2 (bds_mono (Nat.zero_le _) _ hb'), hb', by simp; omega⟩)
    (fun S' _ => by rw [hw.nxt _ _ trivial, List.getElem?_eq_none (Nat.le_refl _)]) (wk.bound + 1) 0 (S1 ++ [.lst []]) (Nat.zero_le _) (by have := hw.bound; omega)
    ⟨[], hJ _ _ _ _ (fun j hj => List.getElem?_append_left hj) h0, by simp, get_last _ _, wf_app w rfl, rfl, Nat.le_refl _⟩
  exact ⟨S', acc, by simp only [eLc, hi, L, Option.bind_some], hat, hJ2, hlen, hwf, hb⟩
theorem reel_pop {n k L x : Nat} {rest : List D} {τ : Sl} (w : Wf S) (h : Reel n k S) (hk : k < 2 ^ 40) (e : S[L]? = some (.lst rest)) (hL : L ≠ n) (h0 : 0 < rest.length) (h1 : rest.length ≤ 1000) (hr : τ[0]? = some (some (.loc n))) (hx : τ[x]? = some (some (.loc L))) (hb : bds 0 rest = true) :
    ∃ (v : Nat) (hv : v < rest.length) (S' : Sto), eBM "list" gPopAt (eVar x) (aCons (eCl (M_reel_draw) 2 (aCons (eVar 0) (aCons (eCB gLenX (aCons (eVar x) (aNil))) (aNil)))) (aNil)) τ S = some (.ok rest[v] S') ∧ S'.length = S.length ∧ S'[L]? = some (.lst (rest.eraseIdx v)) ∧ Reel n (k + 1) S' ∧ (∀ j, j ≠ n → j ≠ L → S'[j]? = S[j]?) ∧ Wf S' := by
  have hLl := (List.getElem?_eq_some_iff.mp e).1
  have hL' : gLenX [.loc L] S = some (.int (rest.length : Nat), S) := by simp [gLenX, gLen, seqD, e]
  obtain ⟨v, S1, e1, v1, sp, sm, w1⟩ := reel_drw (n := n) (k := k) (S := S) (j := 0) (τ := τ) (fm := eCB gLenX (aCons (eVar x) (aNil))) (b := rest.length) w hr (eCB_ok (a1_ok (eVar_at hx)) hL') h hk h0 (by
    have : (1000 : Nat) < 2 ^ 200 := by decide
    omega)
  have hr2 : S1[L]? = some (.lst rest) := (sm.at_ _ hL).trans e
  have e3 : gPopAt (.loc L) [.int (v : Nat)] S1 = some (rest[v], S1.set L (.lst (rest.eraseIdx v))) := by
    have c : -(2 ^ 63) ≤ ((v : Nat) : Int) ∧ ((v : Nat) : Int) < 2 ^ 63 := by omega
    have q1 : seqIndex? ((v : Nat) : Int) rest.length = some v := seqIx_nat v1
    simp only [gPopAt, listD, hr2, Option.bind_some, if_pos c, q1, List.getElem?_eq_getElem v1]
  refine ⟨v, v1, _, eBM_ok (eVar_at hx) (by simp [tyD, e]) (a1_ok e1) e3, by rw [List.length_set]; exact sm.len, List.getElem?_set_self (by rw [sm.len]; exact hLl), reel_src.fr (S := S1) sp (List.getElem?_set_ne hL), fun j hj hjL => ?_, wf_set w1 (bds_all.mpr fun d hd' => bd_mono (Nat.zero_le _) _ (bds_all.mp hb d (List.mem_of_mem_eraseIdx hd')))⟩
  rw [List.getElem?_set_ne (Ne.symm hjL), sm.at_ _ hj]
end Sb
end
section
set_option Elab.async false
set_option linter.all false
set_option maxRecDepth 100000
set_option maxHeartbeats 4000000
namespace Sb
open PySem PySem.Spec PyProof.Rows L2
variable {K : PySem.W.Frag} {S : Sto}
theorem gAdd_locs {m n : Nat} {ds es : List D} (h1 : S[m]? = some (.lst ds)) (h2 : S[n]? = some (.lst es)) (hl : ds.length + es.length ≤ 100000) : gAdd (.loc m) (.loc n) S = some (.loc S.length, S ++ [.lst (ds ++ es)]) := by
  have hz := sizeLine_eq
  simp only [gAdd, h1, h2]
  rw [if_pos (by omega)]
def nmsA : List Str := ("abcdefghijklmnopqrstuvwxyz" : Str).cps.toList.map fun c => ⟨#[c]⟩
def nmsX : List Str := ("abcdefghijkl" : Str).cps.toList.map fun c => "x" ++ ⟨#[c]⟩
def nmsE : List Str := (["abcdefgh", "zzzzzzzz"] : List String).map Str.ofString
theorem allR : (nmsA ++ nmsX ++ nmsE).Nodup ∧ (nmsA ++ nmsX ++ nmsE).length = 40 ∧ ∀ x ∈ nmsA ++ nmsX ++ nmsE, nmB x = true := by decide +kernel
theorem names_of_perm {acc rest : List D} {xs : List Str} (pr : (acc ++ rest).Perm (xs.map D.str)) (nd : xs.Nodup) : ∃ ys : List Str, acc = ys.map D.str ∧ ys.Nodup ∧ ∀ y ∈ ys, y ∈ xs := by
  have mem : ∀ d ∈ acc ++ rest, ∃ x ∈ xs, d = D.str x := fun d hd => by
    obtain ⟨x, hx, rfl⟩ := List.mem_map.mp (pr.mem_iff.mp hd)
    exact ⟨x, hx, rfl⟩
  let u : D → Str := fun d => match d with | .str x => x | _ => ""
  have back : ∀ l : List D, (∀ d ∈ l, ∃ x ∈ xs, d = D.str x) → l = (l.map u).map D.str := fun l h => by
    rw [List.map_map]
    conv => lhs; rw [← List.map_id l]
    refine List.map_congr_left fun d hd => ?_
    obtain ⟨x, _, rfl⟩ := h d hd
    rfl
  have p2 := pr.map u
  rw [List.map_map, List.map_append, show xs.map (u ∘ D.str) = xs from (List.map_congr_left fun _ _ => rfl).trans (List.map_id _)] at p2
  refine ⟨acc.map u, back acc fun d hd => mem d (List.mem_append_left _ hd), ?_, fun y hy => p2.mem_iff.mp (List.mem_append_left _ hy)⟩
  exact (List.nodup_append.mp (p2.nodup_iff.mpr nd)).1
end Sb
end
section
set_option Elab.async false
set_option linter.all false
set_option maxRecDepth 100000
set_option maxHeartbeats 4000000
namespace Sb
open PySem PySem.Spec PyProof.Rows L2
variable {K : PySem.W.Frag} {S : Sto}
theorem pow29N : gPow (.int 10) (.int 29) S = some (.int (10 ^ 29 : Nat), S) := by
  have : (0 : Int) ≤ 29 ∧ (29 : Int) ≤ 1000000 ∧ (10 : Int).natAbs < 2 ^ 64 := by decide
  simp only [gPow, gI, decide_eq_true this, if_true]
  rfl
abbrev natL (l : List Nat) : List Int := l.map fun i : Nat => (i : Int)
theorem natD {l : List Nat} : (natL l).map D.int = l.map fun i : Nat => D.int (i : Nat) := by rw [List.map_map]; rfl
theorem ix_natL {l : List Nat} {v : Nat} (h : v < l.length) : gIx (.fl ((natL l).map D.int)) (.int (v : Nat)) S = some (.int (l[v] : Nat), S) := by
  refine (ix_fints (is := natL l) (by simpa using h)).trans ?_
  congr 3
  rw [List.getD_eq_getElem?_getD, List.getElem?_map, List.getElem?_eq_getElem h]; rfl
theorem reel_depths_ok {n k m : Nat} (w : Wf S) (h : Reel n k S) (hk : k < 2 ^ 39) (hm0 : 1 ≤ m) (hm : m ≤ 40) :
    ∃ (ds : List Nat) (S' : Sto), M_reel_depths [.loc n, .int (m : Nat)] S = some (.ok (.loc S.length) S') ∧ S'[S.length]? = some (.lst ((natL ds).map D.int)) ∧ ds.length = m ∧ (∀ x ∈ ds, x < 10 ^ 30) ∧ Reel n (k + 200) S' ∧ Fr n S S' := by
  have hz := sizeLine_eq
  have hn := reel_src.lt h
  have main : Ws (m_reel_depths (ini 6 [.loc n, .int (m : Nat)]) S) fun fl S' => ∃ d, fl = .rt d ∧ d = .loc S.length ∧ ∃ ds : List Nat, S'[S.length]? = some (.lst ((natL ds).map D.int)) ∧ ds.length = m ∧ (∀ x ∈ ds, x < 10 ^ 30) ∧ Reel n (k + 200) S' ∧ Fr n S S' := by
    obtain ⟨kind, S1, e1, b1, sp1, sm1, w1⟩ := reel_drw (S := S) (j := 0) (τ := ini 6 [.loc n, .int (m : Nat)]) (fm := eC (.int 6)) (b := 6) w rfl rfl h (by omega) (by omega) (b200' (by omega))
    refine ws_set e1 ?_
    refine ws_set (eLst_ok aNil_ok (by simp)) ?_
    have l1 := sm1.len
    let τ0 : Option D → Option D → Sl := fun x4 x5 => [some (.loc n), some (.int (m : Nat)), some (.int (kind : Nat)), some (.loc S1.length), x4, x5]
    refine ws_for m (fun i τ S' => ∃ (ds : List Nat) (x4 x5 : Option D), τ = τ0 x4 x5 ∧ ds.length = i ∧ (∀ x ∈ ds, x < 10 ^ 30) ∧ S'.length = S.length + 1 ∧ S'[S.length]? = some (.lst ((natL ds).map D.int)) ∧ (∀ q, q ≠ n → q < S.length → S'[q]? = S[q]?) ∧ Reel n (k + 1 + 4 * i) S' ∧ Wf S') (fun i => .int (i : Nat)) (iRg1_ok (a1_ok rfl) (by omega)) (Nat.le_refl _)
      ⟨[], none, none, rfl, rfl, fun _ z => (by cases z), by simp [l1], by rw [← l1]; exact get_last _ _, fun q h1 h2 => by rw [List.getElem?_append_left (by omega)]; exact sm1.at_ q h1, reel_src.app sp1, wf_app w1 rfl⟩ ?_ (fun _ _ _ => rg_end) ?_
    · rintro i τ S' hi ⟨ds, x4, x5, rfl, ll, hd, len, hf, keep, sp, w'⟩
      refine ⟨rg_nxt hi, _, rfl, ?_⟩
      let τ1 : Sl := τ0 (some (.int (i : Nat))) x5
      obtain ⟨u1, T1, q1, c1, t1, s1, y1⟩ := reel_drw (S := S') (j := 0) (τ := τ1) (fm := eVar 1) (b := m) w' rfl rfl sp (by omega) (by omega) (b200' (by omega))
      obtain ⟨u2, T2, q2, c2, t2, s2, y2⟩ := reel_drw (S := T1) (j := 0) (τ := τ1) (fm := eC (.int 4)) (b := 4) y1 rfl rfl t1 (by omega) (by omega) (b200' (by omega))
      obtain ⟨u3, T3, q3, c3, t3, s3, y3⟩ := reel_drw (S := T2) (j := 0) (τ := τ1) (fm := eC (.int 4)) (b := 4) y2 rfl rfl t2 (by omega) (by omega) (b200' (by omega))
      let js : List Nat := [u1, u2, i + u3 - 1, min (i + 1) (m - 1)]
      have g1 : gMax [.int 0, .int (((i + u3 : Nat) : Int) - 1)] T3 = some (.int ((i + u3 - 1 : Nat) : Nat), T3) := by
        simp only [gMax, gMax2]
        congr 3; split <;> omega
      have g2 : gMin2 [.int ((i + 1 : Nat) : Nat), .int ((m - 1 : Nat) : Nat)] T3 = some (.int ((min (i + 1) (m - 1) : Nat) : Nat), T3) := by
        simp only [gMin2]
        congr 3; split <;> omega
      have Ea : fz (eLst (aCons (eCl (M_reel_draw) 2 (aCons (eVar 0) (aCons (eVar 1) (aNil)))) (aCons (eCl (M_reel_draw) 2 (aCons (eVar 0) (aCons (eC (.int 4)) (aNil)))) (aCons (eCB gMax (aCons (eC (.int 0)) (aCons (eB gSub (eB gAdd (eVar 4) (eCl (M_reel_draw) 2 (aCons (eVar 0) (aCons (eC (.int 4)) (aNil))))) (eC (.int 1))) (aNil)))) (aCons (eCB gMin2 (aCons (eB gAdd (eVar 4) (eC (.int 1))) (aCons (eB gSub (eVar 1) (eC (.int 1))) (aNil)))) (aNil)))))) τ1 S' = some (.ok (.fl ((natL js).map D.int)) T3) :=
        fz_list (aCons_ok q1 (aCons_ok q2 (aCons_ok (eCB_ok (a2_ok rfl (eB_ok (eB_ok rfl q3 gAdd_nat) rfl gSub_i)) g1) (aCons_ok (eCB_ok (a2_ok (eB_ok rfl rfl (gAdd_nat (i := i) (j := 1))) (eB_ok rfl rfl (gSub_nat (i := m) (j := 1) hm0))) g2) aNil_ok)))) ((s1.trans s2).trans s3).len y3 (by simp [js]) (bds_int (l := natL js))
      refine ws_set Ea ?_
      let τ2 : Sl := τ0 (some (.int (i : Nat))) (some (.fl ((natL js).map D.int)))
      obtain ⟨u4, T4, q4, c4, t4, s4, y4⟩ := reel_drw (S := T3) (j := 0) (τ := τ2) (fm := eC (.int 4)) (b := 4) y3 rfl rfl t3 (by omega) (by omega) (b200' (by omega))
      let ks : List Nat := [i, i + 1, 10 ^ 29, m]
      have Ek : fz (eLst (aCons (eVar 4) (aCons (eB gAdd (eVar 4) (eC (.int 1))) (aCons (eB gPow (eC (.int 10)) (eC (.int 29))) (aCons (eVar 1) (aNil)))))) τ2 T3 = some (.ok (.fl ((natL ks).map D.int)) T3) :=
        fz_list (aCons_ok rfl (aCons_ok (eB_ok rfl rfl (gAdd_nat (i := i) (j := 1))) (aCons_ok (eB_ok rfl rfl pow29N) (aCons_ok rfl aNil_ok)))) rfl y3 (by simp [ks]) (bds_int (l := natL ks))
      have Ex : eB gIx (fz (eLst (aCons (eVar 4) (aCons (eB gAdd (eVar 4) (eC (.int 1))) (aCons (eB gPow (eC (.int 10)) (eC (.int 29))) (aCons (eVar 1) (aNil))))))) (eCl (M_reel_draw) 2 (aCons (eVar 0) (aCons (eC (.int 4)) (aNil)))) τ2 T3 = some (.ok (.int (ks[u4] : Nat)) T4) := eB_ok Ek q4 (ix_natL (l := ks) (v := u4) (by show u4 < 4; omega))
      have gd : gDiv (.int (m : Nat)) (.int 2) T3 = some (.int ((m / 2 : Nat) : Nat), T3) := (gDiv_i (by decide) (by decide)).trans (by rw [Int.natCast_ediv]; rfl)
      have Eb : fz (eLst (aCons (eB gDiv (eVar 1) (eC (.int 2))) (aCons (eB gIx (fz (eLst (aCons (eVar 4) (aCons (eB gAdd (eVar 4) (eC (.int 1))) (aCons (eB gPow (eC (.int 10)) (eC (.int 29))) (aCons (eVar 1) (aNil))))))) (eCl (M_reel_draw) 2 (aCons (eVar 0) (aCons (eC (.int 4)) (aNil))))) (aNil)))) τ2 T3 = some (.ok (.fl ((natL [m / 2, ks[u4]]).map D.int)) T4) :=
        fz_list (a2_ok (eB_ok rfl rfl gd) Ex) s4.len y4 (by simp) (bds_int (l := natL [m / 2, ks[u4]]))
      refine ws_set (eB_ok rfl Eb (gAdd_fl (by simp [js]))) ?_
      have ej : (natL js).map D.int ++ (natL [m / 2, ks[u4]]).map D.int = (natL (js ++ [m / 2, ks[u4]])).map D.int := by simp
      rw [ej]
      have hq : kind < (js ++ [m / 2, ks[u4]]).length := by simp [js]; omega
      have hf4 : T4[S.length]? = some (.lst ((natL ds).map D.int)) := (s4.at_ _ (by omega)).trans ((s3.at_ _ (by omega)).trans ((s2.at_ _ (by omega)).trans ((s1.at_ _ (by omega)).trans hf)))
      have lT : T4.length = S.length + 1 := by rw [s4.len, s3.len, s2.len, s1.len]; exact len
      have hle : ((natL ds).map D.int).length < sizeLine := by simp; omega
      have ap : gAppend (.loc S.length) [.int ((js ++ [m / 2, ks[u4]])[kind] : Nat)] T4 = some (.non, T4.set S.length (.lst ((natL ds).map D.int ++ [.int ((js ++ [m / 2, ks[u4]])[kind] : Nat)]))) := by
        simp only [gAppend, listD, hf4, Option.bind_some, if_pos hle]
      have hkq : ∀ x ∈ ks, x < 10 ^ 30 := fun x hx => by
        simp only [ks, List.mem_cons, List.not_mem_nil, or_false] at hx
        rcases hx with rfl | rfl | rfl | rfl <;> omega
      have hlt : (js ++ [m / 2, ks[u4]])[kind] < 10 ^ 30 := by
        have hall : ∀ x ∈ js ++ [m / 2, ks[u4]], x < 10 ^ 30 := fun x hx => by
          rcases List.mem_append.mp hx with z | z
          · simp only [js, List.mem_cons, List.not_mem_nil, or_false] at z
            rcases z with rfl | rfl | rfl | rfl <;> omega
          · simp only [List.mem_cons, List.not_mem_nil, or_false] at z
            rcases z with rfl | rfl
            · omega
            · exact hkq _ (List.getElem_mem _)
        exact hall _ (List.getElem_mem _)
      refine ⟨_, _, sEx_ok (eBM_ok (x := .loc S.length) (by show some _ = _; rw [l1]) (ty_list hf4) (a1_ok (eB_ok rfl rfl (ix_natL hq))) ap), ds ++ [(js ++ [m / 2, ks[u4]])[kind]], _, _, rfl, by simp [ll], fun x hx => ?_, by rw [List.length_set]; exact lT, ?_, fun q h1 h2 => ?_, reel_src.mono (reel_src.fr (S := T4) t4 (List.getElem?_set_ne (by omega))) (by omega), wf_set y4 ?_⟩
      · rcases List.mem_append.mp hx with z | z
        · exact hd x z
        · rw [List.mem_singleton.mp z]; exact hlt
      · rw [List.getElem?_set_self (by omega)]
        simp
      · rw [List.getElem?_set_ne (by omega), s4.at_ q h1, s3.at_ q h1, s2.at_ q h1, s1.at_ q h1]
        exact keep q h1 h2
      · show bds _ _ = true
        rw [show (natL ds).map D.int ++ [D.int ((js ++ [m / 2, ks[u4]])[kind] : Nat)] = (natL (ds ++ [(js ++ [m / 2, ks[u4]])[kind]])).map D.int by simp]
        exact bds_int
    · rintro τ S' ⟨ds, x4, x5, rfl, ll, hd, len, hf, keep, sp, w'⟩
      exact ws_rt rfl ⟨_, rfl, by rw [l1], ds, hf, ll, hd, reel_src.mono sp (by omega), ⟨by omega, fun i h1 h2 => keep i h1 h2⟩⟩
  obtain ⟨d, S', e, rfl, ds, h1⟩ := fn_ws main
  exact ⟨ds, S', e, h1⟩
end Sb
end
section
set_option Elab.async false
set_option linter.all false
set_option maxRecDepth 100000
set_option maxHeartbeats 4000000
namespace Sb
open PySem PySem.Spec PyProof.Rows L2
variable {K : PySem.W.Frag} {S : Sto}
theorem reel_reach_ok {l : List Card} {c : Card} (h : 0 ≤ c.2) (hl : 1 ≤ l.length) : M_reel_reach [dK l, dC c] S = some (.ok (.int (rch l.length c : Nat)) S) := by
  have e1 : gIx (dC c) (.int 1) S = some (.int c.2, S) := by simp [gIx, seqD, atI, ixN]
  exact fnM_rt (sRt_ok (eCB_ok (a2_ok (eB_ok rfl rfl e1) (eB_ok (eCB_ok (a1_ok rfl) len_deck) rfl (gSub_nat (i := l.length) (j := 1) hl))) (min_rch h hl)))
theorem reel_slid_ok {l : List Card} (h : DeckOk l) : M_reel_slid [dK l] S = some (.ok (dK (stp l)) S) := by
  obtain ⟨c, r, rfl, h1, h2, _⟩ := h.cons
  have e0 : gIx (dK (c :: r)) (.int 0) S = some (dC c, S) := by simp [gIx, seqD, atI, ixN]
  have em := reel_reach_ok (S := S) (l := c :: r) (c := c) h2 (by simp)
  rw [List.length_cons] at em
  have hk : rch (r.length + 1) c = min c.2.toNat r.length := rfl
  generalize rch (r.length + 1) c = k at em hk
  have hkl : k ≤ r.length := by omega
  have s1 : gSl (dK (c :: r)) (some 1) (some ((k + 1 : Nat) : Int)) S = some (dK (r.take k), S) := sl_deck (by
    have := cut_nat (l := c :: r) (a := 1) (b := k + 1)
    rw [show ((1 : Nat) : Int) = 1 from rfl] at this
    rw [this, List.length_cons, Nat.min_eq_left (by omega : 1 ≤ r.length + 1), Nat.min_eq_left (by omega : k + 1 ≤ r.length + 1)]
    simp)
  have s2 : gSl (dK (c :: r)) none (some 1) S = some (dK [c], S) := sl_deck (by
    have := cut_to (l := c :: r) (b := 1)
    rw [show ((1 : Nat) : Int) = 1 from rfl] at this
    rw [this]; simp)
  have s3 : gSl (dK (c :: r)) (some ((k + 1 : Nat) : Int)) none S = some (dK (r.drop k), S) := sl_deck (by rw [cut_from]; simp)
  have t1 : gAdd (dK (r.take k)) (dK [c]) S = some (dK (r.take k ++ [c]), S) := tup_add (by simp; omega)
  have t2 : gAdd (dK (r.take k ++ [c])) (dK (r.drop k)) S = some (dK (r.take k ++ [c] ++ r.drop k), S) := tup_add (by simp; omega)
  have e9 : stp (c :: r) = r.take k ++ [c] ++ r.drop k := by simp only [stp, hk, List.append_assoc, List.singleton_append]
  rw [e9]
  refine fnM_rt ?_
  refine (sSeq_nx (sSet_ok (eCl_ok (a2_ok rfl (eB_ok rfl rfl e0)) rfl em))).trans ?_
  have ek : (eB gAdd (eVar 1) (eC (.int 1))) [some (dK (c :: r)), some (.int (k : Nat))] S = some (.ok (.int ((k + 1 : Nat) : Nat)) S) := eB_ok rfl rfl gAdd_nat
  exact sRt_ok (eB_ok (eB_ok (eSlX_ok rfl (oSo_ok rfl) (oSo_ok ek) s1) (eSlX_ok rfl rfl (oSo_ok rfl) s2) t1) (eSlX_ok rfl (oSo_ok ek) rfl s3) t2)
/-! ## dressed -/
def Dr1 (c : Card) (e : D) : Prop := e = dC c ∨ e = cF c
def DrsX (l : List Card) (d : D) : Prop := ∃ es : List D, (d = .tup es ∨ d = .fl es) ∧ es.length = l.length ∧ ∀ (i : Nat) (e : D) (c : Card), es[i]? = some e → l[i]? = some c → Dr1 c e
theorem DrsX.deck {l : List Card} {d : D} (h : DrsX l d) (S : Sto) : isDeck S d l := by
  obtain ⟨es, h1, h2, h3⟩ := h
  exact ⟨es, h1.imp id .inl, h2, fun i e c a b => (h3 i e c a b).imp id .inl⟩
theorem DrsX.bd {l : List Card} {d : D} (h : DrsX l d) {k : Nat} : bd k d = true := by
  obtain ⟨es, h1, h2, h3⟩ := h
  have : bds k es = true := bds_all.mpr fun e he => by
    obtain ⟨i, hi, rfl⟩ := List.getElem_of_mem he
    rcases h3 i _ _ (List.getElem?_eq_getElem hi) (List.getElem?_eq_getElem (by omega)) with q | q <;> rw [q] <;> rfl
  rcases h1 with rfl | rfl <;> simpa [Sb.bd] using this
theorem dressed_str {q n : Nat} {x : Str} : M_reel_dressed (q + 1) [.loc n, .str x] S = some (.ok (.str x) S) := by
  refine fnM_rt ((sSeq_nx (sIf_f (tB_ok (eIs_ok rfl rfl kb_str_tuple)))).trans (sRt_ok rfl))
theorem dressed_int {q n : Nat} {i : Int} : M_reel_dressed (q + 1) [.loc n, .int i] S = some (.ok (.int i) S) := by
  refine fnM_rt ((sSeq_nx (sIf_f (tB_ok (eIs_ok rfl rfl kb_int_tuple)))).trans (sRt_ok rfl))
/-- the end: a list or a tuple, as drawn -/
theorem dressed_end {n k : Nat} {es : List D} {d : D} {x3 : Option D} (w : Wf S) (h : Reel n k S) (hk : k < 2 ^ 40) : ∃ (e : D) (S' : Sto), (eIf (tB (eB (gEq false) (eCl (M_reel_draw) 2 (aCons (eVar 0) (aCons (eC (.int 2)) (aNil)))) (eC (.int 0)))) (eVar 2) (eCB gTuple (aCons (eVar 2) (aNil)))) [some (.loc n), some d, some (.fl es), x3] S = some (.ok e S') ∧ (e = .fl es ∨ e = .tup es) ∧ Reel n (k + 1) S' ∧ Sm n S S' ∧ Wf S' := by
  obtain ⟨v, S1, e1, b1, sp1, sm1, w1⟩ := reel_drw (S := S) (j := 0) (τ := [some (.loc n), some d, some (.fl es), x3]) (fm := eC (.int 2)) (b := 2) w rfl rfl h hk (by omega) (b200' (by omega))
  have t := tB_ok (eB_ok (fb := eC (.int ((0 : Nat) : Nat))) e1 rfl (gEq_nat (S := S1) (neg := false) (i := v) (j := 0)))
  by_cases z : v = 0
  · exact ⟨.fl es, S1, eIf_t (t.trans (by simp [z])) rfl, .inl rfl, sp1, sm1, w1⟩
  · exact ⟨.tup es, S1, eIf_f (t.trans (by simp [z])) (eCB_ok (a1_ok rfl) rfl), .inr rfl, sp1, sm1, w1⟩
theorem dressed_card {q n k : Nat} {c : Card} (w : Wf S) (h : Reel n k S) (hk : k < 2 ^ 40) : ∃ (e : D) (S' : Sto), M_reel_dressed (q + 2) [.loc n, dC c] S = some (.ok e S') ∧ Dr1 c e ∧ Reel n (k + 1) S' ∧ Sm n S S' ∧ Wf S' := by
  have e1 := lc_pu (fi := iSeq (eVar 1)) (g := tN 3) (t := tAll) (fe := fz (eCl (M_reel_dressed (q + 1)) 2 (aCons (eVar 0) (aCons (eVar 3) (aNil))))) (vs := [3]) (τ := [some (.loc n), some (dC c), none, none]) (S := S) (ds := [.str c.1, .int c.2])
    (fun _ => true) (fun d => d) w (iSeq_ok rfl wk_tup) wks_ds (by simp)
    (fun d hd _ => by
      simp at hd
      rcases hd with rfl | rfl <;> rfl)
    (fun d hd S' w' _ => by
      refine ⟨_, rfl, rfl, fun _ => ?_⟩
      simp at hd
      rcases hd with rfl | rfl
      · exact fz_same w' (eCl_ok (a2_ok rfl rfl) rfl dressed_str) rfl
      · exact fz_same w' (eCl_ok (a2_ok rfl rfl) rfl dressed_int) rfl)
  rw [filter_tt, List.map_id'] at e1
  obtain ⟨e, S1, e2, he, sp1, sm1, w1⟩ := dressed_end (es := [.str c.1, .int c.2]) (d := dC c) (x3 := none) w h hk
  refine ⟨e, S1, fnM_rt ((sSeq_rt ((sIf_t (tB_ok (eIs_ok rfl rfl kb_tuple_tuple))).trans ((sSeq_nx (sSet_ok e1)).trans (sRt_ok e2))))), ?_, sp1, sm1, w1⟩
  rcases he with rfl | rfl
  · exact .inr rfl
  · exact .inl rfl
theorem reel_dressed_ok {q n k : Nat} {l : List Card} (w : Wf S) (h : Reel n k S) (hk : k < 2 ^ 39) (hl : l.length ≤ 40) : ∃ (e : D) (S' : Sto), M_reel_dressed (q + 3) [.loc n, dK l] S = some (.ok e S') ∧ DrsX l e ∧ Reel n (k + l.length + 1) S' ∧ Sm n S S' ∧ Wf S' := by
  have hn := reel_src.lt h
  obtain ⟨S1, acc, e1, ⟨hb, hal, ha, fr⟩, l1, w1, _⟩ := lc_gen (fi := iSeq (eVar 1)) (g := tN 3) (t := tAll) (fe := fz (eCl (M_reel_dressed (q + 2)) 2 (aCons (eVar 0) (aCons (eVar 3) (aNil))))) (vs := [3])
    (τ := [some (.loc n), some (dK l), none, none]) (S := S) (S1 := S) (ds := l.map dC)
    (fun i acc S' => Reel n (k + i) S' ∧ acc.length = i ∧ (∀ (j : Nat) (e : D) (c : Card), acc[j]? = some e → l[j]? = some c → Dr1 c e) ∧ ∀ j, j < S.length → j ≠ n → S'[j]? = S[j]?)
    (iSeq_ok rfl wk_tup) rfl w wks_ds (by rw [List.length_map]; omega)
    (fun i acc S' S'' q ⟨hb, a, b, fr⟩ => ⟨reel_src.fr hb (q n hn), a, b, fun j hj hjn => (q j hj).trans (fr j hj hjn)⟩)
    ⟨h, rfl, fun j e c z => by simp at z, fun _ _ _ => rfl⟩
    (fun acc S' ⟨hb, a, b, fr⟩ hlen => Sm.wfk reel_src w (by omega) (fun i h1 h2 => fr i h2 h1) hb)
    (fun i acc S' hi ⟨hb, a, b, fr⟩ hlen hat hwf => by
      have hi2 : i < l.length := by simpa using hi
      refine ⟨_, rfl, .inr ?_⟩
      obtain ⟨e, S2, e2, d1, sp, sm, w2⟩ := dressed_card (q := q) (n := n) (k := k + i) (c := l[i]) hwf hb (by omega)
      have hbd : bd S'.length e = true := by rcases d1 with rfl | rfl <;> rfl
      obtain ⟨S3, e3, sm3, sp3, w3⟩ := reel_src.fz (f := eCl (M_reel_dressed (q + 2)) 2 (aCons (eVar 0) (aCons (eVar 3) (aNil)))) (τ := [some (.loc n), some (dK l), none, some ((l.map dC)[i])]) hwf (eCl_ok (a2_ok rfl rfl) rfl (by rw [List.getElem_map]; exact e2)) sm.fr sp (reel_src.lt hb) hbd
      refine ⟨S', e, S3, rfl, e3, by rw [sm3.len]; exact hlen, by rw [sm3.at_ _ (by omega)]; exact hat, w3, by rcases d1 with rfl | rfl <;> rfl, sp3, by simp [a], fun j e' c h1 h2 => ?_, fun j hj hjn => (sm3.at_ j hjn).trans (fr j hj hjn)⟩
      by_cases z : j < acc.length
      · rw [List.getElem?_append_left z] at h1
        exact b j e' c h1 h2
      · rw [List.getElem?_append_right (by omega)] at h1
        have : j = i := by
          have := (List.getElem?_eq_some_iff.mp h1).1
          simp at this
          omega
        subst this
        rw [a, Nat.sub_self] at h1
        cases h1
        rw [List.getElem?_eq_getElem hi2] at h2
        cases h2
        exact d1)
  rw [List.length_map] at hb hal
  obtain ⟨e, S2, e2, he, sp2, sm2, w2⟩ := dressed_end (es := acc) (d := dK l) (x3 := none) w1 hb (by omega)
  refine ⟨e, S2, fnM_rt ((sSeq_rt ((sIf_t (tB_ok (eIs_ok rfl rfl kb_tuple_tuple))).trans ((sSeq_nx (sSet_ok e1)).trans (sRt_ok e2))))), ⟨acc, he.symm, by omega, ha⟩, sp2, Sm.trans ⟨l1, fun i hi => ?_⟩ sm2, w2⟩
  by_cases z : i < S.length
  · exact fr i z hi
  · rw [List.getElem?_eq_none (by omega), List.getElem?_eq_none (by omega)]
end Sb
end
section
set_option Elab.async false
set_option linter.all false
set_option maxRecDepth 100000
set_option maxHeartbeats 4000000
namespace Sb
open PySem PySem.Spec PyProof.Rows L2
variable {K : PySem.W.Frag} {S : Sto}
theorem zip_cards : ∀ {xs : List Str} {ds : List Nat}, zipD (xs.map D.str) ((natL ds).map D.int) = (xs.zip (natL ds)).map dC
  | [], _ => by simp [zipD]
  | _ :: _, [] => by simp [zipD]
  | x :: xs, d :: ds => by
    have := zip_cards (xs := xs) (ds := ds)
    simp only [zipD] at this ⊢
    simp only [List.map_cons, List.zipWith_cons_cons, List.zip_cons_cons, this, natL]
theorem cards_of_perm {acc rest : List D} {l : List Card} (pr : (acc ++ rest).Perm (l.map dC)) (hr : rest.length = 0) : ∃ m : List Card, acc = m.map dC ∧ m.Perm l := by
  have : rest = [] := List.eq_nil_of_length_eq_zero hr
  subst this
  rw [List.append_nil] at pr
  let u : D → Card := fun d => match d with | .tup [.str x, .int i] => (x, i) | _ => default
  have p2 := pr.map u
  rw [List.map_map, show l.map (u ∘ dC) = l from (List.map_congr_left fun _ _ => rfl).trans (List.map_id _)] at p2
  refine ⟨acc.map u, ?_, p2⟩
  rw [List.map_map]
  conv => lhs; rw [← List.map_id acc]
  refine List.map_congr_left fun d hd => ?_
  obtain ⟨x, _, rfl⟩ := List.mem_map.mp (pr.mem_iff.mp hd)
  rfl
theorem deck_perm {l m : List Card} (ok : DeckOk l) (p : m.Perm l) : DeckOk m :=
  ⟨by rw [p.length_eq]; exact ok.lo, by rw [p.length_eq]; exact ok.hi, fun c hc => ok.nm c (p.mem_iff.mp hc), fun c hc => ok.dep c (p.mem_iff.mp hc), (p.map _).nodup_iff.mpr ok.nd⟩
end Sb
end
section
set_option Elab.async false
set_option linter.all false
set_option maxRecDepth 100000
set_option maxHeartbeats 4000000
namespace Sb
open PySem PySem.Spec PyProof.Rows L2
variable {K : PySem.W.Frag} {S : Sto}
/-! ## the program's rows, stretches, decks far on -/
/-- stretches of a deck: head, level, length -/
abbrev Strt := List Card × Nat × Option Nat
theorem aw_head {l : List Card} {q : Nat} {r : List Nat} (ok : DeckOk l) (h : aw l = q :: r) : q < clo l ∧ ra l q < q ∧ HomeTo l q := by
  have A := clo_is ok.lo
  have hq : (aw l)[0]? = some q := by rw [h]; rfl
  unfold aw at hq
  obtain ⟨h1, h2, h3⟩ := filt_at _ _ _ hq
  have h2' : ¬ (q ≤ ra l q) := by simpa using h2
  refine ⟨h1, by omega, by have := A.hi; omega, fun i hi => ?_⟩
  have h4 := List.eq_nil_of_length_eq_zero h3
  rw [List.filter_eq_nil_iff] at h4
  have := h4 i (List.mem_range.mpr hi)
  simpa using this
theorem aw_nil {l : List Card} (ok : DeckOk l) (h : aw l = []) : HomeTo l (clo l - 1) ∧ ∀ s, Within l (clo l - 1) s := by
  have A := clo_is ok.lo
  have h1 := A.lo
  have h2 := A.hi
  unfold aw at h
  rw [List.filter_eq_nil_iff] at h
  have hom : ∀ i, i < clo l → i ≤ ra l i := fun i hi => by
    have := h i (List.mem_range.mpr hi)
    simpa using this
  have both : ∀ (n : Nat) (k : List Card), k.length = l.length → (∀ i, i < clo l → i ≤ ra k i ∧ ra k i < clo l) → (∀ i, i < clo l → i ≤ ra (stps n k) i ∧ ra (stps n k) i < clo l) := by
    intro n
    induction n with
    | zero => exact fun k _ hk => hk
    | succ n ih =>
      intro k hkl hk
      rw [stps_front]
      have hl : 1 ≤ k.length := by rw [hkl]; exact ok.lo
      refine ih (stp k) (by rw [stp_len]; exact hkl) fun i hi => ?_
      have h0 := (hk 0 (by omega)).2
      rw [ra_stp hl]
      split
      · rename_i q
        have := hk (i + 1) (by omega); omega
      · split
        · rename_i q; omega
        · exact hk i hi
  have all := both
  refine ⟨⟨by omega, fun i hi => hom i (by omega)⟩, fun s t ht => .inr ?_⟩
  have := both t l rfl fun i hi => ⟨hom i hi, A.all i hi⟩
  have a := this (clo l - 1) (by omega)
  have b := this 0 (by omega)
  omega
/-! ### stretches gone -/
end Sb
end
section
set_option Elab.async false
set_option linter.all false
set_option maxRecDepth 100000
set_option maxHeartbeats 4000000
namespace Sb
open PySem PySem.Spec PyProof.Rows L2
variable {K : PySem.W.Frag} {S : Sto}
end Sb
end
section
set_option Elab.async false
set_option linter.all false
set_option maxRecDepth 100000
set_option maxHeartbeats 4000000
namespace Sb
open PySem PySem.Spec PyProof.Rows L2
variable {K : PySem.W.Frag} {S : Sto}
theorem turns9 {τ : Sl} {S : Sto} (x y : Nat) {i : Nat} {d : D} {m : Nat} (hxy : x + y ≤ 1000) (h : gLenX [d] S = some (.int (m : Nat), S)) (hv : eVar i τ S = some (.ok d S)) : ∃ T : Nat, T ≤ x + y ∧ iRg1 (aCons (eB gAdd (eC (.int (x : Nat))) (eCB gMin2 (aCons (eCB gLenX (aCons (eVar i) (aNil))) (aCons (eC (.int (y : Nat))) (aNil))))) (aNil)) τ S = some (.ok (wkR 0 T) S) := by
  refine ⟨x + min m y, by omega, iRg1_ok (a1_ok (eB_ok rfl (eCB_ok (a2_ok (eCB_ok (a1_ok hv) h) rfl) (d := .int (min m y : Nat)) (S2 := S) ?_) ?_)) ?_⟩
  · simp only [gMin2]
    congr 3; split <;> omega
  · rw [gAdd_i]; congr 3
  · omega
theorem reel_dressed_fz {q n k : Nat} {τ : Sl} {a : AF} {S : Sto} {l : List Card} (w : Wf S) (h : Reel n k S) (hk : k < 2 ^ 38) (hl : l.length ≤ 40) (ha : a τ S = some (.ok [.loc n, dK l] S)) :
    ∃ (S' : Sto) (e : D), fz (eCl (M_reel_dressed (q + 3)) 2 a) τ S = some (.ok e S') ∧ DrsX l e ∧ Reel n (k + 41) S' ∧ Sm n S S' ∧ Wf S' := by
  obtain ⟨e, S1, e1, hd, sp, sm, w1⟩ := reel_dressed_ok (q := q) w h (by omega) hl
  obtain ⟨S2, e2, sm2, sp2, w2⟩ := reel_src.fz (τ := τ) (f := eCl (M_reel_dressed (q + 3)) 2 a) w (eCl_ok ha rfl e1) sm.fr sp (reel_src.lt h) hd.bd
  exact ⟨S2, e, e2, hd, reel_src.mono sp2 (by omega), sm2, w2⟩
theorem gMax_fl {ns : List Int} (hne : ns ≠ []) : gMax [.fl (ns.map D.int)] S = some (.int (maxI ns), S) := by
  show gMax1 [.fl (ns.map D.int)] S = _
  have e : seqD S (.fl (ns.map D.int)) = some (ns.map D.int) := rfl
  simp only [gMax1, e, Option.bind_some, ints_of, if_neg hne]
end Sb
end
section
set_option Elab.async false
set_option linter.all false
set_option maxRecDepth 100000
set_option maxHeartbeats 4000000
namespace Sb
open PySem PySem.Spec PyProof.Rows L2
variable {K : PySem.W.Frag} {S : Sto}
/-! ## a ring told: its size, the names at its phases, its holes -/
end Sb
end
section
set_option Elab.async false
set_option linter.all false
set_option maxRecDepth 100000
set_option maxHeartbeats 4000000
namespace Sb
open PySem PySem.Spec PyProof.Rows L2
variable {K : PySem.W.Frag} {S : Sto}
theorem wks_rg2 {a N : Nat} {P : Sto → Prop} : Wks (wkR (a : Nat) N) ((List.range N).map fun i : Nat => D.int (a + i : Nat)) P := ⟨fun i S _ => by
  show (if i < N then _ else _) = _
  by_cases q : i < N
  · rw [if_pos q, List.getElem?_map, List.getElem?_range q]
    simp only [Option.map_some]
    congr 3
  · rw [if_neg q, List.getElem?_eq_none (by simp; omega)], by simp [wkR]⟩
theorem filter_head {P : Nat → Bool} {n k : Nat} (hk : k < n) (h1 : P k = true) (h2 : ∀ j, j < k → P j = false) : ∃ r, (List.range n).filter P = k :: r := by
  obtain ⟨b, rfl⟩ : ∃ b, n = k + (b + 1) := ⟨n - k - 1, by omega⟩
  refine ⟨((List.range b).map fun i => k + (i + 1)).filter P, ?_⟩
  rw [List.range_add, List.filter_append, List.range_succ_eq_map, List.map_cons, Nat.add_zero, List.filter_cons_of_pos h1, List.map_map]
  have : (List.range k).filter P = [] := List.filter_eq_nil_iff.mpr fun j hj => by simp [h2 j (List.mem_range.mp hj)]
  rw [this, List.nil_append]
  rfl
theorem reaches_ok {l : List Card} {τ : Sl} (w : Wf S) (ok : DeckOk l) (h : τ = [some (dK l), none, none, none]) : fz (eLc (iSeq (eVar 0)) (tN 2) (tAll) (eCl (M_reel_reach) 2 (aCons (eVar 0) (aCons (eVar 2) (aNil)))) [2]) τ S = some (.ok (.fl ((l.map fun c : Card => ((rch l.length c : Nat) : Int)).map D.int)) S) := by
  subst h
  have h2 := ok.hi
  have e := lc_pu (fi := iSeq (eVar 0)) (g := tN 2) (t := tAll) (fe := eCl (M_reel_reach) 2 (aCons (eVar 0) (aCons (eVar 2) (aNil)))) (vs := [2]) (τ := [some (dK l), none, none, none]) (S := S) (ds := l.map dC)
    (fun _ => true) (fun d => match d with | .tup [.str x, .int i] => .int (rch l.length (x, i) : Nat) | _ => .non) w (iSeq_ok rfl wk_tup) wks_ds (by simp; omega)
    (fun d hd _ => by obtain ⟨c, _, rfl⟩ := List.mem_map.mp hd; rfl)
    (fun d hd S'' _ _ => by
      obtain ⟨c, hc, rfl⟩ := List.mem_map.mp hd
      exact ⟨_, rfl, rfl, fun _ => eCl_ok (a2_ok rfl rfl) rfl (reel_reach_ok (ok.dep c hc) ok.lo)⟩)
  rw [filter_tt, List.map_map] at e
  rw [e, List.map_map]
  rfl
theorem reel_closed_ok {l : List Card} (w : Wf S) (ok : DeckOk l) : M_reel_closed [dK l] S = some (.ok (.int (clo l : Nat)) S) := by
  have h1 := ok.lo
  have h2 := ok.hi
  have A := clo_is h1
  refine fn_wt ?_
  refine ws_set (reaches_ok w ok rfl) ?_
  let rs : List Int := l.map fun c : Card => ((rch l.length c : Nat) : Int)
  let P : Nat → Bool := fun i => decide (maxI (rs.take (1 + i)) < ((1 + i : Nat) : Int))
  have mx : ∀ i, i < l.length → rs.take (1 + i) ≠ [] := fun i hi z => by
    have := congrArg List.length z
    simp only [rs, List.length_take, List.length_map, List.length_nil] at this
    omega
  have e := lc_pu (fi := iRg2 (aCons (eC (.int 1)) (aCons (eB gAdd (eCB gLenX (aCons (eVar 0) (aNil))) (eC (.int 1))) (aNil)))) (g := tN 3) (t := tB (eB gLtI (eCB gMax (aCons (eSlX (eVar 1) (oNo) (oSo (eVar 3))) (aNil))) (eVar 3))) (fe := eVar 3) (vs := [3]) (τ := [some (dK l), some (.fl (rs.map D.int)), none, none]) (S := S) (ds := (List.range l.length).map fun i : Nat => D.int (1 + i : Nat))
    (fun d => match d with | .int i => P (i - 1).toNat | _ => false) id w ((iRg2_ok (a := 1) (b := l.length + 1) (a2_ok rfl (eB_ok (eCB_ok (a1_ok rfl) len_deck) rfl (gAdd_nat (i := l.length) (j := 1)))) (by omega) (by omega)).trans (by rw [Nat.add_sub_cancel])) wks_rg2 (by simp; omega)
    (fun d hd _ => by obtain ⟨c, _, rfl⟩ := List.mem_map.mp hd; rfl)
    (fun d hd S' _ _ => by
      obtain ⟨i, hi, rfl⟩ := List.mem_map.mp hd
      have hi := List.mem_range.mp hi
      refine ⟨_, rfl, ?_, fun _ => rfl⟩
      have e1 : gSlX (.fl (rs.map D.int)) none (some ((1 + i : Nat) : Int)) S' = some (.fl ((rs.take (1 + i)).map D.int), S') := slX_fl.trans (cut_fl.trans (by rw [List.map_take]))
      refine (tB_ok (eB_ok (eCB_ok (a1_ok (eSlX_ok rfl rfl (oSo_ok rfl) e1)) (gMax_fl (mx i hi))) rfl gLt_i)).trans ?_
      have : (((1 + i : Nat) : Int) - 1).toNat = i := by omega
      show _ = some (Rs.ok (P (((1 + i : Nat) : Int) - 1).toNat) S')
      rw [this])
  have key : ∀ i, i < l.length → (P i = true ↔ ∀ j, j < 1 + i → ra l j < 1 + i) := fun i hi => by
    simp only [P, decide_eq_true_eq]
    rw [maxI_lt (mx i hi)]
    constructor
    · intro q j hj
      have := q _ (show ((rch l.length (at0 l j) : Nat) : Int) ∈ rs.take (1 + i) by
        refine List.mem_take_iff_getElem.mpr ⟨j, by simp [rs]; omega, ?_⟩
        simp only [rs, List.getElem_map]
        rw [at0_eq (by omega)])
      show rch l.length (at0 l j) < 1 + i
      omega
    · intro q x hx
      obtain ⟨j, hj, rfl⟩ := List.mem_take_iff_getElem.mp hx
      simp only [rs, List.length_map] at hj
      have := q j (by omega)
      simp only [rs, List.getElem_map]
      rw [← at0_eq (by omega)]
      show ((ra l j : Nat) : Int) < _
      omega
  have hlo := A.lo
  have hhi := A.hi
  obtain ⟨r, hr⟩ := filter_head (P := P) (n := l.length) (k := clo l - 1) (by omega) ((key _ (by omega)).mpr fun j hj => by
    have := A.all j (by omega)
    omega) (fun j hj => by
    cases z : P j with
    | false => rfl
    | true =>
      obtain ⟨i, hi, hri⟩ := A.no (1 + j) (by omega) (by omega)
      have := (key j (by omega)).mp z i hi
      omega)
  have f1 : ((List.range l.length).map fun i : Nat => D.int (1 + i : Nat)).filter (fun d => match d with | .int i => P (i - 1).toNat | _ => false) = ((List.range l.length).filter P).map fun i : Nat => D.int (1 + i : Nat) := by
    clear e hr key mx
    generalize P = P
    rw [List.filter_map]
    have : (List.range l.length).filter ((fun d => match d with | .int i => P (i - 1).toNat | _ => false) ∘ fun i : Nat => D.int (1 + i : Nat)) = (List.range l.length).filter P := List.filter_congr fun i _ => by
      show P (((1 + i : Nat) : Int) - 1).toNat = P i
      have q : (((1 + i : Nat) : Int) - 1).toNat = i := by omega
      rw [q]
    rw [this]
  rw [f1, hr, List.map_id, List.map_cons, show 1 + (clo l - 1) = clo l by omega] at e
  exact ws_rt (eB_ok e rfl ix_head) ⟨rfl, rfl⟩
theorem reel_away_ok {l : List Card} (w : Wf S) (ok : DeckOk l) : M_reel_away [dK l] S = some (.ok (.fl ((natL (aw l)).map D.int)) S) := by
  refine fnM_rt (sRt_ok ?_)
  have hc := clo_le ok
  have h2 := ok.hi
  have e := lc_pu (fi := iRg1 (aCons (eCl (M_reel_closed) 1 (aCons (eVar 0) (aNil))) (aNil))) (g := tN 1) (t := tB (eB gGtI (eVar 1) (eCl (M_reel_reach) 2 (aCons (eVar 0) (aCons (eB gIx (eVar 0) (eVar 1)) (aNil)))))) (fe := eVar 1) (vs := [1]) (τ := [some (dK l), none]) (S := S) (ds := (List.range (clo l)).map fun i : Nat => D.int i)
    (fun d => match d with | .int i => !decide (i.toNat ≤ ra l i.toNat) | _ => false) id w (iRg1_ok (a1_ok (eCl_ok (a1_ok rfl) rfl (reel_closed_ok w ok))) (by omega)) wks_rg (by simp; omega)
    (fun d hd _ => by obtain ⟨c, _, rfl⟩ := List.mem_map.mp hd; rfl)
    (fun d hd S' _ _ => by
      obtain ⟨i, hi, rfl⟩ := List.mem_map.mp hd
      have hi := List.mem_range.mp hi
      have hil : i < l.length := by omega
      refine ⟨_, rfl, ?_, fun _ => rfl⟩
      have e1 := reel_reach_ok (S := S') (l := l) (c := at0 l i) (ok.dep _ (at0_mem hil)) ok.lo
      refine (tB_ok (eB_ok rfl (eCl_ok (a2_ok rfl (eB_ok rfl rfl (ix_deck (at0_get hil)))) rfl e1) gGt_i)).trans ?_
      show _ = some (Rs.ok (!decide (((i : Nat) : Int).toNat ≤ ra l ((i : Nat) : Int).toNat)) S')
      rw [Int.toNat_natCast]
      congr 2
      rw [← decide_not]
      refine decide_eq_decide.mpr ?_
      show ((ra l i : Nat) : Int) < i ↔ _
      omega)
  refine e.trans ?_
  rw [List.map_id, List.filter_map]
  unfold aw natL
  rw [List.map_map]
  rfl
theorem gEq_nats {ns : List Nat} : gEq false (.fl ((natL ns).map D.int)) (.fl []) S = some (.bl (decide (ns = [])), S) := by
  have := gEq_fi (S := S) (neg := false) (l := natL ns) (m := [])
  refine this.trans ?_
  simp [natL]
theorem stl_of {l : List Card} (ok : DeckOk l) (h : aw l = []) : Stl l := by
  have A := clo_is ok.lo
  refine ⟨clo l, A.lo, A.hi, fun i hi => ⟨?_, A.all i hi⟩⟩
  apply Classical.byContradiction
  intro z
  have : i ∈ aw l := List.mem_filter.mpr ⟨List.mem_range.mpr hi, by simp [z]⟩
  rw [h] at this
  cases this
end Sb
end
section
set_option Elab.async false
set_option linter.all false
set_option maxRecDepth 100000
set_option maxHeartbeats 4000000
namespace Sb
open PySem PySem.Spec PyProof.Rows L2
variable {K : PySem.W.Frag} {S : Sto}
end Sb
end
section
set_option Elab.async false
set_option linter.all false
set_option maxRecDepth 100000
set_option maxHeartbeats 4000000
namespace Sb
open PySem PySem.Spec PyProof.Rows L2
variable {K : PySem.W.Frag} {S : Sto}
theorem sPar_ok {i j : Nat} {ra : AF} {τ : Sl} {d e : D} {S S1 : Sto} (h : ra τ S = some (.ok [d, e] S1)) : sPar i j ra τ S = some (.nx ((τ.set i (some d)).set j (some e)), S1) := by simp only [sPar, h]
end Sb
end
section
set_option Elab.async false
set_option linter.all false
set_option maxRecDepth 100000
set_option maxHeartbeats 4000000
namespace Sb
open PySem PySem.Spec PyProof.Rows L2
variable {K : PySem.W.Frag} {S : Sto}
theorem stp_low {l : List Card} {c : Nat} (hc : c ≤ l.length) (h : ∀ x ∈ l.take c, rch l.length x < c) (h0 : 1 ≤ c) : (∀ x ∈ (stp l).take c, x ∈ l.take c) ∧ (stp l).drop c = l.drop c := by
  cases l with
  | nil => simp at hc; omega
  | cons x r =>
    obtain ⟨b, rfl⟩ : ∃ b, c = b + 1 := ⟨c - 1, by omega⟩
    have hk := h x (by simp)
    have e : rch (x :: r).length x = min x.2.toNat r.length := rfl
    rw [e] at hk
    have e2 : stp (x :: r) = r.take (min x.2.toNat r.length) ++ x :: r.drop (min x.2.toNat r.length) := rfl
    rw [e2]
    have hkr : min x.2.toNat r.length ≤ r.length := by omega
    generalize min x.2.toNat r.length = k at *
    have lk : (r.take k).length = k := by rw [List.length_take]; omega
    obtain ⟨a, rfl⟩ : ∃ a, b = k + a := ⟨b - k, by omega⟩
    refine ⟨fun y hy => ?_, ?_⟩
    · rw [List.take_append, lk, show k + a + 1 - k = a + 1 by omega, List.take_succ_cons, List.take_of_length_le (by rw [lk]; omega)] at hy
      rw [List.take_succ_cons]
      rcases List.mem_append.mp hy with z | z
      · exact List.mem_cons_of_mem _ ((List.take_sublist_take_left (show k ≤ k + a by omega)).subset z)
      · rcases List.mem_cons.mp z with z | z
        · rw [z]; exact List.mem_cons_self
        · refine List.mem_cons_of_mem _ ?_
          have : (r.drop k).take a = (r.take (k + a)).drop k := by rw [List.drop_take]; congr 1; omega
          rw [this] at z
          exact List.mem_of_mem_drop z
    · rw [List.drop_append, lk, show k + a + 1 - k = a + 1 by omega, List.drop_of_length_le (by rw [lk]; omega), List.nil_append, List.drop_succ_cons, List.drop_drop, List.drop_succ_cons]
theorem stps_low {l : List Card} {c : Nat} (hc : c ≤ l.length) (h : ∀ x ∈ l.take c, rch l.length x < c) (h0 : 1 ≤ c) : ∀ n, (∀ x ∈ (stps n l).take c, x ∈ l.take c) ∧ (stps n l).drop c = l.drop c
  | 0 => ⟨fun _ h => h, rfl⟩
  | n + 1 => by
    obtain ⟨a, b⟩ := stps_low hc h h0 n
    have hl := (stps_perm l n).length_eq
    obtain ⟨a2, b2⟩ := stp_low (l := stps n l) (c := c) (by omega) (fun x hx => by rw [hl]; exact h x (a x hx)) h0
    exact ⟨fun x hx => a x (a2 x hx), b2.trans b⟩
theorem stps_drop {l : List Card} (ok : DeckOk l) (n : Nat) : (stps n l).drop (clo l) = l.drop (clo l) := by
  have A := clo_is ok.lo
  refine (stps_low A.hi (fun x hx => ?_) A.lo n).2
  obtain ⟨i, hi, rfl⟩ := List.mem_take_iff_getElem.mp hx
  have := A.all i (by omega)
  unfold ra at this
  rwa [at0_eq (by omega)] at this
end Sb
end
section
set_option Elab.async false
set_option linter.all false
set_option maxRecDepth 100000
set_option maxHeartbeats 4000000
namespace Sb
open PySem PySem.Spec PyProof.Rows L2
variable {K : PySem.W.Frag} {S : Sto}
theorem lc_genL {fi : IF} {g : TF} {t : BF} {fe : EF} {vs : List Nat} {τ : Sl} {S S1 : Sto} {wk : Wk} {ds : List D} (P : Sto → Prop) (J : Nat → List D → Sto → Prop) (hJP : ∀ i acc S', J i acc S' → P S') (hi : fi τ S = some (.ok wk S1)) (hl : S1.length = S.length) (w : Wf S1) (hw : Wks wk ds P)
    (hds : ds.length ≤ 100000) (hJ : ∀ i acc S' S'', (∀ j, j < S1.length → S''[j]? = S'[j]?) → J i acc S' → J i acc S'') (h0 : J 0 [] S1)
    (hwt : ∀ acc S', J ds.length acc S' → S'.length = S1.length + 1 → wfk S1.length (S'.take S1.length) = true)
    (h : ∀ i acc S', (hi : i < ds.length) → J i acc S' → S'.length = S1.length + 1 → S'[S1.length]? = some (.lst acc) → Wf S' → ∃ τ1, g ds[i] S' (wipeD τ vs) = some τ1 ∧
      ((∃ S'', t τ1 S' = some (.ok false S'') ∧ S''.length = S1.length + 1 ∧ S''[S1.length]? = some (.lst acc) ∧ Wf S'' ∧ J (i + 1) acc S'') ∨
       ∃ S2 y S'', t τ1 S' = some (.ok true S2) ∧ fe τ1 S2 = some (.ok y S'') ∧ S''.length = S1.length + 1 ∧ S''[S1.length]? = some (.lst acc) ∧ Wf S'' ∧ bd 0 y = true ∧ J (i + 1) (acc ++ [y]) S'')) :
    ∃ S2 acc, fz (eLc fi g t fe vs) τ S = some (.ok (.fl acc) S2) ∧ J ds.length acc S2 ∧ S2.length = S1.length ∧ Wf S2 ∧ acc.length ≤ ds.length := by
  obtain ⟨S', L, acc, hJ2, hlen, hat, hwf, hb, hle⟩ := goC_inv (nxt := wk.nxt) (g := g) (t := t) (fe := fe) (l := S1.length) (τ0 := wipeD τ vs) (n := ds.length)
    (fun i S' => ∃ acc, J i acc S' ∧ S'.length = S1.length + 1 ∧ S'[S1.length]? = some (.lst acc) ∧ Wf S' ∧ bds 0 acc = true ∧ acc.length ≤ i) (fun i => ds.getD i default)
    (fun i S' hi' ⟨acc, hj, hlen, hat, hwf, hb, hle⟩ => by
      have e3 := List.getElem?_eq_getElem hi'
      have e4 : ds.getD i default = ds[i] := by rw [List.getD_eq_getElem?_getD, e3]; rfl
      obtain ⟨τ1, h1, h2⟩ := h i acc S' hi' hj hlen hat hwf
      refine ⟨by rw [hw.nxt i _ (hJP _ _ _ hj), e4, e3], τ1, by rw [e4]; exact h1, ?_⟩
      rcases h2 with ⟨S'', h3, l2, a2, w2, hJ'⟩ | ⟨S2, y, S'', h3, h4, l2, a2, w2, hy, hJ'⟩
      · exact .inl ⟨S'', h3, acc, hJ', l2, a2, w2, hb, by omega⟩
      · have hz := sizeLine_eq
        have hb' : bds 0 (acc ++ [y]) = true := bds_all.mpr fun d hd => by
          rcases List.mem_append.mp hd with q | q
          · exact bds_all.mp hb d q
          · simp at q; subst q; exact hy
        refine .inr ⟨S2, y, S'', acc, h3, h4, a2, by omega, acc ++ [y], hJ _ _ _ _ (fun j hj => List.getElem?_set_ne (by omega)) hJ', by rw [List.length_set]; exact l2, by rw [List.getElem?_set_self (by omega)], wf_set w2 (bds_mono (Nat.zero_le _) _ hb'), hb', by simp; omega⟩)
    (fun S' ⟨_, hj, _⟩ => by rw [hw.nxt _ _ (hJP _ _ _ hj), List.getElem?_eq_none (Nat.le_refl _)]) (wk.bound + 1) 0 (S1 ++ [.lst []]) (Nat.zero_le _) (by have := hw.bound; omega)
    ⟨[], hJ _ _ _ _ (fun j hj => List.getElem?_append_left hj) h0, by simp, get_last _ _, wf_app w rfl, rfl, Nat.le_refl _⟩
  have e : eLc fi g t fe vs τ S = some (.ok (.loc S1.length) S') := by simp only [eLc, hi, L, Option.bind_some]
  have w1 := hwt acc S' hJ2 hlen
  have hlt : (S'.take S1.length).length = S1.length := by rw [List.length_take]; omega
  refine ⟨S'.take S1.length, acc, ?_, hJ _ _ _ _ (fun j hj => List.getElem?_take_of_lt hj) hJ2, hlt, by unfold Wf; rw [hlt]; exact w1, hle⟩
  have nb : ¬ (bd S.length (.loc S1.length) = true) := by simp only [bd, decide_eq_true_eq]; omega
  have hm : acc.mapM (rb S' S.length 7) = some acc := by
    have := mapM_some (f := rb S' S.length 7) (g := fun d => d) (l := acc) fun d hd => rb_bd (bds_all.mp (bds_mono (Nat.zero_le _) _ hb) d hd)
    rwa [List.map_id'] at this
  rw [hl] at w1
  rw [fz_eq, e, hl]
  rw [hl] at hat nb
  simp only [fzR, if_pos w1, rb_loc nb hat, hm, Option.map_some]
end Sb
end
section
set_option Elab.async false
set_option linter.all false
set_option maxRecDepth 100000
set_option maxHeartbeats 4000000
namespace Sb
open PySem PySem.Spec PyProof.Rows L2
variable {K : PySem.W.Frag} {S : Sto}
/-! ## a home deck of the reel -/
structure HmC (xs : List Str) (z : Nat) (cs : List (Str × Nat)) : Prop where
  len : cs.length = z
  nm : (cs.map (·.1)).Perm xs
  lo : ∀ i, (h : i < cs.length) → i ≤ cs[i].2
  hi : ∀ i, (h : i < cs.length) → cs[i].2 ≤ z - 1
abbrev cN (c : Str × Nat) : D := .tup [.str c.1, .int (c.2 : Nat)]
theorem bds_cN {k : Nat} {l : List (Str × Nat)} : bds k (l.map cN) = true := bds_map fun _ _ => rfl
theorem perm_swap {α : Type} {l : List α} {a b : Nat} (ha : a < l.length) (hb : b < l.length) : ((l.set a l[b]).set b l[a]).Perm l := by
  by_cases e : a = b
  · subst e
    rw [List.set_set]
    rw [List.set_getElem_self ha]
  · exact List.set_set_perm ha hb
theorem HmC.swap {xs : List Str} {z a b : Nat} {cs : List (Str × Nat)} (h : HmC xs z cs) (ha : a < cs.length) (hb : b < cs.length) (h1 : max a b ≤ min cs[a].2 cs[b].2) : HmC xs z ((cs.set a cs[b]).set b cs[a]) := by
  have p := perm_swap ha hb
  refine ⟨by rw [p.length_eq]; exact h.len, (p.map _).trans h.nm, fun i hi => ?_, fun i hi => ?_⟩
  · have hi' : i < cs.length := by simpa using hi
    rw [List.getElem_set]
    split
    · rename_i e
      subst e; omega
    · rw [List.getElem_set]
      split
      · rename_i e
        subst e; omega
      · exact h.lo i hi'
  · have hi' : i < cs.length := by simpa using hi
    rw [List.getElem_set]
    split
    · exact h.hi a ha
    · rw [List.getElem_set]
      split
      · exact h.hi b hb
      · exact h.hi i hi'
theorem zip_cN : ∀ {xs : List Str} {ds : List Nat}, zipD (xs.map D.str) ((natL ds).map D.int) = (xs.zip ds).map cN
  | [], _ => by simp [zipD]
  | _ :: _, [] => by simp [zipD]
  | x :: xs, d :: ds => by
    have := zip_cN (xs := xs) (ds := ds)
    simp only [zipD] at this ⊢
    simp only [List.map_cons, List.zipWith_cons_cons, List.zip_cons_cons, this, natL]
def enN (es : List Nat) : List D := (List.range es.length).map fun i => .tup [.int (i : Nat), .int (es.getD i 0 : Nat)]
theorem wks_enN {es : List Nat} {P : Sto → Prop} : Wks (wkE ((natL es).map D.int)) (enN es) P := ⟨fun i S _ => by
  unfold wkE enN
  rw [natD]
  simp only [List.getElem?_map]
  by_cases h : i < es.length
  · rw [List.getElem?_eq_getElem h, List.getElem?_range h]
    simp [List.getD_eq_getElem?_getD, List.getElem?_eq_getElem h]
  · rw [List.getElem?_eq_none (by omega), List.getElem?_eq_none (by simp; omega)]; rfl, by unfold enN wkE; simp⟩
theorem natL_of {ns : List Int} {b : Nat} (h : ∀ x ∈ ns, ∃ y : Nat, x = y ∧ y ≤ b) : ∃ es : List Nat, ns = natL es ∧ es.length = ns.length ∧ ∀ e ∈ es, e ≤ b := by
  refine ⟨ns.map Int.toNat, ?_, by simp, fun e he => ?_⟩
  · unfold natL
    rw [List.map_map]
    conv => lhs; rw [← List.map_id ns]
    refine List.map_congr_left fun x hx => ?_
    obtain ⟨y, rfl, _⟩ := h x hx
    rfl
  · obtain ⟨x, hx, rfl⟩ := List.mem_map.mp he
    obtain ⟨y, rfl, hy⟩ := h x hx
    simpa using hy
end Sb
end
section
set_option Elab.async false
set_option linter.all false
set_option maxRecDepth 100000
set_option maxHeartbeats 4000000
namespace Sb
open PySem PySem.Spec PyProof.Rows L2
variable {K : PySem.W.Frag} {S : Sto}
/-! ## whether a thing is a paper -/
end Sb
end
section
set_option Elab.async false
set_option linter.all false
set_option maxRecDepth 100000
set_option maxHeartbeats 4000000
namespace Sb
open PySem PySem.Spec PyProof.Rows L2
variable {K : PySem.W.Frag} {S : Sto}
end Sb
end
section
set_option Elab.async false
set_option linter.all false
set_option maxRecDepth 100000
set_option maxHeartbeats 4000000
namespace Sb
open PySem PySem.Spec PyProof.Rows L2
variable {K : PySem.W.Frag} {S : Sto}
/-! ## how often, when: rows -/
/-! ## settled decks -/
theorem told_frw {l : List Card} (ok : DeckOk l) : told l = frw l (clo l - 1) := by
  have A := clo_is ok.lo
  have h1 := A.lo
  have e1 : told l = (List.range (clo l - 1)).map (pat l) ++ [pat l (clo l - 1)] := by
    unfold told
    conv => lhs; rw [show clo l = clo l - 1 + 1 by omega, List.range_succ, List.map_append]
    rfl
  have e2 : frw l (clo l - 1) = (List.range (clo l - 1)).map (pat l) ++ [lring l (clo l - 1)] := by
    show frk l (clo l - 1) 0 = _
    unfold frk pats
    rw [List.range_eq_range', Nat.sub_zero]
  rw [e1, e2]
  congr 2
  unfold pat lring
  refine List.map_congr_left fun c hc => ?_
  have hr : rch l.length c < clo l := by
    have h2 := A.hi
    have : ∃ i, i < clo l ∧ c = at0 l i := by
      unfold ring at hc
      rcases List.mem_append.mp hc with q | q
      · rw [hand_range (by omega)] at q
        obtain ⟨i, hi, rfl⟩ := List.mem_map.mp q
        exact ⟨i, by have := List.mem_range.mp (List.mem_filter.mp hi).1; omega, rfl⟩
      · exact ⟨clo l - 1, by omega, List.mem_singleton.mp q⟩
    obtain ⟨i, hi, rfl⟩ := this
    exact A.all i hi
  rw [if_neg (by omega)]
theorem card_uniq {l : List Card} (nd : (l.map (·.1)).Nodup) {a b : Card} (ha : a ∈ l) (hb : b ∈ l) (h : a.1 = b.1) : a = b := by
  obtain ⟨i, hi, rfl⟩ := List.getElem_of_mem ha
  obtain ⟨j, hj, rfl⟩ := List.getElem_of_mem hb
  have := (List.getElem_inj (i := i) (j := j) (xs := l.map (·.1)) (h₀ := by simpa using hi) (h₁ := by simpa using hj) nd).mp (by simpa using h)
  subst this; rfl
theorem count_le_map {P : Card → Prop} [DecidablePred P] {x : Str} : ∀ L : List Card, (L.map fun c => if P c then none else some c.1).count (some x) ≤ (L.map (·.1)).count x
  | [] => Nat.le_refl _
  | c :: r => by
    have ih := count_le_map (P := P) (x := x) r
    rw [List.map_cons, List.map_cons, List.count_cons, List.count_cons]
    by_cases z : P c
    · rw [if_pos z]
      have : (if (none : Option Str) == some x then 1 else 0) = 0 := rfl
      omega
    · rw [if_neg z]
      by_cases y : c.1 = x
      · subst y; simp; omega
      · have : ¬ ((some c.1 == some x) = true) := by simpa using y
        rw [if_neg this]; omega
theorem pat_count {l : List Card} (ok : DeckOk l) {m : Nat} {x : Str} (hm : m < l.length) (h : m ≤ ra l m) : (pat l m).count (some x) ≤ 1 := by
  refine Nat.le_trans (count_le_map (ring l m)) ?_
  have : ((ring l m).map (·.1)).Nodup := by
    rw [ring_take hm h]
    exact ok.nd.sublist (((List.filter_sublist).trans (List.take_sublist _ _)).map _)
  exact List.nodup_iff_count.mp this x
end Sb
end
section
set_option Elab.async false
set_option linter.all false
set_option maxRecDepth 100000
set_option maxHeartbeats 4000000
namespace Sb
open PySem PySem.Spec PyProof.Rows L2
variable {K : PySem.W.Frag} {S : Sto}
def fac : Nat → Nat
  | 0 => 1
  | n + 1 => fac n * (n + 1)
theorem fac_mono : ∀ {a b : Nat}, a ≤ b → fac a ≤ fac b
  | a, 0, h => by have : a = 0 := by omega
                  subst this; exact Nat.le_refl _
  | a, b + 1, h => by
    by_cases e : a = b + 1
    · rw [e]; exact Nat.le_refl _
    · have := fac_mono (show a ≤ b by omega)
      show fac a ≤ fac b * (b + 1)
      exact Nat.le_trans this (Nat.le_mul_of_pos_right _ (by omega))
theorem fac40 : fac 40 < 2 ^ 190 := by decide +kernel
theorem ring_len (l : List Card) (m : Nat) : (ring l m).length ≤ m + 1 := by
  unfold ring hand
  rw [List.length_append, List.length_singleton]
  have := List.length_filter_le (fun c => decide (m ≤ rch l.length c)) (l.take m)
  rw [List.length_take] at this
  omega
end Sb
end
section
set_option Elab.async false
set_option linter.all false
set_option maxRecDepth 100000
set_option maxHeartbeats 4000000
namespace Sb
open PySem PySem.Spec PyProof.Rows L2
variable {K : PySem.W.Frag} {S : Sto}
theorem eqv_opt {a b : Option Str} : PyData.eqv (optP a) (optP b) = decide (a = b) := by
  cases a with
  | none => cases b <;> simp [optP, PyData.eqv]
  | some x =>
    cases b with
    | none => simp [optP, PyData.eqv]
    | some y =>
      show (x == y) = _
      by_cases h : x = y <;> simp [h]
end Sb
end
section
set_option Elab.async false
set_option linter.all false
set_option maxRecDepth 100000
set_option maxHeartbeats 4000000
namespace Sb
open PySem PySem.Spec PyProof.Rows L2
variable {K : PySem.W.Frag} {S : Sto}
end Sb
end
section
set_option Elab.async false
set_option linter.all false
set_option maxRecDepth 100000
set_option maxHeartbeats 4000000
namespace Sb
open PySem PySem.Spec PyProof.Rows L2
variable {K : PySem.W.Frag} {S : Sto}
/-! ## how often a name is on top -/
theorem at_uniq {l : List Card} (ok : DeckOk l) {i j : Nat} (hi : i < l.length) (hj : j < l.length) (h : (at0 l i).1 = (at0 l j).1) : i = j := by
  rw [at0_eq hi, at0_eq hj] at h
  exact (List.getElem_inj (i := i) (j := j) (xs := l.map (·.1)) (h₀ := by simpa using hi) (h₁ := by simpa using hj) ok.nd).mp (by simpa using h)
end Sb
end
section
set_option Elab.async false
set_option linter.all false
set_option maxRecDepth 100000
set_option maxHeartbeats 4000000
namespace Sb
open PySem PySem.Spec PyProof.Rows L2
variable {K : PySem.W.Frag} {S : Sto}
/-! ## when a name is seen for the so-manieth time, any deck -/
end Sb
end
section
set_option Elab.async false
set_option linter.all false
set_option maxRecDepth 100000
set_option maxHeartbeats 4000000
namespace Sb
open PySem PySem.Spec PyProof.Rows L2
variable {K : PySem.W.Frag} {S : Sto}
/-! ## when_seen of any deck -/
def numD : Option Nat → D
  | some s => .int (s : Nat)
  | none => .non
end Sb
end
section
set_option Elab.async false
set_option linter.all false
set_option maxRecDepth 100000
set_option maxHeartbeats 4000000
namespace Sb
open PySem PySem.Spec PyProof.Rows L2
variable {K : PySem.W.Frag} {S : Sto}
/-! ## spans of any deck -/
end Sb
end
section
set_option Elab.async false
set_option linter.all false
set_option maxRecDepth 100000
set_option maxHeartbeats 4000000
namespace Sb
open PySem PySem.Spec PyProof.Rows L2
/-! ## what stays within a stretch -/
theorem clo_all_n {l : List Card} (hl : 1 ≤ l.length) {m : Nat} (hm : 1 ≤ m) (h : ∀ i, i < m → ra l i < m) : ∀ n i, i < m → ra (stps n l) i < m
  | 0 => h
  | n + 1 => clo_all (l := stps n l) (by rw [stps_len]; exact hl) m hm (clo_all_n hl hm h n)
theorem clo_mono {l : List Card} (ok : DeckOk l) (n : Nat) : clo (stps n l) ≤ clo l := by
  have A := clo_is ok.lo
  have B := clo_is (stps_ok ok n).lo
  apply Classical.byContradiction
  intro q
  obtain ⟨i, h1, h2⟩ := B.no (clo l) A.lo (by omega)
  have := clo_all_n ok.lo A.lo A.all n i h1
  omega
section
variable {h : List Card} {q : Nat} {r : List Nat}
theorem str_at (ok : DeckOk h) (ha : aw h = q :: r) : ∀ t, t ≤ stl h q → ∀ p, q ≤ p → at0 (stps t h) p = at0 h p := by
  obtain ⟨h1, h2, h3⟩ := aw_head ok ha
  obtain ⟨hb, _⟩ := stretch ok h3 h1
  intro t
  induction t with
  | zero => exact fun _ _ _ => rfl
  | succ t ih =>
    intro ht p hp
    have := hb t (by omega)
    show at0 (stp (stps t h)) p = _
    rw [stp_at0 (stps_ok ok t).lo, if_neg (by omega), if_neg (by omega)]
    exact ih (by omega) p hp
theorem str_home (ok : DeckOk h) (ha : aw h = q :: r) {t : Nat} (ht : t ≤ stl h q) : ∀ i, i < q → i ≤ ra (stps t h) i := by
  obtain ⟨h1, h2, h3⟩ := aw_head ok ha
  obtain ⟨hb, _⟩ := stretch ok h3 h1
  exact (within_all t h3 fun s hs => .inl (hb s (by omega))).1.2
theorem str_in (ok : DeckOk h) (ha : aw h = q :: r) : ∀ t, t ≤ stl h q → ∀ i, i < q → ∃ j, j < q ∧ at0 (stps t h) j = at0 h i := by
  obtain ⟨h1, h2, h3⟩ := aw_head ok ha
  obtain ⟨hb, _⟩ := stretch ok h3 h1
  intro t
  induction t with
  | zero => exact fun _ i hi => ⟨i, hi, rfl⟩
  | succ t ih =>
    intro ht i hi
    obtain ⟨j, hj, e⟩ := ih (by omega) i hi
    have hk := hb t (by omega)
    have hl := (stps_ok ok t).lo
    by_cases z : j = 0
    · refine ⟨ra (stps t h) 0, hk, ?_⟩
      show at0 (stp (stps t h)) _ = _
      rw [stp_at0 hl, if_neg (by omega), if_pos rfl, ← e, z]
    · by_cases z2 : j ≤ ra (stps t h) 0
      · refine ⟨j - 1, by omega, ?_⟩
        show at0 (stp (stps t h)) _ = _
        rw [stp_at0 hl, if_pos (by omega), ← e, show j - 1 + 1 = j by omega]
      · refine ⟨j, hj, ?_⟩
        show at0 (stp (stps t h)) _ = _
        rw [stp_at0 hl, if_neg (by omega), if_neg (by omega), ← e]
theorem ra_of_at {a b : List Card} (hl : a.length = b.length) {i j : Nat} (e : at0 a i = at0 b j) : ra a i = ra b j := by unfold ra; rw [e, hl]
theorem str_clo (ok : DeckOk h) (ha : aw h = q :: r) {t : Nat} (ht : t ≤ stl h q) : clo (stps t h) = clo h := by
  obtain ⟨h1, h2, h3⟩ := aw_head ok ha
  obtain ⟨hb, hlast⟩ := stretch ok h3 h1
  have A := clo_is ok.lo
  have okt := stps_ok ok t
  have B := clo_is okt.lo
  refine B.uniq (d := clo h) ⟨A.lo, by rw [stps_len]; exact A.hi, clo_all_n ok.lo A.lo A.all t, fun m m1 m2 => ?_⟩
  apply Classical.byContradiction
  intro no
  have all : ∀ i, i < m → ra (stps t h) i < m := fun i hi => Nat.lt_of_not_le fun z => no ⟨i, hi, z⟩
  by_cases z : m ≤ q
  · have := clo_all_n okt.lo m1 all (stl h q - t) 0 (by omega)
    rw [stps_add, show t + (stl h q - t) = stl h q by omega] at this
    omega
  · obtain ⟨i, hi, hri⟩ := A.no m m1 m2
    by_cases zi : q ≤ i
    · have := all i hi
      rw [ra_of_at (stps_len h t) (str_at ok ha t ht i zi)] at this
      omega
    · obtain ⟨j, hj, e⟩ := str_in ok ha t ht i (by omega)
      have := all j (by omega)
      rw [ra_of_at (stps_len h t) e] at this
      omega
theorem str_aw (ok : DeckOk h) (ha : aw h = q :: r) {t : Nat} (ht : t ≤ stl h q) : aw (stps t h) = aw h := by
  obtain ⟨h1, h2, h3⟩ := aw_head ok ha
  unfold aw
  rw [str_clo ok ha ht]
  refine List.filter_congr fun i hi => ?_
  by_cases z : i < q
  · have a := str_home ok ha ht i z
    have b := h3.2 i z
    simp [a, b]
  · rw [ra_of_at (stps_len h t) (str_at ok ha t ht i (by omega))]
end
/-! ## the spans, told by the steps -/
inductive Spn (l : List Card) : Nat → List (Nat × Strt) → Prop
  | last {g : Nat} : aw (stps g l) = [] → Spn l g [(g, stps g l, clo (stps g l) - 1, none)]
  | step {g q : Nat} {r : List Nat} {xs : List (Nat × Strt)} : aw (stps g l) = q :: r → Spn l (g + (stl (stps g l) q + 1)) xs → Spn l g ((g, stps g l, q, some (stl (stps g l) q + 1)) :: xs)
def InC (c : Nat) (k : List Card) : Prop := ∀ i, i < c → i ≤ ra k i ∧ ra k i < c
theorem inC_stp {c : Nat} {k : List Card} (hl : 1 ≤ k.length) (hc : 1 ≤ c) (h : InC c k) : InC c (stp k) := fun i hi => by
  have h0 := (h 0 (by omega)).2
  rw [ra_stp hl]
  split
  · have := h (i + 1) (by omega); omega
  · split
    · omega
    · exact h i hi
theorem inC_of {l : List Card} (ok : DeckOk l) (ha : aw l = []) : InC (clo l) l := fun i hi => by
  have A := clo_is ok.lo
  unfold aw at ha
  rw [List.filter_eq_nil_iff] at ha
  have := ha i (List.mem_range.mpr hi)
  exact ⟨by simpa using this, A.all i hi⟩
theorem inC_stps {l : List Card} (ok : DeckOk l) (ha : aw l = []) : ∀ n, InC (clo l) (stps n l)
  | 0 => inC_of ok ha
  | n + 1 => inC_stp (stps_ok ok n).lo (clo_is ok.lo).lo (inC_stps ok ha n)
theorem settled_stays {l : List Card} (ok : DeckOk l) (ha : aw l = []) (n : Nat) : aw (stps n l) = [] := by
  have hc := clo_mono ok n
  unfold aw
  rw [List.filter_eq_nil_iff]
  intro i hi
  have := inC_stps ok ha n i (by have := List.mem_range.mp hi; omega)
  simp [this.1]
/-! ## comings home, by steps -/
def hmn (l : List Card) : List Str := ((List.range l.length).filter fun i => decide (i ≤ ra l i)).map fun i => (at0 l i).1
theorem Spn.head {l : List Card} {g : Nat} {xs : List (Nat × Strt)} (h : Spn l g xs) : ∃ y zs, xs = y :: zs ∧ y.1 = g ∧ y.2.1 = stps g l := by
  cases h with
  | last ha => exact ⟨_, _, rfl, rfl, rfl⟩
  | step ha hx => exact ⟨_, _, rfl, rfl, rfl⟩
end Sb
end
section
set_option Elab.async false
set_option linter.all false
set_option maxRecDepth 100000
set_option maxHeartbeats 4000000
namespace Sb
open PySem PySem.Spec PyProof.Rows L2
variable {K : PySem.W.Frag} {S : Sto}
/-! ## two spans in a row: what comes home -/
/-! ## all comings -/
theorem Spn.all {l : List Card} {g : Nat} {xs : List (Nat × Strt)} (h : Spn l g xs) : ∀ y ∈ xs, y.2.1 = stps y.1 l ∧ g ≤ y.1 := by
  induction h with
  | last ha => intro y hy; rw [List.mem_singleton.mp hy]; exact ⟨rfl, Nat.le_refl _⟩
  | step ha hx ih =>
    intro y hy
    rcases List.mem_cons.mp hy with z | z
    · rw [z]; exact ⟨rfl, Nat.le_refl _⟩
    · have := ih y z
      exact ⟨this.1, by omega⟩
theorem Spn.pos {l : List Card} {g : Nat} {xs : List (Nat × Strt)} (h : Spn l g xs) : ∀ y ∈ xs.tail, g + 1 ≤ y.1 := by
  cases h with
  | last ha => intro y hy; cases hy
  | step ha hx =>
    intro y hy
    have := hx.all y hy
    omega
theorem ix_lastG {ds : List D} {d : D} (h : ds.getLast? = some d) : gIx (.fl ds) (.int (-1)) S = some (d, S) := by
  have hne : ds ≠ [] := fun z => by rw [z] at h; cases h
  have hl : 1 ≤ ds.length := by cases ds with | nil => exact absurd rfl hne | cons _ _ => simp
  have e : ds[ds.length - 1]? = some d := by rw [← List.getLast?_eq_getElem?]; exact h
  have h0 : ¬ ((0 : Int) ≤ -1) := by decide
  have h1 : (-(ds.length : Int) ≤ -1) := by omega
  have h2 : ((ds.length : Int) + -1).toNat = ds.length - 1 := by omega
  have h3 : (-1 + (ds.length : Int)).toNat = ds.length - 1 := by omega
  have h4 : (1 : Int) ≤ (ds.length : Int) := by omega
  simp [gIx, seqD, atI, ixN, h0, h1, h2, h3, h4, e]
end Sb
end
section
set_option Elab.async false
set_option linter.all false
set_option maxRecDepth 100000
set_option maxHeartbeats 4000000
namespace Sb
open PySem PySem.Spec PyProof.Rows L2
variable {K : PySem.W.Frag} {S : Sto}
/-! ## closings -/
theorem ix_lastL {n : Nat} {ds : List D} {d : D} (h0 : S[n]? = some (.lst ds)) (h : ds.getLast? = some d) : gIx (.loc n) (.int (-1)) S = some (d, S) := by
  have := ix_lastG (S := S) h
  simp only [gIx, seqD, h0] at this ⊢
  exact this
/-! ## fates -/
/-- the last step ahead of n that shows a name -/
def lst (f : Nat → Option Str) (x : Str) : Nat → Option Nat
  | 0 => none
  | n + 1 => if f n = some x then some n else lst f x n
theorem Spn.at {l : List Card} {g : Nat} {xs : List (Nat × Strt)} (h : Spn l g xs) : ∀ i, (hi : i + 1 < xs.length) → ∃ q r, aw (stps (xs[i]'(by omega)).1 l) = q :: r ∧ (xs[i]'(by omega)).2 = (stps (xs[i]'(by omega)).1 l, q, some (stl (stps (xs[i]'(by omega)).1 l) q + 1)) ∧ (xs[i + 1]).1 = (xs[i]'(by omega)).1 + (stl (stps (xs[i]'(by omega)).1 l) q + 1) := by
  induction h with
  | last ha => intro i hi; simp at hi
  | @step g q r xs ha hx ih =>
    intro i hi
    cases i with
    | zero =>
      obtain ⟨y, zs, rfl, e1, e2⟩ := hx.head
      exact ⟨q, r, ha, rfl, e1⟩
    | succ i => exact ih i (by simpa using hi)
end Sb
end
section
set_option Elab.async false
set_option linter.all false
set_option maxRecDepth 100000
set_option maxHeartbeats 4000000
namespace Sb
open PySem PySem.Spec PyProof.Rows L2
variable {K : PySem.W.Frag} {S : Sto}
/-! ## those that are seen for ever -/
end Sb
end
section
set_option Elab.async false
set_option linter.all false
set_option maxRecDepth 100000
set_option maxHeartbeats 4000000
namespace Sb
open PySem PySem.Spec PyProof.Rows L2
variable {K : PySem.W.Frag} {S : Sto}
/-! the reel's names are not "qqqqqqqq" -/
theorem allQ : ∀ x ∈ nmsA ++ nmsX ++ nmsE, x ≠ ("qqqqqqqq" : Str) := by decide +kernel
theorem reel_names_okQ {n k m : Nat} (w : Wf S) (h : Reel n k S) (hk : k < 2 ^ 39) (hm0 : 1 ≤ m) (hm : m ≤ 40) :
    ∃ (xs : List Str) (S' : Sto), M_reel_names [.loc n, .int (m : Nat)] S = some (.ok (.fl (xs.map D.str)) S') ∧ xs.length = m ∧ xs.Nodup ∧ (∀ x ∈ xs, Nm x ∧ x ≠ "qqqqqqqq") ∧ Reel n (k + m) S' ∧ Fr n S S' := by
  have hz := sizeLine_eq
  have hn := reel_src.lt h
  have main : Ws (m_reel_names (ini 6 [.loc n, .int (m : Nat)]) S) fun fl S' => ∃ d, fl = .rt d ∧ ∃ xs : List Str, d = .fl (xs.map D.str) ∧ xs.length = m ∧ xs.Nodup ∧ (∀ x ∈ xs, Nm x ∧ x ≠ "qqqqqqqq") ∧ Reel n (k + m) S' ∧ Fr n S S' := by
    refine ws_set rfl ?_
    let τ : Sl := [some (.loc n), some (.int (m : Nat)), some (.str "abcdefghijklmnopqrstuvwxyz"), none, none, none]
    let S1 : Sto := S ++ [.lst (nmsA.map D.str)]
    let S2 : Sto := S1 ++ [.lst (nmsX.map D.str)]
    let S3 : Sto := S2 ++ [.lst (nmsA.map D.str ++ nmsX.map D.str)]
    let S4 : Sto := S3 ++ [.lst (nmsE.map D.str)]
    let all : List Str := nmsA ++ nmsX ++ nmsE
    let S5 : Sto := S4 ++ [.lst (all.map D.str)]
    have w1 : Wf S1 := wf_app w bds_str
    have w2 : Wf S2 := wf_app w1 bds_str
    have w3 : Wf S3 := wf_app w2 (by rw [← List.map_append]; exact bds_str)
    have w4 : Wf S4 := wf_app w3 bds_str
    have w5 : Wf S5 := wf_app w4 bds_str
    have l1 : S1.length = S.length + 1 := by simp [S1]
    have l2 : S2.length = S.length + 2 := by simp [S2, l1]
    have l3 : S3.length = S.length + 3 := by simp [S3, l2]
    have l4 : S4.length = S.length + 4 := by simp [S4, l3]
    have l5 : S5.length = S.length + 5 := by simp [S5, l4]
    have e1 : eCB gListX (aCons (eVar 2) (aNil)) τ S = some (.ok (.loc S.length) S1) := by
      refine eCB_ok (a1_ok rfl) ?_
      have : ("abcdefghijklmnopqrstuvwxyz" : Str).cps.size ≤ sizeLine := by rw [sizeLine_eq]; decide +kernel
      simp only [gListX, if_pos this]
      have : chs "abcdefghijklmnopqrstuvwxyz" = nmsA.map D.str := by
        unfold chs nmsA
        rw [List.map_map]; rfl
      rw [this]
    have e2 : (eLc (iSeq (eSlX (eVar 2) (oNo) (oSo (eC (.int 12))))) (tN 4) (tAll) (eB gAdd (eC (.str "x")) (eVar 4)) [4]) τ S1 = some (.ok (.loc S1.length) S2) := by
      have hs : gSlX (.str "abcdefghijklmnopqrstuvwxyz") none (some 12) S1 = some (.str "abcdefghijkl", S1) := by kernel_rfl
      have hi : (iSeq (eSlX (eVar 2) (oNo) (oSo (eC (.int 12))))) τ S1 = some (.ok ⟨("abcdefghijkl" : Str).cps.size, fun i _ => some ((("abcdefghijkl" : Str).cps[i]?).map fun c => .str ⟨#[c]⟩)⟩ S1) := iSeq_ok (eSlX_ok rfl rfl (oSo_ok rfl) hs) rfl
      have := lc_raw (fi := iSeq (eSlX (eVar 2) (oNo) (oSo (eC (.int 12))))) (g := tN 4) (fe := eB gAdd (eC (.str "x")) (eVar 4)) (vs := [4]) (τ := τ) (S := S1) (ds := chs "abcdefghijkl")
        (fun d => match d with | .str y => .str ("x" ++ y) | _ => .non) w1 hi ⟨fun i S _ => by
          show some _ = some _
          congr 1
          unfold chs
          rw [List.getElem?_map, Array.getElem?_toList], by simp [chs]⟩ (by decide +kernel)
        (fun d hd => by obtain ⟨c, _, rfl⟩ := List.mem_map.mp hd; rfl)
        (fun d hd S' _ _ => by
          obtain ⟨c, _, rfl⟩ := List.mem_map.mp hd
          refine ⟨_, rfl, eB_ok rfl rfl ?_⟩
          simp only [gAdd]
          rw [if_pos (by
            have : (("x" : Str).length + (⟨#[c]⟩ : Str).length) = 2 := rfl
            omega)])
      rw [this]
      have q : (chs "abcdefghijkl").map (fun d => match d with | .str y => D.str ("x" ++ y) | _ => .non) = nmsX.map D.str := by
        unfold chs nmsX
        rw [List.map_map, List.map_map]
        rfl
      rw [q]
    have e3 : gAdd (.loc S.length) (.loc S1.length) S2 = some (.loc S2.length, S3) := gAdd_locs (by rw [show S2 = S ++ [.lst (nmsA.map D.str)] ++ [.lst (nmsX.map D.str)] from rfl, List.append_assoc, List.getElem?_append_right (Nat.le_refl _), Nat.sub_self]; rfl) (get_last _ _) (by simp only [List.length_map]; decide +kernel)
    have e4 : eLst (aCons (eC (.str "abcdefgh")) (aCons (eC (.str "zzzzzzzz")) (aNil))) τ S3 = some (.ok (.loc S3.length) S4) := eLst_ok (ds := nmsE.map D.str) (a2_ok rfl rfl) (by show 2 ≤ 1000; decide)
    have g3 : S4[S2.length]? = some (.lst (nmsA.map D.str ++ nmsX.map D.str)) := by
      rw [show S4 = S3 ++ [.lst (nmsE.map D.str)] from rfl, List.getElem?_append_left (by omega)]
      exact get_last _ _
    have e5 : gAdd (.loc S2.length) (.loc S3.length) S4 = some (.loc S4.length, S5) := (gAdd_locs g3 (get_last _ _) (by simp only [List.length_append, List.length_map]; decide +kernel)).trans (by
      simp only [S5, all, List.map_append])
    refine ws_set (eB_ok (eB_ok e1 e2 e3) e4 e5) ?_
    have L40 : (all.map D.str).length = 40 := by rw [List.length_map]; exact allR.2.1
    have keep : ∀ i, i < S.length → S5[i]? = S[i]? := fun i hi => by
      simp only [S5, S4, S3, S2, S1, List.append_assoc]
      exact List.getElem?_append_left hi
    have h5 : Reel n k S5 := reel_src.fr h (keep n hn)
    have hL : S5[S4.length]? = some (.lst (all.map D.str)) := get_last _ _
    obtain ⟨S6, acc, e6, ⟨hb, ⟨rest, hr, pr, lr⟩, fr⟩, l6, w6, _⟩ := lc_gen (fi := iRg1 (aCons (eVar 1) (aNil))) (g := tN 5) (t := tAll) (fe := eBM "list" gPopAt (eVar 3) (aCons (eCl (M_reel_draw) 2 (aCons (eVar 0) (aCons (eCB gLenX (aCons (eVar 3) (aNil))) (aNil)))) (aNil))) (vs := [5])
      (τ := [some (.loc n), some (.int (m : Nat)), some (.str "abcdefghijklmnopqrstuvwxyz"), some (.loc S4.length), none, none]) (S := S5) (S1 := S5) (ds := (List.range m).map fun i : Nat => D.int i)
      (fun i acc S' => Reel n (k + i) S' ∧ (∃ rest, S'[S4.length]? = some (.lst rest) ∧ (acc ++ rest).Perm (all.map D.str) ∧ rest.length = 40 - i) ∧ ∀ j, j < S5.length → j ≠ n → j ≠ S4.length → S'[j]? = S5[j]?)
      (iRg1_ok (a1_ok rfl) (by omega)) rfl w5 wks_rg (by simp; omega)
      (fun i acc S' S'' q ⟨hb, ⟨rest, hr, pr, lr⟩, fr⟩ => ⟨reel_src.fr hb (q n (by omega)), ⟨rest, (q _ (by omega)).trans hr, pr, lr⟩, fun j hj hjn hjl => (q j (by omega)).trans (fr j hj hjn hjl)⟩)
      ⟨h5, ⟨_, hL, .refl _, L40⟩, fun j hj _ _ => rfl⟩
      (fun acc S' ⟨hb, ⟨rest, hr, pr, lr⟩, fr⟩ hlen => by
        refine wfk_but (S1 := S5) (fun i => i = n ∨ i = S4.length) (Nat.le_refl _) (by rw [List.take_length]; exact w5) (by omega) (fun i hi hn' => fr i hi (fun z => hn' (.inl z)) fun z => hn' (.inr z)) fun i hi hA => ?_
        rcases hA with rfl | rfl
        · exact reel_src.ex hb
        · exact ⟨_, hr, bds_all.mpr fun d hd => bds_all.mp bds_str d (pr.mem_iff.mp (List.mem_append_right _ hd))⟩)
      (fun i acc S' hi ⟨hb, ⟨rest, hr, pr, lr⟩, fr⟩ hlen hat hwf => by
        have hi2 : i < m := by simpa using hi
        have hbr : bds 0 rest = true := bds_all.mpr fun d hd => bds_all.mp bds_str d (pr.mem_iff.mp (List.mem_append_right _ hd))
        refine ⟨_, rfl, .inr ?_⟩
        obtain ⟨v, hv, S'', e, l, q1, sp, oth, wf⟩ := reel_pop (n := n) (k := k + i) (L := S4.length) (x := 3) (S := S') (rest := rest) (τ := [some (.loc n), some (.int (m : Nat)), some (.str "abcdefghijklmnopqrstuvwxyz"), some (.loc S4.length), none, some (((List.range m).map fun i : Nat => D.int i)[i])]) hwf hb (by omega) hr (by omega) (by omega) (by omega) rfl rfl hbr
        refine ⟨S', rest[v], S'', rfl, e, by omega, by rw [oth _ (by omega) (by omega)]; exact hat, wf, bds_all.mp hbr _ (List.getElem_mem _), sp, ⟨_, q1, ?_, by rw [List.length_eraseIdx_of_lt hv]; omega⟩, fun j hj hjn hjl => by rw [oth j hjn hjl]; exact fr j hj hjn hjl⟩
        rw [List.append_assoc]
        exact ((List.Perm.append_left acc (perm_erase hv).symm)).trans pr)
    rw [List.length_map, List.length_range] at hb lr
    obtain ⟨ys, rfl, ynd, ymem⟩ := names_of_perm pr allR.1
    have hlen := pr.length_eq
    rw [List.length_append, L40, List.length_map] at hlen
    refine ws_rt e6 ⟨_, rfl, ys, rfl, by omega, ynd, fun x hx => ⟨nm_of (allR.2.2 x (ymem x hx)), allQ x (ymem x hx)⟩, hb, ⟨by omega, fun i hi hil => (fr i (by omega) hi (by omega)).trans (keep i hil)⟩⟩
  obtain ⟨d, S', e, xs, rfl, h1⟩ := fn_ws main
  exact ⟨xs, S', e, h1⟩
theorem reel_deck_okQ {n k most : Nat} (w : Wf S) (h : Reel n k S) (hk : k < 2 ^ 38) (hm0 : 1 ≤ most) (hm1 : most ≤ 40) :
    ∃ (l : List Card) (S' : Sto), M_reel_deck [.loc n, .int (most : Nat)] S = some (.ok (dK l) S') ∧ DeckOk l ∧ l.length ≤ most ∧ (∀ c ∈ l, c.2 < 10 ^ 30 ∧ c.1 ≠ "qqqqqqqq") ∧ Reel n (k + 300) S' ∧ Fr n S S' := by
  have hz := sizeLine_eq
  have hn := reel_src.lt h
  have main : Ws (m_reel_deck (ini 5 [.loc n, .int (most : Nat)]) S) fun fl S' => ∃ d, fl = .rt d ∧ ∃ l, d = dK l ∧ DeckOk l ∧ l.length ≤ most ∧ (∀ c ∈ l, c.2 < 10 ^ 30 ∧ c.1 ≠ "qqqqqqqq") ∧ Reel n (k + 300) S' ∧ Fr n S S' := by
    let τ0 : Sl := ini 5 [.loc n, .int (most : Nat)]
    obtain ⟨v1, S1, q1, c1, t1, s1, y1⟩ := reel_drw (S := S) (j := 0) (τ := τ0) (fm := eC (.int 6)) (b := 6) w rfl rfl h (by omega) (by omega) (b200' (by omega))
    obtain ⟨v2, S2, q2, c2, t2, s2, y2⟩ := reel_drw (S := S1) (j := 0) (τ := τ0) (fm := eC (.int 9)) (b := 9) y1 rfl rfl t1 (by omega) (by omega) (b200' (by omega))
    obtain ⟨v3, S3, q3, c3, t3, s3, y3⟩ := reel_drw (S := S2) (j := 0) (τ := τ0) (fm := eVar 1) (b := most) y2 rfl rfl t2 (by omega) (by omega) (b200' (by omega))
    let js : List Nat := [1 + v1, 2 + v2, 1 + v3]
    have Ej : fz (eLst (aCons (eB gAdd (eC (.int 1)) (eCl (M_reel_draw) 2 (aCons (eVar 0) (aCons (eC (.int 6)) (aNil))))) (aCons (eB gAdd (eC (.int 2)) (eCl (M_reel_draw) 2 (aCons (eVar 0) (aCons (eC (.int 9)) (aNil))))) (aCons (eB gAdd (eC (.int 1)) (eCl (M_reel_draw) 2 (aCons (eVar 0) (aCons (eVar 1) (aNil))))) (aNil))))) τ0 S = some (.ok (.fl ((natL js).map D.int)) S3) :=
      fz_list (a3_ok (eB_ok (fa := eC (.int ((1 : Nat) : Nat))) rfl q1 gAdd_nat) (eB_ok (fa := eC (.int ((2 : Nat) : Nat))) rfl q2 gAdd_nat) (eB_ok (fa := eC (.int ((1 : Nat) : Nat))) rfl q3 gAdd_nat)) ((s1.trans s2).trans s3).len y3 (by simp [js]) (bds_int (l := natL js))
    obtain ⟨v4, S4, q4, c4, t4, s4, y4⟩ := reel_drw (S := S3) (j := 0) (τ := τ0) (fm := eC (.int 3)) (b := 3) y3 rfl rfl t3 (by omega) (by omega) (b200' (by omega))
    have hj : v4 < js.length := c4
    have hj1 : 1 ≤ js[v4] := by
      have : ∀ x ∈ js, 1 ≤ x := fun x hx => by
        simp only [js, List.mem_cons, List.not_mem_nil, or_false] at hx
        rcases hx with rfl | rfl | rfl <;> omega
      exact this _ (List.getElem_mem _)
    have gm : gMin2 [.int (most : Nat), .int (js[v4] : Nat)] S4 = some (.int ((min most js[v4] : Nat) : Nat), S4) := by
      simp only [gMin2]
      congr 3; split <;> omega
    refine ws_set (eCB_ok (a2_ok rfl (eB_ok Ej q4 (ix_natL hj))) gm) ?_
    obtain ⟨z, hz1, hz2, ez⟩ : ∃ z : Nat, 1 ≤ z ∧ z ≤ most ∧ min most js[v4] = z := ⟨min most js[v4], by omega, by omega, rfl⟩
    rw [ez]
    let τ1 : Sl := [some (.loc n), some (.int (most : Nat)), some (.int (z : Nat)), none, none]
    have F4 : Sm n S S4 := ((s1.trans s2).trans s3).trans s4
    obtain ⟨xs, X5, e5, lx, ndx, nmx, sp5, fr5⟩ := reel_names_okQ (S := S4) (n := n) (k := k + 4) (m := z) y4 t4 (by omega) hz1 (by omega)
    obtain ⟨S5, q5, s5, t5, y5⟩ := reel_src.fz (f := eCl (M_reel_names) 2 (aCons (eVar 0) (aCons (eVar 2) (aNil)))) (τ := τ1) y4 (eCl_ok (a2_ok rfl rfl) rfl e5) fr5 sp5 (reel_src.lt t4) (d := .fl (xs.map D.str)) bds_str
    obtain ⟨ds, X6, e6, f6, ld, hd, sp6, fr6⟩ := reel_depths_ok (S := S5) (n := n) (m := z) y5 t5 (by omega) hz1 (by omega)
    obtain ⟨S6, q6, s6, t6, y6⟩ := reel_src.fz_lst (f := eCl (M_reel_depths) 2 (aCons (eVar 0) (aCons (eVar 2) (aNil)))) (τ := τ1) y5 (eCl_ok (a2_ok rfl rfl) rfl e6) f6 (Nat.le_refl _) fr6 sp6 (reel_src.lt t5) (bds_int (l := natL ds))
    let l0 : List Card := xs.zip (natL ds)
    have ll0 : l0.length = z := by simp [l0, lx, ld]
    have e7 : (eLZ (aCons (fz (eCl (M_reel_names) 2 (aCons (eVar 0) (aCons (eVar 2) (aNil))))) (aCons (fz (eCl (M_reel_depths) 2 (aCons (eVar 0) (aCons (eVar 2) (aNil))))) (aNil)))) τ1 S4 = some (.ok (.loc S6.length) (S6 ++ [.lst (l0.map dC)])) := by
      simp only [eLZ, M.bnd, a2_ok q5 q6, lisD, Option.bind_some, zip_cards]
      rfl
    refine ws_set e7 ?_
    let S7 : Sto := S6 ++ [.lst (l0.map dC)]
    have w7 : Wf S7 := wf_app y6 bds_dC
    have l7 : S7.length = S.length + 1 := by simp [S7, s6.len, s5.len, F4.len]
    have lS6 : S6.length = S.length := by rw [s6.len, s5.len, F4.len]
    have g7 : S7[S6.length]? = some (.lst (l0.map dC)) := get_last _ _
    have t7 : Reel n (k + 4 + z + 200) S7 := reel_src.app t6
    have ok0 : DeckOk l0 := by
      have m1 : l0.map (·.1) = xs := List.map_fst_zip (by simp [lx, ld])
      refine ⟨by omega, by omega, fun c hc => (nmx _ ?_).1, fun c hc => ?_, by rw [m1]; exact ndx⟩
      · rw [← m1]; exact List.mem_map_of_mem hc
      · obtain ⟨y, hy, e⟩ := List.mem_map.mp (List.of_mem_zip hc).2
        rw [← e]; omega
    have hb0 : ∀ c ∈ l0, c.2 < 10 ^ 30 ∧ c.1 ≠ "qqqqqqqq" := fun c hc => by
      refine ⟨?_, (nmx _ (List.of_mem_zip hc).1).2⟩
      obtain ⟨y, hy, e⟩ := List.mem_map.mp (List.of_mem_zip hc).2
      have := hd y hy
      rw [← e]
      have e1 : (10 : Int) ^ 30 = 1000000000000000000000000000000 := by decide
      have e2 : (10 : Nat) ^ 30 = 1000000000000000000000000000000 := by decide
      omega
    have F7 : Fr n S S7 := ((F4.trans s5).trans s6).fr.trans Fr.app
    let τ2 : Sl := [some (.loc n), some (.int (most : Nat)), some (.int (z : Nat)), some (.loc S6.length), none]
    obtain ⟨v8, S8, q8, c8, t8, s8, y8⟩ := reel_drw (S := S7) (j := 0) (τ := τ2) (fm := eC (.int 3)) (b := 3) w7 rfl rfl t7 (by omega) (by omega) (b200' (by omega))
    have hnl : S6.length ≠ n := by omega
    have g8 : S8[S6.length]? = some (.lst (l0.map dC)) := (s8.at_ _ hnl).trans g7
    have t := tB_ok (eB_ok (fb := eC (.int ((0 : Nat) : Nat))) q8 rfl (gEq_nat (S := S8) (neg := false) (i := v8) (j := 0)))
    by_cases zz : v8 = 0
    · refine ws_seq (bif_t (S1 := S8) (t.trans (by simp [zz])) ?_)
      obtain ⟨S9, acc, e9, g9, ⟨hb, ⟨rest, hr, pr, lr⟩, fr⟩, l9, w9, _⟩ := lc_rawg (fi := iRg1 (aCons (eVar 2) (aNil))) (g := tN 4) (t := tAll) (fe := eBM "list" gPopAt (eVar 3) (aCons (eCl (M_reel_draw) 2 (aCons (eVar 0) (aCons (eCB gLenX (aCons (eVar 3) (aNil))) (aNil)))) (aNil))) (vs := [4])
        (τ := τ2) (S := S8) (S1 := S8) (ds := (List.range z).map fun i : Nat => D.int i)
        (fun i acc S' => Reel n (k + 4 + z + 200 + 1 + i) S' ∧ (∃ rest, S'[S6.length]? = some (.lst rest) ∧ (acc ++ rest).Perm (l0.map dC) ∧ rest.length = z - i) ∧ ∀ j, j < S.length → j ≠ n → S'[j]? = S[j]?)
        (iRg1_ok (a1_ok rfl) (by omega)) y8 wks_rg (by simp; omega)
        (fun i acc S' S'' q ⟨hb, ⟨rest, hr, pr, lr⟩, fr⟩ => ⟨reel_src.fr hb (q n (by rw [s8.len]; omega)), ⟨rest, (q _ (by rw [s8.len]; omega)).trans hr, pr, lr⟩, fun j hj hjn => (q j (by rw [s8.len]; omega)).trans (fr j hj hjn)⟩)
        ⟨t8, ⟨_, g8, .refl _, by rw [List.length_map, ll0]; rfl⟩, fun j hj hjn => (s8.at_ j hjn).trans (F7.at_ j hjn hj)⟩
        (fun i acc S' hi ⟨hb, ⟨rest, hr, pr, lr⟩, fr⟩ hlen hat hwf => by
          have hi2 : i < z := by simpa using hi
          have hbr : bds 0 rest = true := bds_all.mpr fun d hd => bds_all.mp bds_dC d (pr.mem_iff.mp (List.mem_append_right _ hd))
          refine ⟨_, rfl, ?_⟩
          have l8 := s8.len
          obtain ⟨v, hv, S'', e, l, q1, sp, oth, wf⟩ := reel_pop (n := n) (L := S6.length) (x := 3) (S := S') (rest := rest) (τ := [some (.loc n), some (.int (most : Nat)), some (.int (z : Nat)), some (.loc S6.length), some (((List.range z).map fun i : Nat => D.int i)[i])]) hwf hb (by omega) hr (by omega) (by omega) (by omega) rfl rfl hbr
          refine ⟨S', rest[v], S'', rfl, e, by omega, by rw [oth _ (by omega) (by omega)]; exact hat, wf, bds_all.mp hbr _ (List.getElem_mem _), sp, ⟨_, q1, ?_, by rw [List.length_eraseIdx_of_lt hv]; omega⟩, fun j hj hjn => by rw [oth j hjn (by omega)]; exact fr j hj hjn⟩
          rw [List.append_assoc]
          exact ((List.Perm.append_left acc (perm_erase hv).symm)).trans pr)
      rw [List.length_map, List.length_range] at hb lr
      obtain ⟨m, rfl, pm⟩ := cards_of_perm pr (by omega)
      refine ws_set1 e9 ?_
      refine ws_rt (eCB_ok (a1_ok rfl) (d := dK m) (S2 := S9) (by simp only [gTuple, seqD, g9, Option.bind_some])) ⟨_, rfl, m, rfl, deck_perm ok0 pm, by rw [pm.length_eq]; omega, fun c hc => hb0 c (pm.mem_iff.mp hc), reel_src.mono hb (by omega), ⟨by rw [l9, s8.len]; omega, fun i h1 h2 => fr i h2 h1⟩⟩
    · refine ws_no (S1 := S8) (t.trans (by simp [zz])) ?_
      refine ws_rt (eCB_ok (a1_ok rfl) (d := dK l0) (S2 := S8) (by simp only [gTuple, seqD, g8, Option.bind_some])) ⟨_, rfl, l0, rfl, ok0, by omega, hb0, reel_src.mono t8 (by omega), F7.trans s8.fr⟩
  obtain ⟨d, S', e, l, rfl, h1⟩ := fn_ws main
  exact ⟨l, S', e, h1⟩
theorem reel_deck_fzQ {n k most : Nat} {τ : Sl} {a : AF} {S S0 : Sto} (hl : S.length = S0.length) (w : Wf S) (h : Reel n k S) (hk : k < 2 ^ 38) (hm0 : 1 ≤ most) (hm1 : most ≤ 40) (ha : a τ S0 = some (.ok [.loc n, .int (most : Nat)] S)) :
    ∃ (S' : Sto) (l : List Card), fz (eCl M_reel_deck 2 a) τ S0 = some (.ok (dK l) S') ∧ DeckOk l ∧ l.length ≤ most ∧ (∀ c ∈ l, c.2 < 10 ^ 30 ∧ c.1 ≠ "qqqqqqqq") ∧ Reel n (k + 300) S' ∧ Sm n S S' ∧ Wf S' := by
  obtain ⟨l, S1, e, ok, hl2, hb, sp, fr⟩ := reel_deck_okQ (n := n) (most := most) w h hk hm0 hm1
  have hn := reel_src.lt h
  obtain ⟨sm, sp2, w2⟩ := reel_src.cut w fr sp hn
  refine ⟨_, l, ?_, ok, hl2, hb, sp2, sm, w2⟩
  have w3 : wfk S0.length (S1.take S0.length) = true := by
    have := w2
    unfold Wf at this
    rw [← hl]
    rwa [sm.len] at this
  rw [fz_eq, show eCl M_reel_deck 2 a τ S0 = some (.ok (dK l) S1) from eCl_ok ha rfl e]
  simp only [fzR, if_pos w3, rb_bd (bd_dK (k := S0.length) (l := l)), Option.map_some]
  rw [hl]
end Sb
end
section
set_option Elab.async false
set_option linter.all false
set_option maxRecDepth 100000
set_option maxHeartbeats 4000000
namespace Sb
open PySem PySem.Spec PyProof.Rows L2
variable {K : PySem.W.Frag} {S : Sto}
end Sb
end
section
set_option Elab.async false
set_option linter.all false
set_option maxRecDepth 100000
set_option maxHeartbeats 4000000
namespace Sb
open PySem PySem.Spec PyProof.Rows L2
variable {K : PySem.W.Frag} {S : Sto}
/-! ## things equal to themselves -/
theorem gEq_self {neg : Bool} {d : D} {p : PyData} (h1 : toPy 8 S d = some p) (h2 : SeqAt.shaped p = true) : gEq neg d d S = some (.bl (!neg), S) := by
  have h3 : p.canLay0 = true := by
    have : (PyData.canLay0 p && decide (PyData.depth p ≤ 64)) = true := h2
    exact (Bool.and_eq_true _ _ |>.mp this).1
  simp only [gEq, h1, h2, and_self, if_true, SeqAt.eqv_refl p h3]
  cases neg <;> rfl
theorem shp_of {p : PyData} (h1 : p.canLay0 = true) (h2 : p.depth ≤ 64) : SeqAt.shaped p = true := by
  show (PyData.canLay0 p && decide (PyData.depth p ≤ 64)) = true
  rw [h1, Bool.true_and]; exact decide_eq_true h2
/-! ## the deck gone on -/
/-! ### fates of the deck gone on -/
end Sb
end
section
set_option Elab.async false
set_option linter.all false
set_option maxRecDepth 100000
set_option maxHeartbeats 4000000
namespace Sb
open PySem PySem.Spec PyProof.Rows L2
/-! ## a card beneath a closed place -/
structure Lng (l : List Card) (z : Card) : Prop where
  ok : DeckOk l
  lt : l.length < 40
  clo : Sb.clo l < l.length
  dep : ∀ c ∈ l, c.2 < l.length
  nm : Nm z.1
  dz : 0 ≤ z.2
  fresh : ∀ c ∈ l, c.1 ≠ z.1
section
variable {l : List Card} {z : Card}
theorem Lng.ok' (h : Lng l z) : DeckOk (l ++ [z]) := by
  have hl : (l ++ [z]).length = l.length + 1 := by simp
  have h1 := h.ok.lo
  have h2 := h.lt
  refine ⟨by omega, by omega, fun c hc => ?_, fun c hc => ?_, ?_⟩
  · rcases List.mem_append.mp hc with q | q
    · exact h.ok.nm c q
    · rw [List.mem_singleton.mp q]; exact h.nm
  · rcases List.mem_append.mp hc with q | q
    · exact h.ok.dep c q
    · rw [List.mem_singleton.mp q]; exact h.dz
  · rw [List.map_append, List.nodup_append]
    refine ⟨h.ok.nd, by simp, fun a ha b hb e => ?_⟩
    obtain ⟨c, hc, rfl⟩ := List.mem_map.mp ha
    have : b = z.1 := by simpa using hb
    exact h.fresh c hc (e.trans this)
theorem Lng.stps (h : Lng l z) (n : Nat) : Sb.stps n (l ++ [z]) = Sb.stps n l ++ [z] := stps_last (fun e => by have := h.ok.lo; rw [e] at this; simp at this) (fun c hc => by have := h.dep c hc; omega) n
theorem Lng.at (h : Lng l z) (n : Nat) {i : Nat} (hi : i < l.length) : at0 (Sb.stps n (l ++ [z])) i = at0 (Sb.stps n l) i := by
  rw [h.stps]
  unfold at0
  rw [List.getD_eq_getElem?_getD, List.getD_eq_getElem?_getD, List.getElem?_append_left (by rw [stps_len]; exact hi)]
theorem Lng.ra (h : Lng l z) (n : Nat) {i : Nat} (hi : i < l.length) : Sb.ra (Sb.stps n (l ++ [z])) i = Sb.ra (Sb.stps n l) i := by
  unfold Sb.ra
  rw [h.at n hi, stps_len, stps_len, List.length_append, List.length_singleton]
  have hm := at0_mem (l := Sb.stps n l) (show i < (Sb.stps n l).length by rw [stps_len]; exact hi)
  have := h.dep _ (stps_mem n _ hm)
  unfold rch
  omega
theorem Lng.cl (h : Lng l z) (n : Nat) : Sb.clo (Sb.stps n (l ++ [z])) = Sb.clo (Sb.stps n l) := by
  have A := clo_is (stps_ok h.ok n).lo
  have B := clo_is (stps_ok h.ok' n).lo
  have hc : Sb.clo (Sb.stps n l) < l.length := Nat.lt_of_le_of_lt (clo_mono h.ok n) h.clo
  refine B.uniq ⟨A.lo, by rw [stps_len, List.length_append]; omega, fun i hi => ?_, fun m m1 m2 => ?_⟩
  · rw [h.ra n (by omega)]; exact A.all i hi
  · obtain ⟨i, h1, h2⟩ := A.no m m1 m2
    exact ⟨i, h1, by rw [h.ra n (by omega)]; exact h2⟩
theorem Lng.aw (h : Lng l z) (n : Nat) : Sb.aw (Sb.stps n (l ++ [z])) = Sb.aw (Sb.stps n l) := by
  have hc : Sb.clo (Sb.stps n l) < l.length := Nat.lt_of_le_of_lt (clo_mono h.ok n) h.clo
  unfold Sb.aw
  rw [h.cl n]
  refine List.filter_congr fun i hi => ?_
  rw [h.ra n (by have := List.mem_range.mp hi; omega)]
theorem Lng.hm (h : Lng l z) (n : Nat) {x : Str} (hx : x ≠ z.1) : x ∈ hmn (Sb.stps n (l ++ [z])) ↔ x ∈ hmn (Sb.stps n l) := by
  have e1 : (Sb.stps n (l ++ [z])).length = l.length + 1 := by rw [stps_len]; simp
  have e2 : (Sb.stps n l).length = l.length := stps_len l n
  have key : ∀ k : List Card, x ∈ hmn k ↔ ∃ i, i < k.length ∧ i ≤ Sb.ra k i ∧ (at0 k i).1 = x := fun k => by
    unfold hmn
    rw [List.mem_map]
    constructor
    · rintro ⟨i, hi, e⟩
      obtain ⟨a, b⟩ := List.mem_filter.mp hi
      exact ⟨i, List.mem_range.mp a, of_decide_eq_true b, e⟩
    · rintro ⟨i, a, b, e⟩
      exact ⟨i, List.mem_filter.mpr ⟨List.mem_range.mpr a, decide_eq_true b⟩, e⟩
  rw [key, key, e1, e2]
  constructor
  · rintro ⟨i, a, b, e⟩
    by_cases q : i < l.length
    · exact ⟨i, q, by rw [← h.ra n q]; exact b, by rw [← h.at n q]; exact e⟩
    · have : i = l.length := by omega
      subst this
      exfalso
      apply hx
      rw [← e, h.stps]
      unfold at0
      rw [List.getD_eq_getElem?_getD, List.getElem?_append_right (by rw [stps_len]; exact Nat.le_refl _), stps_len]
      simp
  · rintro ⟨i, a, b, e⟩
    exact ⟨i, by omega, by rw [h.ra n a]; exact b, by rw [h.at n a]; exact e⟩
end
end Sb
end
section
set_option Elab.async false
set_option linter.all false
set_option maxRecDepth 100000
set_option maxHeartbeats 4000000
namespace Sb
open PySem PySem.Spec PyProof.Rows L2
/-! ## one card away, one place beneath its reach -/
structure OneA (l : List Card) (p : Nat) : Prop where
  ok : DeckOk l
  aw : Sb.aw l = [p]
  dp : (at0 l p).2 = (p : Int) - 1
section
variable {l : List Card} {p : Nat}
theorem OneA.mem (h : OneA l p) {i : Nat} (hi : i < clo l) (hne : i ≠ p) : i ≤ ra (stps (stl l p) l) i := by
  apply Classical.byContradiction
  intro z
  have e := str_aw h.ok h.aw (Nat.le_refl (stl l p))
  have : i ∈ Sb.aw (stps (stl l p) l) := by
    unfold Sb.aw
    refine List.mem_filter.mpr ⟨List.mem_range.mpr (by rw [str_clo h.ok h.aw (Nat.le_refl _)]; exact hi), by simpa using z⟩
  rw [e, h.aw] at this
  exact hne (by simpa using this)
theorem OneA.rap (h : OneA l p) : ra (stps (stl l p) l) p = p - 1 := by
  obtain ⟨h1, h2, h3⟩ := aw_head h.ok h.aw
  have e := str_at h.ok h.aw _ (Nat.le_refl (stl l p)) p (Nat.le_refl _)
  have hc := clo_le h.ok
  unfold ra rch
  rw [e, h.dp, stps_len]
  omega
theorem OneA.lo (h : OneA l p) : 1 ≤ p ∧ p < clo l ∧ p ≤ ra (stps (stl l p) l) 0 ∧ ra (stps (stl l p) l) 0 < clo l := by
  obtain ⟨h1, h2, h3⟩ := aw_head h.ok h.aw
  have B := clo_is (stps_ok h.ok (stl l p)).lo
  have := B.all 0 B.lo
  rw [str_clo h.ok h.aw (Nat.le_refl _)] at this
  exact ⟨by omega, h1, (stretch h.ok h3 h1).2, this⟩
theorem OneA.fin (h : OneA l p) : Sb.aw (stps (stl l p + 1) l) = [] := by
  obtain ⟨a1, a2, a3, a4⟩ := h.lo
  have okg := stps_ok h.ok (stl l p)
  have hm := clo_mono h.ok (stl l p + 1)
  show Sb.aw (stp (stps (stl l p) l)) = []
  unfold Sb.aw
  rw [List.filter_eq_nil_iff]
  intro i hi
  have hi : i < clo (stps (stl l p + 1) l) := List.mem_range.mp hi
  have : i ≤ ra (stp (stps (stl l p) l)) i := by
    rw [ra_stp okg.lo]
    split
    · rename_i q
      by_cases z : i + 1 = p
      · rw [z, h.rap]; omega
      · have := h.mem (i := i + 1) (by omega) z
        omega
    · split
      · omega
      · exact h.mem (by omega) (by omega)
  simp [this]
end
/-! ## beneath the closed place -/
end Sb
end
section
set_option Elab.async false
set_option linter.all false
set_option maxRecDepth 100000
set_option maxHeartbeats 4000000
namespace Sb
open PySem PySem.Spec PyProof.Rows L2
variable {K : PySem.W.Frag} {S : Sto}
/-! ## how long a round is -/
def turnN (p : Pat) : Nat := if p.count none = p.length then 1 else p.length
def timN (p : Pat) (u : Nat) : Nat := turnN p / Nat.gcd (turnN p) u
theorem turnN_pos {p : Pat} (h : 1 ≤ p.length) : 1 ≤ turnN p ∧ turnN p ≤ p.length := by
  unfold turnN; split <;> omega
theorem timN_le {p : Pat} (h : 1 ≤ p.length) (u : Nat) : timN p u ≤ p.length := Nat.le_trans (Nat.div_le_self _ _) (turnN_pos h).2
theorem turn_okX {p : Pat} (h : RowOk p) : M_turn_of [pD p] S = some (.ok (.int (turnN p : Nat)) S) := by
  obtain ⟨h1, h2, h3⟩ := h
  have lp : gLenX [pD p] S = some (.int (p.length : Nat), S) := by
    have := len_fl (S := S) (ds := p.map optD)
    rwa [List.length_map] at this
  have t := tB_ok (eB_ok (fa := eBM "list" gCount (eVar 0) (aCons (eC .non) (aNil))) (fb := eCB gLenX (aCons (eVar 0) (aNil))) (τ := [some (pD p)]) (eBM_ok rfl rfl (a1_ok rfl) (cnt_none h3 rfl)) (eCB_ok (a1_ok rfl) lp) (gEq_nat (S := S) (neg := false) (i := p.count none) (j := p.length)))
  unfold turnN
  by_cases z : p.count none = p.length
  · rw [if_pos z]
    exact fnM_rt (sRt_ok (eIf_t (t.trans (by simp [z])) rfl))
  · rw [if_neg z]
    exact fnM_rt (sRt_ok (eIf_f (t.trans (by simp [z])) (eCB_ok (a1_ok rfl) lp)))
theorem rounds_by_okX {p : Pat} {u : Nat} (h : RowOk p) : M_rounds_by [pD p, .int (u : Nat)] S = some (.ok (.int (timN p u : Nat)) S) := by
  have e := turn_okX (S := S) h
  obtain ⟨h1, h2⟩ := turnN_pos h.1
  have hp := h.2.1
  unfold timN
  generalize turnN p = t at *
  have hg : 0 < Nat.gcd t u := Nat.gcd_pos_of_pos_left _ h1
  have hg2 : Nat.gcd t u ≤ t := Nat.gcd_le_left _ h1
  refine fnM_rt ((sSeq_nx (sSet_ok (eCl_ok (a1_ok rfl) rfl e))).trans (sRt_ok (eB_ok rfl (eCB_ok (a2_ok rfl rfl) (d := .int ((Nat.gcd t u : Nat) : Nat)) (S2 := S) rfl) ?_)))
  refine (gDiv_i (by omega) ?_).trans (by rw [← Int.natCast_ediv])
  have : (100 : Int) < 2 ^ 300 := by decide
  omega
theorem told_len {l : List Card} (ok : DeckOk l) : (told l).length ≤ 40 ∧ ∀ j, (h : j < (told l).length) → (told l)[j].length ≤ j + 1 := by
  have tl : (told l).length = clo l := by unfold told; simp
  refine ⟨by rw [tl]; have := (clo_is ok.lo).hi; have := ok.hi; omega, fun j h => ?_⟩
  have : (told l)[j] = pat l j := by simp only [told, List.getElem_map, List.getElem_range]
  rw [this]
  unfold pat
  rw [List.length_map]; exact ring_len l j
theorem told_row {l : List Card} (ok : DeckOk l) (ha : aw l = []) : ∀ p ∈ told l, RowOk p := by
  obtain ⟨h1, _⟩ := aw_nil ok ha
  rw [told_frw ok]
  exact rows_ok ok h1.1
theorem big190 {z : Nat} (h : z < 2 ^ 190) : z < 2 ^ 400000 := Nat.lt_of_lt_of_le h (pow_le2 (by decide))
/-! ## behind a round all is the same -/
theorem none_rep {p : Pat} (h : p.count none = p.length) : p = List.replicate p.length none := by
  rw [List.eq_replicate_iff]
  exact ⟨rfl, fun b hb => (List.count_eq_length.mp h b hb).symm⟩
theorem rot_none {p : Pat} (h : p.count none = p.length) (k : Nat) : rot p k = p := by
  have e := none_rep h
  generalize p.length = n at e
  subst e
  unfold rot
  rw [List.drop_replicate, List.take_replicate, List.replicate_append_replicate]
  congr 1
  omega
theorem nxt_none {p : Pat} (h : p.count none = p.length) (hl : 1 ≤ p.length) (i : Nat) : nxt p i = i := by
  unfold nxt
  have hm := Nat.mod_lt i (show 0 < p.length by omega)
  have e2 : (p.take (i % p.length)).count none = i % p.length := by
    have e := none_rep h
    rw [e, List.take_replicate, List.count_replicate_self, List.length_replicate]
    omega
  rw [e2, h, Nat.mul_comm]
  exact Nat.div_add_mod _ _
theorem tim_dvd {n u : Nat} (hn : 1 ≤ n) : ∃ w, u * (n / Nat.gcd n u) = w * n := by
  obtain ⟨a, ha⟩ := Nat.gcd_dvd_left n u
  obtain ⟨b, hb⟩ := Nat.gcd_dvd_right n u
  have hg : 0 < Nat.gcd n u := Nat.gcd_pos_of_pos_left _ hn
  refine ⟨b, ?_⟩
  generalize Nat.gcd n u = g at *
  have : n / g = a := by rw [ha, Nat.mul_div_cancel_left _ hg]
  rw [this, hb, ha, Nat.mul_assoc, Nat.mul_comm b, Nat.mul_comm b, Nat.mul_assoc]
theorem eq_of_nms {l m : List Card} (nd : (l.map (·.1)).Nodup) (hm : ∀ c ∈ m, c ∈ l) (h : m.map (·.1) = l.map (·.1)) : m = l := by
  have hl : m.length = l.length := by simpa using congrArg List.length h
  refine List.ext_getElem hl fun i h1 h2 => ?_
  have e : (m.map (·.1))[i]'(by simpa using h1) = (l.map (·.1))[i]'(by simpa using h2) := by simp only [h]
  rw [List.getElem_map, List.getElem_map] at e
  exact card_uniq nd (hm _ (List.getElem_mem h1)) (List.getElem_mem h2) e
/-! ## shares -/
end Sb
end
section
set_option Elab.async false
set_option linter.all false
set_option maxRecDepth 100000
set_option maxHeartbeats 4000000
namespace Sb
open PySem PySem.Spec PyProof.Rows L2
/-! ## by how many steps rows turn into others -/
theorem trn_app : ∀ (ps qs : List Pat) (n : Nat), trn (ps ++ qs) n = trn ps n ++ trn qs (adv ps n) ∧ adv (ps ++ qs) n = adv qs (adv ps n)
  | [], qs, n => ⟨rfl, rfl⟩
  | q :: ps, qs, n => by
    obtain ⟨a, b⟩ := trn_app ps qs (nxt q n)
    exact ⟨by show rot q (n % q.length) :: trn (ps ++ qs) (nxt q n) = _; rw [a]; rfl, b⟩
theorem rot_at {p : Pat} {k t : Nat} (hk : k < p.length) (ht : t < p.length) : (rot p k)[t]? = p[(k + t) % p.length]? := by
  unfold rot
  by_cases h : t < p.length - k
  · rw [List.getElem?_append_left (by rw [List.length_drop]; exact h), List.getElem?_drop, Nat.mod_eq_of_lt (by omega)]
  · rw [List.getElem?_append_right (by rw [List.length_drop]; omega), List.length_drop, List.getElem?_take_of_lt (by omega)]
    have : (k + t) % p.length = t - (p.length - k) := by
      rw [show k + t = (t - (p.length - k)) + p.length by omega, Nat.add_mod_right, Nat.mod_eq_of_lt (by omega)]
    rw [this]
theorem one_at {p : Pat} {v : Option Str} (hc : p.count v ≤ 1) {a b : Nat} (hab : a < b) (ha : p[a]? = some v) (hb : p[b]? = some v) : False := by
  have hbl : b < p.length := (List.getElem?_eq_some_iff.mp hb).1
  have e : p.count v = (p.take b).count v + (p.drop b).count v := by
    conv => lhs; rw [← List.take_append_drop b p]
    rw [List.count_append]
  have h1 : 0 < (p.take b).count v := List.count_pos_iff.mpr (List.mem_of_getElem? (i := a) (by rw [List.getElem?_take_of_lt hab]; exact ha))
  have h2 : 0 < (p.drop b).count v := List.count_pos_iff.mpr (List.mem_of_getElem? (i := 0) (by rw [List.getElem?_drop, Nat.add_zero]; exact hb))
  omega
theorem mod_inj {n t a b : Nat} (hab : a ≤ b) (hb : b < n) (h : (a + t) % n = (b + t) % n) : a = b := by
  have := Nat.sub_mod_eq_zero_of_mod_eq h.symm
  rw [show b + t - (a + t) = b - a by omega, Nat.mod_eq_of_lt (by omega)] at this
  omega
theorem rot_inj {p : Pat} (hu : ∀ x : Str, p.count (some x) ≤ 1) (hn : p.count none ≠ p.length) {i j : Nat} (hi : i < p.length) (hj : j < p.length) (h : rot p i = rot p j) : i = j := by
  obtain ⟨q, hq, x, hx⟩ : ∃ q, q < p.length ∧ ∃ x, p[q]? = some (some x) := by
    apply Classical.byContradiction
    intro z
    apply hn
    rw [List.count_eq_length]
    intro b hb
    obtain ⟨q, hq, rfl⟩ := List.getElem_of_mem hb
    cases e : p[q] with
    | none => rfl
    | some x => exact absurd ⟨q, hq, x, by rw [List.getElem?_eq_getElem hq, e]⟩ z
  obtain ⟨t, ht⟩ : ∃ t, (q + (p.length - i)) % p.length = t := ⟨_, rfl⟩
  have htl : t < p.length := ht ▸ Nat.mod_lt _ (by omega)
  have e1 : (i + t) % p.length = q := by
    rw [← ht, Nat.add_mod_mod, show i + (q + (p.length - i)) = q + p.length by omega, Nat.add_mod_right, Nat.mod_eq_of_lt hq]
  have e2 := congrArg (fun r : Pat => r[t]?) h
  simp only [rot_at hi htl, rot_at hj htl] at e2
  rw [e1, hx] at e2
  have e3 : (j + t) % p.length = q := by
    apply Classical.byContradiction
    intro z
    rcases Nat.lt_or_gt_of_ne z with y | y
    · exact one_at (hu x) y e2.symm hx
    · exact one_at (hu x) y hx e2.symm
  rcases Nat.le_total i j with y | y
  · exact mod_inj y hj (e1.trans e3.symm)
  · exact (mod_inj y hi (e3.trans e1.symm)).symm
theorem tim_min {n u t : Nat} (hn : 1 ≤ n) : u * t % n = 0 ↔ (n / Nat.gcd n u) ∣ t := by
  have hg : 0 < Nat.gcd n u := Nat.gcd_pos_of_pos_left _ hn
  have hc : Nat.Coprime (n / Nat.gcd n u) (u / Nat.gcd n u) := Nat.coprime_div_gcd_div_gcd hg
  obtain ⟨a, ha⟩ := Nat.gcd_dvd_left n u
  obtain ⟨b, hb⟩ := Nat.gcd_dvd_right n u
  have e1 : n / Nat.gcd n u = a := by
    conv => lhs; lhs; rw [ha]
    exact Nat.mul_div_cancel_left _ hg
  have e2 : u / Nat.gcd n u = b := by
    conv => lhs; lhs; rw [hb]
    exact Nat.mul_div_cancel_left _ hg
  rw [e1, e2] at hc
  rw [e1]
  constructor
  · intro h
    have h := Nat.dvd_of_mod_eq_zero h
    have h2 : Nat.gcd n u * a ∣ Nat.gcd n u * (b * t) := by rwa [← Nat.mul_assoc, ← ha, ← hb]
    exact hc.dvd_of_dvd_mul_left (Nat.dvd_of_mul_dvd_mul_left hg h2)
  · rintro ⟨c, rfl⟩
    refine Nat.mod_eq_zero_of_dvd ⟨b * c, ?_⟩
    conv => lhs; lhs; rw [hb]
    conv => rhs; lhs; rw [ha]
    rw [Nat.mul_assoc, Nat.mul_assoc]
    congr 1
    rw [← Nat.mul_assoc, ← Nat.mul_assoc, Nat.mul_comm b a]
theorem tim_one {p : Pat} (z : p.count none = p.length) (u : Nat) : timN p u = 1 := by unfold timN turnN; rw [if_pos z, Nat.gcd_one_left]
theorem tim_n {p : Pat} (z : p.count none ≠ p.length) (u : Nat) : timN p u = p.length / Nat.gcd p.length u := by unfold timN turnN; rw [if_neg z]
theorem tim_pos {p : Pat} (h : 1 ≤ p.length) (u : Nat) : 1 ≤ timN p u := by
  unfold timN
  exact Nat.div_pos (Nat.gcd_le_left _ (turnN_pos h).1) (Nat.gcd_pos_of_pos_left _ (turnN_pos h).1)
theorem row_per {p : Pat} (h : 1 ≤ p.length) (i u t k : Nat) : rot p ((i + u * (t + timN p u * k)) % p.length) = rot p ((i + u * t) % p.length) := by
  by_cases z : p.count none = p.length
  · rw [rot_none z, rot_none z]
  · obtain ⟨w, hw⟩ := tim_dvd (n := p.length) (u := u) h
    rw [← tim_n z u] at hw
    have : i + u * (t + timN p u * k) = (i + u * t) + w * k * p.length := by
      rw [Nat.mul_add, ← Nat.mul_assoc, hw, ← Nat.add_assoc, Nat.mul_assoc, Nat.mul_comm p.length k, ← Nat.mul_assoc]
    rw [this, Nat.add_mul_mod_self_right]
theorem row_uni {p : Pat} (h : 1 ≤ p.length) (hu : ∀ x : Str, p.count (some x) ≤ 1) {i u t t' : Nat} (htt : t ≤ t') (e : rot p ((i + u * t) % p.length) = rot p ((i + u * t') % p.length)) : ∃ k, t' = t + timN p u * k := by
  by_cases z : p.count none = p.length
  · exact ⟨t' - t, by rw [tim_one z]; omega⟩
  · have e2 := rot_inj hu z (Nat.mod_lt _ (by omega)) (Nat.mod_lt _ (by omega)) e
    have e3 := Nat.sub_mod_eq_zero_of_mod_eq e2.symm
    have e4 : i + u * t' - (i + u * t) = u * (t' - t) := by
      rw [Nat.mul_sub]; omega
    rw [e4] at e3
    obtain ⟨k, hk⟩ := (tim_min h).mp e3
    rw [← tim_n z u] at hk
    exact ⟨k, by omega⟩
theorem nxt_lin {p : Pat} (h : 1 ≤ p.length) (m u k : Nat) : nxt p (m + u * (timN p u * k)) = nxt p m + nxt p (u * timN p u) * k := by
  by_cases z : p.count none = p.length
  · rw [nxt_none z h, nxt_none z h, nxt_none z h, tim_one z, Nat.one_mul, Nat.mul_one]
  · obtain ⟨w, hw⟩ := tim_dvd (n := p.length) (u := u) h
    rw [← tim_n z u] at hw
    have e1 : m + u * (timN p u * k) = m + w * k * p.length := by
      rw [← Nat.mul_assoc, hw, Nat.mul_assoc, Nat.mul_comm p.length k, ← Nat.mul_assoc]
    have e2 : nxt p (w * p.length) = w * p.count none := by
      unfold nxt
      rw [Nat.mul_div_cancel _ (by omega), Nat.mul_mod_left, List.take_zero, List.count_nil, Nat.add_zero]
    rw [e1, hw, e2]
    unfold nxt
    rw [Nat.add_mul_mod_self_right, Nat.add_mul_div_right _ _ (by omega), Nat.add_mul]
    have : w * k * p.count none = w * p.count none * k := by rw [Nat.mul_assoc, Nat.mul_comm k, ← Nat.mul_assoc]
    omega
def untN (p a : Pat) (i u m : Nat) : Option Nat := (List.range m).find? fun t => decide (rot p ((i + u * t) % p.length) = a)
def btw : List (Pat × Pat) → Nat → Nat → Nat → Nat → Option Nat
  | [], s, _, _, _ => some s
  | (p, a) :: r, s, L, i, u => match untN p a i u (timN p u) with
    | none => none
    | some t => btw r (s + L * t) (L * timN p u) (nxt p (i + u * t)) (nxt p (u * timN p u))
theorem unt_none {p a : Pat} {i u : Nat} (h : 1 ≤ p.length) (e : untN p a i u (timN p u) = none) (t : Nat) : rot p ((i + u * t) % p.length) ≠ a := fun q => by
  unfold untN at e
  rw [List.find?_eq_none] at e
  have hT := tim_pos h u
  have := e (t % timN p u) (List.mem_range.mpr (Nat.mod_lt _ hT))
  apply this
  rw [decide_eq_true_eq]
  rw [← row_per h i u (t % timN p u) (t / timN p u), Nat.mod_add_div]
  exact q
theorem unt_some {p a : Pat} {i u t : Nat} (e : untN p a i u (timN p u) = some t) : t < timN p u ∧ rot p ((i + u * t) % p.length) = a := by
  unfold untN at e
  have h1 := List.find?_some e
  have h2 := List.mem_of_find?_eq_some e
  exact ⟨List.mem_range.mp h2, of_decide_eq_true h1⟩
def Spec (ps as : List Pat) : Option Nat → Prop
  | some r => trn ps r = as ∧ ∀ n, trn ps n = as → r ≤ n
  | none => ∀ n, trn ps n ≠ as
theorem btw_is : ∀ (rest : List (Pat × Pat)) (qs bs : List Pat) (s L i u : Nat), (∀ z ∈ rest, 1 ≤ z.1.length ∧ ∀ x : Str, z.1.count (some x) ≤ 1) → bs.length = qs.length → (∀ n, trn qs n = bs ↔ ∃ t, n = s + L * t) → (∀ t, adv qs (s + L * t) = i + u * t) →
    Spec (qs ++ rest.map (·.1)) (bs ++ rest.map (·.2)) (btw rest s L i u)
  | [], qs, bs, s, L, i, u, _, _, h1, _ => by
    rw [List.map_nil, List.map_nil, List.append_nil, List.append_nil]
    show trn qs s = bs ∧ ∀ n, trn qs n = bs → s ≤ n
    refine ⟨(h1 s).mpr ⟨0, by rw [Nat.mul_zero, Nat.add_zero]⟩, fun n hn => ?_⟩
    obtain ⟨t, ht⟩ := (h1 n).mp hn
    omega
  | (p, a) :: r, qs, bs, s, L, i, u, hr, hl, h1, h2 => by
    obtain ⟨hp, hu⟩ := hr (p, a) List.mem_cons_self
    have hp : 1 ≤ p.length := hp
    have hu : ∀ x : Str, p.count (some x) ≤ 1 := hu
    have step : ∀ n, trn (qs ++ [p]) n = bs ++ [a] ↔ ∃ t, n = s + L * t ∧ rot p ((i + u * t) % p.length) = a := fun n => by
      rw [(trn_app qs [p] n).1]
      constructor
      · intro e
        obtain ⟨e1, e2⟩ := List.append_inj e (by rw [trn_len, hl])
        obtain ⟨t, rfl⟩ := (h1 n).mp e1
        refine ⟨t, rfl, ?_⟩
        rw [h2] at e2
        exact (List.cons.inj e2).1
      · rintro ⟨t, rfl, e⟩
        rw [(h1 _).mpr ⟨t, rfl⟩, h2]
        show bs ++ [rot p ((i + u * t) % p.length)] = _
        rw [e]
    have e1 : qs ++ ((p, a) :: r).map (·.1) = (qs ++ [p]) ++ r.map (·.1) := by rw [List.map_cons, List.append_assoc]; rfl
    have e2 : bs ++ ((p, a) :: r).map (·.2) = (bs ++ [a]) ++ r.map (·.2) := by rw [List.map_cons, List.append_assoc]; rfl
    rw [e1, e2]
    unfold btw
    cases hun : untN p a i u (timN p u) with
    | none =>
      show ∀ n, _ ≠ _
      intro n e
      rw [(trn_app (qs ++ [p]) _ n).1] at e
      obtain ⟨e3, _⟩ := List.append_inj e (by rw [trn_len, List.length_append, List.length_append, hl]; rfl)
      obtain ⟨t, _, ht⟩ := (step n).mp e3
      exact unt_none hp hun t ht
    | some t0 =>
      obtain ⟨ht0, hP⟩ := unt_some hun
      have hT := tim_pos hp u
      refine btw_is r (qs ++ [p]) (bs ++ [a]) (s + L * t0) (L * timN p u) (nxt p (i + u * t0)) (nxt p (u * timN p u)) (fun z hz => hr z (List.mem_cons_of_mem _ hz)) (by rw [List.length_append, List.length_append, hl]; rfl) (fun n => ?_) (fun k => ?_)
      · rw [step n]
        constructor
        · rintro ⟨t, rfl, ht⟩
          rcases Nat.le_total t0 t with y | y
          · obtain ⟨k, hk⟩ := row_uni hp hu y (hP.trans ht.symm)
            exact ⟨k, by rw [hk, Nat.mul_add, ← Nat.mul_assoc, Nat.add_assoc]⟩
          · obtain ⟨k, hk⟩ := row_uni hp hu y (ht.trans hP.symm)
            have : k = 0 := by
              cases k with
              | zero => rfl
              | succ k => rw [Nat.mul_succ] at hk; omega
            subst this
            exact ⟨0, by rw [hk]; simp⟩
        · rintro ⟨k, rfl⟩
          exact ⟨t0 + timN p u * k, by rw [Nat.mul_add, ← Nat.mul_assoc, Nat.add_assoc], by rw [row_per hp]; exact hP⟩
      · rw [(trn_app qs [p] _).2]
        have : s + L * t0 + L * timN p u * k = s + L * (t0 + timN p u * k) := by rw [Nat.mul_add, ← Nat.mul_assoc, Nat.add_assoc]
        rw [this, h2]
        show nxt p (i + u * (t0 + timN p u * k)) = _
        rw [Nat.mul_add, ← Nat.add_assoc, nxt_lin hp]
/-! ## decks -/
theorem zip_fst' {α β : Type} : ∀ {l : List α} {m : List β}, l.length = m.length → (l.zip m).map (·.1) = l ∧ (l.zip m).map (·.2) = m
  | [], [], _ => ⟨rfl, rfl⟩
  | a :: l, b :: m, h => by
    obtain ⟨x, y⟩ := zip_fst' (l := l) (m := m) (by simpa using h)
    exact ⟨by rw [List.zip_cons_cons, List.map_cons, x], by rw [List.zip_cons_cons, List.map_cons, y]⟩
  | [], b :: m, h => by simp at h
  | a :: l, [], h => by simp at h
theorem told_cnt {l : List Card} (ok : DeckOk l) (ha : aw l = []) : ∀ p ∈ told l, ∀ x : Str, p.count (some x) ≤ 1 := fun p hp x => by
  have hc := clo_le ok
  unfold told at hp
  obtain ⟨m, hm, rfl⟩ := List.mem_map.mp hp
  have hm := List.mem_range.mp hm
  have hh : m ≤ ra l m := by
    apply Classical.byContradiction
    intro z
    have : m ∈ aw l := by
      unfold aw
      exact List.mem_filter.mpr ⟨List.mem_range.mpr hm, by simpa using z⟩
    rw [ha] at this
    cases this
  exact pat_count ok (by omega) hh
theorem home_of {l : List Card} (ha : aw l = []) {i : Nat} (hi : i < clo l) : i ≤ ra l i := by
  apply Classical.byContradiction
  intro z
  have : i ∈ aw l := by
    unfold aw
    exact List.mem_filter.mpr ⟨List.mem_range.mpr hi, by simpa using z⟩
  rw [ha] at this
  cases this
theorem clo_same {h g : List Card} (okh : DeckOk h) (okg : DeckOk g) (hh : aw h = []) (pm : g.Perm h) (dr : g.drop (clo h) = h.drop (clo h)) : clo g = clo h := by
  have A := clo_is okh.lo
  have B := clo_is okg.lo
  have hl : g.length = h.length := pm.length_eq
  have hch := clo_le okh
  -- the first cards are the same ones
  have sub : ∀ i, i < clo h → ∃ j, j < clo h ∧ at0 h j = at0 g i := fun i hi => by
    have hm : at0 g i ∈ h := pm.mem_iff.mp (at0_mem (by omega))
    obtain ⟨j, hj, e⟩ := List.getElem_of_mem hm
    refine ⟨j, ?_, by rw [at0_eq hj, e]⟩
    apply Classical.byContradiction
    intro z
    have e2 := congrArg (fun m : List Card => m[j - clo h]?) dr
    simp only [List.getElem?_drop, show clo h + (j - clo h) = j by omega] at e2
    rw [List.getElem?_eq_getElem hj, e, List.getElem?_eq_getElem (by omega)] at e2
    have e3 : (at0 g j).1 = (at0 g i).1 := by rw [at0_eq (by omega)]; exact congrArg (·.1) (Option.some.inj e2)
    have := at_uniq okg (by omega) (by omega) e3
    omega
  have raE : ∀ {i j}, at0 h j = at0 g i → ra g i = ra h j := fun {i j} e => by unfold ra; rw [← e, hl]
  have le1 : clo g ≤ clo h := by
    apply Classical.byContradiction
    intro z
    obtain ⟨i, i1, i2⟩ := B.no (clo h) A.lo (by omega)
    obtain ⟨j, j1, j2⟩ := sub i i1
    have := A.all j j1
    rw [raE j2] at i2
    omega
  have le2 : clo h ≤ clo g := by
    apply Classical.byContradiction
    intro z
    obtain ⟨i, i1, i2⟩ := A.no (clo g) B.lo (by omega)
    -- the names of the first clo g places of g lie at such places of h
    have nd : ((List.range (clo g)).map fun i => (at0 g i).1).Nodup := by
      unfold List.Nodup
      rw [List.pairwise_map]
      refine List.Pairwise.imp_of_mem ?_ (List.nodup_range (n := clo g))
      intro a b ha hb hne e
      exact hne (at_uniq okg (by have := List.mem_range.mp ha; omega) (by have := List.mem_range.mp hb; omega) e)
    have inn : ∀ x ∈ (List.range (clo g)).map (fun i => (at0 g i).1), x ∈ (List.range (clo g)).map fun i => (at0 h i).1 := fun x hx => by
      obtain ⟨a, ha, rfl⟩ := List.mem_map.mp hx
      have ha := List.mem_range.mp ha
      obtain ⟨j, j1, j2⟩ := sub a (by omega)
      have h1 := B.all a ha
      have h2 := home_of hh j1
      rw [raE j2] at h1
      exact List.mem_map.mpr ⟨j, List.mem_range.mpr (by omega), by rw [j2]⟩
    have hno : (at0 h i).1 ∉ (List.range (clo g)).map fun i => (at0 g i).1 := fun hx => by
      obtain ⟨a, ha, e⟩ := List.mem_map.mp hx
      have ha := List.mem_range.mp ha
      obtain ⟨j, j1, j2⟩ := sub a (by omega)
      have h1 := B.all a ha
      have : j = i := at_uniq okh (by omega) (by omega) (by rw [j2]; exact e)
      subst this
      rw [raE j2] at h1
      omega
    have := nodup_le (l := (at0 h i).1 :: (List.range (clo g)).map fun i => (at0 g i).1) (m := (List.range (clo g)).map fun i => (at0 h i).1) (List.nodup_cons.mpr ⟨hno, nd⟩) fun y hy => by
      rcases List.mem_cons.mp hy with q | q
      · rw [q]; exact List.mem_map.mpr ⟨i, List.mem_range.mpr i1, rfl⟩
      · exact inn y q
    simp at this
    omega
  omega
theorem steps_iff {h g : List Card} (okh : DeckOk h) (okg : DeckOk g) (hh : aw h = []) (hg : aw g = []) (pm : g.Perm h) (dr : g.drop (clo h) = h.drop (clo h)) (t : Nat) : stps t h = g ↔ trn (told h) t = told g := by
  have hc := clo_same okh okg hh pm dr
  have A := clo_is okh.lo
  obtain ⟨h1, h2⟩ := aw_nil okh hh
  obtain ⟨g1, _⟩ := aw_nil okg hg
  obtain ⟨w1, e2, e3⟩ := within_all t h1 (h2 t)
  rw [told_frw okh, told_frw okg, hc, e2]
  rw [hc] at g1
  constructor
  · intro e; rw [e]
  · intro e
    have b1 := bl_frw g1
    have b2 := bl_frw w1
    rw [e, b1] at b2
    have b4 := List.reverse_inj.mp (Prod.mk.inj b2).2
    have hq : clo h - 1 + 1 = clo h := by have := A.lo; omega
    rw [hq] at b4 e3
    refine eq_of_nms okg.nd (fun c hc => pm.mem_iff.mpr (stps_mem t c hc)) ?_
    have sp : ∀ m : List Card, m.map (·.1) = nms (m.take (clo h)) ++ (m.drop (clo h)).map (·.1) := fun m => by
      rw [← List.map_append, List.take_append_drop]
    rw [sp (stps t h), sp g, e3, dr, b4]
end Sb
end
section
set_option Elab.async false
set_option linter.all false
set_option maxRecDepth 100000
set_option maxHeartbeats 4000000
namespace Sb
open PySem PySem.Spec PyProof.Rows L2
variable {K : PySem.W.Frag} {S : Sto}
/-! ## a home deck none of whose names is the law's own fresh one -/
theorem reel_home_okQ {n k most : Nat} (w : Wf S) (h : Reel n k S) (hk : k < 2 ^ 37) (hm0 : 1 ≤ most) (hm1 : most ≤ 40) :
    ∃ (m : List Card) (S' : Sto), M_reel_home_deck [.loc n, .int (most : Nat)] S = some (.ok (dK m) S') ∧ DeckOk m ∧ m.length ≤ most ∧ (∀ i, i < m.length → i ≤ ra m i) ∧ (∀ c ∈ m, c.2 < 10 ^ 30 ∧ c.1 ≠ "qqqqqqqq") ∧ Reel n (k + 600) S' ∧ Fr n S S' := by
  have hz := sizeLine_eq
  have hn := reel_src.lt h
  have main : Ws (m_reel_home_deck (ini 12 [.loc n, .int (most : Nat)]) S) fun fl S' => ∃ d, fl = .rt d ∧ ∃ m, d = dK m ∧ DeckOk m ∧ m.length ≤ most ∧ (∀ i, i < m.length → i ≤ ra m i) ∧ (∀ c ∈ m, c.2 < 10 ^ 30 ∧ c.1 ≠ "qqqqqqqq") ∧ Reel n (k + 600) S' ∧ Fr n S S' := by
    obtain ⟨S1, l, e1, ok, hl, hb, sp1, sm1, w1⟩ := reel_deck_fzQ (τ := ini 12 [.loc n, .int (most : Nat)]) (a := aCons (eVar 0) (aCons (eVar 1) (aNil))) rfl w h (by omega) hm0 hm1 (a2_ok rfl rfl)
    refine ws_set e1 ?_
    refine ws_set (eCB_ok (a1_ok rfl) len_deck) ?_
    have hlo := ok.lo
    have h40 := ok.hi
    obtain ⟨z, ez⟩ : ∃ z, l.length = z := ⟨_, rfl⟩
    rw [ez]
    let τ3 : Sl := [some (.loc n), some (.int (most : Nat)), some (dK l), some (.int (z : Nat)), none, none, none, none, none, none, none, none]
    have f1 := lc_pu (fi := iSeq (eVar 2)) (g := tN2 5 6) (t := tAll) (fe := eCB gMin2 (aCons (eVar 6) (aCons (eB gSub (eVar 3) (eC (.int 1))) (aNil)))) (vs := [5, 6]) (τ := τ3) (S := S1) (ds := l.map dC)
      (fun _ => true) (fun d => match d with | .tup [.str x, .int i] => .int (rch z (x, i) : Nat) | _ => .non) w1 (iSeq_ok rfl wk_tup) wks_ds (by simp; omega)
      (fun d hd _ => by obtain ⟨c, _, rfl⟩ := List.mem_map.mp hd; rfl)
      (fun d hd S'' _ _ => by
        obtain ⟨c, hc, rfl⟩ := List.mem_map.mp hd
        exact ⟨_, rfl, rfl, fun _ => eCB_ok (a2_ok rfl (eB_ok rfl rfl (gSub_nat (i := z) (j := 1) (by omega)))) (min_rch (ok.dep c hc) (by omega))⟩)
    rw [filter_tt, List.map_map] at f1
    have f1' : (l.map ((fun d => match d with | .tup [.str x, .int i] => D.int (rch z (x, i) : Nat) | _ => .non) ∘ dC)) = (natL (l.map fun c => rch z c)).map D.int := by rw [natD, List.map_map]; rfl
    rw [f1'] at f1
    have hsl : (natL (l.map fun c => rch z c)).length < 64 := by simp; omega
    have f2 : fz (eCB gSortedI (aCons (fz (eLc (iSeq (eVar 2)) (tN2 5 6) (tAll) (eCB gMin2 (aCons (eVar 6) (aCons (eB gSub (eVar 3) (eC (.int 1))) (aNil)))) [5, 6])) (aNil))) τ3 S1 = some (.ok (.fl ((sortI (natL (l.map fun c => rch z c))).map D.int)) S1) :=
      fz_lst (X := [.lst ((sortI (natL (l.map fun c => rch z c))).map D.int)]) w1 (eCB_ok (a1_ok f1) (by simp only [gSortedI, ints_of, Option.bind_some, if_pos hsl])) (get_last _ _) (Nat.le_refl _) (bds_ints0 _)
    obtain ⟨es, ees, les, hes⟩ := natL_of (ns := sortI (natL (l.map fun c => rch z c))) (b := z - 1) fun x hx => by
      have := (sortI_perm _).mem_iff.mp hx
      obtain ⟨y, hy, rfl⟩ := List.mem_map.mp this
      obtain ⟨c, _, rfl⟩ := List.mem_map.mp hy
      exact ⟨_, rfl, by unfold rch; omega⟩
    have lesz : es.length = z := by rw [les, (sortI_perm _).length_eq]; simp [ez]
    rw [ees] at f2
    refine ws_set f2 ?_
    let τ4 : Sl := [some (.loc n), some (.int (most : Nat)), some (dK l), some (.int (z : Nat)), some (.fl ((natL es).map D.int)), none, none, none, none, none, none, none]
    let mx : List Nat := (List.range es.length).map fun i => max (es.getD i 0) i
    have f3 := lc_pu (fi := iEnX (aCons (eVar 4) (aNil))) (g := tN2 7 6) (t := tAll) (fe := eCB gMax (aCons (eVar 6) (aCons (eVar 7) (aNil)))) (vs := [7, 6]) (τ := τ4) (S := S1) (ds := enN es)
      (fun _ => true) (fun d => match d with | .tup [.int i, .int j] => D.int ((max j.toNat i.toNat : Nat) : Nat) | _ => .non) w1 (iEnX_fl (a1_ok rfl)) wks_enN (by unfold enN; simp; omega)
      (fun d hd _ => by unfold enN at hd; obtain ⟨i, _, rfl⟩ := List.mem_map.mp hd; rfl)
      (fun d hd S'' _ _ => by
        unfold enN at hd
        obtain ⟨i, _, rfl⟩ := List.mem_map.mp hd
        refine ⟨_, rfl, rfl, fun _ => (eCB_ok (a2_ok rfl rfl) gMax_2).trans ?_⟩
        show _ = some (Rs.ok (D.int ((max ((es.getD i 0 : Nat) : Int).toNat ((i : Nat) : Int).toNat : Nat) : Nat)) S'')
        rw [Int.toNat_natCast, Int.toNat_natCast])
    rw [filter_tt] at f3
    have f3' : (enN es).map (fun d : D => match d with | .tup [.int i, .int j] => D.int ((max j.toNat i.toNat : Nat) : Nat) | _ => .non) = (natL mx).map D.int := by
      rw [natD]
      unfold enN
      simp only [mx, List.map_map]
      refine List.map_congr_left fun i _ => ?_
      show D.int ((max ((es.getD i 0 : Nat) : Int).toNat ((i : Nat) : Int).toNat : Nat) : Nat) = _
      rw [Int.toNat_natCast, Int.toNat_natCast]
      rfl
    rw [f3'] at f3
    refine ws_set f3 ?_
    let τ5 : Sl := [some (.loc n), some (.int (most : Nat)), some (dK l), some (.int (z : Nat)), some (.fl ((natL mx).map D.int)), none, none, none, none, none, none, none]
    have f4 := lc_pu (fi := iSeq (eVar 2)) (g := tN2 5 6) (t := tAll) (fe := eVar 5) (vs := [5, 6]) (τ := τ5) (S := S1) (ds := l.map dC)
      (fun _ => true) (fun d => match d with | .tup [x, _] => x | _ => .non) w1 (iSeq_ok rfl wk_tup) wks_ds (by simp; omega)
      (fun d hd _ => by obtain ⟨c, _, rfl⟩ := List.mem_map.mp hd; rfl)
      (fun d hd S'' _ _ => by
        obtain ⟨c, hc, rfl⟩ := List.mem_map.mp hd
        exact ⟨_, rfl, rfl, fun _ => rfl⟩)
    rw [filter_tt, List.map_map] at f4
    let xs : List Str := l.map (·.1)
    have f4' : (l.map ((fun d => match d with | .tup [x, _] => x | _ => .non) ∘ dC)) = xs.map D.str := by simp only [xs, List.map_map]; rfl
    rw [f4'] at f4
    let cs0 : List (Str × Nat) := xs.zip mx
    have e7 : (eLZ (aCons (fz (eLc (iSeq (eVar 2)) (tN2 5 6) (tAll) (eVar 5) [5, 6])) (aCons (eVar 4) (aNil)))) τ5 S1 = some (.ok (.loc S1.length) (S1 ++ [.lst (cs0.map cN)])) := by
      simp only [eLZ, M.bnd, a2_ok f4 (show eVar 4 τ5 S1 = some (.ok (.fl ((natL mx).map D.int)) S1) from rfl), lisD, Option.bind_some, zip_cN]
      rfl
    refine ws_set e7 ?_
    have lmx : mx.length = z := by simp [mx, lesz]
    have lxs : xs.length = z := by simp [xs, ez]
    have hm0 : HmC xs z cs0 := by
      refine ⟨by simp [cs0, lmx, lxs], by rw [show cs0.map (·.1) = xs from List.map_fst_zip (by omega)], fun i hi => ?_, fun i hi => ?_⟩
      · simp only [cs0, List.getElem_zip, mx, List.getElem_map, List.getElem_range]; omega
      · have hi' : i < z := by simp [cs0, lmx, lxs] at hi; omega
        have := hes (es.getD i 0) (getD_mem (by omega))
        simp only [cs0, List.getElem_zip, mx, List.getElem_map, List.getElem_range]
        omega
    have l1 := sm1.len
    refine ws_for (2 * z) (fun j τ S' => ∃ (cs : List (Str × Nat)) (x5 x6 x7 x9 x10 x11 : Option D), τ = [some (.loc n), some (.int (most : Nat)), some (dK l), some (.int (z : Nat)), some (.fl ((natL mx).map D.int)), x5, x6, x7, some (.loc S1.length), x9, x10, x11] ∧ HmC xs z cs ∧ S'.length = S1.length + 1 ∧ S'[S1.length]? = some (.lst (cs.map cN)) ∧ (∀ q, q ≠ n → q < S1.length → S'[q]? = S1[q]?) ∧ Reel n (k + 300 + 2 * j) S' ∧ Wf S') (fun i => .int (i : Nat))
      (iRg1_ok (a1_ok (eB_ok rfl rfl ((mulX (by decide) (p300 (by omega) (by omega))).trans (show _ = some (D.int ((2 * z : Nat) : Nat), _) by congr 3)))) (by omega)) (Nat.le_refl _) ⟨cs0, none, none, none, none, none, none, rfl, hm0, by simp, get_last _ _, fun q h1 h2 => List.getElem?_append_left h2, reel_src.app sp1, wf_app w1 bds_cN⟩ ?_ (fun _ _ _ => rg_end) ?_
    · rintro j τ S' hj ⟨cs, x5, x6, x7, x9, x10, x11, rfl, hc, len, hf, keep, sp, w'⟩
      refine ⟨rg_nxt hj, _, rfl, ?_⟩
      let τ6 : Sl := [some (.loc n), some (.int (most : Nat)), some (dK l), some (.int (z : Nat)), some (.fl ((natL mx).map D.int)), x5, x6, x7, some (.loc S1.length), some (.int (j : Nat)), x10, x11]
      obtain ⟨a, T1, q1, c1, t1, s1, y1⟩ := reel_drw (S := S') (j := 0) (τ := τ6) (fm := eVar 3) (b := z) w' rfl rfl sp (by omega) (by omega) (b200' (by omega))
      obtain ⟨b, T2, q2, c2, t2, s2, y2⟩ := reel_drw (S := T1) (j := 0) (τ := τ6) (fm := eVar 3) (b := z) y1 rfl rfl t1 (by omega) (by omega) (b200' (by omega))
      refine ws_nx (sPar_ok (a2_ok q1 q2)) ?_
      have ha : a < cs.length := by rw [hc.len]; exact c1
      have hb : b < cs.length := by rw [hc.len]; exact c2
      have hf2 : T2[S1.length]? = some (.lst (cs.map cN)) := (s2.at_ _ (by omega)).trans ((s1.at_ _ (by omega)).trans hf)
      have lT : T2.length = S1.length + 1 := by rw [s2.len, s1.len]; exact len
      have gx : ∀ {i : Nat}, (hi : i < cs.length) → gIx (.loc S1.length) (.int (i : Nat)) T2 = some (cN cs[i], T2) := fun {i} hi => by
        have h1 : ((i : Nat) : Int) < ((cs.map cN).length : Int) := by rw [List.length_map]; omega
        have h0 : (0 : Int) ≤ (i : Nat) := by omega
        simp only [gIx, seqD, hf2, Option.bind_some, atI, ixN, if_pos h0, if_pos h1, Int.toNat_natCast, List.getElem?_map, List.getElem?_eq_getElem hi, Option.map_some]
      have g1 : ∀ (c : Str × Nat), gIx (cN c) (.int 1) T2 = some (.int (c.2 : Nat), T2) := fun c => by simp [gIx, seqD, atI, ixN]
      have gmin : gMin2 [.int (cs[a].2 : Nat), .int (cs[b].2 : Nat)] T2 = some (.int ((min cs[a].2 cs[b].2 : Nat) : Nat), T2) := by
        simp only [gMin2]
        congr 3; split <;> omega
      let τ7 : Sl := [some (.loc n), some (.int (most : Nat)), some (dK l), some (.int (z : Nat)), some (.fl ((natL mx).map D.int)), x5, x6, x7, some (.loc S1.length), some (.int (j : Nat)), some (.int (a : Nat)), some (.int (b : Nat))]
      have tst : (tB (eB gLe (eCB gMax (aCons (eVar 10) (aCons (eVar 11) (aNil)))) (eCB gMin2 (aCons (eB gIx (eB gIx (eVar 8) (eVar 10)) (eC (.int 1))) (aCons (eB gIx (eB gIx (eVar 8) (eVar 11)) (eC (.int 1))) (aNil)))))) τ7 T2 = some (.ok (decide (max a b ≤ min cs[a].2 cs[b].2)) T2) :=
        tB_ok (eB_ok (eCB_ok (a2_ok rfl rfl) gMax_2) (eCB_ok (a2_ok (eB_ok (eB_ok rfl rfl (gx ha)) rfl (g1 _)) (eB_ok (eB_ok rfl rfl (gx hb)) rfl (g1 _))) gmin) (gLe_i.trans (by rw [dec_le])))
      have keep2 : ∀ q, q ≠ n → q < S1.length → T2[q]? = S1[q]? := fun q h1 h2 => by rw [s2.at_ q h1, s1.at_ q h1]; exact keep q h1 h2
      by_cases q : max a b ≤ min cs[a].2 cs[b].2
      · refine bif_t (tst.trans (by rw [decide_eq_true q])) ?_
        have p1 : putD (.loc S1.length) (.int (a : Nat)) (cN cs[b]) T2 = some (T2.set S1.length (.lst ((cs.map cN).set a (cN cs[b])))) := putD_ok hf2 (by simpa using ha)
        have hf3 : (T2.set S1.length (.lst ((cs.map cN).set a (cN cs[b]))))[S1.length]? = some (.lst ((cs.map cN).set a (cN cs[b]))) := List.getElem?_set_self (by omega)
        have p2 : putD (.loc S1.length) (.int (b : Nat)) (cN cs[a]) (T2.set S1.length (.lst ((cs.map cN).set a (cN cs[b])))) = some (T2.set S1.length (.lst (((cs.set a cs[b]).set b cs[a]).map cN))) := (putD_ok hf3 (by simpa using hb)).trans (by
          rw [List.set_set, List.map_set, List.map_set])
        have et : (eTup (aCons (eB gIx (eVar 8) (eVar 11)) (aCons (eB gIx (eVar 8) (eVar 10)) (aNil)))) τ7 T2 = some (.ok (.tup [cN cs[b], cN cs[a]]) T2) := eTup_ok (a2_ok (eB_ok rfl rfl (gx hb)) (eB_ok rfl rfl (gx ha))) (by simp)
        have sw : (sSw (eTup (aCons (eB gIx (eVar 8) (eVar 11)) (aCons (eB gIx (eVar 8) (eVar 10)) (aNil)))) (eVar 8) (eVar 10) (eVar 8) (eVar 11)) τ7 T2 = some (.nx τ7, T2.set S1.length (.lst (((cs.set a cs[b]).set b cs[a]).map cN))) := by
          simp only [sSw, sx, et, show ∀ S, eVar 8 τ7 S = some (.ok (.loc S1.length) S) from fun _ => rfl, show ∀ S, eVar 10 τ7 S = some (.ok (.int (a : Nat)) S) from fun _ => rfl, show ∀ S, eVar 11 τ7 S = some (.ok (.int (b : Nat)) S) from fun _ => rfl, p1, Option.bind_some, p2]
        refine ⟨_, _, sw, (cs.set a cs[b]).set b cs[a], _, _, _, _, _, _, rfl, hc.swap ha hb q, by rw [List.length_set]; exact lT, List.getElem?_set_self (by omega), fun q h1 h2 => by rw [List.getElem?_set_ne (by omega)]; exact keep2 q h1 h2, reel_src.mono (reel_src.fr (S := T2) t2 (List.getElem?_set_ne (by omega))) (by omega), wf_set y2 bds_cN⟩
      · exact bif_f (tst.trans (by rw [decide_eq_false q])) (ws_nop ⟨cs, _, _, _, _, _, _, rfl, hc, lT, hf2, keep2, reel_src.mono t2 (by omega), y2⟩)
    · rintro τ S' ⟨cs, x5, x6, x7, x9, x10, x11, rfl, hc, len, hf, keep, sp, w'⟩
      have hcl := hc.len
      obtain ⟨S6, acc, e6, ⟨hb6, hf6, ⟨rs, rfl, lrs, hrs⟩, fr⟩, l6, w6, _⟩ := lc_genL (fi := iSeq (eVar 8)) (g := tN2 5 6) (t := tAll) (fe := eTup (aCons (eVar 5) (aCons (eIf (tB (eB gLtI (eVar 6) (eB gSub (eVar 3) (eC (.int 1))))) (eVar 6) (eB gAdd (eVar 6) (eCl (M_reel_draw) 2 (aCons (eVar 0) (aCons (eC (.int 3)) (aNil)))))) (aNil)))) (vs := [5, 6])
        (τ := [some (.loc n), some (.int (most : Nat)), some (dK l), some (.int (z : Nat)), some (.fl ((natL mx).map D.int)), x5, x6, x7, some (.loc S1.length), x9, x10, x11]) (S := S') (S1 := S') (ds := cs.map cN) (fun S'' => S''[S1.length]? = some (.lst (cs.map cN)))
        (fun i acc S'' => Reel n (k + 470 + i) S'' ∧ S''[S1.length]? = some (.lst (cs.map cN)) ∧ (∃ rs : List Card, acc = rs.map dC ∧ rs.length = i ∧ ∀ (j : Nat) (c : Card) (e : Str × Nat), rs[j]? = some c → cs[j]? = some e → c.1 = e.1 ∧ (e.2 : Int) ≤ c.2 ∧ c.2 < e.2 + 3) ∧ ∀ j, j < S1.length → j ≠ n → S''[j]? = S1[j]?)
        (fun i acc S'' hJ => hJ.2.1)
        (iSeq_ok (wk := ⟨(cs.map cN).length, fun i S => (seqD S (.loc S1.length)).map fun es => es[i]?⟩) rfl (by simp only [wkD, seqD, hf, Option.map_some])) rfl w' ⟨fun i S'' hS => by simp only [seqD, hS, Option.map_some], Nat.le_refl _⟩ (by rw [List.length_map]; omega)
        (fun i acc S'' S3 q ⟨a1, a2, a3, a4⟩ => ⟨reel_src.fr a1 (q n (by have := reel_src.lt sp; omega)), (q _ (by omega)).trans a2, a3, fun j hj hjn => (q j (by omega)).trans (a4 j hj hjn)⟩)
        ⟨reel_src.mono sp (by omega), hf, ⟨[], rfl, rfl, fun j c e z => by simp at z⟩, fun j hj hjn => keep j hjn hj⟩
        (fun acc S'' ⟨a1, a2, a3, a4⟩ hlen => by
          refine wfk_but (S1 := S') (fun i => i = n ∨ i = S1.length) (Nat.le_refl _) (by rw [List.take_length]; exact w') (by omega) (fun i hi hn' => ?_) fun i hi hA => ?_
          · have hi1 : i ≠ n := fun z => hn' (.inl z)
            have hi2 : i ≠ S1.length := fun z => hn' (.inr z)
            rw [a4 i (by omega) hi1, keep i hi1 (by omega)]
          · rcases hA with rfl | rfl
            · exact reel_src.ex a1
            · exact ⟨_, a2, bds_cN⟩)
        (fun i acc S'' hi ⟨a1, a2, ⟨rs, era, lrs, hrs⟩, a4⟩ hlen hat hwf => by
          have hi2 : i < cs.length := by simpa using hi
          have gi : (cs.map cN)[i] = cN cs[i] := List.getElem_map ..
          rw [gi]
          refine ⟨_, rfl, .inr ?_⟩
          let τ8 : Sl := [some (.loc n), some (.int (most : Nat)), some (dK l), some (.int (z : Nat)), some (.fl ((natL mx).map D.int)), some (.str cs[i].1), some (.int (cs[i].2 : Nat)), x7, some (.loc S1.length), x9, x10, x11]
          have fin : ∀ (dp : Nat) (S3 : Sto), cs[i].2 ≤ dp → dp < cs[i].2 + 3 → S3.length = S''.length → S3[S1.length]? = some (.lst (cs.map cN)) → S3[S'.length]? = some (.lst acc) → Reel n (k + 470 + (i + 1)) S3 → Wf S3 → (∀ j, j < S1.length → j ≠ n → S3[j]? = S1[j]?) → (eTup (aCons (eVar 5) (aCons (eIf (tB (eB gLtI (eVar 6) (eB gSub (eVar 3) (eC (.int 1))))) (eVar 6) (eB gAdd (eVar 6) (eCl (M_reel_draw) 2 (aCons (eVar 0) (aCons (eC (.int 3)) (aNil)))))) (aNil)))) τ8 S'' = some (.ok (dC (cs[i].1, (dp : Int))) S3) →
              ∃ S2 y S3, tAll τ8 S'' = some (.ok true S2) ∧ (eTup (aCons (eVar 5) (aCons (eIf (tB (eB gLtI (eVar 6) (eB gSub (eVar 3) (eC (.int 1))))) (eVar 6) (eB gAdd (eVar 6) (eCl (M_reel_draw) 2 (aCons (eVar 0) (aCons (eC (.int 3)) (aNil)))))) (aNil)))) τ8 S2 = some (.ok y S3) ∧ S3.length = S'.length + 1 ∧ S3[S'.length]? = some (.lst acc) ∧ Wf S3 ∧ bd 0 y = true ∧ Reel n (k + 470 + (i + 1)) S3 ∧ S3[S1.length]? = some (.lst (cs.map cN)) ∧ (∃ rs : List Card, acc ++ [y] = rs.map dC ∧ rs.length = i + 1 ∧ ∀ (j : Nat) (c : Card) (e : Str × Nat), rs[j]? = some c → cs[j]? = some e → c.1 = e.1 ∧ (e.2 : Int) ≤ c.2 ∧ c.2 < e.2 + 3) ∧ ∀ j, j < S1.length → j ≠ n → S3[j]? = S1[j]? := by
            intro dp S3 d1 d2 g1 g2 g3 g4 g5 g6 g7
            refine ⟨S'', _, S3, rfl, g7, by omega, g3, g5, rfl, g4, g2, ⟨rs ++ [(cs[i].1, (dp : Int))], by rw [era]; simp, by simp [lrs], fun j c e h1 h2 => ?_⟩, g6⟩
            by_cases q : j < rs.length
            · rw [List.getElem?_append_left q] at h1
              exact hrs j c e h1 h2
            · rw [List.getElem?_append_right (by omega)] at h1
              have : j = i := by
                have := (List.getElem?_eq_some_iff.mp h1).1
                simp at this
                omega
              subst this
              rw [lrs, Nat.sub_self] at h1
              cases h1
              rw [List.getElem?_eq_getElem hi2] at h2
              cases h2
              exact ⟨rfl, by show ((_ : Nat) : Int) ≤ (dp : Int); omega, by show (dp : Int) < _; omega⟩
          have tst : (tB (eB gLtI (eVar 6) (eB gSub (eVar 3) (eC (.int 1))))) τ8 S'' = some (.ok (decide (cs[i].2 < z - 1)) S'') := tB_ok (eB_ok rfl (eB_ok rfl rfl (gSub_nat (i := z) (j := 1) (by omega))) (gLt_i.trans (by rw [dec_lt])))
          by_cases q : cs[i].2 < z - 1
          · exact fin cs[i].2 S'' (Nat.le_refl _) (by omega) rfl a2 hat (reel_src.mono a1 (by omega)) hwf a4 (eTup_ok (a2_ok rfl (eIf_t (tst.trans (by rw [decide_eq_true q])) rfl)) (by simp))
          · obtain ⟨u, T, qq, cc, tt, ss, yy⟩ := reel_drw (S := S'') (j := 0) (τ := τ8) (fm := eC (.int 3)) (b := 3) hwf rfl rfl a1 (by omega) (by omega) (b200' (by omega))
            exact fin (cs[i].2 + u) T (by omega) (by omega) ss.len ((ss.at_ _ (by omega)).trans a2) ((ss.at_ _ (by omega)).trans hat) tt yy (fun j hj hjn => (ss.at_ j hjn).trans (a4 j hj hjn)) (eTup_ok (a2_ok rfl (eIf_f (tst.trans (by rw [decide_eq_false q])) (eB_ok rfl qq gAdd_nat))) (by simp)))
      rw [List.length_map] at hb6 lrs
      have lz : rs.length = z := by omega
      have nmr : rs.map (·.1) = cs.map (·.1) := by
        refine List.ext_getElem (by simp; omega) fun j h1 h2 => ?_
        have h1' : j < rs.length := by simpa using h1
        have h2' : j < cs.length := by simpa using h2
        rw [List.getElem_map, List.getElem_map]
        exact (hrs j _ _ (List.getElem?_eq_getElem h1') (List.getElem?_eq_getElem h2')).1
      have memx : ∀ c ∈ rs, c.1 ∈ xs := fun c hc' => hc.nm.mem_iff.mp (by rw [← nmr]; exact List.mem_map_of_mem hc')
      have depx : ∀ c ∈ rs, 0 ≤ c.2 ∧ c.2 < 100 := fun c hc' => by
        obtain ⟨j, hj, rfl⟩ := List.getElem_of_mem hc'
        obtain ⟨_, a, b⟩ := hrs j _ _ (List.getElem?_eq_getElem hj) (List.getElem?_eq_getElem (show j < cs.length by omega))
        have := hc.hi j (by omega)
        omega
      refine ws_rt (eCB_ok (a1_ok e6) (d := dK rs) (S2 := S6) rfl) ⟨_, rfl, rs, rfl, ⟨by omega, by omega, fun c hc' => ?_, fun c hc' => (depx c hc').1, by rw [nmr]; exact hc.nm.nodup_iff.mpr ok.nd⟩, by omega, fun i hi => ?_, fun c hc' => ⟨Int.lt_trans (depx c hc').2 (by decide), by
        obtain ⟨c', h1, h2⟩ := List.mem_map.mp (memx c hc')
        rw [← h2]; exact (hb c' h1).2⟩, reel_src.mono hb6 (by omega), ⟨by omega, fun i h1 h2 => (fr i (by omega) h1).trans (sm1.at_ i h1)⟩⟩
      · obtain ⟨c', h1, h2⟩ := List.mem_map.mp (memx c hc')
        rw [← h2]; exact ok.nm c' h1
      · obtain ⟨_, a, b⟩ := hrs i _ _ (List.getElem?_eq_getElem hi) (List.getElem?_eq_getElem (show i < cs.length by omega))
        have := hc.lo i (by omega)
        unfold ra rch
        rw [at0_eq hi]
        omega
  obtain ⟨d, S', e, m, rfl, h1⟩ := fn_ws main
  exact ⟨m, S', e, h1⟩
end Sb
end
section
set_option Elab.async false
set_option linter.all false
set_option maxRecDepth 100000
set_option maxHeartbeats 4000000
namespace K41
open PySem PySem.Spec PyProof.Rows L2 Sb
variable {K : PySem.W.Frag} {S : Sto}
/-! ## by how many steps: the program -/
theorem gEq_pats {neg : Bool} {p q : Pat} (hp : PatNm p) (hq : PatNm q) : gEq neg (pD p) (pD q) S = some (.bl (if neg then !decide (p = q) else decide (p = q)), S) := by
  have e : PyData.eqv (.list (p.map optP)) (.list (q.map optP)) = decide (p = q) := eqv_all (fun a b => eqv_opt) p q
  simp only [gEq, toPy_pat 6, shp_pat hp, shp_pat hq, and_self, if_true, e]
theorem patnm_rot {p : Pat} (h : PatNm p) (k : Nat) : PatNm (rot p k) := fun x hx => by
  unfold rot at hx
  rcases List.mem_append.mp hx with q | q
  · exact h x (List.mem_of_mem_drop q)
  · exact h x (List.mem_of_mem_take q)
theorem times_ok {p a : Pat} {i u m : Nat} (hp : RowOk p) (ha : PatNm a) (hm : m ≤ 100) (hu : u < 2 ^ 190) : M_times_until [pD p, pD a, .int (i : Nat), .int (u : Nat), .int (m : Nat)] S = some (.ok (numD (untN p a i u m)) S) := by
  obtain ⟨h1, h2, h3⟩ := hp
  refine fn_wt ?_
  refine ws_for m (fun t τ S' => S' = S ∧ (∀ j, j < t → rot p ((i + u * j) % p.length) ≠ a) ∧ ∃ x5 x6, τ = [some (pD p), some (pD a), some (.int (i : Nat)), some (.int (u : Nat)), some (.int (m : Nat)), x5, x6]) (fun t => .int (t : Nat)) (iRg1_ok (n := m) (a1_ok rfl) (by omega)) (Nat.le_refl _) ⟨rfl, fun j h => absurd h (Nat.not_lt_zero _), none, none, rfl⟩ ?_ (fun _ _ _ => rg_end) ?_
  · rintro t τ S' ht ⟨rfl, hno, x5, x6, rfl⟩
    refine ⟨rg_nxt ht, _, rfl, ?_⟩
    obtain ⟨φ, hφ⟩ : ∃ φ, (i + u * t) % p.length = φ := ⟨_, rfl⟩
    have lp : ∀ {τ : Sl} {S : Sto}, τ[0]? = some (some (pD p)) → eCB gLenX (aCons (eVar 0) (aNil)) τ S = some (.ok (.int (p.length : Nat)) S) := fun {τ S} h4 => eCB_ok (a1_ok (eVar_at h4)) (by
      have := len_fl (S := S) (ds := p.map optD)
      rwa [List.length_map] at this)
    refine ws_set (eB_ok (eB_ok rfl (eB_ok rfl rfl (gMul_n (big190 hu) (big100 (by omega)))) gAdd_nat) (lp rfl) (gMod_n (by omega))) ?_
    rw [hφ]
    have s1 : gSl (pD p) (some ((φ : Nat) : Int)) none S' = some (.fl ((p.map optD).drop φ), S') := cut_flf
    have s2 : gSl (pD p) none (some ((φ : Nat) : Int)) S' = some (.fl ((p.map optD).take φ), S') := cut_fl
    have a3 : gAdd (.fl ((p.map optD).drop φ)) (.fl ((p.map optD).take φ)) S' = some (pD (rot p φ), S') := by
      rw [fl_add (by rw [List.length_drop, List.length_take, List.length_map]; omega)]
      unfold rot pD
      rw [List.map_append, List.map_drop, List.map_take]
    have tst : (tB (eB (gEq false) (eB gAdd (eSl (eVar 0) (oSo (eVar 6)) (oNo)) (eSl (eVar 0) (oNo) (oSo (eVar 6)))) (eVar 1))) [some (pD p), some (pD a), some (.int (i : Nat)), some (.int (u : Nat)), some (.int (m : Nat)), some (.int (t : Nat)), some (.int (φ : Nat))] S' = some (.ok (decide (rot p φ = a)) S') :=
      tB_ok (eB_ok (eB_ok (eSl_ok rfl (oSo_ok rfl) rfl s1) (eSl_ok rfl rfl (oSo_ok rfl) s2) a3) rfl ((gEq_pats (patnm_rot h3 φ) ha).trans (by simp)))
    by_cases q : rot p φ = a
    · rw [decide_eq_true q] at tst
      refine bif_t tst (ws_rt rfl ?_)
      have : untN p a i u m = some t := by
        unfold untN
        rw [List.find?_range_eq_some]
        refine ⟨by rw [hφ]; exact decide_eq_true q, List.mem_range.mpr ht, fun j hj => ?_⟩
        have := hno j hj
        simp [this]
      rw [this]
      exact ⟨rfl, rfl⟩
    · rw [decide_eq_false q] at tst
      refine bif_f tst (ws_nop ⟨rfl, fun j hj => ?_, _, _, rfl⟩)
      by_cases z : j = t
      · subst z; rw [hφ]; exact q
      · exact hno j (by omega)
  · rintro τ S' ⟨rfl, hno, x5, x6, rfl⟩
    have : untN p a i u m = none := by
      unfold untN
      rw [List.find?_range_eq_none]
      intro j hj
      have := hno j hj
      simp [this]
    rw [this]
    exact ws_rt rfl ⟨rfl, rfl⟩
theorem between_ok {ps as : List Pat} (hr : ∀ p ∈ ps, RowOk p) (ha : ∀ p ∈ as, PatNm p) (hl : as.length = ps.length) (h40 : ps.length ≤ 40) (hlen : ∀ j, (h : j < ps.length) → ps[j].length ≤ j + 1) : M_steps_between [.fl (ps.map pD), .fl (as.map pD)] S = some (.ok (numD (btw (ps.zip as) 0 1 0 1)) S) := by
  have zl : (ps.zip as).length = ps.length := by rw [List.length_zip, hl, Nat.min_self]
  refine fn_wt ?_
  refine ws_set rfl (ws_set rfl (ws_set rfl (ws_set rfl ?_)))
  refine ws_for (ps.zip as).length (fun j τ S' => S' = S ∧ ∃ (s L i u : Nat) (x6 x7 x8 x9 : Option D), τ = [some (.fl (ps.map pD)), some (.fl (as.map pD)), some (.int (s : Nat)), some (.int (L : Nat)), some (.int (i : Nat)), some (.int (u : Nat)), x6, x7, x8, x9] ∧ L ≤ fac j ∧ u ≤ L ∧ i ≤ s ∧ s < L ∧ btw ((ps.zip as).drop j) s L i u = btw (ps.zip as) 0 1 0 1) (fun j => .tup [pD ((ps.zip as).getD j ([], [])).1, pD ((ps.zip as).getD j ([], [])).2])
    (iZp_fl (a2_ok rfl rfl)) (by simp only [wkZ, List.length_map]; omega) ⟨rfl, 0, 1, 0, 1, none, none, none, none, rfl, Nat.le_refl _, Nat.le_refl _, Nat.le_refl _, by omega, by rw [List.drop_zero]⟩ ?_ (fun τ S' _ => ?_) ?_
  · rintro j τ S' hj ⟨rfl, s, L, i, u, x6, x7, x8, x9, rfl, h1, h2, h3, h4, h5⟩
    have jp : j < ps.length := by omega
    have ja : j < as.length := by omega
    have g3 : (ps.zip as)[j] = (ps[j], as[j]) := List.getElem_zip
    have g4 : (ps.zip as).getD j ([], []) = (ps[j], as[j]) := by rw [List.getD_eq_getElem?_getD, List.getElem?_eq_getElem hj, g3]; rfl
    rw [g4]
    have hp := hr ps[j] (List.getElem_mem jp)
    have hA := ha as[j] (List.getElem_mem ja)
    have hlj := hlen j jp
    rw [List.drop_eq_getElem_cons hj, g3] at h5
    refine ⟨?_, _, rfl, ?_⟩
    · show some (zipAt _ _ j) = _
      unfold zipAt
      rw [List.getElem?_map, List.getElem?_map, List.getElem?_eq_getElem jp, List.getElem?_eq_getElem ja]; rfl
    generalize ps[j] = p at *
    generalize as[j] = a at *
    have fb : fac (j + 1) < 2 ^ 190 := Nat.lt_of_le_of_lt (fac_mono (by omega)) fac40
    have fj : fac j < 2 ^ 190 := Nat.lt_of_le_of_lt (fac_mono (by omega)) fac40
    have h100 := hp.2.1
    have hT := timN_le hp.1 u
    have hT1 := tim_pos hp.1 u
    refine ws_set (eCl_ok (a2_ok rfl rfl) rfl (rounds_by_okX hp)) ?_
    have et := times_ok (S := S') (p := p) (a := a) (i := i) (u := u) (m := timN p u) hp hA (by omega) (by omega)
    have e5 : btw ((p, a) :: (ps.zip as).drop (j + 1)) s L i u = match untN p a i u (timN p u) with
      | none => none
      | some t => btw ((ps.zip as).drop (j + 1)) (s + L * t) (L * timN p u) (nxt p (i + u * t)) (nxt p (u * timN p u)) := rfl
    rw [e5] at h5
    refine ws_set (eCl_ok (aCons_ok rfl (aCons_ok rfl (a3_ok rfl rfl rfl))) rfl et) ?_
    cases hun : untN p a i u (timN p u) with
    | none =>
      rw [hun] at h5
      refine ws_iret (tB_ok (b := true) (eB_ok rfl rfl rfl)) rfl ?_
      rw [← h5]
      exact ⟨rfl, rfl⟩
    | some t =>
      rw [hun] at h5
      obtain ⟨ht, _⟩ := unt_some hun
      generalize timN p u = T at *
      have m1 : L * T ≤ fac (j + 1) := Nat.mul_le_mul h1 (by omega)
      have m2 : u * T ≤ L * T := Nat.mul_le_mul_right _ h2
      have m3 : L * t + L ≤ L * T := by
        have : L * (t + 1) ≤ L * T := Nat.mul_le_mul_left _ ht
        rwa [Nat.mul_succ] at this
      have m4 : u * t ≤ L * t := Nat.mul_le_mul_right _ h2
      refine ws_no (tB_ok (b := false) (eB_ok rfl rfl rfl)) ?_
      refine ws_set (eB_ok rfl (eB_ok rfl rfl (gMul_n (big190 (by omega)) (big100 (by omega)))) gAddI_i) ?_
      refine ws_set (eB_ok rfl rfl (gMul_n (big190 (by omega)) (big100 (by omega)))) ?_
      have o1 := often_none (S := S') (i := i + u * t) hp (Nat.lt_of_lt_of_le (show i + u * t < 2 ^ 190 by omega) (pow_le2 (by decide)))
      have o2 := often_none (S := S') (i := u * T) hp (Nat.lt_of_lt_of_le (show u * T < 2 ^ 190 by omega) (pow_le2 (by decide)))
      refine ws_set (eCl_ok (a3_ok rfl rfl (eB_ok rfl (eB_ok rfl rfl (gMul_n (big190 (by omega)) (big100 (by omega)))) gAdd_nat)) rfl o1) ?_
      refine ws_set1 (eCl_ok (a3_ok rfl rfl (eB_ok rfl rfl (gMul_n (big190 (by omega)) (big100 (by omega))))) rfl o2) ⟨rfl, s + L * t, L * T, nxt p (i + u * t), nxt p (u * T), _, _, _, _, rfl, m1, Nat.le_trans (nxt_le _) m2, Nat.le_trans (nxt_le _) (by omega), by omega, h5⟩
  · show some (zipAt _ _ _) = _
    unfold zipAt
    rw [List.getElem?_eq_none (l := ps.map pD) (by simp; omega)]
  · rintro τ S' ⟨rfl, s, L, i, u, x6, x7, x8, x9, rfl, h1, h2, h3, h4, h5⟩
    rw [List.drop_length] at h5
    have h5 : some s = btw (ps.zip as) 0 1 0 1 := h5
    rw [← h5]
    exact ws_rt rfl ⟨rfl, rfl⟩
/-- the least number of steps from h to g -/
def Least (h g : List Card) : Option Nat → Prop
  | some r => stps r h = g ∧ ∀ n, stps n h = g → r ≤ n
  | none => ∀ n, stps n h ≠ g
theorem req_ok {l : List Card} (w : Wf S) (ok : DeckOk l) (ha : aw l = []) : M_require_settled K [dK l] S = some (.ok .non S) := require_settled_ok w ok (stl_of ok ha)
theorem steps_to_ok {d e : D} {h g : List Card} (w : Wf S) (hd : isDeck S d h) (he : isDeck S e g) (okh : DeckOk h) (okg : DeckOk g) (hh : aw h = []) (hg : aw g = []) : ∃ o, M_steps_to K [d, e] S = some (.ok (numD o) S) ∧ Least h g o := by
  have hch := clo_le okh
  have tl : (told h).length = clo h := by unfold told; simp
  have l4 : ∀ {τ : Sl} {S : Sto}, τ[4]? = some (some (.fl ((told h).map pD))) → eCB gLenX (aCons (eVar 4) (aNil)) τ S = some (.ok (.int (clo h : Nat)) S) := fun {τ S} h4 => eCB_ok (a1_ok (eVar_at h4)) (by
    have := len_fl (S := S) (ds := (told h).map pD)
    rw [List.length_map, tl] at this
    exact this)
  have so : ∀ {τ : Sl} {i : Nat} (m : List Card), τ[i]? = some (some (dK m)) → fz (eCB gSorted (aCons (eVar i) (aNil))) τ S = some (.ok (.fl ((sortC m).map dC)) S) := fun {τ i} m hm =>
    fz_lst (X := [.lst ((sortC m).map dC)]) w (eCB_ok (a1_ok (eVar_at hm)) (sorted_deck m)) (get_last _ _) (Nat.le_refl _) bds_dC
  have nms : ∀ {l : List Card}, DeckOk l → ∀ c ∈ sortC l, Nm c.1 := fun {l} ok c hc => ok.nm c ((List.mergeSort_perm l leC).mem_iff.mp hc)
  let τ4 : Sl := [some d, some e, some (dK h), some (dK g), some (.fl ((told h).map pD))]
  have t1 : (tB (eB (gEq true) (fz (eCB gSorted (aCons (eVar 2) (aNil)))) (fz (eCB gSorted (aCons (eVar 3) (aNil)))))) τ4 S = some (.ok (decide (sortC h ≠ sortC g)) S) := tB_ok (eB_ok (so h rfl) (so g rfl) ((gEq_fcards (nms okh) (nms okg)).trans (by simp)))
  have t2 : (tB (eB (gEq true) (eSl (eVar 2) (oSo (eCB gLenX (aCons (eVar 4) (aNil)))) (oNo)) (eSl (eVar 3) (oSo (eCB gLenX (aCons (eVar 4) (aNil)))) (oNo)))) τ4 S = some (.ok (decide (h.drop (clo h) ≠ g.drop (clo h))) S) :=
    tB_ok (eB_ok (eSl_ok rfl (oSo_ok (l4 rfl)) rfl cut_deckf) (eSl_ok rfl (oSo_ok (l4 rfl)) rfl cut_deckf) ((gEq_deck (fun c hc => okh.nm c (List.mem_of_mem_drop hc)) (fun c hc => okg.nm c (List.mem_of_mem_drop hc))).trans (by simp)))
  have main : ∃ o, Least h g o ∧ Ws (m_steps_to K (ini 5 [d, e]) S) fun fl S' => fl = .rt (numD o) ∧ S' = S := by
    have pre : ∀ o, Ws (sSeq (sIf (tOr' (tB (eB (gEq true) (fz (eCB gSorted (aCons (eVar 2) (aNil)))) (fz (eCB gSorted (aCons (eVar 3) (aNil)))))) (tB (eB (gEq true) (eSl (eVar 2) (oSo (eCB gLenX (aCons (eVar 4) (aNil)))) (oNo)) (eSl (eVar 3) (oSo (eCB gLenX (aCons (eVar 4) (aNil)))) (oNo))))) (sRt (eC .non)) (sNop)) (sRt (eCl (M_steps_between) 2 (aCons (eVar 4) (aCons (eCl (M_settled_rows) 1 (aCons (eVar 3) (aNil))) (aNil))))) τ4 S) (fun fl S' => fl = .rt (numD o) ∧ S' = S) → Ws (m_steps_to K (ini 5 [d, e]) S) fun fl S' => fl = .rt (numD o) ∧ S' = S := fun o k => by
      refine ws_set (deck_fz w hd okh (a1_ok rfl)) ?_
      refine ws_set (deck_fz w he okg (a1_ok rfl)) ?_
      refine ws_ex (eCl_ok (a1_ok rfl) rfl (req_ok w okh hh)) ?_
      refine ws_ex (eCl_ok (a1_ok rfl) rfl (req_ok w okg hg)) ?_
      exact ws_set (eCl_ok (a1_ok rfl) rfl (settled_rows_ok w okh)) k
    by_cases q1 : sortC h = sortC g
    · by_cases q2 : h.drop (clo h) = g.drop (clo h)
      · have pm : g.Perm h := (List.mergeSort_perm g leC).symm.trans (by
          have : sortC g = sortC h := q1.symm
          unfold sortC at this
          rw [this]
          exact List.mergeSort_perm h leC)
        have hc := clo_same okh okg hh pm q2.symm
        have iff := fun t => steps_iff okh okg hh hg pm q2.symm t
        have tlg : (told g).length = (told h).length := by rw [tl]; unfold told; simp [hc]
        obtain ⟨h40, hlen⟩ := told_len okh
        have hrow := told_row okh hh
        have hcnt := told_cnt okh hh
        have hga : ∀ p ∈ told g, PatNm p := fun p hp => (told_row okg hg p hp).2.2
        obtain ⟨z1, z2⟩ := zip_fst' (l := told h) (m := told g) tlg.symm
        have sp := btw_is ((told h).zip (told g)) [] [] 0 1 0 1 (fun z hz => by
          have := (List.of_mem_zip hz).1
          exact ⟨(hrow _ this).1, hcnt _ this⟩) rfl (fun n => ⟨fun _ => ⟨n, by omega⟩, fun _ => rfl⟩) (fun t => by show 0 + 1 * t = 0 + 1 * t; rfl)
        rw [z1, z2, List.nil_append, List.nil_append] at sp
        refine ⟨btw ((told h).zip (told g)) 0 1 0 1, ?_, pre _ ?_⟩
        · cases hb : btw ((told h).zip (told g)) 0 1 0 1 with
          | none =>
            rw [hb] at sp
            exact fun n hn => sp n ((iff n).mp hn)
          | some r =>
            rw [hb] at sp
            exact ⟨(iff r).mpr sp.1, fun n hn => sp.2 n ((iff n).mp hn)⟩
        · rw [decide_eq_false (by simpa using q1)] at t1
          rw [decide_eq_false (by simpa using q2)] at t2
          refine ws_no (or_f t1 t2) ?_
          exact ws_rt (eCl_ok (a2_ok rfl (eCl_ok (a1_ok rfl) rfl (settled_rows_ok w okg))) rfl (between_ok hrow hga tlg h40 hlen)) ⟨rfl, rfl⟩
      · refine ⟨none, fun n hn => q2 ?_, pre none ?_⟩
        · rw [← hn]; exact (stps_drop okh n).symm
        · rw [decide_eq_false (by simpa using q1)] at t1
          rw [decide_eq_true q2] at t2
          exact ws_iret (tOr_f t1 t2) rfl ⟨rfl, rfl⟩
    · refine ⟨none, fun n hn => q1 ?_, pre none ?_⟩
      · rw [← hn]; exact (sortC_perm (stps_perm h n)).symm
      · rw [decide_eq_true q1] at t1
        exact ws_iret (or_t t1) rfl ⟨rfl, rfl⟩
  obtain ⟨o, hL, hw⟩ := main
  exact ⟨o, fn_wt hw, hL⟩
/-! ## the round, by sliding -/
structure Rnd (l : List Card) (N : Nat) : Prop where
  pos : 1 ≤ N
  hi : N ≤ 401
  back : stps N l = l
  no : ∀ i, 0 < i → i < N → stps i l ≠ l
abbrev rowD (l : List Card) (N : Nat) : List D := (List.range N).map fun i => dK (stps i l)
theorem round_ok {l : List Card} (w : Wf S) (ok : DeckOk l) : ∃ (d : D) (X : Sto), M_reel_round [dK l] S = some (.ok d (S ++ X)) ∧ (d = .non ∨ ∃ N, d = .loc S.length ∧ (S ++ X)[S.length]? = some (.lst (rowD l N)) ∧ Rnd l N) := by
  have hz := sizeLine_eq
  have main : Ws (m_reel_round (ini 3 [dK l]) S) fun fl S' => ∃ d, fl = .rt d ∧ ∃ X, S' = S ++ X ∧ (d = .non ∨ ∃ N, d = .loc S.length ∧ (S ++ X)[S.length]? = some (.lst (rowD l N)) ∧ Rnd l N) := by
    have e1 : eLst (aCons (eVar 0) (aNil)) [some (dK l), none, none] S = some (.ok (.loc S.length) (S ++ [.lst (rowD l 1)])) := eLst_ok (a1_ok rfl) (by simp)
    refine ws_set e1 ?_
    refine ws_while (fun k τ S' => ∃ c x2, k + c = 401 ∧ 1 ≤ c ∧ τ = [some (dK l), some (.loc S.length), x2] ∧ S' = S ++ [.lst (rowD l c)] ∧ ∀ i, 0 < i → i < c → stps i l ≠ l) 400 (by omega) ⟨1, none, rfl, Nat.le_refl _, rfl, rfl, fun i h1 h2 => by omega⟩ ?_
    rintro k τ S' ⟨c, x2, hk, hc, rfl, rfl, hno⟩
    have g1 : (S ++ [.lst (rowD l c)] : Sto)[S.length]? = some (.lst (rowD l c)) := get_last _ _
    have ln : eCB gLenX (aCons (eVar 1) (aNil)) [some (dK l), some (.loc S.length), x2] (S ++ [.lst (rowD l c)]) = some (.ok (.int (c : Nat)) (S ++ [.lst (rowD l c)])) := eCB_ok (a1_ok rfl) (by simp only [gLenX, gLen, seqD, g1, Option.bind_some, List.length_map, List.length_range])
    have tst : (tB (eB gLtI (eCB gLenX (aCons (eVar 1) (aNil))) (eC (.int 401)))) [some (dK l), some (.loc S.length), x2] (S ++ [.lst (rowD l c)]) = some (.ok (decide ((c : Int) < 401)) (S ++ [.lst (rowD l c)])) := tB_ok (eB_ok ln rfl gLt_i)
    by_cases h4 : c = 401
    · rw [decide_eq_false (by omega)] at tst
      exact .inl ⟨_, tst, ws_rt rfl ⟨_, rfl, [.lst (rowD l c)], rfl, .inl rfl⟩⟩
    rw [decide_eq_true (by omega)] at tst
    refine .inr ⟨_, tst, ?_⟩
    obtain ⟨b, rfl⟩ : ∃ b, c = b + 1 := ⟨c - 1, by omega⟩
    have okb := stps_ok ok b
    have il : gIx (.loc S.length) (.int (-1)) (S ++ [.lst (rowD l (b + 1))]) = some (dK (stps b l), S ++ [.lst (rowD l (b + 1))]) := ix_lastL g1 (by unfold rowD; rw [List.range_succ, List.map_append, List.getLast?_append]; rfl)
    refine ws_set (eCl_ok (a1_ok (eB_ok rfl rfl il)) rfl (reel_slid_ok okb)) ?_
    have t2 : (tB (eB (gEq false) (eVar 2) (eVar 0))) [some (dK l), some (.loc S.length), some (dK (stp (stps b l)))] (S ++ [.lst (rowD l (b + 1))]) = some (.ok (decide (stps (b + 1) l = l)) (S ++ [.lst (rowD l (b + 1))])) := tB_ok (eB_ok rfl rfl ((gEq_deck (stps_ok ok (b + 1)).nm ok.nm).trans (by simp)))
    by_cases q : stps (b + 1) l = l
    · rw [decide_eq_true q] at t2
      exact ws_iret t2 rfl ⟨_, rfl, [.lst (rowD l (b + 1))], rfl, .inr ⟨b + 1, rfl, g1, by omega, by omega, q, hno⟩⟩
    · rw [decide_eq_false q] at t2
      refine ws_no t2 ?_
      have hl : (rowD l (b + 1)).length < sizeLine := by rw [List.length_map, List.length_range]; omega
      refine ⟨_, _, sEx_ok (eBM_ok rfl (ty_list g1) (a1_ok rfl) (app_last hl)), k - 1, by omega, b + 2, _, by omega, by omega, rfl, ?_, fun i h1 h2 => ?_⟩
      · show _ = S ++ [.lst (rowD l (b + 1 + 1))]
        unfold rowD
        rw [List.range_succ (n := b + 1), List.map_append]; rfl
      · by_cases z : i = b + 1
        · rw [z]; exact q
        · exact hno i h1 (by omega)
  obtain ⟨d, S', e, X, rfl, h⟩ := fn_ws main
  exact ⟨d, X, e, h⟩
theorem round_fz {l : List Card} {τ : Sl} {a : AF} {S S0 : Sto} (hl : S.length = S0.length) (w : Wf S) (ok : DeckOk l) (ha : a τ S0 = some (.ok [dK l] S)) : ∃ d, fz (eCl (M_reel_round) 1 a) τ S0 = some (.ok d S) ∧ (d = .non ∨ ∃ N, d = .fl (rowD l N) ∧ Rnd l N) := by
  obtain ⟨d, X, e, h⟩ := round_ok w ok
  have e2 : eCl (M_reel_round) 1 a τ S0 = some (.ok d (S ++ X)) := eCl_ok ha rfl e
  have tk : (S ++ X : Sto).take S0.length = S := by rw [← hl, List.take_left' rfl]
  have w3 : wfk S0.length S = true := by rw [← hl]; exact w
  rcases h with rfl | ⟨N, rfl, g, hr⟩
  · refine ⟨.non, ?_, .inl rfl⟩
    unfold fz
    rw [e2]
    simp only [tk, if_pos w3, rb_bd (show bd S0.length .non = true from rfl), Option.map_some]
  · refine ⟨_, ?_, .inr ⟨N, rfl, hr⟩⟩
    have hn : ¬ (bd S0.length (.loc S.length) = true) := by rw [← hl]; simp [bd]
    have hrb : rb (S ++ X) S0.length 8 (.loc S.length) = some (.fl (rowD l N)) := by
      rw [rb_loc hn g, List.mapM_map, mapM_some (f := rb (S ++ X) S0.length 7 ∘ fun i => dK (stps i l)) (g := fun i => dK (stps i l)) fun x _ => rb_bd bd_dK]
      rfl
    unfold fz
    rw [e2]
    simp only [tk, if_pos w3, hrb, Option.map_some]
/-! ## other decks -/
theorem put_deck {m : List Card} {a : Nat} {c : Card} (ok : DeckOk m) (ha : a < m.length) (hn : Nm c.1) (h0 : 0 ≤ c.2) (hf : c.1 = m[a].1 ∨ ∀ x ∈ m, x.1 ≠ c.1) : DeckOk (m.take a ++ [c] ++ m.drop (a + 1)) ∧ (m.take a ++ [c] ++ m.drop (a + 1)).length = m.length := by
  have e3 : m = m.take a ++ [m[a]] ++ m.drop (a + 1) := by rw [List.take_append_getElem ha, List.take_append_drop]
  have hl : (m.take a ++ [c] ++ m.drop (a + 1)).length = m.length := by simp; omega
  have mem' : ∀ x ∈ m.take a ++ [c] ++ m.drop (a + 1), x = c ∨ x ∈ m := fun x hc => by
    simp only [List.mem_append, List.mem_singleton] at hc
    rcases hc with (hc | hc) | hc
    · exact .inr (List.mem_of_mem_take hc)
    · exact .inl hc
    · exact .inr (List.mem_of_mem_drop hc)
  refine ⟨⟨by have := ok.lo; omega, by have := ok.hi; omega, fun x hc => ?_, fun x hc => ?_, ?_⟩, hl⟩
  · rcases mem' x hc with rfl | z
    · exact hn
    · exact ok.nm x z
  · rcases mem' x hc with rfl | z
    · exact h0
    · exact ok.dep x z
  · have nd := ok.nd
    rw [e3] at nd
    simp only [List.map_append, List.map_cons, List.map_nil] at nd ⊢
    rcases hf with hf | hf
    · rw [hf]; exact nd
    · have q1 : c.1 ∉ (m.take a).map (·.1) := fun z => by
        obtain ⟨x, hx, e⟩ := List.mem_map.mp z
        exact hf x (List.mem_of_mem_take hx) e
      have q2 : c.1 ∉ (m.drop (a + 1)).map (·.1) := fun z => by
        obtain ⟨x, hx, e⟩ := List.mem_map.mp z
        exact hf x (List.mem_of_mem_drop hx) e
      rw [List.append_assoc, List.nodup_append] at nd ⊢
      obtain ⟨n1, n2, n3⟩ := nd
      have n4 := (List.nodup_cons.mp n2).2
      refine ⟨n1, List.nodup_cons.mpr ⟨q2, n4⟩, fun x hx y hy => ?_⟩
      rcases List.mem_cons.mp hy with z | z
      · intro e
        rw [e, z] at hx
        exact q1 hx
      · exact n3 x hx y (List.mem_cons_of_mem _ z)
theorem nmq : Nm "qqqqqqqq" := (by decide : nmB "qqqqqqqq" = true) |> nm_of
theorem cuts {m : List Card} {a : Nat} {c : Card} (hl : m.length ≤ 40) : gAdd (dK (m.take a)) (.tup [dC c]) S = some (.tup ((m.take a).map dC ++ [dC c]), S) ∧ gAdd (.tup ((m.take a).map dC ++ [dC c])) (dK (m.drop (a + 1))) S = some (dK (m.take a ++ [c] ++ m.drop (a + 1)), S) := by
  have hz := sizeLine_eq
  have h1 : ((m.take a).map dC).length + [dC c].length ≤ sizeLine := by simp; omega
  have h2 : ((m.take a).map dC ++ [dC c]).length + ((m.drop (a + 1)).map dC).length ≤ sizeLine := by simp; omega
  refine ⟨by simp only [gAdd, if_pos h1], ?_⟩
  simp only [gAdd, if_pos h2]
  rw [dK, List.map_append, List.map_append]; rfl
theorem others_ok {n k N : Nat} {l : List Card} (w : Wf S) (h : Reel n k S) (hk : k < 2 ^ 38) (ok : DeckOk l) (hb : ∀ c ∈ l, c.2 < 10 ^ 30 ∧ c.1 ≠ "qqqqqqqq") (hl : l.length ≤ 12) (hN : 1 ≤ N ∧ N ≤ 401) :
    ∃ (ms : List (List Card)) (S' : Sto), M_reel_others [.loc n, .fl (rowD l N)] S = some (.ok (.fl (ms.map dK)) S') ∧ (∀ m ∈ ms, DeckOk m ∧ ∀ c ∈ m, c.2 < 10 ^ 40) ∧ ms.length = 5 ∧ Reel n (k + 3) S' ∧ Fr n S S' := by
  have hz := sizeLine_eq
  have hn := reel_src.lt h
  have p30 : (10 : Int) ^ 30 = 1000000000000000000000000000000 := by decide
  have p40 : (10 : Int) ^ 40 = 10000000000000000000000000000000000000000 := by decide
  have main : Ws (m_reel_others (ini 9 [.loc n, .fl (rowD l N)]) S) fun fl S' => ∃ d, fl = .rt d ∧ ∃ ms : List (List Card), d = .fl (ms.map dK) ∧ (∀ m ∈ ms, DeckOk m ∧ ∀ c ∈ m, c.2 < 10 ^ 40) ∧ ms.length = 5 ∧ Reel n (k + 3) S' ∧ Fr n S S' := by
    have ln : ∀ {τ : Sl} {S : Sto}, τ[1]? = some (some (.fl (rowD l N))) → eCB gLenX (aCons (eVar 1) (aNil)) τ S = some (.ok (.int (N : Nat)) S) := fun {τ S} h1 => eCB_ok (a1_ok (eVar_at h1)) (by show some (D.int ((rowD l N).length : Nat), S) = _; rw [List.length_map, List.length_range])
    obtain ⟨v, S1, e1, c1, sp1, sm1, w1⟩ := reel_drw (S := S) (j := 0) (τ := ini 9 [.loc n, .fl (rowD l N)]) (fm := eCB gLenX (aCons (eVar 1) (aNil))) (b := N) w rfl (ln rfl) h (by omega) hN.1 (b200' (by omega))
    have ix : gIx (.fl (rowD l N)) (.int (v : Nat)) S1 = some (dK (stps v l), S1) := ix_seq' (c := "list") (i := v) (ds := rowD l N) rfl rfl (by rw [List.getElem?_map, List.getElem?_range c1]; rfl)
    refine ws_set (eB_ok rfl e1 ix) ?_
    have okm := stps_ok ok v
    have hlm : (stps v l).length ≤ 12 := by rw [stps_len]; exact hl
    have hbm : ∀ c ∈ stps v l, c.2 < 10 ^ 30 ∧ c.1 ≠ "qqqqqqqq" := fun c hc => hb c (stps_mem v c hc)
    generalize stps v l = m at *
    have hlo := okm.lo
    refine ws_set (eCB_ok (a1_ok rfl) len_deck) ?_
    obtain ⟨z, hz2⟩ : ∃ z, m.length = z := ⟨_, rfl⟩
    rw [hz2]
    let τ3 : Sl := [some (.loc n), some (.fl (rowD l N)), some (dK m), some (.int (z : Nat)), none, none, none, none, none]
    obtain ⟨a, S2, e2, c2, sp2, sm2, w2⟩ := reel_drw (S := S1) (j := 0) (τ := τ3) (fm := eVar 3) (b := z) w1 rfl rfl sp1 (by omega) (by omega) (b200' (by omega))
    obtain ⟨b, S3, e3, c3, sp3, sm3, w3⟩ := reel_drw (S := S2) (j := 0) (τ := τ3) (fm := eVar 3) (b := z) w2 rfl rfl sp2 (by omega) (by omega) (b200' (by omega))
    refine ws_nx (sPar_ok (a2_ok e2 e3)) ?_
    have ha : a < m.length := by omega
    have hbl : b < m.length := by omega
    have l3 : S3.length = S.length := by rw [sm3.len, sm2.len, sm1.len]
    refine ws_set (eCB_ok (a1_ok rfl) (show gList [dK m] S3 = some (.loc S3.length, S3 ++ [.lst (m.map dC)]) from rfl)) ?_
    let τ6 : Sl := [some (.loc n), some (.fl (rowD l N)), some (dK m), some (.int (z : Nat)), some (.int (a : Nat)), some (.int (b : Nat)), some (.loc S3.length), none, none]
    have g3 : ∀ {ds : List D}, (S3 ++ [.lst ds] : Sto)[S3.length]? = some (.lst ds) := fun {ds} => get_last _ _
    have gx : ∀ {i : Nat}, (hi : i < m.length) → gIx (.loc S3.length) (.int (i : Nat)) (S3 ++ [.lst (m.map dC)]) = some (dC m[i], S3 ++ [.lst (m.map dC)]) := fun {i} hi => by
      have h1 : ((i : Nat) : Int) < ((m.map dC).length : Int) := by rw [List.length_map]; omega
      have h0 : (0 : Int) ≤ (i : Nat) := by omega
      simp only [gIx, seqD, g3, Option.bind_some, atI, ixN, if_pos h0, if_pos h1, Int.toNat_natCast, List.getElem?_map, List.getElem?_eq_getElem hi, Option.map_some]
    have p1 : putD (.loc S3.length) (.int (a : Nat)) (dC m[b]) (S3 ++ [.lst (m.map dC)]) = some (S3 ++ [.lst ((m.set a m[b]).map dC)]) := (putD_ok g3 (by simpa using ha)).trans (by rw [set_last, List.map_set])
    have p2 : putD (.loc S3.length) (.int (b : Nat)) (dC m[a]) (S3 ++ [.lst ((m.set a m[b]).map dC)]) = some (S3 ++ [.lst (((m.set a m[b]).set b m[a]).map dC)]) := (putD_ok g3 (by simpa using hbl)).trans (by rw [set_last]; simp only [List.map_set])
    have et : (eTup (aCons (eB gIx (eVar 6) (eVar 5)) (aCons (eB gIx (eVar 6) (eVar 4)) (aNil)))) τ6 (S3 ++ [.lst (m.map dC)]) = some (.ok (.tup [dC m[b], dC m[a]]) (S3 ++ [.lst (m.map dC)])) := eTup_ok (a2_ok (eB_ok rfl rfl (gx hbl)) (eB_ok rfl rfl (gx ha))) (by simp)
    have sw : (sSw (eTup (aCons (eB gIx (eVar 6) (eVar 5)) (aCons (eB gIx (eVar 6) (eVar 4)) (aNil)))) (eVar 6) (eVar 4) (eVar 6) (eVar 5)) τ6 (S3 ++ [.lst (m.map dC)]) = some (.nx τ6, S3 ++ [.lst (((m.set a m[b]).set b m[a]).map dC)]) := by
      simp only [sSw, sx, et, show ∀ S, eVar 6 τ6 S = some (.ok (.loc S3.length) S) from fun _ => rfl, show ∀ S, eVar 4 τ6 S = some (.ok (.int (a : Nat)) S) from fun _ => rfl, show ∀ S, eVar 5 τ6 S = some (.ok (.int (b : Nat)) S) from fun _ => rfl, p1, Option.bind_some, p2]
    refine ws_nx sw ?_
    have pm := perm_swap ha hbl
    have ok1 := deck_perm okm pm
    generalize (m.set a m[b]).set b m[a] = m1 at *
    have w4 : Wf (S3 ++ [.lst (m1.map dC)]) := wf_app w3 bds_dC
    have ixa : ∀ {S : Sto}, gIx (dK m) (.int (a : Nat)) S = some (dC m[a], S) := fun {S} => ix_deck (List.getElem?_eq_getElem ha)
    refine ws_nx (sAs_ok (eB_ok rfl rfl ixa) rfl) ?_
    have hma : m[a] ∈ m := List.getElem_mem ha
    have h40 : m.length ≤ 40 := by omega
    obtain ⟨ok2, le2⟩ := put_deck (c := (m[a].1, m[a].2 + 1)) okm ha (show Nm m[a].1 from okm.nm _ hma) (by have := okm.dep _ hma; show 0 ≤ m[a].2 + 1; omega) (.inl rfl)
    obtain ⟨ok4, le4⟩ := put_deck (c := ("qqqqqqqq", m[a].2)) okm ha nmq (show 0 ≤ m[a].2 from okm.dep _ hma) (.inr fun x hx => (hbm x hx).2)
    obtain ⟨d1, d2⟩ := cuts (S := S3 ++ [.lst (m1.map dC)]) (m := m) (a := a) (c := (m[a].1, m[a].2 + 1)) h40
    obtain ⟨d3, d4⟩ := cuts (S := S3 ++ [.lst (m1.map dC)]) (m := m) (a := a) (c := ("qqqqqqqq", m[a].2)) h40
    have hsub : ∀ {c : Card}, ∀ x ∈ m.take a ++ [c] ++ m.drop (a + 1), x = c ∨ x ∈ m := fun {c} x hc => by
      simp only [List.mem_append, List.mem_singleton] at hc
      rcases hc with (hc | hc) | hc
      · exact .inr (List.mem_of_mem_take hc)
      · exact .inl hc
      · exact .inr (List.mem_of_mem_drop hc)
    have hb40 : ∀ c ∈ m, c.2 < 10 ^ 40 := fun c hc => by have := (hbm c hc).1; omega
    have ok3 : DeckOk (m ++ [((("qqqqqqqq" : Str), (z : Int)) : Card)]) := by
      refine ⟨by simp, by simp; omega, fun c hc => ?_, fun c hc => ?_, ?_⟩
      · rcases List.mem_append.mp hc with q | q
        · exact okm.nm c q
        · rw [List.mem_singleton.mp q]; exact nmq
      · rcases List.mem_append.mp hc with q | q
        · exact okm.dep c q
        · rw [List.mem_singleton.mp q]; show (0 : Int) ≤ (z : Int); omega
      · rw [List.map_append, List.nodup_append]
        refine ⟨okm.nd, by simp, fun x hx y hy e => ?_⟩
        obtain ⟨c, hc, rfl⟩ := List.mem_map.mp hx
        have : y = "qqqqqqqq" := by simpa using hy
        exact (hbm c hc).2 (e.trans this)
    have d5 : gAdd (dK m) (.tup [.tup [.str "qqqqqqqq", .int (z : Nat)]]) (S3 ++ [.lst (m1.map dC)]) = some (dK (m ++ [((("qqqqqqqq" : Str), (z : Int)) : Card)]), S3 ++ [.lst (m1.map dC)]) := by
      have : (m.map dC).length + [D.tup [.str "qqqqqqqq", .int (z : Nat)]].length ≤ sizeLine := by simp; omega
      simp only [gAdd, if_pos this]
      rw [dK, List.map_append]; rfl
    have s1 : ∀ {S : Sto}, gSlX (dK m) none (some ((a : Nat) : Int)) S = some (dK (m.take a), S) := fun {S} => by rw [slX_tup]; exact cut_deck
    have s2 : ∀ {S : Sto}, gSlX (dK m) (some ((a + 1 : Nat) : Int)) none S = some (dK (m.drop (a + 1)), S) := fun {S} => by rw [slX_tup]; exact cut_deckf
    have tu : gTuple [.loc S3.length] (S3 ++ [.lst (m1.map dC)]) = some (dK m1, S3 ++ [.lst (m1.map dC)]) := by simp only [gTuple, seqD, g3, Option.bind_some]
    let τ8 : Sl := [some (.loc n), some (.fl (rowD l N)), some (dK m), some (.int (z : Nat)), some (.int (a : Nat)), some (.int (b : Nat)), some (.loc S3.length), some (.str m[a].1), some (.int m[a].2)]
    have ca : ∀ {fx fy : EF} {c : Card}, fx τ8 (S3 ++ [.lst (m1.map dC)]) = some (.ok (.str c.1) (S3 ++ [.lst (m1.map dC)])) → fy τ8 (S3 ++ [.lst (m1.map dC)]) = some (.ok (.int c.2) (S3 ++ [.lst (m1.map dC)])) → eB gAdd (eB gAdd (eSlX (eVar 2) (oNo) (oSo (eVar 4))) (eTup (aCons (eTup (aCons fx (aCons fy (aNil)))) (aNil)))) (eSlX (eVar 2) (oSo (eB gAdd (eVar 4) (eC (.int 1)))) (oNo)) τ8 (S3 ++ [.lst (m1.map dC)]) = some (.ok (dK (m.take a ++ [c] ++ m.drop (a + 1))) (S3 ++ [.lst (m1.map dC)])) := fun {fx fy c} h1 h2 => by
      obtain ⟨k1, k2⟩ := cuts (S := S3 ++ [.lst (m1.map dC)]) (m := m) (a := a) (c := c) h40
      exact eB_ok (eB_ok (eSlX_ok rfl rfl (oSo_ok rfl) s1) (eTup_ok (a1_ok (eTup_ok (a2_ok h1 h2) (by simp))) (by simp)) k1) (eSlX_ok rfl (oSo_ok (eB_ok rfl rfl (gAdd_nat (j := 1)))) rfl s2) k2
    let ms : List (List Card) := [m, m1, m.take a ++ [(m[a].1, m[a].2 + 1)] ++ m.drop (a + 1), m ++ [((("qqqqqqqq" : Str), (z : Int)) : Card)], m.take a ++ [((("qqqqqqqq" : Str), m[a].2) : Card)] ++ m.drop (a + 1)]
    have bms : ∀ k, bds k (ms.map dK) = true := fun k => bds_map fun _ _ => bd_dK
    refine ws_rt (fz_list (ds := ms.map dK) (aCons_ok rfl (aCons_ok (eCB_ok (a1_ok rfl) tu) (a3_ok (ca (c := (m[a].1, m[a].2 + 1)) rfl (eB_ok rfl rfl gAdd_i)) (eB_ok rfl (eTup_ok (a1_ok (eTup_ok (a2_ok rfl rfl) (by simp))) (by simp)) d5) (ca (c := ("qqqqqqqq", m[a].2)) rfl rfl)))) rfl w4 (by simp [ms]) (bms _)) ⟨_, rfl, ms, rfl, fun y hy => ?_, rfl, reel_src.mono (reel_src.app sp3) (by omega), ((sm1.trans sm2).trans sm3).fr.trans Fr.app⟩
    simp only [ms, List.mem_cons, List.not_mem_nil, or_false] at hy
    rcases hy with rfl | rfl | rfl | rfl | rfl
    · exact ⟨okm, hb40⟩
    · exact ⟨ok1, fun c hc => hb40 c (pm.mem_iff.mp hc)⟩
    · refine ⟨ok2, fun c hc => ?_⟩
      rcases hsub c hc with rfl | q
      · have := (hbm _ hma).1
        show m[a].2 + 1 < 10 ^ 40
        omega
      · exact hb40 c q
    · refine ⟨ok3, fun c hc => ?_⟩
      rcases List.mem_append.mp hc with q | q
      · exact hb40 c q
      · rw [List.mem_singleton.mp q]
        show (z : Int) < 10 ^ 40
        omega
    · refine ⟨ok4, fun c hc => ?_⟩
      rcases hsub c hc with rfl | q
      · exact (show m[a].2 < 10 ^ 40 from hb40 _ hma)
      · exact hb40 c q
  obtain ⟨d, S', e, ms, rfl, h1⟩ := fn_ws main
  exact ⟨ms, S', e, h1⟩
/-! ## the round told -/
theorem Rnd.mod {l : List Card} {N : Nat} (h : Rnd l N) (n : Nat) : stps n l = stps (n % N) l := by
  have key : ∀ q r : Nat, stps (r + N * q) l = stps r l := fun q r => by
    induction q with
    | zero => rfl
    | succ q ih =>
      have e : r + N * (q + 1) = N + (r + N * q) := by rw [Nat.mul_succ]; omega
      rw [e, ← stps_add, h.back]
      exact ih
  have := key (n / N) (n % N)
  rw [Nat.mod_add_div] at this
  exact this
theorem Rnd.inj {l : List Card} {N : Nat} (h : Rnd l N) {a b : Nat} (hab : a < b) (hb : b < N) : stps a l ≠ stps b l := fun e => by
  have e2 := congrArg (stps (N - b)) e
  rw [stps_add, stps_add, show b + (N - b) = N by omega, h.back] at e2
  exact h.no (a + (N - b)) (by omega) (by omega) e2
theorem Rnd.inj2 {l : List Card} {N : Nat} (h : Rnd l N) {a b : Nat} (ha : a < N) (hb : b < N) (e : stps a l = stps b l) : a = b := by
  apply Classical.byContradiction
  intro z
  rcases Nat.lt_or_gt_of_ne z with q | q
  · exact h.inj q hb e
  · exact h.inj q ha e.symm
abbrev rows (l : List Card) (N : Nat) : List (List Card) := (List.range N).map fun i => stps i l
theorem rowD_eq {l : List Card} {N : Nat} : rowD l N = (rows l N).map dK := by rw [List.map_map]; rfl
theorem shp_rows {ls : List (List Card)} (h : ∀ l ∈ ls, ∀ c ∈ l, Nm c.1) : SeqAt.shaped (.list (ls.map fun l => .tuple (l.map pC))) = true := by
  refine shp_of (lay_all fun l hl => lay_all fun c hc => lay_card (h l hl c hc)) (Nat.le_trans (Nat.succ_le_succ (depth_all (k := 2) fun l hl => Nat.succ_le_succ (depth_all (k := 1) fun c _ => dep_card c))) (by decide))
theorem toPy_rows {ls : List (List Card)} : toPy 8 S (.fl (ls.map dK)) = some (.list (ls.map fun l => .tuple (l.map pC))) := by
  show ((ls.map dK).mapM (toPy 7 S)).map PyData.list = _
  rw [List.mapM_map, mapM_some (f := toPy 7 S ∘ dK) (g := fun l => PyData.tuple (l.map pC)) fun l _ => toPy_deck 4 S l]
  rfl
theorem gIn_rows {ls : List (List Card)} {m : List Card} (hm : ∀ c ∈ m, Nm c.1) (h : ∀ l ∈ ls, ∀ c ∈ l, Nm c.1) : gIn false (dK m) (.fl (ls.map dK)) S = some (.bl (decide (m ∈ ls)), S) := by
  have h2 : toPy 8 S (dK m) = some (.tuple (m.map pC)) := toPy_deck 5 S m
  simp only [gIn, toPy_rows, h2, shp_rows h, shp_deck hm, and_self, if_true]
  have : ((ls.map fun l => PyData.tuple (l.map pC)).any fun z => PyData.eqv z (.tuple (m.map pC))) = decide (m ∈ ls) := by
    rw [List.any_map, Bool.eq_iff_iff, List.any_eq_true, decide_eq_true_eq]
    simp only [Function.comp, eqv_deck, decide_eq_true_eq]
    exact ⟨fun ⟨y, h1, h2⟩ => h2 ▸ h1, fun h => ⟨_, h, rfl⟩⟩
  rw [this]
  rfl
theorem gIndex_rows {ls : List (List Card)} {m : List Card} (hm : ∀ c ∈ m, Nm c.1) (h : ∀ l ∈ ls, ∀ c ∈ l, Nm c.1) (hin : m ∈ ls) : ∃ i, i < ls.length ∧ ls[i]? = some m ∧ gIndex (.fl (ls.map dK)) [dK m] S = some (.int (i : Nat), S) := by
  have h2 : toPy 8 S (dK m) = some (.tuple (m.map pC)) := toPy_deck 5 S m
  have e : (ls.map fun l => PyData.tuple (l.map pC)).findIdx (fun z => PyData.eqv z (.tuple (m.map pC))) = ls.findIdx fun l => decide (l = m) := by
    rw [List.findIdx_map]
    congr 1
    funext l
    exact eqv_deck l m
  have hlt : ls.findIdx (fun l => decide (l = m)) < ls.length := List.findIdx_lt_length_of_exists ⟨m, hin, by simp⟩
  have hat := List.findIdx_getElem (xs := ls) (p := fun l => decide (l = m)) (w := hlt)
  refine ⟨ls.findIdx fun l => decide (l = m), hlt, ?_, ?_⟩
  · rw [List.getElem?_eq_getElem hlt]
    exact congrArg some (of_decide_eq_true hat)
  · have c : SeqAt.shaped (.list (ls.map fun l => .tuple (l.map pC))) = true ∧ SeqAt.shaped (.tuple (m.map pC)) = true ∧ (ls.map fun l => PyData.tuple (l.map pC)).findIdx (fun z => PyData.eqv z (.tuple (m.map pC))) < (ls.map fun l => PyData.tuple (l.map pC)).length := ⟨shp_rows h, shp_deck hm, by rw [e, List.length_map]; exact hlt⟩
    simp only [gIndex, toPy_rows, h2]
    rw [if_pos c, e]
theorem drs_rp {l : List Card} {d : D} (h : DrsX l d) (ok : DeckOk l) (hb : ∀ c ∈ l, c.2 < 10 ^ 40) : Rp d 16120 2 := by
  have h40 := ok.hi
  obtain ⟨es, h1, h2, h3⟩ := h
  have hc : ∀ c ∈ l, Rp (cF c) 402 1 := fun c hc => (Rp.seq (n := 2) (w := 200) (k := 0) (fun d hd => by
    simp at hd
    rcases hd with rfl | rfl
    · exact .name (ok.nm c hc)
    · refine .int ?_
      have h0 := ok.dep c hc
      have h1 := hb c hc
      have : (10 : Int) ^ 40 = 10000000000000000000000000000000000000000 := by decide
      have e40 : (10 : Nat) ^ 40 = 10000000000000000000000000000000000000000 := by decide
      omega) (by simp)).2
  have hF : ∀ d ∈ es, Rp d 402 1 := fun d hd => by
    obtain ⟨i, hi, rfl⟩ := List.getElem_of_mem hd
    have hm : l[i]'(by omega) ∈ l := List.getElem_mem _
    rcases h3 i _ _ (List.getElem?_eq_getElem hi) (List.getElem?_eq_getElem (by omega)) with q | q <;> rw [q]
    · exact .card (ok.nm _ hm) (ok.dep _ hm) (hb _ hm)
    · exact hc _ hm
  rcases h1 with rfl | rfl
  · exact (Rp.seq (n := 40) hF (by omega)).1
  · exact (Rp.seq (n := 40) hF (by omega)).2
theorem least_eq {l m : List Card} {N at_ i0 r : Nat} {o : Option Nat} (h : Rnd l N) (ho : Least (stps at_ l) m o) (hi : i0 < N) (hm : stps i0 l = m) (hr : r < N) (he : (at_ + r) % N = i0) : o = some r := by
  have h1 : stps (at_ + r) l = m := by rw [h.mod, he, hm]
  cases o with
  | none => exact absurd (by rw [stps_add]; exact h1) (ho r)
  | some s =>
    obtain ⟨a, b⟩ := ho
    rw [stps_add] at a
    have hs := b r (by rw [stps_add]; exact h1)
    have e2 : stps ((at_ + s) % N) l = stps ((at_ + r) % N) l := by rw [← h.mod, ← h.mod, a, h1]
    have e3 := h.inj2 (Nat.mod_lt _ (by have := h.pos; omega)) (Nat.mod_lt _ (by have := h.pos; omega)) e2
    have := Nat.sub_mod_eq_zero_of_mod_eq e3.symm
    rw [show at_ + r - (at_ + s) = r - s by omega, Nat.mod_eq_of_lt (by omega)] at this
    congr 1
    omega
theorem least_none {l m : List Card} {N at_ : Nat} {o : Option Nat} (h : Rnd l N) (ho : Least (stps at_ l) m o) (hm : m ∉ rows l N) : o = none := by
  cases o with
  | none => rfl
  | some s =>
    have a := ho.1
    rw [stps_add, h.mod] at a
    exact absurd (List.mem_map.mpr ⟨(at_ + s) % N, List.mem_range.mpr (Nat.mod_lt _ (by have := h.pos; omega)), a⟩) hm
theorem gEq_num {o : Option Nat} : gEq true (numD o) (numD o) S = some (.bl false, S) := by
  cases o with
  | none => exact gEq_self (p := .none) rfl (by decide +kernel)
  | some s => exact gEq_nat.trans (by simp)
theorem num_bool {o : Option Nat} {τ : Sl} (h : τ[10]? = some (some (numD o))) : (tB (eIs "bool" (eVar 10))) τ S = some (.ok false S) := by
  cases o with
  | none => exact tB_ok (b := false) (eIs_ok (eVar_at h) rfl rfl)
  | some s => exact tB_ok (b := false) (eIs_ok (eVar_at h) rfl rfl)
theorem aw_homeR {l : List Card} (h : ∀ i, i < l.length → i ≤ ra l i) (hc : clo l ≤ l.length) : aw l = [] := by
  unfold aw
  rw [List.filter_eq_nil_iff]
  intro i hi
  have := h i (by have := List.mem_range.mp hi; omega)
  simp [this]
theorem law_ok {d : D} {ns : List Int} (hd : seqD S d = some (ns.map D.int)) (hs : ∀ X, seqD (S ++ X) d = some (ns.map D.int)) (ht : ∀ ds, d ≠ .tup ds ∧ d ≠ .fl ds) (hx : ∀ X, gLenX [d] (S ++ X) = some (.int ns.length, S ++ X)) (w : Wf S) : ∃ S', M_law K [d] S = some (.ok (.bl true) S') := by
  obtain ⟨o, e1, sp, wX⟩ := reel_reel_ok hd ht w
  have hz := sizeLine_eq
  refine law_ws ?_
  refine ws_set (eCl_ok (a1_ok rfl) rfl e1) ?_
  generalize hn : S.length = n at *
  obtain ⟨T, hT, eT⟩ := turns9 (τ := [some d, some (.loc n), none, none, none, none, none, none, none, none, none]) (i := 0) 1 5 (by decide) (hx [o]) rfl
  refine ws_for T (fun i τ S' => ∃ x2 x3 x4 x5 x6 x7 x8 x9 x10, τ = [some d, some (.loc n), x2, x3, x4, x5, x6, x7, x8, x9, x10] ∧ Reel n (4000 * i) S' ∧ Wf S') (fun i => .int (i : Nat)) eT (Nat.le_refl _) ⟨none, none, none, none, none, none, none, none, none, rfl, sp, wX⟩ ?_ (fun _ _ _ => rg_end) ?_
  · rintro i τ S1 hi ⟨x2, x3, x4, x5, x6, x7, x8, x9, x10, rfl, sp1, w1⟩
    refine ⟨rg_nxt hi, _, rfl, ?_⟩
    let τ2 : Sl := [some d, some (.loc n), some (.int (i : Nat)), x3, x4, x5, x6, x7, x8, x9, x10]
    obtain ⟨l, S0, e0, ok, hl, hh, hb, sp0, fr0⟩ := reel_home_okQ (S := S1) (n := n) (most := 12) w1 sp1 (by omega) (by omega) (by omega)
    obtain ⟨S2, e2, sm2, sp2, w2⟩ := reel_src.fz (τ := τ2) (f := eCl (M_reel_home_deck) 2 (aCons (eVar 1) (aCons (eC (.int 12)) (aNil)))) w1 (eCl_ok (a2_ok rfl rfl) rfl e0) fr0 sp0 (reel_src.lt sp1) (d := dK l) bd_dK
    have ha := aw_homeR hh (clo_is ok.lo).hi
    obtain ⟨dr, er, hdr⟩ := round_fz (τ := τ2) (a := aCons (fz (eCl (M_reel_home_deck) 2 (aCons (eVar 1) (aCons (eC (.int 12)) (aNil))))) (aNil)) sm2.len w2 ok (a1_ok e2)
    refine ws_set er ?_
    rcases hdr with rfl | ⟨N, rfl, hR⟩
    · exact bif_f (tB_ok (b := false) (eB_ok rfl rfl rfl)) (ws_nop ⟨_, _, _, _, _, _, _, _, _, rfl, reel_src.mono sp2 (by omega), w2⟩)
    refine bif_t (S1 := S2) (tB_ok (b := true) (eB_ok rfl rfl rfl)) ?_
    have nmR : ∀ m ∈ rows l N, ∀ c ∈ m, Nm c.1 := fun m hm => by
      obtain ⟨j, _, rfl⟩ := List.mem_map.mp hm
      exact (stps_ok ok j).nm
    have hN := hR.pos
    have hN2 := hR.hi
    have ln : ∀ {τ : Sl} {S : Sto}, τ[3]? = some (some (.fl (rowD l N))) → eCB gLenX (aCons (eVar 3) (aNil)) τ S = some (.ok (.int (N : Nat)) S) := fun {τ S} h1 => eCB_ok (a1_ok (eVar_at h1)) (by show some (D.int ((rowD l N).length : Nat), S) = _; rw [List.length_map, List.length_range])
    refine ws_for1 4 (fun j τ S' => ∃ x4 x5 x6 x7 x8 x9 x10, τ = [some d, some (.loc n), some (.int (i : Nat)), some (.fl (rowD l N)), x4, x5, x6, x7, x8, x9, x10] ∧ Reel n (4000 * i + 600 + 500 * j) S' ∧ Wf S') (fun j => .int (j : Nat)) (iRg1_ok (n := 4) (a1_ok rfl) (by omega)) (Nat.le_refl _) ⟨_, _, _, _, _, _, _, rfl, sp2, w2⟩ ?_ (fun _ _ _ => rg_end) ?_
    · rintro j τ S3 hj ⟨x4, x5, x6, x7, x8, x9, x10, rfl, sp3, w3⟩
      refine ⟨rg_nxt hj, _, rfl, ?_⟩
      obtain ⟨v, S4, e4, c4, sp4, sm4, w4⟩ := reel_drw (S := S3) (j := 1) (τ := [some d, some (.loc n), some (.int (i : Nat)), some (.fl (rowD l N)), some (.int (j : Nat)), x5, x6, x7, x8, x9, x10]) (fm := eCB gLenX (aCons (eVar 3) (aNil))) (b := N) w3 rfl (ln rfl) sp3 (by omega) hN (b200' (by omega))
      refine ws_set e4 ?_
      obtain ⟨ms, X5, e5, hms, lms, sp5, fr5⟩ := others_ok (S := S4) (n := n) (N := N) w4 sp4 (by omega) ok hb hl ⟨hN, hN2⟩
      let τ5 : Sl := [some d, some (.loc n), some (.int (i : Nat)), some (.fl (rowD l N)), some (.int (j : Nat)), some (.int (v : Nat)), x6, x7, x8, x9, x10]
      obtain ⟨S5, q5, sm5, t5, w5⟩ := reel_src.fz (τ := τ5) (f := eCl (M_reel_others) 2 (aCons (eVar 1) (aCons (eVar 3) (aNil)))) w4 (eCl_ok (a2_ok rfl rfl) rfl e5) fr5 sp5 (reel_src.lt sp4) (d := .fl (ms.map dK)) (bds_map fun _ _ => bd_dK)
      have okv := stps_ok ok v
      have hav := settled_stays ok ha v
      have hlv : (stps v l).length ≤ 12 := by rw [stps_len]; exact hl
      have hbv : ∀ c ∈ stps v l, c.2 < 10 ^ 40 := fun c hc => by
        have := (hb c (stps_mem v c hc)).1
        have p30 : (10 : Int) ^ 30 = 1000000000000000000000000000000 := by decide
        have p40 : (10 : Int) ^ 40 = 10000000000000000000000000000000000000000 := by decide
        omega
      have ixv : ∀ {S : Sto}, gIx (.fl (rowD l N)) (.int (v : Nat)) S = some (dK (stps v l), S) := fun {S} => ix_seq' (c := "list") (i := v) (ds := rowD l N) rfl rfl (by rw [List.getElem?_map, List.getElem?_range c4]; rfl)
      refine ws_for1 ms.length (fun y τ S' => ∃ x6 x7 x8 x9 x10, τ = [some d, some (.loc n), some (.int (i : Nat)), some (.fl (rowD l N)), some (.int (j : Nat)), some (.int (v : Nat)), x6, x7, x8, x9, x10] ∧ Reel n (4000 * i + 600 + 500 * j + 4 + 90 * y) S' ∧ Wf S') (fun y => dK (ms.getD y [])) (iSeq_ok q5 wk_fl) (by simp) ⟨_, _, _, _, _, rfl, reel_src.mono t5 (by omega), w5⟩ ?_ (fun τ S' _ => by simp) ?_
      · rintro y τ S6 hy ⟨x6, x7, x8, x9, x10, rfl, sp6, w6⟩
        have gy : ms.getD y [] = ms[y] := by rw [List.getD_eq_getElem?_getD, List.getElem?_eq_getElem hy]; rfl
        rw [gy]
        obtain ⟨okm, hbm⟩ := hms ms[y] (List.getElem_mem hy)
        refine ⟨by show some ((ms.map dK)[y]?) = _; rw [List.getElem?_map, List.getElem?_eq_getElem hy]; rfl, _, rfl, ?_⟩
        generalize ms[y] = m at *
        let τ6 : Sl := [some d, some (.loc n), some (.int (i : Nat)), some (.fl (rowD l N)), some (.int (j : Nat)), some (.int (v : Nat)), some (dK m), x7, x8, x9, x10]
        have tst : (tB (eB (gEq false) (eCl (M_reel_away) 1 (aCons (eVar 6) (aNil))) (fz (eLst (aNil))))) τ6 S6 = some (.ok (decide (aw m = [])) S6) := tB_ok (eB_ok (eCl_ok (a1_ok rfl) rfl (reel_away_ok w6 okm)) (fz_list aNil_ok rfl w6 (by simp) rfl) gEq_nats)
        by_cases ham : aw m = []
        · rw [decide_eq_true ham] at tst
          refine bif_t tst ?_
          refine ws_set rfl ?_
          -- what is due
          have due : ∃ o : Option Nat, (∀ o', Least (stps v l) m o' → o' = o) ∧ Ws (sIf (tB (eB (gIn false) (eVar 6) (eVar 3))) (sSet 7 (eB gMod (eB gSub (eBM "list" gIndex (eVar 3) (aCons (eVar 6) (aNil))) (eVar 5)) (eCB gLenX (aCons (eVar 3) (aNil))))) (sNop) [some d, some (.loc n), some (.int (i : Nat)), some (.fl (rowD l N)), some (.int (j : Nat)), some (.int (v : Nat)), some (dK m), some .non, x8, x9, x10] S6) (fun fl S' => fl = .nx [some d, some (.loc n), some (.int (i : Nat)), some (.fl (rowD l N)), some (.int (j : Nat)), some (.int (v : Nat)), some (dK m), some (numD o), x8, x9, x10] ∧ S' = S6) := by
            have ti : (tB (eB (gIn false) (eVar 6) (eVar 3))) [some d, some (.loc n), some (.int (i : Nat)), some (.fl (rowD l N)), some (.int (j : Nat)), some (.int (v : Nat)), some (dK m), some .non, x8, x9, x10] S6 = some (.ok (decide (m ∈ rows l N)) S6) := tB_ok (eB_ok rfl rfl (by rw [rowD_eq]; exact gIn_rows okm.nm nmR))
            by_cases hin : m ∈ rows l N
            · rw [decide_eq_true hin] at ti
              obtain ⟨i0, hi0, hm0, eix⟩ := gIndex_rows (S := S6) okm.nm nmR hin
              have hi0 : i0 < N := by simpa using hi0
              rw [List.getElem?_map, List.getElem?_range hi0] at hm0
              have hm0 : stps i0 l = m := Option.some.inj hm0
              obtain ⟨r, hr⟩ : ∃ r : Nat, ((i0 : Int) - (v : Int)) % (N : Int) = (r : Int) := ⟨(((i0 : Int) - (v : Int)) % (N : Int)).toNat, by
                have := Int.emod_nonneg ((i0 : Int) - (v : Int)) (show (N : Int) ≠ 0 by omega)
                omega⟩
              have hrN : r < N := by
                have := Int.emod_lt_of_pos ((i0 : Int) - (v : Int)) (show (0 : Int) < (N : Int) by omega)
                omega
              have he : (v + r) % N = i0 := by
                have h1 : ((v + r : Nat) : Int) % (N : Int) = (i0 : Int) % (N : Int) := by
                  rw [Int.natCast_add, ← hr, Int.add_emod_emod, show (v : Int) + ((i0 : Int) - (v : Int)) = (i0 : Int) by omega]
                have h2 : (((v + r) % N : Nat) : Int) = ((i0 % N : Nat) : Int) := by rw [Int.natCast_emod, Int.natCast_emod]; exact h1
                have h3 : (v + r) % N = i0 % N := by omega
                rw [h3, Nat.mod_eq_of_lt hi0]
              rw [← rowD_eq] at eix
              refine ⟨some r, fun o' ho' => least_eq hR ho' hi0 hm0 hrN he, bif_t ti ?_⟩
              refine ws_set1 (eB_ok (eB_ok (eBM_ok rfl rfl (a1_ok rfl) eix) rfl gSub_i) (ln rfl) ((gMod_i (by omega)).trans (by rw [hr]; rfl))) ⟨rfl, rfl⟩
            · rw [decide_eq_false hin] at ti
              exact ⟨none, fun o' ho' => least_none hR ho' hin, bif_f ti (ws_nop ⟨rfl, rfl⟩)⟩
          obtain ⟨o, ho, fl, S6', e6, rfl, rfl⟩ := due
          refine ws_nx e6 ?_
          let τ7 : Sl := [some d, some (.loc n), some (.int (i : Nat)), some (.fl (rowD l N)), some (.int (j : Nat)), some (.int (v : Nat)), some (dK m), some (numD o), x8, x9, x10]
          obtain ⟨S7, h7, e7, hd7, sp7, sm7, w7⟩ := reel_dressed_fz (q := 3) (l := stps v l) (τ := τ7) (a := aCons (eVar 1) (aCons (eB gIx (eVar 3) (eVar 5)) (aNil))) w6 sp6 (by omega) (by omega) (a2_ok rfl (eB_ok rfl rfl ixv))
          obtain ⟨S8, h8, e8, hd8, sp8, sm8, w8⟩ := reel_dressed_fz (q := 3) (l := m) (τ := τ7) (a := aCons (eVar 1) (aCons (eVar 6) (aNil))) w7 sp7 (by omega) okm.hi (a2_ok rfl rfl)
          have bd2 : ∀ k, bds k [h7, h8] = true := fun k => by simp only [bds, hd7.bd, hd8.bd, Bool.and_self]
          refine ws_set (fz_list (ds := [h7, h8]) (a2_ok e7 e8) (by rw [sm8.len, sm7.len]) w8 (by simp) (bd2 _)) ?_
          have rpB : Rp (.fl [h7, h8]) 34002 5 := (Rp.seq (w := 17000) (k := 4) (n := 2) (ds := [h7, h8]) (fun y hy => by
            simp only [List.mem_cons, List.not_mem_nil, or_false] at hy
            rcases hy with rfl | rfl
            · exact (drs_rp hd7 okv hbv).mono (by omega) (by omega)
            · exact (drs_rp hd8 okm hbm).mono (by omega) (by omega)) (by simp)).2
          obtain ⟨tr, etr⟩ := rpB.repr (by omega) (by omega) (.inr (.inl ⟨_, rfl⟩))
          refine ws_set (eCB_ok (a1_ok rfl) (etr _)) ?_
          obtain ⟨o', eo, hL⟩ := steps_to_ok (K := K) w8 (hd7.deck S8) (hd8.deck S8) okv okm hav ham
          have := ho o' hL
          subst this
          have i0 : gIx (.fl [h7, h8]) (.int 0) S8 = some (h7, S8) := by simp [gIx, seqD, atI, ixN]
          have i1 : gIx (.fl [h7, h8]) (.int 1) S8 = some (h8, S8) := by simp [gIx, seqD, atI, ixN]
          refine ws_set (eCl_ok (a2_ok (eB_ok rfl rfl i0) (eB_ok rfl rfl i1)) rfl eo) ?_
          exact bif_f (or_f (tB_ok (eB_ok rfl rfl gEq_num)) (or_f (num_bool rfl) (tB_ok (eB_ok (eCB_ok (a1_ok rfl) (etr _)) rfl gEqS_same)))) (ws_nop ⟨_, _, _, _, _, rfl, reel_src.mono sp8 (by omega), w8⟩)
        · rw [decide_eq_false ham] at tst
          exact bif_f tst (ws_nop ⟨_, _, _, _, _, rfl, reel_src.mono sp6 (by omega), w6⟩)
      · rintro τ' S' ⟨x6, x7, x8, x9, x10, rfl, sp', w'⟩
        exact ⟨_, _, _, _, _, _, _, rfl, reel_src.mono sp' (by omega), w'⟩
    · rintro τ' S' ⟨x4, x5, x6, x7, x8, x9, x10, rfl, sp', w'⟩
      exact ⟨_, _, _, _, _, _, _, _, _, rfl, reel_src.mono sp' (by omega), w'⟩
  · rintro τ' S' ⟨x2, x3, x4, x5, x6, x7, x8, x9, x10, rfl, sp', w'⟩
    exact ws_rt rfl rfl
end K41
end
section
set_option Elab.async false
set_option linter.all false
set_option maxRecDepth 100000
set_option maxHeartbeats 4000000
namespace Sb
open PySem PySem.Spec PyProof.Rows L2
theorem bds_ints {k : Nat} : ∀ ns : List Int, bds k (ns.map D.int) = true
  | [] => rfl
  | n :: ns => by simp only [List.map_cons, bds, bd, bds_ints ns, Bool.and_self]
/-- the script in the heap, as data -/
theorem script_in {T : Tb} {H : Hp} {a : Addr} {ns : List Int} (hS : SqL T.K H a (ns.map V.int)) (ht : ∀ p ∈ T.tabs, H p = some (.tbl #[])) : ∃ (φ : List Addr) (S : Sto) (d : D), Rel T φ S H ∧ RDs T H φ [d] [.ref a] ∧
    seqD S d = some (ns.map D.int) ∧ (∀ X, seqD (S ++ X) d = some (ns.map D.int)) ∧ (∀ ds, d ≠ .tup ds ∧ d ≠ .fl ds) ∧ (∀ X, gLenX [d] (S ++ X) = some (.int ns.length, S ++ X)) ∧ wfk S.length S = true := by
  have tab : ∀ p ∈ T.tabs, GxR.TabG H p := fun p hp => ⟨#[], ht p hp, trivial⟩
  have rest : Scr T H a ns → ∃ (φ : List Addr) (S : Sto) (d : D), Rel T φ S H ∧ RDs T H φ [d] [.ref a] ∧
    seqD S d = some (ns.map D.int) ∧ (∀ X, seqD (S ++ X) d = some (ns.map D.int)) ∧ (∀ ds, d ≠ .tup ds ∧ d ≠ .fl ds) ∧ (∀ X, gLenX [d] (S ++ X) = some (.int ns.length, S ++ X)) ∧ wfk S.length S = true := fun z =>
    ⟨[], [], .scr ns, ⟨rfl, List.nodup_nil, fun n o b h => by simp at h, tab⟩, ⟨_, [], rfl, ⟨a, rfl, z⟩, rfl⟩, rfl, fun _ => rfl, (fun _ => ⟨fun e => (by cases e), fun e => (by cases e)⟩), (fun X => by simp [gLenX, gLen, seqD]), rfl⟩
  rcases hS with (h | ⟨o, h⟩) | h
  · have e1 : ∀ X : Sto, seqD ([.lst (ns.map D.int)] ++ X) (.loc 0) = some (ns.map D.int) := fun X => by simp [seqD]
    refine ⟨[a], [.lst (ns.map D.int)], .loc 0, ⟨rfl, by simp, fun n o b h1 h2 => ?_, tab⟩, ⟨_, [], rfl, ⟨a, rfl, rfl⟩, rfl⟩, by simp [seqD], e1, (fun _ => ⟨fun e => (by cases e), fun e => (by cases e)⟩), (fun X => by simp [gLenX, gLen, seqD]), by simp [wfk, bdO, bds_ints]⟩
    cases n with
    | zero =>
      simp at h1 h2
      subst h1 h2
      exact ⟨_, h, ints_rds ns⟩
    | succ n => simp at h1
  · exact rest (.inl ⟨o, h⟩)
  · exact rest (.inr h)
theorem cx_false {P : Program} {w : World} {H : Hp} {s : Shared} {e : Value} {s' : Shared} : L2.CX P w [] H s (fun _ _ _ => False) e s' → False := by
  rintro ⟨_, _, _, _, _, _, _, _, _, _, _, _, z⟩
  exact z
end Sb
end
section
set_option Elab.async false
set_option linter.all false
set_option maxRecDepth 100000
set_option maxHeartbeats 4000000
namespace Sb
open PySem PySem.Spec PyProof.Rows L2 LamX
/-- the law's call, its def promised where no print is under way -/
theorem law_callH {P : Program} {w : World} {K : PySem.W.Frag} {mg mb : Str → Option Value} {CX : CXT} {k : Nat} {fa a : Addr} {cs : List (Addr × Addr)} {fd : FuncData} {x : Str} {sp : Sp} {s1 : Shared} {vs : List Value} {ns : List Int}
    (inK : K.In s1.heap) (nsM : s1.heap.Ns mainGlobals mg) (nsB : s1.heap.Ns builtinsNs mb) (boot : ∀ x : Str, x ≠ "__name__" → mb x = bootBuiltins x) (noLim : s1.heap.NoLimit) (noGen : s1.gens = #[])
    (tabs : ∀ p ∈ cs, s1.heap.get? p.2 = some { cls := .none, data := .fields #[] }) (outK : ∀ p ∈ cs, K.lookup p.2 = none) (heads : ∀ p ∈ cs, PySem.W.CodeHd s1.heap p.1 p.2)
    (blt : ∃ (bm : Addr) (ob : Obj), mg "__builtins__" = some (.ref bm) ∧ bm ≠ builtinsNs ∧ s1.heap.get? bm = some ob ∧ ob.cls = .type "module" ∧ ob.dict = some builtinsNs ∧ ob.data = .plain)
    (isL : s1.heap.get? a = some { cls := .type "list", data := .seq vs.toArray }) (areInts : IntsAre vs ns) (short : ns.length ≤ sizeLine) (hsys : ∃ o es ep, s1.heap.get? sysModules = some o ∧ o.data = .dict es ep) (room : Room k callerA) (quiet : callerA.guards = some [])
    (F : ∀ base : Heap, K.In base → base.Ns mainGlobals mg → (∀ p ∈ cs, TabB base mg p.1 p.2) → (∃ o, base.get? sysModules = some o) → FnOkG P w K mg base CX k fa fd [x] sp) (bind : ∀ (s : Shared) (u : Value), BindsTo s fd ⟨[u], []⟩ [(x, u)])
    (wish : ∀ H : Hp, (∀ p ∈ cs, H p.2 = some (.tbl #[])) → SqL K H a (ns.map V.int) → sp [.ref a] H (fun v _ => v = .bl true) fun _ _ _ => False)
    (noX : ∀ H e s', CX [] H s1 (fun _ _ _ => False) e s' → False) :
    codeAny (model P w) callerA (.call (.ref fa) ⟨[.ref a], []⟩) (fun r s' => r = .ok (.ret (.bool true)) ∧ PySem.OldK s1.heap s'.heap ∧ s'.os = s1.os ∧ AllBare s'.gens) s1 := by
  have rel := vals_ints areInts
  have lenV := areInts.length
  have tabAt : ∀ b : Addr, b ∈ cs.map (·.2) → s1.heap.get? b = some { cls := .none, data := .fields #[] } := fun b hb => by
    obtain ⟨p, hp, rfl⟩ := List.mem_map.mp hb
    exact tabs p hp
  have notT : a ∉ cs.map (·.2) := fun z => by
    have z1 := congrArg (Option.map Obj.data) (isL.symm.trans (tabAt a z))
    cases z1
  have inT : ∀ p ∈ cs, p.2 ∈ cs.map (·.2) := fun p hp => List.mem_map_of_mem (f := (·.2)) hp
  have main : ∀ H : Hp, (∀ p ∈ cs, H p.2 = some (.tbl #[])) → (∀ b, H b = none ∨ b ∈ cs.map (·.2) ∨ ∃ o xs, H b = some (.frz o (.lst xs))) → SqL K H a (ns.map V.int) → HOk P w H s1.heap → (∀ b, H b ≠ none → b = a ∨ b ∈ cs.map (·.2)) → (H a ≠ none → K.lookup a = none) →
      codeAny (model P w) callerA (.call (.ref fa) ⟨[.ref a], []⟩) (fun r s' => r = .ok (.ret (.bool true)) ∧ PySem.OldK s1.heap s'.heap ∧ s'.os = s1.os ∧ AllBare s'.gens) s1 := by
    intro H tH oneOf sq okH only aK
    have free : ∀ {b : Addr} {o : Obj}, s1.heap.get? b = some o → (∀ vs n, o.data ≠ .seq vs n) → o.data ≠ .fields #[] → H b = none := fun {b o} e h1 h2 => by
      by_cases q : H b = none
      · exact q
      · rcases only b q with z | z
        · rw [z, isL] at e
          exact absurd (congrArg Obj.data (Option.some.inj e)).symm (h1 _ _)
        · rw [tabAt b z] at e
          exact absurd (congrArg Obj.data (Option.some.inj e)).symm h2
    have freeD : ∀ {b : Addr} {o : Obj} {es : Array DictEntry} {ep : Nat}, s1.heap.get? b = some o → o.data = .dict es ep → H b = none := fun {b o es ep} e d =>
      free e (fun vs n z => by rw [d] at z; cases z) fun z => by rw [d] at z; cases z
    have nsKept : ∀ {b : Addr} {m : Str → Option Value}, s1.heap.Ns b m → (hidT s1.heap H).Ns b m := fun {b m} ⟨o, es, ep, e, d, r⟩ => ⟨o, es, ep, hidT_get e (freeD e d), d, r⟩
    have inKb : K.In (hidT s1.heap H) := fun b o e => hidT_get (inK b o e) (by
      by_cases q : H b = none
      · exact q
      · rcases only b q with z | z
        · rw [z] at e q
          rw [aK q] at e; cases e
        · obtain ⟨p, hp, rfl⟩ := List.mem_map.mp z
          rw [outK p hp] at e; cases e)
    have md : L2.Mod K mg (hidT s1.heap H) := ⟨inKb, nsKept nsM, ⟨mb, nsKept nsB, boot⟩, let ⟨mc, h1, h2⟩ := noLim; ⟨mc, nsKept h1, h2⟩⟩
    have tb : ∀ p ∈ cs, TabB (hidT s1.heap H) mg p.1 p.2 := fun p hp => by
      have atP := tabs p hp
      refine ⟨?_, ?_, fun z => ?_⟩
      · obtain ⟨o, us, file, tf, flags, tg, inF, text, tt, e1, r1, r2, r3, rest⟩ := heads p hp
        refine ⟨o, us, file, tf, flags, tg, inF, text, tt, hidT_get e1 (free e1 (fun vs n z => by rw [r2] at z; cases z) fun z => ?_), r1, r2, r3, rest⟩
        rw [r2] at z
        cases z
        simp at r3
      · obtain ⟨bm, ob, b1, b2, b3, b4, b5, b6⟩ := blt
        have n1 : bm ≠ mainGlobals := fun q => by
          obtain ⟨o, es, ep, e, hd, _⟩ := nsM
          rw [q, e] at b3
          cases b3
          rw [hd] at b6; cases b6
        have n2 : bm ≠ p.2 := fun q => by
          rw [q, atP] at b3
          cases b3
          cases b6
        exact ⟨bm, ob, b1, b2, n1, n2, hidT_get b3 (free b3 (fun vs n z => by rw [b6] at z; cases z) fun z => by rw [b6] at z; cases z), b4, b5, b6⟩
      · obtain ⟨o, es, ep, e, hd, _⟩ := nsM
        rw [z, atP] at e
        cases e
        cases hd
    have env0 : Env0 P w K mg (hidT s1.heap H) callerA [] s1 H := ⟨rfl, md, fun b o e => of_hidT e, Nat.le_of_eq (hidT_size _ _), trivial, fun b hb => absurd (show b ∈ ([] : List Addr) from hb) (by simp), okH, .of_eq noGen⟩
    refine codeAny_mono ((F _ inKb (nsKept nsM) tb (let ⟨o, es, ep, e, d⟩ := hsys; ⟨o, hidT_get e (freeD e d)⟩)).run callerA [] s1 H ⟨[.ref a], []⟩ [.ref a] [.ref a] _ _ room quiet env0 (bind s1 (.ref a)) (.cons rfl .nil) (wish H tH sq)) fun r s' h => ?_
    cases r with
    | error e => exact (noX H e s' h).elim
    | ok fl =>
      cases fl with
      | next => exact False.elim h
      | brk => exact False.elim h
      | cont => exact False.elim h
      | ret u =>
        obtain ⟨v, H', os, bare, un, ok', r', q⟩ := h
        obtain rfl : v = .bl true := q
        obtain rfl : u = Value.bool true := r'
        have stay : ∀ b o, b ∉ cs.map (·.2) → s1.heap.get? b = some o → s'.heap.get? b = some o := fun b o nb e => by
          rcases oneOf b with z | z | ⟨ob, xs, z⟩
          · exact un.keep b o e z (fun y => absurd (show b ∈ ([] : List Addr) from y) (by simp)) (by simp)
          · exact absurd z nb
          · have o1 := (okH b _ z).1
            have o2 := (ok' b _ (un.frzs b ob _ z)).1
            rw [e] at o1; cases o1
            exact o2
        have more : ∀ p ∈ cs, ∃ ps : Array Value, s'.heap.get? p.2 = some { cls := .none, data := .fields ps } := fun p hp => by
          obtain ⟨ps, z⟩ := un.tbls p.2 #[] (tH p hp)
          exact ⟨_, ok' p.2 _ z⟩
        refine ⟨rfl, ⟨fun b o e => ?_, fun b o e => ?_⟩, os, bare⟩
        · by_cases hb : b ∈ cs.map (·.2)
          · obtain ⟨p, hp, rfl⟩ := List.mem_map.mp hb
            obtain ⟨ps, hm⟩ := more p hp
            rw [tabs p hp] at e
            cases e
            exact .inr (.inl ⟨((heads p hp).tab (tabs p hp)).isCodeTable, rfl, #[], ps, rfl, by rw [Array.empty_append]; exact hm⟩)
          · exact .inl (stay b o hb e)
        · by_cases hb : b ∈ cs.map (·.2)
          · obtain ⟨p, hp, rfl⟩ := List.mem_map.mp hb
            obtain ⟨ps, hm⟩ := more p hp
            exact ⟨_, hm⟩
          · exact ⟨o, stay b o hb e⟩
  cases hk : K.lookup a with
  | some o =>
    have e := inK a o hk
    rw [isL] at e
    cases e
    have hT : ∀ b, b ∈ cs.map (·.2) → (fun b => if b ∈ cs.map (·.2) then some (HO.tbl #[]) else none : Hp) b = some (.tbl #[]) := fun b hb => if_pos hb
    have hN : ∀ b, b ∉ cs.map (·.2) → (fun b => if b ∈ cs.map (·.2) then some (HO.tbl #[]) else none : Hp) b = none := fun b hb => if_neg hb
    refine main (fun b => if b ∈ cs.map (·.2) then some (HO.tbl #[]) else none) (fun p hp => hT _ (inT p hp)) (fun b => ?_) (.inr ⟨_, vs.toArray, _, hk, rfl, rfl, rfl, by rw [List.size_toArray, lenV]; exact short, by simpa using rel⟩) (fun b u z => ?_) (fun b z => ?_) fun z => absurd (hN a notT) z
    · by_cases hb : b ∈ cs.map (·.2)
      · exact .inr (.inl hb)
      · exact .inl (hN b hb)
    · by_cases hb : b ∈ cs.map (·.2)
      · rw [hT b hb] at z
        cases z
        exact tabAt b hb
      · rw [hN b hb] at z; cases z
    · by_cases hb : b ∈ cs.map (·.2)
      · exact .inr hb
      · exact absurd (hN b hb) z
  | none =>
    let He0 : Hp := fun b => if b = a then some (.frz { cls := .type "list", data := .seq vs.toArray } (.lst (ns.map V.int))) else if b ∈ cs.map (·.2) then some (.tbl #[]) else none
    have hA : He0 a = some (.frz { cls := .type "list", data := .seq vs.toArray } (.lst (ns.map V.int))) := if_pos rfl
    have hT : ∀ b, b ∈ cs.map (·.2) → He0 b = some (.tbl #[]) := fun b hb => (if_neg fun z => notT (by rw [← z]; exact hb)).trans (if_pos hb)
    have hN : ∀ b, b ≠ a → b ∉ cs.map (·.2) → He0 b = none := fun b h1 h2 => (if_neg h1).trans (if_neg h2)
    refine main He0 (fun p hp => hT _ (inT p hp)) (fun b => ?_) (.inl (.inr ⟨_, hA⟩)) (fun b u z => ?_) (fun b z => ?_) fun _ => hk
    · by_cases h1 : b = a
      · exact .inr (.inr ⟨_, _, by rw [h1]; exact hA⟩)
      · by_cases h2 : b ∈ cs.map (·.2)
        · exact .inr (.inl h2)
        · exact .inl (hN b h1 h2)
    · by_cases h1 : b = a
      · rw [h1, hA] at z
        cases z
        rw [h1]
        exact ⟨isL, by rw [List.length_map]; exact short, vs, _, rel, isL⟩
      · by_cases h2 : b ∈ cs.map (·.2)
        · rw [hT b h2] at z
          cases z
          exact tabAt b h2
        · rw [hN b h1 h2] at z; cases z
    · by_cases h1 : b = a
      · exact .inl h1
      · by_cases h2 : b ∈ cs.map (·.2)
        · exact .inr h2
        · exact absurd (hN b h1 h2) z
/-- what is known of the law at the head's heap -/
def LawAtH (l : PySem.W.OpenLaw) (w : World) (K : PySem.W.Frag) (CX : CXT) (k n : Nat) (x : Str) (mg : Str → Option Value) (fa : Addr) (h : Heap) : Prop :=
  ∃ (fd : FuncData) (cs : List (Addr × Addr)) (sp : Sp), (∀ p ∈ cs, h.get? p.2 = some { cls := .none, data := .fields #[] }) ∧ (∀ p ∈ cs, K.lookup p.2 = none) ∧ (∀ p ∈ cs, PySem.W.CodeHd h p.1 p.2) ∧ (∀ (s : Shared) (u : Value), BindsTo s fd ⟨[u], []⟩ [(x, u)]) ∧
    (∀ (H : Hp) (a : Addr) (ns : List Int), ns.length ≤ n → (∀ z ∈ ns, Builtin.Int.intBits z ≤ 1048576) → (∀ p ∈ cs, H p.2 = some (.tbl #[])) → SqL K H a (ns.map V.int) → sp [.ref a] H (fun v _ => v = .bl true) fun _ _ _ => False) ∧
    ∀ base : Heap, K.In base → base.Ns mainGlobals mg → (∀ p ∈ cs, TabB base mg p.1 p.2) → (∃ o, base.get? sysModules = some o) → FnOkG l.prog w K mg base CX k fa fd [x] sp
theorem walk_H {l : PySem.W.OpenLaw} {n k : Nat} {q : Program} {loose : List Str} {XP : (Str → Option Value) → Heap → Prop} {YP : World → Heap → Prop} {d : DefRec} {CX : World → CXT} {x : Str} (hn : l.most = some n) (hn2 : n ≤ sizeLine) (hdf : d.params.defaults = []) (room : Room k callerA) (quiet : callerA.guards = some [])
    (F : ∀ (w : World) (mg : Str → Option Value) (fa : Addr) (h : Heap), YP w h → h.Ns mainGlobals mg → mg d.name = some (.ref fa) → ∃ K : PySem.W.Frag, K.In h ∧ (∃ o es ep, h.get? sysModules = some o ∧ o.data = .dict es ep) ∧ LawAtH l w K (CX w) k n x mg fa h)
    (noX : ∀ (w : World) (H : Hp) (s : Shared) (e : Value) (s' : Shared), CX w [] H s (fun _ _ _ => False) e s' → False) : PySem.W.WalkO q loose XP YP l.row.toRowW d [] (fun f vs => PySem.call f vs) := by
  refine Att.attach_callB hn hdf fun w s0 s1 mg mb fa o pm cd doc a vs ns G Y ho hd hcd hmg hobj hints hlen hbits hg => ?_
  obtain ⟨K, inK, hsys, fd, cs, sp, h1, h2, h3, h4, h5, h6⟩ := F w mg fa _ Y G.T.g hmg
  exact law_callH inK G.T.g G.T.b G.T.builtins G.T.nolimit hg h1 h2 h3 G.T.bmain hobj hints (Nat.le_trans hlen hn2) hsys room quiet h6 h4 (fun H tH sq => h5 H a ns hlen hbits tH sq) fun H e s' => noX w H s1 e s'
end Sb
end
set_option Elab.async false
set_option linter.all false
set_option maxRecDepth 100000
set_option maxHeartbeats 0
namespace K41
open PySem PySem.Spec PyProof.Rows L2 Sb
theorem at_law {w : World} {K : PySem.W.Frag} {h : Heap} {mg : Str → Option Value} {f : Addr} (X : K.In h) (G : h.Ns mainGlobals mg) (hfa : mg "law" = some (.ref f)) (c : He.SaysX fa fn [] tf ((fun K => Sb.clsB [] K && Sb.gcdB K)) w h K) :
    Sb.LawAtH PySem.Challenge.rw_slideback_k41_steps_to_near_decks w K (L2.CX (PySem.Challenge.rw_slideback_k41_steps_to_near_decks).prog w) lv_law 63 "script" mg f h := by
  have cd := c.t.d
  obtain ⟨fd, F⟩ := cd.def_ 37 (d := d_law) rfl
  have gl := He.glo_ok X G (cd.fact 37 (f := .glo "law") rfl)
  have ef := hfa.symm.trans gl
  cases ef
  refine ⟨fd, tf.map (He.cT K), spM (TT (PySem.Challenge.rw_slideback_k41_steps_to_near_decks).prog w K) (M_law K) 1, fun p hp => ?_, fun p hp => ?_, fun p hp => ?_, ?_, fun H a ns _ _ hT hS => ?_, fun base Kb Gb hT Hs => ?_⟩
  · obtain ⟨q, hq, rfl⟩ := List.mem_map.mp hp
    exact c.empty q hq
  · obtain ⟨q, hq, rfl⟩ := List.mem_map.mp hp
    exact c.out q hq
  · obtain ⟨q, hq, rfl⟩ := List.mem_map.mp hp
    exact PySem.W.codeHd_of_K X (c.hd q hq)
  · have b := FunD.bindsA (ps := ["script"]) F fun _ _ _ _ _ _ us hl => match us, hl with | [_], _ => rfl
    exact fun s u => b s [u] rfl
  · obtain ⟨φ, S, d, R, r, h1, h2, h3, h4, h5⟩ := script_in (T := TT (PySem.Challenge.rw_slideback_k41_steps_to_near_decks).prog w K) hS fun p hp => by
      obtain ⟨q, hq, rfl⟩ := List.mem_map.mp hp
      exact hT q hq
    obtain ⟨S', e⟩ := law_ok (K := K) h1 h2 h3 h4 h5
    exact ⟨φ, S, [d], _, R, r, rfl, e, fun φ' H' v _ _ z => z⟩
  · exact fo_law ⟨cd, Kb, Gb, fun p hp => ⟨(hT p hp).code, (hT p hp).bm, (hT p hp).gP⟩, Hs, Sb.gcd_of Kb Gb (He.ba c.more).2⟩ F
end K41
open PySem PySem.W PySem.Calls PyProof.Rows
set_option maxRecDepth 100000 in
set_option maxHeartbeats 0 in
theorem PySem.Challenge.cw_slideback_k41_steps_to_near_decks_holds : PySem.Challenge.rw_slideback_k41_steps_to_near_decks.Holds := by
  w_on; o_law
  refine HandSHeadRun.head_imp (r := K41.R) (q := view K41.R.prog [0, K41.lawAt]) (H := K41.hk) (ob := K41.ob) (M := K41.steps) (loose := K41.loose) (d := HandSHeadRun.topDef K41.R.prog K41.lawAt) (kwd := []) K41.ob_eq
    K41.run (by kernel_rfl) (by kernel_rfl) (by kernel_rfl) (by rfl) (by first | assumption | decide +kernel) (by decide +kernel) ⟨rfl, rfl, rfl, rfl, rfl, by decide +kernel⟩ ?hw ?hc
  case hw => w_witness2
  case hc =>
    refine Sb.walk_H (l := PySem.Challenge.rw_slideback_k41_steps_to_near_decks) (n := 63) (k := K41.lv_law) (x := "script") (CX := L2.CX (PySem.Challenge.rw_slideback_k41_steps_to_near_decks).prog) rfl (by decide) (by kernel_rfl) ⟨rfl, by decide, by decide⟩ rfl ?F (fun _ _ _ _ _ z => Sb.cx_false z)
    intro w mg fa h Y G hmg0
    obtain ⟨⟨K, KX, c⟩, Hs⟩ := Y
    have hmg : mg ("law" : PySem.Str) = some (.ref fa) := by
      have e : (HandSHeadRun.topDef K41.R.prog K41.lawAt).name = ("law" : PySem.Str) := by kernel_rfl
      rw [← e]
      exact hmg0
    exact ⟨K, KX, Hs, K41.at_law KX G hmg c⟩

