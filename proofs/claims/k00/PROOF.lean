import PyProof.Rows.All
import Wide.All
import OpenK.AllK
import Wide.FinOn
import PySem.Challenge.RW_nestsay_k00_forests_and_standings
import HandS.ForExc
import HandS.Comp
import HandS.Lambda
import HandS.Iter
import HandS.Deep
import HandS.Flow
import HandS.TupAny
import HandS.IsInst
import HandS.Style
import PyProof.Rows.InDataRows
import HandS.Wide
import HandS.WideBits
import PyProof.ReprRoads
import PyProof.CallFns
import KE.GoesEnum
import HandS.Zip
import HandS.Rev
import HandS.ExcCtx
import HandS.TryOnly
import HandS.HotCalls
import HandS.ExcInit
import KE.KTypeName
import KE.KIsNot
import KE.KExcIs
import HandS.EndTab
import HandS.EndBits
import HandS.Star
import HandS.Dict
import PyProof.StrOps2
import PyProof.Rows.SeqMore
import HandS.Strs
import HandS.Text
import HandS.StrMore
section
set_option Elab.async false
set_option linter.all false
set_option maxRecDepth 100000
set_option maxHeartbeats 1000000
/-! Nz: plain functions over data and a store of the own lists, and what it means that a piece of the text does what such a function says. -/
namespace Nz
open PySem PySem.Spec PyProof.Rows L2
open LamX (Tabs TabS CodeO)

/-- a value as the plain functions see it: data, one of the own lists (by its number), an object that nobody changes, an error that was caught -/
inductive EV where
  | d (x : PyData)
  | ref (n : Nat)
  | fz (ds : List PyData)
  | exc (c : Str) (x : PyData)
  | clo
/-- the caught error at hand: its address, its class, its own dict; the lambda at hand: its address, the heap and the lists where it was made -/
structure Aux where
  xa : Addr := 0
  xc : Addr := 0
  xd : Addr := 0
  xf : Addr := 0
  cI : Addr → Option HO := fun _ => none
  cι : List Addr := []
/-- an own error's dict: what, kind -/
abbrev xdF (c : Str) (u : V) : HO := .xd [("what", u), ("kind", .str c)]
/-- what the module's names hold -/
structure Mx where
  g : Str → Option Value
  x : Aux
abbrev Store := List (Option (List PyData))
abbrev Env' := List (Option EV)

/-- how a plain function ends -/
inductive Out (α : Type) where
  | ok (a : α) (st : Store)
  | exc (c : Str) (x : PyData) (st : Store)
  | stuck
def Out.bind {α β : Type} (o : Out α) (f : α → Store → Out β) : Out β :=
  match o with
  | .ok a st => f a st
  | .exc c x st => .exc c x st
  | .stuck => .stuck
@[simp] theorem bind_ok {α β : Type} (a : α) (st : Store) (f : α → Store → Out β) : (Out.ok a st).bind f = f a st := rfl
@[simp] theorem bind_exc {α β : Type} (c : Str) (x : PyData) (st : Store) (f : α → Store → Out β) : (Out.exc c x st : Out α).bind f = .exc c x st := rfl
@[simp] theorem bind_stuck {α β : Type} (f : α → Store → Out β) : (Out.stuck : Out α).bind f = .stuck := rfl

/-! ### deep data over a part of the heap -/
theorem rd_mono {I H : Hp} (h : ∀ a o, I a = some o → H a = some o) {a : Addr} {u : HO} (r : Rd I a u) : Rd H a u := by
  rcases r with r | ⟨o, r⟩
  · exact .inl (h _ _ r)
  · exact .inr ⟨o, h _ _ r⟩
theorem sqL_mono {K : PySem.W.Frag} {I H : Hp} (h : ∀ a o, I a = some o → H a = some o) {a : Addr} {xs : List V} (r : SqL K I a xs) : SqL K H a xs := by
  rcases r with r | r
  · exact .inl (rd_mono h r)
  · exact .inr r
theorem sqT_mono {K : PySem.W.Frag} {I H : Hp} (h : ∀ a o, I a = some o → H a = some o) {a : Addr} {xs : List V} (r : SqT K I a xs) : SqT K H a xs := by
  rcases r with r | r
  · exact .inl (rd_mono h r)
  · exact .inr r
mutual
theorem dp_mono {K : PySem.W.Frag} {I H : Hp} (h : ∀ a o, I a = some o → H a = some o) : ∀ (d : PyData) (v : V), Dp K I v d → Dp K H v d
  | .none, _, q => by cases q; exact .non
  | .bool b, _, q => by cases q; exact .bl b
  | .int i, _, q => by cases q; exact .int i
  | .str x, _, q => by cases q; exact .str x
  | .list ds, _, q => by
    cases q with
    | lst a b => exact .lst (sqL_mono h a) (dpAll_mono h ds _ b)
  | .tuple ds, _, q => by
    cases q with
    | tup a b => exact .tup (sqT_mono h a) (dpAll_mono h ds _ b)
  | .dict _, _, q => by cases q
theorem dpAll_mono {K : PySem.W.Frag} {I H : Hp} (h : ∀ a o, I a = some o → H a = some o) : ∀ (ds : List PyData) (vs : List V), DpAll K I vs ds → DpAll K H vs ds
  | [], _, q => by cases q; exact .nil
  | d :: ds, _, q => by
    cases q with
    | cons a b => exact .cons (dp_mono h d _ a) (dpAll_mono h ds _ b)
end
theorem dpAll_len {K : PySem.W.Frag} {I : Hp} : ∀ {ds : List PyData} {vs : List V}, DpAll K I vs ds → vs.length = ds.length
  | [], _, q => by cases q; rfl
  | d :: ds, _, q => by
    cases q with
    | cons a b => rw [List.length_cons, List.length_cons, dpAll_len b]
theorem dpAll_get {K : PySem.W.Frag} {I : Hp} : ∀ {ds : List PyData} {vs : List V} {i : Nat} {d : PyData}, DpAll K I vs ds → ds[i]? = some d → ∃ v, vs[i]? = some v ∧ Dp K I v d
  | [], _, i, d, _, e => by simp at e
  | c :: ds, _, i, d, q, e => by
    cases q with
    | @cons v vs _ _ a b =>
      cases i with
      | zero =>
        have e' : c = d := by simpa using e
        subst e'
        exact ⟨v, rfl, a⟩
      | succ i => exact dpAll_get (i := i) b (by simpa using e)
theorem dpAll_append {K : PySem.W.Frag} {I : Hp} : ∀ {ds es : List PyData} {vs us : List V}, DpAll K I vs ds → DpAll K I us es → DpAll K I (vs ++ us) (ds ++ es)
  | [], _, _, _, a, b => by cases a; exact b
  | d :: ds, es, _, us, a, b => by
    cases a with
    | cons x y => exact .cons x (dpAll_append y b)
theorem dpAll_take {K : PySem.W.Frag} {I : Hp} : ∀ {ds : List PyData} {vs : List V} (n : Nat), DpAll K I vs ds → DpAll K I (vs.take n) (ds.take n)
  | _, _, 0, _ => .nil
  | [], _, n + 1, a => by cases a; exact .nil
  | d :: ds, _, n + 1, a => by
    cases a with
    | cons x y => exact .cons x (dpAll_take n y)
theorem dpAll_drop {K : PySem.W.Frag} {I : Hp} : ∀ {ds : List PyData} {vs : List V} (n : Nat), DpAll K I vs ds → DpAll K I (vs.drop n) (ds.drop n)
  | _, _, 0, a => a
  | [], _, n + 1, a => by cases a; exact .nil
  | d :: ds, _, n + 1, a => by
    cases a with
    | cons x y => exact dpAll_drop n y
theorem dpAll_set {K : PySem.W.Frag} {I : Hp} {d : PyData} {v : V} (h : Dp K I v d) : ∀ {ds : List PyData} {vs : List V} (n : Nat), DpAll K I vs ds → DpAll K I (vs.set n v) (ds.set n d)
  | [], _, _, a => by cases a; exact .nil
  | e :: ds, _, 0, a => by
    cases a with
    | cons x y => exact .cons h y
  | e :: ds, _, n + 1, a => by
    cases a with
    | cons x y => exact .cons x (dpAll_set h n y)
theorem dpAll_erase {K : PySem.W.Frag} {I : Hp} : ∀ {ds : List PyData} {vs : List V} (n : Nat), DpAll K I vs ds → DpAll K I (vs.eraseIdx n) (ds.eraseIdx n)
  | [], _, _, a => by cases a; exact .nil
  | e :: ds, _, 0, a => by
    cases a with
    | cons x y => exact y
  | e :: ds, _, n + 1, a => by
    cases a with
    | cons x y => exact .cons x (dpAll_erase n y)
theorem dpAll_reverse {K : PySem.W.Frag} {I : Hp} : ∀ {ds : List PyData} {vs : List V}, DpAll K I vs ds → DpAll K I vs.reverse ds.reverse
  | [], _, a => by cases a; exact .nil
  | e :: ds, _, a => by
    cases a with
    | cons x y =>
      rw [List.reverse_cons, List.reverse_cons]
      exact dpAll_append (dpAll_reverse y) (.cons x .nil)
/-! kinds of values by their data -/
theorem dp_int {K : PySem.W.Frag} {I : Hp} {v : V} {i : Int} (h : Dp K I v (.int i)) : v = .int i := by cases h; rfl
theorem dp_bool {K : PySem.W.Frag} {I : Hp} {v : V} {b : Bool} (h : Dp K I v (.bool b)) : v = .bl b := by cases h; rfl
theorem dp_str {K : PySem.W.Frag} {I : Hp} {v : V} {x : Str} (h : Dp K I v (.str x)) : v = .str x := by cases h; rfl
theorem dp_none {K : PySem.W.Frag} {I : Hp} {v : V} (h : Dp K I v .none) : v = .non := by cases h; rfl
theorem dp_list {K : PySem.W.Frag} {I : Hp} {v : V} {ds : List PyData} (h : Dp K I v (.list ds)) : ∃ a vs, v = .ref a ∧ SqL K I a vs ∧ DpAll K I vs ds := by
  cases h with
  | lst a b => exact ⟨_, _, rfl, a, b⟩
theorem dp_tup {K : PySem.W.Frag} {I : Hp} {v : V} {ds : List PyData} (h : Dp K I v (.tuple ds)) : ∃ a vs, v = .ref a ∧ SqT K I a vs ∧ DpAll K I vs ds := by
  cases h with
  | tup a b => exact ⟨_, _, rfl, a, b⟩
theorem dpAll_ints {K : PySem.W.Frag} {I : Hp} : ∀ {ns : List Int} {vs : List V}, DpAll K I vs (ns.map PyData.int) → vs = ns.map V.int
  | [], _, h => by cases h; rfl
  | n :: ns, _, h => by
    cases h with
    | cons a b =>
      rw [dp_int a, dpAll_ints b]
      rfl
theorem dpAll_of_ints {K : PySem.W.Frag} {I : Hp} : ∀ (ns : List Int), DpAll K I (ns.map V.int) (ns.map PyData.int)
  | [] => .nil
  | n :: ns => .cons (.int n) (dpAll_of_ints ns)

/-! ### how values, stores and frames are borne by the heap -/
def RV (K : PySem.W.Frag) (mg : Mx) (I : Hp) (ι : List Addr) : EV → V → Prop
  | .d x, v => Dp K I v x
  | .ref n, v => ∃ a, ι[n]? = some a ∧ v = .ref a
  | .fz ds, v => ∃ a ob vs, v = .ref a ∧ I a = some (.frz ob (.tup vs)) ∧ ob.dict = none ∧ DpAll K I vs ds
  | .exc c x, v => v = .ref mg.x.xa ∧ mg.g c = some (.ref mg.x.xc) ∧ ∃ u, I mg.x.xd = some (xdF c u) ∧ Dp K I u x
  | .clo, v => v = .ref mg.x.xf ∧ (∀ a o, mg.x.cI a = some o → I a = some o) ∧ mg.x.cι <+: ι
inductive RVs (K : PySem.W.Frag) (mg : Mx) (I : Hp) (ι : List Addr) : List EV → List V → Prop
  | nil : RVs K mg I ι [] []
  | cons {x : EV} {v : V} {xs : List EV} {vs : List V} : RV K mg I ι x v → RVs K mg I ι xs vs → RVs K mg I ι (x :: xs) (v :: vs)
/-- the part I of the heap never changes; the own lists stand at ι; the tables of T -/
structure S3 (K : PySem.W.Frag) (T : List (Addr × Str)) (H I : Hp) (ι : List Addr) (st : Store) : Prop where
  im : ∀ a o, I a = some o → H a = some o
  len : ι.length = st.length
  nd : ι.Nodup
  cell : ∀ (n : Nat) (ds : List PyData), st[n]? = some (some ds) → ∃ a vs, ι[n]? = some a ∧ H a = some (.lst vs) ∧ DpAll K I vs ds ∧ I a = none
  there : ∀ a ∈ ι, ∃ vs, H a = some (.lst vs)
  tabs : Tabs T H
  notb : ∀ a ps, I a ≠ some (.tbl ps)
structure Ext (I : Hp) (ι : List Addr) (I' : Hp) (ι' : List Addr) : Prop where
  same : ∀ a o, I a = some o → I' a = some o
  pre : ι <+: ι'
theorem Ext.refl (I : Hp) (ι : List Addr) : Ext I ι I ι := ⟨fun _ _ h => h, List.prefix_refl _⟩
theorem Ext.trans {I I1 I2 : Hp} {ι ι1 ι2 : List Addr} (a : Ext I ι I1 ι1) (b : Ext I1 ι1 I2 ι2) : Ext I ι I2 ι2 := ⟨fun c o h => b.same c o (a.same c o h), a.pre.trans b.pre⟩
theorem pre_get {ι ι' : List Addr} (h : ι <+: ι') {n : Nat} {a : Addr} (e : ι[n]? = some a) : ι'[n]? = some a := by
  obtain ⟨t, rfl⟩ := h
  obtain ⟨hn, _⟩ := List.getElem?_eq_some_iff.mp e
  rw [List.getElem?_append_left hn]
  exact e
theorem RV.ext {K : PySem.W.Frag} {mg : Mx} {I I' : Hp} {ι ι' : List Addr} (e : Ext I ι I' ι') : ∀ {x : EV} {v : V}, RV K mg I ι x v → RV K mg I' ι' x v
  | .d x, v, h => dp_mono e.same x v h
  | .ref n, v, ⟨a, h1, h2⟩ => ⟨a, pre_get e.pre h1, h2⟩
  | .fz ds, v, ⟨a, ob, vs, h1, h2, h3, h4⟩ => ⟨a, ob, vs, h1, e.same _ _ h2, h3, dpAll_mono e.same _ _ h4⟩
  | .exc c x, v, ⟨h1, h2, u, h3, h4⟩ => ⟨h1, h2, u, e.same _ _ h3, dp_mono e.same _ _ h4⟩
  | .clo, v, ⟨h1, h2, h3⟩ => ⟨h1, fun a o q => e.same a o (h2 a o q), h3.trans e.pre⟩
theorem RVs.ext {K : PySem.W.Frag} {mg : Mx} {I I' : Hp} {ι ι' : List Addr} (e : Ext I ι I' ι') : ∀ {xs : List EV} {vs : List V}, RVs K mg I ι xs vs → RVs K mg I' ι' xs vs
  | _, _, .nil => .nil
  | _, _, .cons a b => .cons (a.ext e) (RVs.ext e b)
theorem RVs.length {K : PySem.W.Frag} {mg : Mx} {I : Hp} {ι : List Addr} : ∀ {xs : List EV} {vs : List V}, RVs K mg I ι xs vs → vs.length = xs.length
  | _, _, .nil => rfl
  | _, _, .cons a b => by rw [List.length_cons, List.length_cons, RVs.length b]
/-- the frame's slots -/
def RE (K : PySem.W.Frag) (mg : Mx) (I : Hp) (ι : List Addr) (env : Env') (σ : L2.St) : Prop :=
  env.length = σ.length ∧ ∀ (i : Nat) (x : EV), env[i]? = some (some x) → ∃ v, σ[i]? = some (some v) ∧ RV K mg I ι x v
theorem RE.ext {K : PySem.W.Frag} {mg : Mx} {I I' : Hp} {ι ι' : List Addr} {env : Env'} {σ : L2.St} (e : Ext I ι I' ι') (h : RE K mg I ι env σ) : RE K mg I' ι' env σ :=
  ⟨h.1, fun i x q => let ⟨v, a, b⟩ := h.2 i x q; ⟨v, a, b.ext e⟩⟩
theorem RE.set {K : PySem.W.Frag} {mg : Mx} {I : Hp} {ι : List Addr} {env : Env'} {σ : L2.St} {x : EV} {v : V} (h : RE K mg I ι env σ) (i : Nat) (r : RV K mg I ι x v) : RE K mg I ι (env.set i (some x)) (σ.set i (some v)) := by
  refine ⟨by rw [List.length_set, List.length_set]; exact h.1, fun j y q => ?_⟩
  by_cases e : i = j
  · subst e
    have hi : i < env.length := by
      obtain ⟨hi, _⟩ := List.getElem?_eq_some_iff.mp q
      rwa [List.length_set] at hi
    rw [List.getElem?_set_self hi] at q
    cases q
    exact ⟨v, List.getElem?_set_self (by rw [← h.1]; exact hi), r⟩
  · rw [List.getElem?_set_ne e] at q
    obtain ⟨u, a, b⟩ := h.2 j y q
    exact ⟨u, by rw [List.getElem?_set_ne e]; exact a, b⟩

/-! ### the store and the heap: new objects, changed lists -/
variable {K : PySem.W.Frag} {mg : Mx} {T : List (Addr × Str)} {H I : Hp} {ι : List Addr} {st : Store}
theorem Same_upd {H : Hp} {p : Addr} {o : HO} (h : H p = none) : ∀ b u, H b = some u → upd H p o b = some u := fun b u e => by
  rw [upd_ne (ne_of_none e h)]
  exact e
theorem S3.free (s : S3 K T H I ι st) {p : Addr} (h : H p = none) : I p = none := by
  cases e : I p with
  | none => rfl
  | some o =>
    rw [s.im p o e] at h
    cases h
/-- an object that never changes -/
theorem S3.alloc (s : S3 K T H I ι st) {p : Addr} (h : H p = none) (o : HO) (ho : ∀ ps, o ≠ .tbl ps := by intro ps z; cases z) : S3 K T (upd H p o) (upd I p o) ι st := by
  have hI := s.free h
  refine ⟨fun a u e => ?_, s.len, s.nd, fun n ds e => ?_, fun a ha => let ⟨u, e⟩ := s.there a ha; ⟨u, Same_upd h _ _ e⟩, s.tabs.ext (Same_upd h), fun a ps e => ?_⟩
  rotate_left 2
  · by_cases q : a = p
    · subst q
      rw [upd_same] at e
      exact ho ps (Option.some.inj e)
    · rw [upd_ne q] at e
      exact s.notb a ps e
  · by_cases q : a = p
    · subst q
      rw [upd_same] at e ⊢
      exact e
    · rw [upd_ne q] at e ⊢
      exact s.im a u e
  · obtain ⟨a, vs, h1, h2, h3, h4⟩ := s.cell n ds e
    have q : a ≠ p := ne_of_none h2 h
    exact ⟨a, vs, h1, by rw [upd_ne q]; exact h2, dpAll_mono (Same_upd hI) _ _ h3, by rw [upd_ne q]; exact h4⟩
theorem S3.allocExt (s : S3 K T H I ι st) {p : Addr} (h : H p = none) (o : HO) : Ext I ι (upd I p o) ι := ⟨Same_upd (s.free h), List.prefix_refl _⟩
/-- an object of no interest -/
theorem S3.junk (s : S3 K T H I ι st) {p : Addr} (h : H p = none) (o : HO) : S3 K T (upd H p o) I ι st := by
  refine ⟨fun a u e => ?_, s.len, s.nd, fun n ds e => ?_, fun a ha => let ⟨u, e⟩ := s.there a ha; ⟨u, Same_upd h _ _ e⟩, s.tabs.ext (Same_upd h), s.notb⟩
  · exact Same_upd h _ _ (s.im a u e)
  · obtain ⟨a, vs, h1, h2, h3, h4⟩ := s.cell n ds e
    exact ⟨a, vs, h1, Same_upd h _ _ h2, h3, h4⟩
/-- a new own list -/
theorem S3.push (s : S3 K T H I ι st) {p : Addr} (h : H p = none) {vs : List V} {ds : List PyData} (q : DpAll K I vs ds) : S3 K T (upd H p (.lst vs)) I (ι ++ [p]) (st ++ [some ds]) := by
  have hI := s.free h
  have hp : p ∉ ι := fun z => by
    obtain ⟨o, e⟩ := s.there p z
    rw [h] at e
    cases e
  refine ⟨fun a u e => Same_upd h _ _ (s.im a u e), by rw [List.length_append, List.length_append, s.len]; rfl, ?_, fun n es e => ?_, fun a ha => ?_, s.tabs.ext (Same_upd h), s.notb⟩
  rotate_left 2
  · rcases List.mem_append.mp ha with z | z
    · obtain ⟨o, e⟩ := s.there a z
      exact ⟨o, Same_upd h _ _ e⟩
    · have z : a = p := by simpa using z
      subst z
      exact ⟨_, upd_same⟩
  · rw [List.nodup_append]
    refine ⟨s.nd, List.nodup_cons.mpr ⟨List.not_mem_nil, List.nodup_nil⟩, fun a ha b hb => ?_⟩
    have hb : b = p := by simpa using hb
    subst hb
    exact fun z => hp (z ▸ ha)
  · by_cases hn : n < st.length
    · rw [List.getElem?_append_left hn] at e
      obtain ⟨a, ws, h1, h2, h3, h4⟩ := s.cell n es e
      exact ⟨a, ws, by rw [List.getElem?_append_left (by rw [s.len]; exact hn)]; exact h1, Same_upd h _ _ h2, h3, h4⟩
    · have e' : n = st.length := by
        obtain ⟨hl, _⟩ := List.getElem?_eq_some_iff.mp e
        rw [List.length_append] at hl
        have hl : n < st.length + 1 := hl
        omega
      subst e'
      rw [List.getElem?_append_right (Nat.le_refl _), Nat.sub_self] at e
      have e : some (some ds) = some (some es) := e
      cases e
      refine ⟨p, vs, ?_, upd_same, q, hI⟩
      rw [← s.len, List.getElem?_append_right (Nat.le_refl _), Nat.sub_self]
      rfl
theorem push_ext (I : Hp) (ι : List Addr) (p : Addr) : Ext I ι I (ι ++ [p]) := ⟨fun _ _ h => h, List.prefix_append _ _⟩
end Nz

end
section
set_option Elab.async false
set_option linter.all false
set_option maxRecDepth 100000
set_option maxHeartbeats 1000000
namespace Nz
open PySem PySem.Spec PyProof.Rows L2
open LamX (Tabs TabS CodeO)
variable {K : PySem.W.Frag} {mg : Mx} {T : List (Addr × Str)} {H I : Hp} {ι : List Addr} {st : Store}

theorem tabs_write {a : Addr} {vs ws : List V} (t : Tabs T H) (h : H a = some (.lst vs)) : Tabs T (upd H a (.lst ws)) := fun p hp => by
  obtain ⟨ps, e, tr, f⟩ := t p hp
  refine ⟨ps, ?_, tr, fun pos cv hc => ?_⟩
  · rw [upd_ne (ne_of e h (by intro z; cases z))]
    exact e
  · obtain ⟨c, e1, e2⟩ := f pos cv hc
    refine ⟨c, e1, ?_⟩
    rw [upd_ne (ne_of e2 h (by intro z; cases z))]
    exact e2
theorem S3.write (s : S3 K T H I ι st) {n : Nat} {a : Addr} {vs ws : List V} {ds es : List PyData} (hs : st[n]? = some (some ds)) (hi : ι[n]? = some a) (h : H a = some (.lst vs)) (q : DpAll K I ws es) :
    S3 K T (upd H a (.lst ws)) I ι (st.set n (some es)) := by
  have hI : I a = none := by
    obtain ⟨b, us, h1, h2, h3, h4⟩ := s.cell n ds hs
    rw [hi] at h1
    cases h1
    exact h4
  refine ⟨fun b u e => ?_, by rw [List.length_set]; exact s.len, s.nd, fun m fs e => ?_, fun b hb => ?_, tabs_write s.tabs h, s.notb⟩
  · rw [upd_ne (fun z => by subst z; rw [hI] at e; cases e)]
    exact s.im b u e
  · by_cases z : n = m
    · subst z
      have hn : n < st.length := (List.getElem?_eq_some_iff.mp hs).1
      rw [List.getElem?_set_self hn] at e
      cases e
      exact ⟨a, ws, hi, upd_same, q, hI⟩
    · rw [List.getElem?_set_ne z] at e
      obtain ⟨b, us, h1, h2, h3, h4⟩ := s.cell m fs e
      have ne : b ≠ a := fun y => by
        subst y
        obtain ⟨x1, x2⟩ := List.getElem?_eq_some_iff.mp h1
        obtain ⟨y1, y2⟩ := List.getElem?_eq_some_iff.mp hi
        exact z ((List.getElem_inj s.nd).mp (y2.trans x2.symm))
      exact ⟨b, us, h1, by rw [upd_ne ne]; exact h2, h3, h4⟩
  · by_cases z : b = a
    · subst z
      exact ⟨_, upd_same⟩
    · rw [upd_ne z]
      exact s.there b hb
/-- the lists made since are forgotten -/
theorem S3.take (s : S3 K T H I ι st) (L : Nat) : S3 K T H I (ι.take L) (st.take L) := by
  refine ⟨s.im, by rw [List.length_take, List.length_take, s.len], s.nd.sublist (List.take_sublist _ _), fun n ds e => ?_, fun a ha => s.there a (List.mem_of_mem_take ha), s.tabs, s.notb⟩
  have hn : n < L := by
    obtain ⟨hn, _⟩ := List.getElem?_eq_some_iff.mp e
    rw [List.length_take] at hn
    omega
  rw [List.getElem?_take_of_lt hn] at e
  obtain ⟨a, vs, h1, h2, h3, h4⟩ := s.cell n ds e
  exact ⟨a, vs, by rw [List.getElem?_take_of_lt hn]; exact h1, h2, h3, h4⟩
/-- an own list that is forgotten is data from now on -/
theorem S3.freeze (s : S3 K T H I ι st) {n : Nat} {a : Addr} {vs : List V} {ds : List PyData} (hs : st[n]? = some (some ds)) (hi : ι[n]? = some a) (h : H a = some (.lst vs)) (q : DpAll K I vs ds) :
    S3 K T H (upd I a (.lst vs)) ι (st.set n none) ∧ Ext I ι (upd I a (.lst vs)) ι ∧ Dp K (upd I a (.lst vs)) (.ref a) (.list ds) := by
  have hI : I a = none := by
    obtain ⟨b, us, h1, h2, h3, h4⟩ := s.cell n ds hs
    rw [hi] at h1
    cases h1
    exact h4
  refine ⟨⟨fun b u e => ?_, by rw [List.length_set]; exact s.len, s.nd, fun m fs e => ?_, s.there, s.tabs, fun b ps e => ?_⟩, ⟨Same_upd hI, List.prefix_refl _⟩, .lst (.inl (.inl upd_same)) (dpAll_mono (Same_upd hI) _ _ q)⟩
  · by_cases z : b = a
    · subst z
      rw [upd_same] at e
      cases e
      exact h
    · rw [upd_ne z] at e
      exact s.im b u e
  · by_cases z : n = m
    · subst z
      have hn : n < st.length := (List.getElem?_eq_some_iff.mp hs).1
      rw [List.getElem?_set_self hn] at e
      cases e
    · rw [List.getElem?_set_ne z] at e
      obtain ⟨b, us, h1, h2, h3, h4⟩ := s.cell m fs e
      have ne : b ≠ a := fun y => by
        subst y
        obtain ⟨x1, x2⟩ := List.getElem?_eq_some_iff.mp h1
        obtain ⟨y1, y2⟩ := List.getElem?_eq_some_iff.mp hi
        exact z ((List.getElem_inj s.nd).mp (y2.trans x2.symm))
      exact ⟨b, us, h1, h2, dpAll_mono (Same_upd hI) _ _ h3, by rw [upd_ne ne]; exact h4⟩
  · by_cases z : b = a
    · subst z
      rw [upd_same] at e
      cases e
    · rw [upd_ne z] at e
      exact s.notb b ps e

/-! ### what a reading says -/
/-- what is wanted of an error: EX holds of it -/
def Wish (K : PySem.W.Frag) (mg : Mx) (T : List (Addr × Str)) (EX : XK) (I : Hp) (ι : List Addr) (c : Str) (x : PyData) (st : Store) : Prop :=
  ∀ (C d : Addr) (v : V) (H' I' : Hp) (ι' : List Addr), mg.g c = some (.ref C) → Ext I ι I' ι' → S3 K T H' I' ι' st → H' d = some (xdF c v) → Dp K I' v x → EX (.ref C) (some d) H'
theorem Wish.ext {EX : XK} {I I' : Hp} {ι ι' : List Addr} {c : Str} {x : PyData} (w : Wish K mg T EX I ι c x st) (e : Ext I ι I' ι') : Wish K mg T EX I' ι' c x st :=
  fun C d v H2 I2 ι2 h1 h2 h3 h4 h5 => w C d v H2 I2 ι2 h1 (e.trans h2) h3 h4 h5
/-- an outcome, told from a state on -/
def OK (K : PySem.W.Frag) (mg : Mx) (T : List (Addr × Str)) (EX : XK) (I : Hp) (ι : List Addr) {α : Type} (o : Out α) (G : α → Store → Hp → Hp → List Addr → Prop) : Prop :=
  match o with
  | .ok a st => ∀ H' I' ι', Ext I ι I' ι' → S3 K T H' I' ι' st → G a st H' I' ι'
  | .exc c x st => Wish K mg T EX I ι c x st
  | .stuck => False
theorem OK.ext {EX : XK} {I I' : Hp} {ι ι' : List Addr} {α : Type} {o : Out α} {G : α → Store → Hp → Hp → List Addr → Prop} (h : OK K mg T EX I ι o G) (e : Ext I ι I' ι') : OK K mg T EX I' ι' o G := by
  cases o with
  | ok a st => exact fun H2 I2 ι2 x s => h H2 I2 ι2 (e.trans x) s
  | exc c x st => exact Wish.ext (st := st) h e
  | stuck => exact h
/-- the pieces of a bind -/
theorem OK.bind {EX : XK} {α β : Type} {o : Out α} {f : α → Store → Out β} {G : β → Store → Hp → Hp → List Addr → Prop} (h : OK K mg T EX I ι (o.bind f) G) :
    OK K mg T EX I ι o fun a st H' I' ι' => OK K mg T EX I' ι' (f a st) G := by
  cases o with
  | ok a st => exact fun H2 I2 ι2 x s => OK.ext h x
  | exc c x st => exact h
  | stuck => exact h
theorem OK.bind0 {EX : XK} {α β : Type} {o : Out α} {f : α → Store → Out β} {G : β → Store → Hp → Hp → List Addr → Prop} (h : OK K mg T EX I ι (o.bind f) G) :
    OK K mg T EX I ι o fun a st _ _ _ => OK K mg T EX I ι (f a st) G := by
  cases o with
  | ok a st => exact fun H2 I2 ι2 x s => h
  | exc c x st => exact h
  | stuck => exact h
/-- where nothing may be raised -/
def Out.safe {α : Type} (o : Out α) : Out α := match o with
  | .exc _ _ _ => .stuck
  | o => o
@[simp] theorem safe_ok {α : Type} (a : α) (st : Store) : (Out.ok a st).safe = .ok a st := rfl
theorem OK.safe {EX EX2 : XK} {α β : Type} {o : Out α} {f : α → Store → Out β} {G : β → Store → Hp → Hp → List Addr → Prop} (h : OK K mg T EX I ι (o.safe.bind f) G) :
    OK K mg T EX2 I ι o fun a st H' I' ι' => OK K mg T EX I' ι' (f a st) G := by
  cases o with
  | ok a st => exact fun H2 I2 ι2 x s => OK.ext h x
  | exc c x st => exact h.elim
  | stuck => exact h
theorem OK.mono {EX : XK} {α : Type} {o : Out α} {G G' : α → Store → Hp → Hp → List Addr → Prop} (h : OK K mg T EX I ι o G) (m : ∀ a st H' I' ι', Ext I ι I' ι' → S3 K T H' I' ι' st → G a st H' I' ι' → G' a st H' I' ι') : OK K mg T EX I ι o G' := by
  cases o with
  | ok a st => exact fun H2 I2 ι2 x s => m _ _ _ _ _ x s (h H2 I2 ι2 x s)
  | exc c x st => exact h
  | stuck => exact h

abbrev Ex := Env' → Store → Out EV
abbrev Tx := Env' → Store → Out Bool
abbrev Ax := Env' → Store → Out (List EV)
structure Cfg where
  T : List (Addr × Str)
  EX : L2.St → XK
  x : Aux := {}
abbrev mk (X : Cx) (C : Cfg) : Mx := ⟨X.mg, C.x⟩
def rE (K : PySem.W.Frag) (mg : Mx) (C : Cfg) (f : Ex) : TE := fun σ H Q => ∃ I ι env st, S3 K C.T H I ι st ∧ RE K mg I ι env σ ∧ OK K mg C.T (C.EX σ) I ι (f env st) fun a _ H' I' ι' => ∀ v, RV K mg I' ι' a v → Q v H'
def rT (K : PySem.W.Frag) (mg : Mx) (C : Cfg) (f : Tx) : TT := fun σ H Q => ∃ I ι env st, S3 K C.T H I ι st ∧ RE K mg I ι env σ ∧ OK K mg C.T (C.EX σ) I ι (f env st) fun b _ H' _ _ => Q b H'
def rA (K : PySem.W.Frag) (mg : Mx) (C : Cfg) (f : Ax) : TA := fun σ H Q => ∃ I ι env st, S3 K C.T H I ι st ∧ RE K mg I ι env σ ∧ OK K mg C.T (C.EX σ) I ι (f env st) fun as _ H' I' ι' => ∀ vs, RVs K mg I' ι' as vs → Q vs H'
/-- the piece of the text does what the function says -/
def SE (X : Cx) (C : Cfg) (e : Expr) (f : Ex) : Prop := PE X e (rE X.K (mk X C) C f)
def ST (X : Cx) (C : Cfg) (e : Expr) (f : Tx) : Prop := PT X e (rT X.K (mk X C) C f)
def SW (X : Cx) (C : Cfg) (e : Expr) (f : Tx) : Prop := PW X e (rT X.K (mk X C) C f)
def SA (X : Cx) (C : Cfg) (es : List Expr) (f : Ax) : Prop := PA X es (rA X.K (mk X C) C f)
theorem pe_imp {X : Cx} {e : Expr} {t t' : TE} (h : PE X e t) (m : ∀ σ H Q, t' σ H Q → t σ H Q) : PE X e t' := ⟨fun pins s σ H Q I q => h.run pins s σ H Q I (m σ H Q q)⟩
theorem pt_imp {X : Cx} {e : Expr} {t t' : TT} (h : PT X e t) (m : ∀ σ H Q, t' σ H Q → t σ H Q) : PT X e t' := ⟨fun pins s σ H Q I q => h.run pins s σ H Q I (m σ H Q q)⟩
theorem pw_imp {X : Cx} {e : Expr} {t t' : TT} (h : PW X e t) (m : ∀ σ H Q, t' σ H Q → t σ H Q) : PW X e t' := ⟨fun w pins s σ H Q I q => h.run w pins s σ H Q I (m σ H Q q)⟩
theorem pa_imp {X : Cx} {es : List Expr} {t t' : TA} (h : PA X es t) (m : ∀ σ H Q, t' σ H Q → t σ H Q) : PA X es t' := ⟨fun pos pins s σ H Q I q => h.run pos pins s σ H Q I (m σ H Q q)⟩
/-- statements -/
inductive Fl where
  | nx (env : Env') | rt (a : EV) | bk (env : Env') | ct (env : Env') | ex (env : Env') (c : Str) (x : PyData)
abbrev Sx := Env' → Store → Out Fl
def GD (K : PySem.W.Frag) (mg : Mx) (C : Cfg) (D : Ends) (r : Fl) (st : Store) (H' I' : Hp) (ι' : List Addr) : Prop :=
  match r with
  | .nx env' => ∀ σ', RE K mg I' ι' env' σ' → D.nx σ' H'
  | .rt a => ∀ v, RV K mg I' ι' a v → D.rt v H'
  | .bk env' => ∀ σ', RE K mg I' ι' env' σ' → D.bk σ' H'
  | .ct env' => ∀ σ', RE K mg I' ι' env' σ' → D.ct σ' H'
  | .ex env' c x => ∀ σ', RE K mg I' ι' env' σ' → Wish K mg C.T (C.EX σ') I' ι' c x st
abbrev NoX : XK := fun _ _ _ => False
def rS (K : PySem.W.Frag) (mg : Mx) (C : Cfg) (f : Sx) : TS := fun D σ H => ∃ I ι env st, S3 K C.T H I ι st ∧ RE K mg I ι env σ ∧ OK K mg C.T NoX I ι (f env st) (GD K mg C D)
/-- an expression within a statement: what it raises, the statement raises -/
def sb {α : Type} (env : Env') (o : Out α) (k : α → Store → Out Fl) : Out Fl := match o with
  | .ok a st => k a st
  | .exc c x st => .ok (.ex env c x) st
  | .stuck => .stuck
@[simp] theorem sb_ok {α : Type} (env : Env') (a : α) (st : Store) (k : α → Store → Out Fl) : sb env (.ok a st) k = k a st := rfl
@[simp] theorem sb_exc {α : Type} (env : Env') (c : Str) (x : PyData) (st : Store) (k : α → Store → Out Fl) : sb env (.exc c x st) k = .ok (.ex env c x) st := rfl
@[simp] theorem sb_stuck {α : Type} (env : Env') (k : α → Store → Out Fl) : sb env .stuck k = .stuck := rfl
theorem OK.sb {C : Cfg} {D : Ends} {α : Type} {env : Env'} {σ : L2.St} {o : Out α} {k : α → Store → Out Fl} (re : RE K mg I ι env σ) (h : OK K mg C.T NoX I ι (Nz.sb env o k) (GD K mg C D)) :
    OK K mg C.T (C.EX σ) I ι o fun a st H' I' ι' => OK K mg C.T NoX I' ι' (k a st) (GD K mg C D) := by
  cases o with
  | ok a st => exact fun H2 I2 ι2 x s => OK.ext h x
  | exc c x st =>
    intro cl d v H2 I2 ι2 h1 h2 h3 h4 h5
    exact h H2 I2 ι2 h2 h3 σ (re.ext h2) cl d v H2 I2 ι2 h1 (Ext.refl _ _) h3 h4 h5
  | stuck => exact h
def SS (X : Cx) (C : Cfg) (s : Stmt) (f : Sx) : Prop := PS X s (rS X.K (mk X C) C f)
def SB (X : Cx) (C : Cfg) (ss : List Stmt) (f : Sx) : Prop := PSs X ss (rS X.K (mk X C) C f)
theorem ps_imp {X : Cx} {s : Stmt} {t t' : TS} (h : PS X s t) (m : ∀ D σ H, t' D σ H → t D σ H) : PS X s t' := ⟨fun pins s σ H D I q => h.run pins s σ H D I (m D σ H q)⟩
theorem pss_imp {X : Cx} {s : List Stmt} {t t' : TS} (h : PSs X s t) (m : ∀ D σ H, t' D σ H → t D σ H) : PSs X s t' := ⟨fun pins s σ H D I q => h.run pins s σ H D I (m D σ H q)⟩
end Nz

end
section
set_option Elab.async false
set_option linter.all false
set_option maxRecDepth 100000
set_option maxHeartbeats 1000000
namespace Nz
open PySem PySem.Spec PyProof.Rows L2
open LamX (Tabs TabS CodeO)

/-! ### looking at values -/
def view (st : Store) : EV → Option PyData
  | .d x => some x
  | .ref n => match st[n]? with
    | some (some ds) => some (.list ds)
    | _ => none
  | .fz ds => some (.tuple ds)
  | .exc _ _ => none
  | .clo => none
theorem view_ref {st : Store} {n : Nat} {d : PyData} (e : view st (.ref n) = some d) : ∃ ds, st[n]? = some (some ds) ∧ d = .list ds := by
  have e' : (match st[n]? with
    | some (some ds) => some (PyData.list ds)
    | _ => none) = some d := e
  split at e'
  · next ds hs => exact ⟨ds, hs, (Option.some.inj e').symm⟩
  · cases e'
section
variable {K : PySem.W.Frag} {mg : Mx} {T : List (Addr × Str)} {H I : Hp} {ι : List Addr} {st : Store}
theorem view_dp (s : S3 K T H I ι st) : ∀ {x : EV} {v : V} {d : PyData}, RV K mg I ι x v → view st x = some d → Dp K H v d
  | .d x, v, d, r, e => by
    cases e
    exact dp_mono s.im _ _ r
  | .ref n, v, d, ⟨a, h1, h2⟩, e => by
    subst h2
    obtain ⟨ds, hs, rfl⟩ := view_ref e
    obtain ⟨b, vs, g1, g2, g3, g4⟩ := s.cell n ds hs
    rw [h1] at g1
    cases g1
    exact .lst (.inl (.inl g2)) (dpAll_mono s.im _ _ g3)
  | .fz ds, v, d, ⟨a, ob, vs, h1, h2, h3, h4⟩, e => by
    cases e
    subst h1
    exact .tup (.inl (.inr ⟨ob, s.im _ _ h2⟩)) (dpAll_mono s.im _ _ h4)
  | .exc _ _, v, d, r, e => by cases e
  | .clo, v, d, r, e => by cases e
theorem view_list (s : S3 K T H I ι st) : ∀ {x : EV} {v : V} {ds : List PyData}, RV K mg I ι x v → view st x = some (.list ds) → ∃ a vs, v = .ref a ∧ SqL K H a vs ∧ DpAll K I vs ds
  | .d x, v, ds, r, e => by
    cases e
    obtain ⟨a, vs, h1, h2, h3⟩ := dp_list r
    exact ⟨a, vs, h1, sqL_mono s.im h2, h3⟩
  | .ref n, v, ds, ⟨a, h1, h2⟩, e => by
    subst h2
    obtain ⟨es, hs, q⟩ := view_ref e
    cases q
    obtain ⟨b, vs, g1, g2, g3, g4⟩ := s.cell n ds hs
    rw [h1] at g1
    cases g1
    exact ⟨a, vs, rfl, .inl (.inl g2), g3⟩
  | .fz _, v, d, r, e => by cases e
  | .exc _ _, v, d, r, e => by cases e
  | .clo, v, d, r, e => by cases e
theorem view_tup (s : S3 K T H I ι st) : ∀ {x : EV} {v : V} {ds : List PyData}, RV K mg I ι x v → view st x = some (.tuple ds) → ∃ a vs, v = .ref a ∧ SqT K H a vs ∧ DpAll K I vs ds
  | .d x, v, ds, r, e => by
    cases e
    obtain ⟨a, vs, h1, h2, h3⟩ := dp_tup r
    exact ⟨a, vs, h1, sqT_mono s.im h2, h3⟩
  | .ref n, v, ds, ⟨a, h1, h2⟩, e => by
    obtain ⟨es, hs, q⟩ := view_ref e
    cases q
  | .fz ds, v, d, ⟨a, ob, vs, h1, h2, h3, h4⟩, e => by
    cases e
    exact ⟨a, vs, h1, .inl (.inr ⟨ob, s.im _ _ h2⟩), h4⟩
  | .exc _ _, v, d, r, e => by cases e
  | .clo, v, d, r, e => by cases e
theorem rv_tup {st : Store} : ∀ {x : EV} {v : V} {ds : List PyData}, RV K mg I ι x v → view st x = some (.tuple ds) → RV K mg I ι (.d (.tuple ds)) v
  | .d x, v, ds, r, e => by
    cases e
    exact r
  | .ref n, v, ds, r, e => by
    obtain ⟨es, hs, q⟩ := view_ref e
    cases q
  | .fz ds, v, d, ⟨a, ob, vs, h1, h2, h3, h4⟩, e => by
    cases e
    subst h1
    exact .tup (.inl (.inr ⟨ob, h2⟩)) h4
  | .exc _ _, v, d, r, e => by cases e
  | .clo, v, d, r, e => by cases e
theorem view_int {x : EV} {v : V} {i : Int} (r : RV K mg I ι x v) (e : view st x = some (.int i)) : v = .int i := by
  cases x with
  | d x => cases e; exact dp_int r
  | ref n => obtain ⟨es, hs, q⟩ := view_ref e; cases q
  | fz _ => cases e
  | exc _ _ => cases e
  | clo => cases e
theorem view_str {x : EV} {v : V} {i : Str} (r : RV K mg I ι x v) (e : view st x = some (.str i)) : v = .str i := by
  cases x with
  | d x => cases e; exact dp_str r
  | ref n => obtain ⟨es, hs, q⟩ := view_ref e; cases q
  | fz _ => cases e
  | exc _ _ => cases e
  | clo => cases e
theorem view_bool {x : EV} {v : V} {i : Bool} (r : RV K mg I ι x v) (e : view st x = some (.bool i)) : v = .bl i := by
  cases x with
  | d x => cases e; exact dp_bool r
  | ref n => obtain ⟨es, hs, q⟩ := view_ref e; cases q
  | fz _ => cases e
  | exc _ _ => cases e
  | clo => cases e
theorem view_none {x : EV} {v : V} (r : RV K mg I ι x v) (e : view st x = some .none) : v = .non := by
  cases x with
  | d x => cases e; exact dp_none r
  | ref n => obtain ⟨es, hs, q⟩ := view_ref e; cases q
  | fz _ => cases e
  | exc _ _ => cases e
  | clo => cases e

/-! ### from own lists to data -/
def frz (st : Store) : EV → Option (PyData × Store)
  | .d x => some (x, st)
  | .ref n => match st[n]? with
    | some (some ds) => some (.list ds, st.set n none)
    | _ => none
  | .fz ds => some (.tuple ds, st)
  | .exc _ _ => none
  | .clo => none
def frzAll : List EV → Store → Option (List PyData × Store)
  | [], st => some ([], st)
  | x :: xs, st => match frz st x with
    | some (d, st1) => match frzAll xs st1 with
      | some (ds, st2) => some (d :: ds, st2)
      | none => none
    | none => none
theorem frz_ref {st st' : Store} {n : Nat} {d : PyData} (e : frz st (.ref n) = some (d, st')) : ∃ ds, st[n]? = some (some ds) ∧ d = .list ds ∧ st' = st.set n none := by
  have e' : (match st[n]? with
    | some (some ds) => some (PyData.list ds, st.set n none)
    | _ => none) = some (d, st') := e
  split at e'
  · next ds hs =>
    cases e'
    exact ⟨ds, hs, rfl, rfl⟩
  · cases e'
theorem frz_ok (s : S3 K T H I ι st) : ∀ {x : EV} {v : V} {d : PyData} {st' : Store}, RV K mg I ι x v → frz st x = some (d, st') → ∃ I', Ext I ι I' ι ∧ S3 K T H I' ι st' ∧ Dp K I' v d
  | .d x, v, d, st', r, e => by
    cases e
    exact ⟨I, .refl _ _, s, r⟩
  | .ref n, v, d, st', ⟨a, h1, h2⟩, e => by
    subst h2
    obtain ⟨ds, hs, rfl, rfl⟩ := frz_ref e
    obtain ⟨b, vs, g1, g2, g3, g4⟩ := s.cell n ds hs
    rw [h1] at g1
    cases g1
    obtain ⟨q1, q2, q3⟩ := s.freeze hs h1 g2 g3
    exact ⟨_, q2, q1, q3⟩
  | .fz ds, v, d, st', ⟨a, ob, vs, h1, h2, h3, h4⟩, e => by
    cases e
    subst h1
    exact ⟨I, .refl _ _, s, .tup (.inl (.inr ⟨ob, h2⟩)) h4⟩
  | .exc _ _, v, d, st', r, e => by cases e
  | .clo, v, d, st', r, e => by cases e
theorem frzAll_ok : ∀ {xs : List EV} {vs : List V} {ds : List PyData} {I : Hp} {st st' : Store}, S3 K T H I ι st → RVs K mg I ι xs vs → frzAll xs st = some (ds, st') → ∃ I', Ext I ι I' ι ∧ S3 K T H I' ι st' ∧ DpAll K I' vs ds
  | [], _, ds, I, st, st', s, r, e => by
    cases r
    cases e
    exact ⟨I, .refl _ _, s, .nil⟩
  | x :: xs, _, ds, I, st, st', s, r, e => by
    cases r with
    | cons r1 r2 =>
      unfold frzAll at e
      split at e
      · next d st1 e1 =>
        split at e
        · next es st2 e2 =>
          cases e
          obtain ⟨I1, x1, s1, p1⟩ := frz_ok s r1 e1
          obtain ⟨I2, x2, s2, p2⟩ := frzAll_ok s1 (r2.ext x1) e2
          exact ⟨I2, x1.trans x2, s2, .cons (dp_mono x2.same _ _ p1) p2⟩
        · cases e
      · cases e
end

/-! ### names, constants -/
section
variable {X : Cx} {C : Cfg} {e a b c : Expr} {es : List Expr} {f g h : Ex} {pos : Pos}
def xVar (i : Nat) : Ex := fun env st => match env[i]? with
  | some (some x) => .ok x st
  | _ => .stuck
theorem se_v {i : Nat} (h : PE X e (tVar i)) : SE X C e (xVar i) := pe_imp h fun σ H Q ⟨I, ι, env, st, s, re, ok⟩ => by
  unfold xVar at ok
  split at ok
  · next x hx =>
    obtain ⟨v, hv, rv⟩ := re.2 i x hx
    exact ⟨v, hv, ok H I ι (Ext.refl _ _) s v rv⟩
  · exact ok.elim
def xC (d : PyData) : Ex := fun _ st => .ok (.d d) st
theorem se_c {v : V} {d : PyData} (h : PE X e (tC v)) (hd : ∀ I, Dp X.K I v d) : SE X C e (xC d) := pe_imp h fun σ H Q ⟨I, ι, env, st, s, re, ok⟩ => ok H I ι (Ext.refl _ _) s v (hd I)
theorem se_int {i : Int} {j : Nat} : SE X C (.Constant (.int i) j pos) (xC (.int i)) := se_c pe_int fun _ => .int i
theorem se_bl {i : Bool} {j : Nat} : SE X C (.Constant (.bool i) j pos) (xC (.bool i)) := se_c pe_bl fun _ => .bl i
theorem se_non {j : Nat} : SE X C (.Constant .none j pos) (xC .none) := se_c pe_non fun _ => .non
theorem se_str {x : Str} {j : Nat} : SE X C (.Constant (.str x) j pos) (xC (.str x)) := se_c pe_str fun _ => .str x

/-! ### lists of arguments, displays -/
def xNil : Ax := fun _ st => .ok [] st
def xCons (f : Ex) (g : Ax) : Ax := fun env st => (f env st).bind fun a st => (g env st).bind fun as st => .ok (a :: as) st
theorem sa_nil : SA X C [] xNil := pa_imp pa_nil fun σ H Q ⟨I, ι, env, st, s, re, ok⟩ => ok H I ι (Ext.refl _ _) s [] .nil
theorem sa_cons {f : Ex} {g : Ax} (ha : SE X C e f) (hr : SA X C es g) (hs : starEach (e :: es) X.env = (false, eval e X.env) :: starEach es X.env := by rfl) : SA X C (e :: es) (xCons f g) :=
  pa_imp (pa_cons ha hr hs) fun σ H Q ⟨I, ι, env, st, s, re, ok⟩ =>
    ⟨I, ι, env, st, s, re, (OK.bind ok).mono fun a st1 H1 I1 ι1 x1 s1 ok1 v rv => ⟨I1, ι1, env, st1, s1, re.ext x1, (OK.bind ok1).mono fun as st2 H2 I2 ι2 x2 s2 ok2 vs rvs => ok2 H2 I2 ι2 (Ext.refl _ _) s2 _ (.cons (rv.ext x2) rvs)⟩⟩
def disp (mk : List PyData → PyData) (as : List EV) (st : Store) : Out EV := match frzAll as st with
  | some (ds, st') => if ds.length ≤ 1000 then .ok (.d (mk ds)) st' else .stuck
  | none => .stuck
def xTup (f : Ax) : Ex := fun env st => (f env st).bind fun as st => disp .tuple as st
def xLst (f : Ax) : Ex := fun env st => (f env st).bind fun as st => disp .list as st
/-- a display that makes an own list -/
def xLstR (f : Ax) : Ex := fun env st => (f env st).bind fun as st => match frzAll as st with
  | some (ds, st') => if ds.length ≤ 1000 then .ok (.ref st'.length) (st' ++ [some ds]) else .stuck
  | none => .stuck
theorem le_line {n : Nat} (h : n ≤ 1000) : n ≤ sizeLine := Nat.le_of_lt (small1000 h)
theorem se_tup {j : Nat} {f : Ax} (h : SA X C es f) : SE X C (.Tuple es j pos) (xTup f) := pe_imp (pe_tup h) fun σ H Q ⟨I, ι, env, st, s, re, ok⟩ =>
  ⟨I, ι, env, st, s, re, (OK.bind ok).mono fun as st1 H1 I1 ι1 x1 s1 ok1 vs rvs => by
    unfold disp at ok1
    split at ok1
    · next ds st2 e =>
      split at ok1
      · next hl =>
        obtain ⟨I2, x2, s2, q⟩ := frzAll_ok s1 rvs e
        refine ⟨by rw [dpAll_len q]; exact le_line hl, fun p hp => ?_⟩
        have s3 := s2.alloc hp (.tup vs)
        exact ok1 _ _ _ (x2.trans (s2.allocExt hp _)) s3 _ (.tup (.inl (.inl upd_same)) (dpAll_mono (Same_upd (s2.free hp)) _ _ q))
      · exact ok1.elim
    · exact ok1.elim⟩
theorem se_lst {f : Ax} (h : SA X C es f) : SE X C (.List es pos) (xLst f) := pe_imp (pe_lst h) fun σ H Q ⟨I, ι, env, st, s, re, ok⟩ =>
  ⟨I, ι, env, st, s, re, (OK.bind ok).mono fun as st1 H1 I1 ι1 x1 s1 ok1 vs rvs => by
    unfold disp at ok1
    split at ok1
    · next ds st2 e =>
      split at ok1
      · next hl =>
        obtain ⟨I2, x2, s2, q⟩ := frzAll_ok s1 rvs e
        refine ⟨by rw [dpAll_len q]; exact le_line hl, fun p hp => ?_⟩
        have s3 := s2.alloc hp (.lst vs)
        exact ok1 _ _ _ (x2.trans (s2.allocExt hp _)) s3 _ (.lst (.inl (.inl upd_same)) (dpAll_mono (Same_upd (s2.free hp)) _ _ q))
      · exact ok1.elim
    · exact ok1.elim⟩
theorem rv_last {K : PySem.W.Frag} {mg : Mx} {I : Hp} {ι : List Addr} {p : Addr} {n : Nat} (h : ι.length = n) : RV K mg I (ι ++ [p]) (.ref n) (.ref p) :=
  ⟨p, by rw [← h, List.getElem?_append_right (Nat.le_refl _), Nat.sub_self]; rfl, rfl⟩
theorem se_lstR {f : Ax} (h : SA X C es f) : SE X C (.List es pos) (xLstR f) := pe_imp (pe_lst h) fun σ H Q ⟨I, ι, env, st, s, re, ok⟩ =>
  ⟨I, ι, env, st, s, re, (OK.bind ok).mono fun as st1 H1 I1 ι1 x1 s1 ok1 vs rvs => by
    split at ok1
    · next ds st2 e =>
      split at ok1
      · next hl =>
        obtain ⟨I2, x2, s2, q⟩ := frzAll_ok s1 rvs e
        refine ⟨by rw [dpAll_len q]; exact le_line hl, fun p hp => ?_⟩
        exact ok1 _ _ _ (x2.trans (push_ext _ _ p)) (s2.push hp q) _ (rv_last s2.len)
      · exact ok1.elim
    · exact ok1.elim⟩

/-! ### operators -/
/-- the library's rule r is met wherever g tells an outcome -/
def Op2 (X : Cx) (C : Cfg) (r : R2) (g : EV → EV → Store → Out EV) : Prop :=
  ∀ {EX : XK} {H I : Hp} {ι : List Addr} {st : Store} {x y : EV} {v u : V} {Q : VK}, S3 X.K C.T H I ι st → RV X.K (mk X C) I ι x v → RV X.K (mk X C) I ι y u →
    OK X.K (mk X C) C.T EX I ι (g x y st) (fun a _ H' I' ι' => ∀ w, RV X.K (mk X C) I' ι' a w → Q w H') → r v u H Q
def xOp (g : EV → EV → Store → Out EV) (f h : Ex) : Ex := fun env st => (f env st).bind fun x st => (h env st).bind fun y st => g x y st
theorem top_ok {r : R2} {k : EV → EV → Store → Out EV} (hk : Op2 X C r k) {ta tb : TE} {σ : L2.St} {H : Hp} {Q : VK} (h : rE X.K (mk X C) C (xOp k f g) σ H Q) : tOp r (rE X.K (mk X C) C f) (rE X.K (mk X C) C g) σ H Q := by
  obtain ⟨I, ι, env, st, s, re, ok⟩ := h
  exact ⟨I, ι, env, st, s, re, (OK.bind ok).mono fun x st1 H1 I1 ι1 x1 s1 ok1 v rv => ⟨I1, ι1, env, st1, s1, re.ext x1, (OK.bind ok1).mono fun y st2 H2 I2 ι2 x2 s2 ok2 u ru => hk s2 (rv.ext x2) ru ok2⟩⟩
theorem se_op {op : Operator} {r : R2} {k : EV → EV → Store → Out EV} (ho : OpR X (binaryOp op) r) (hk : Op2 X C r k) (ha : SE X C a f) (hb : SE X C b g) : SE X C (.BinOp a op b pos) (xOp k f g) :=
  pe_imp (pe_op ho ha hb) fun σ H Q h => top_ok hk (ta := fun _ _ _ => True) (tb := fun _ _ _ => True) h
theorem se_cmp {op : CmpOp} {r : R2} {k : EV → EV → Store → Out EV} (ho : OpR X (compareOp op) r) (hk : Op2 X C r k) (ha : SE X C a f) (hb : SE X C b g) (hm : behindInMarks op b = false := by first | exact nobehind _ (by decide) (by decide) | rfl) :
    SE X C (.Compare a [op] [b] pos) (xOp k f g) :=
  pe_imp (pe_cmpR ho ha hb hm) fun σ H Q h => top_ok hk (ta := fun _ _ _ => True) (tb := fun _ _ _ => True) h
/-- a op b op' c -/
def xChain (k k' : EV → EV → Store → Out EV) (f g h : Ex) : Ex := fun env st => (f env st).bind fun x st => (g env st).bind fun y st => (k x y st).bind fun z st => match z with
  | .d (.bool true) => (h env st).bind fun w st => k' y w st
  | .d (.bool false) => .ok (.d (.bool false)) st
  | _ => .stuck
theorem se_chain {op op' : CmpOp} {r r' : R2} {k k' : EV → EV → Store → Out EV} (ho : OpR X (compareOp op) r) (hk : Op2 X C r k) (ho' : OpR X (compareOp op') r') (hk' : Op2 X C r' k') (ha : SE X C a f) (hb : SE X C b g) (hc : SE X C c h)
    (hm : lastMarks [op, op'] [b, c] = false := by with_unfolding_all rfl) : SE X C (.Compare a [op, op'] [b, c] pos) (xChain k k' f g h) :=
  pe_imp (pe_chain ho ho' ha hb hc hm) fun σ H Q ⟨I, ι, env, st, s, re, ok⟩ =>
    ⟨I, ι, env, st, s, re, (OK.bind ok).mono fun x st1 H1 I1 ι1 x1 s1 ok1 v rv => ⟨I1, ι1, env, st1, s1, re.ext x1, (OK.bind ok1).mono fun y st2 H2 I2 ι2 x2 s2 ok2 u ru => by
      refine hk s2 (rv.ext x2) ru ((OK.bind ok2).mono fun z st3 H3 I3 ι3 x3 s3 ok3 w rw' => ?_)
      split at ok3
      · next => exact ⟨true, dp_bool rw', by
          rw [if_pos rfl]
          exact ⟨I3, ι3, env, st3, s3, re.ext (x1.trans (x2.trans x3)), (OK.bind ok3).mono fun w2 st4 H4 I4 ι4 x4 s4 ok4 t rt => hk' s4 (ru.ext (x3.trans x4)) rt ok4⟩⟩
      · next => exact ⟨false, dp_bool rw', by
          rw [if_neg Bool.false_ne_true]
          exact ok3 _ _ _ (Ext.refl _ _) s3 _ (.bl false)⟩
      · exact ok3.elim⟩⟩

def iOp (c : Int → Int → Bool) (g : Int → Int → PyData) : EV → EV → Store → Out EV := fun x y st => match x, y with
  | .d (.int i), .d (.int j) => if c i j = true then .ok (.d (g i j)) st else .stuck
  | _, _ => .stuck
theorem iOp_case {c : Int → Int → Bool} {g : Int → Int → PyData} {x y : EV} {st : Store} {K : PySem.W.Frag} {mg : Mx} {T : List (Addr × Str)} {EX : XK} {I : Hp} {ι : List Addr} {G : EV → Store → Hp → Hp → List Addr → Prop}
    (h : OK K mg T EX I ι (iOp c g x y st) G) : ∃ i j, x = .d (.int i) ∧ y = .d (.int j) ∧ c i j = true ∧ OK K mg T EX I ι (.ok (.d (g i j)) st) G := by
  unfold iOp at h
  split at h
  · next i j =>
    split at h
    · next hc => exact ⟨i, j, rfl, rfl, hc, h⟩
    · exact h.elim
  · exact h.elim
theorem op2_i {c : Int → Int → Bool} {Cd : Int → Int → Prop} {g : Int → Int → PyData} {gv : Int → Int → V} (hc : ∀ i j, c i j = true → Cd i j) (hg : ∀ K I i j, Dp K I (gv i j) (g i j)) : Op2 X C (rI Cd gv) (iOp c g) := by
  intro EX H I ι st x y v u Q s rx ry ok
  obtain ⟨i, j, rfl, rfl, q, ok⟩ := iOp_case ok
  exact ⟨i, j, dp_int rx, dp_int ry, hc i j q, ok H I ι (Ext.refl _ _) s _ (hg _ _ i j)⟩
theorem op2_i0 {g : Int → Int → PyData} {gv : Int → Int → V} (hg : ∀ K I i j, Dp K I (gv i j) (g i j)) : Op2 X C (rI0 gv) (iOp (fun _ _ => true) g) := by
  intro EX H I ι st x y v u Q s rx ry ok
  obtain ⟨i, j, rfl, rfl, q, ok⟩ := iOp_case ok
  exact ⟨i, j, dp_int rx, dp_int ry, ok H I ι (Ext.refl _ _) s _ (hg _ _ i j)⟩

def oSub := iOp (fun _ _ => true) fun i j => .int (i - j)
def oMul := iOp (fun i j => decide (-(2 ^ 64) < i ∧ i < 2 ^ 64) || decide (-(2 ^ 64) < j ∧ j < 2 ^ 64)) fun i j => .int (i * j)
def oDiv := iOp (fun _ j => decide (0 < j ∧ j < 1073741824)) fun i j => .int (i / j)
def oMod := iOp (fun _ j => decide (0 < j)) fun i j => .int (i % j)
def oPow := iOp (fun i j => decide (0 ≤ j ∧ j ≤ 1000000 ∧ i.natAbs < 2 ^ 64)) fun i j => .int (i ^ j.toNat)
def oShl := iOp (fun i j => decide (0 ≤ j ∧ j ≤ 1000000 ∧ i.natAbs < 2 ^ 64)) fun i j => .int (i * 2 ^ j.toNat)
def oShr := iOp (fun _ j => decide (0 ≤ j)) fun i j => .int (i / 2 ^ j.toNat)
def oAnd := iOp (fun _ _ => true) fun i j => .int (Builtin.bitAnd i j)
def oOr := iOp (fun _ _ => true) fun i j => .int (Builtin.bitOr i j)
def oLt := iOp (fun _ _ => true) fun i j => .bool (decide (i < j))
def oLe := iOp (fun _ _ => true) fun i j => .bool (decide (i ≤ j))
def oGt := iOp (fun _ _ => true) fun i j => .bool (decide (j < i))
def oGe := iOp (fun _ _ => true) fun i j => .bool (decide (j ≤ i))
theorem se_sub (ha : SE X C a f) (hb : SE X C b g) : SE X C (.BinOp a .Sub b pos) (xOp oSub f g) := se_op op_sub (op2_i0 fun _ _ _ _ => .int _) ha hb
theorem se_mul (ha : SE X C a f) (hb : SE X C b g) : SE X C (.BinOp a .Mult b pos) (xOp oMul f g) := se_op op_mul (op2_i (fun i j h => by
  rcases Bool.or_eq_true_iff.mp h with h | h
  · exact .inl (of_decide_eq_true h)
  · exact .inr (of_decide_eq_true h)) fun _ _ _ _ => .int _) ha hb
theorem se_div (ha : SE X C a f) (hb : SE X C b g) : SE X C (.BinOp a .FloorDiv b pos) (xOp oDiv f g) := se_op op_fdiv (op2_i (fun i j h => of_decide_eq_true h) fun _ _ _ _ => .int _) ha hb
theorem se_mod (ha : SE X C a f) (hb : SE X C b g) : SE X C (.BinOp a .Mod b pos) (xOp oMod f g) := se_op op_mod (op2_i (fun i j h => of_decide_eq_true h) fun _ _ _ _ => .int _) ha hb
theorem se_pow (ha : SE X C a f) (hb : SE X C b g) : SE X C (.BinOp a .Pow b pos) (xOp oPow f g) := se_op op_pow (op2_i (fun i j h => of_decide_eq_true h) fun _ _ _ _ => .int _) ha hb
theorem se_shl (ha : SE X C a f) (hb : SE X C b g) : SE X C (.BinOp a .LShift b pos) (xOp oShl f g) := se_op op_shl (op2_i (fun i j h => of_decide_eq_true h) fun _ _ _ _ => .int _) ha hb
theorem se_shr (ha : SE X C a f) (hb : SE X C b g) : SE X C (.BinOp a .RShift b pos) (xOp oShr f g) := se_op op_shr (op2_i (fun i j h => of_decide_eq_true h) fun _ _ _ _ => .int _) ha hb
theorem se_band (ha : SE X C a f) (hb : SE X C b g) : SE X C (.BinOp a .BitAnd b pos) (xOp oAnd f g) := se_op op_and (op2_i0 fun _ _ _ _ => .int _) ha hb
theorem se_bor (ha : SE X C a f) (hb : SE X C b g) : SE X C (.BinOp a .BitOr b pos) (xOp oOr f g) := se_op op_or (op2_i0 fun _ _ _ _ => .int _) ha hb
theorem cm_lt : Op2 X C (rI0 fun i j => .bl (decide (i < j))) oLt := op2_i0 fun _ _ _ _ => .bl _
theorem cm_le : Op2 X C (rI0 fun i j => .bl (decide (i ≤ j))) oLe := op2_i0 fun _ _ _ _ => .bl _
theorem cm_gt : Op2 X C (rI0 fun i j => .bl (decide (j < i))) oGt := op2_i0 fun _ _ _ _ => .bl _
theorem cm_ge : Op2 X C (rI0 fun i j => .bl (decide (j ≤ i))) oGe := op2_i0 fun _ _ _ _ => .bl _

/-- + of ints, of tuples, of texts -/
def oAdd : EV → EV → Store → Out EV := fun x y st => match x, y with
  | .d (.int i), .d (.int j) => .ok (.d (.int (i + j))) st
  | .d (.tuple xs), .d (.tuple ys) => if xs.length + ys.length ≤ sizeLine then .ok (.d (.tuple (xs ++ ys))) st else .stuck
  | .d (.str i), .d (.str j) => if i.length + j.length ≤ sizeLine then .ok (.d (.str (i ++ j))) st else .stuck
  | _, _ => .stuck
theorem nil_iff {K : PySem.W.Frag} {I : Hp} {vs : List V} {ds : List PyData} (q : DpAll K I vs ds) : vs = [] ↔ ds = [] := by
  rw [← List.length_eq_zero_iff, ← List.length_eq_zero_iff, dpAll_len q]
theorem op2_add : Op2 X C (fun x y H Q => rI0 (fun i j => .int (i + j)) x y H Q ∨ (rCatA X.K x y H Q ∨ (∃ i j, x = .str i ∧ y = .str j ∧ i.length + j.length ≤ sizeLine ∧ Q (.str (i ++ j)) H))) oAdd := by
  intro EX H I ι st x y v u Q s rx ry ok
  unfold oAdd at ok
  split at ok
  · next i j => exact .inl ⟨i, j, dp_int rx, dp_int ry, ok H I ι (Ext.refl _ _) s _ (.int _)⟩
  · next xs ys =>
    split at ok
    · next hl =>
      obtain ⟨p, vs, rfl, h1, h2⟩ := dp_tup rx
      obtain ⟨q, us, rfl, h3, h4⟩ := dp_tup ry
      refine .inr (.inl ⟨p, q, vs, us, rfl, rfl, sqT_mono s.im h1, sqT_mono s.im h3, by rw [dpAll_len h2, dpAll_len h4]; exact hl, fun e => ?_, fun _ e => ?_, fun _ _ r hr => ?_⟩)
      · have e2 := (nil_iff h2).mp e
        subst e2
        exact ok H I ι (Ext.refl _ _) s _ ry
      · have e2 := (nil_iff h4).mp e
        subst e2
        rw [List.append_nil] at ok
        exact ok H I ι (Ext.refl _ _) s _ rx
      · exact ok _ _ _ (s.allocExt hr _) (s.alloc hr (.tup (vs ++ us))) _ (.tup (.inl (.inl upd_same)) (dpAll_mono (Same_upd (s.free hr)) _ _ (dpAll_append h2 h4)))
    · exact ok.elim
  · next i j =>
    split at ok
    · next hl => exact .inr (.inr ⟨i, j, dp_str rx, dp_str ry, hl, ok H I ι (Ext.refl _ _) s _ (.str _)⟩)
    · exact ok.elim
  · exact ok.elim
theorem se_add (ha : SE X C a f) (hb : SE X C b g) : SE X C (.BinOp a .Add b pos) (xOp oAdd f g) := se_op (op_add.or (op_catA.or op_add_str)) op2_add ha hb

/-- == and != of data -/
def oEq : EV → EV → Store → Out EV := fun x y st => match view st x, view st y with
  | some d, some e => if SeqAt.shaped d && SeqAt.shaped e then .ok (.d (.bool (PyData.eqv d e))) st else .stuck
  | _, _ => .stuck
def oNe : EV → EV → Store → Out EV := fun x y st => match view st x, view st y with
  | some d, some e => if SeqAt.shaped d && SeqAt.shaped e then .ok (.d (.bool (!PyData.eqv d e))) st else .stuck
  | _, _ => .stuck
theorem cm_eq : Op2 X C (rEqD X.K) oEq := by
  intro EX H I ι st x y v u Q s rx ry ok
  unfold oEq at ok
  split at ok
  · next d e h1 h2 =>
    split at ok
    · next hs =>
      obtain ⟨a1, a2⟩ := Bool.and_eq_true_iff.mp hs
      exact ⟨d, e, view_dp s rx h1, view_dp s ry h2, a1, a2, ok H I ι (Ext.refl _ _) s _ (.bl _)⟩
    · exact ok.elim
  · exact ok.elim
theorem cm_ne : Op2 X C (rNeD X.K) oNe := by
  intro EX H I ι st x y v u Q s rx ry ok
  unfold oNe at ok
  split at ok
  · next d e h1 h2 =>
    split at ok
    · next hs =>
      obtain ⟨a1, a2⟩ := Bool.and_eq_true_iff.mp hs
      exact ⟨d, e, view_dp s rx h1, view_dp s ry h2, a1, a2, ok H I ι (Ext.refl _ _) s _ (.bl _)⟩
    · exact ok.elim
  · exact ok.elim
/-- in, not in: a list, a tuple -/
def rInT (K : PySem.W.Frag) (n : Bool) : R2 := fun x y H Q => ∃ d ds, Dp K H x d ∧ Dp K H y (.tuple ds) ∧ SeqAt.shaped d = true ∧ SeqAt.shaped (.tuple ds) = true ∧ Q (.bl (n != ds.any fun z => PyData.eqv z d)) H
theorem op_inT (hu : X.A.units + 65 < cLine) : OpR X (compareOp .In) (rInT X.K false) := fun pins s σ H x y v u Q I rx ry h => by
  obtain ⟨d, ds, hd, he, sd, se, q⟩ := h
  obtain ⟨_, r1⟩ := Dp.reads I d x v hd rx
  obtain ⟨_, r2⟩ := Dp.reads I (.tuple ds) y u he ry
  refine SeqAt.in_tuple_reads r2 r1 (SeqAt.canLay_of_shaped se) (SeqAt.canLay_of_shaped sd) (room_in_shaped sd hu) ⟨.bl _, H, I, rfl, ?_⟩
  simpa using q
theorem op_niT (hu : X.A.units + 65 < cLine) : OpR X (compareOp .NotIn) (rInT X.K true) := fun pins s σ H x y v u Q I rx ry h => by
  obtain ⟨d, ds, hd, he, sd, se, q⟩ := h
  obtain ⟨_, r1⟩ := Dp.reads I d x v hd rx
  obtain ⟨_, r2⟩ := Dp.reads I (.tuple ds) y u he ry
  refine SeqAt.notIn_tuple_reads r2 r1 (SeqAt.canLay_of_shaped se) (SeqAt.canLay_of_shaped sd) (room_in_shaped sd hu) ⟨.bl _, H, I, rfl, ?_⟩
  simpa using q
def oIn (n : Bool) : EV → EV → Store → Out EV := fun x y st => match view st x, view st y with
  | some d, some (.list ds) => if SeqAt.shaped d && SeqAt.shaped (.list ds) then .ok (.d (.bool (n != ds.any fun z => PyData.eqv z d))) st else .stuck
  | some d, some (.tuple ds) => if SeqAt.shaped d && SeqAt.shaped (.tuple ds) then .ok (.d (.bool (n != ds.any fun z => PyData.eqv z d))) st else .stuck
  | _, _ => .stuck
theorem cm_in : Op2 X C (fun x y H Q => rInD X.K x y H Q ∨ rInT X.K false x y H Q) (oIn false) := by
  intro EX H I ι st x y v u Q s rx ry ok
  unfold oIn at ok
  split at ok
  · next d ds h1 h2 =>
    split at ok
    · next hs =>
      obtain ⟨a1, a2⟩ := Bool.and_eq_true_iff.mp hs
      exact .inl ⟨d, ds, view_dp s rx h1, view_dp s ry h2, a1, a2, by simpa using ok H I ι (Ext.refl _ _) s _ (.bl _)⟩
    · exact ok.elim
  · next d ds h1 h2 =>
    split at ok
    · next hs =>
      obtain ⟨a1, a2⟩ := Bool.and_eq_true_iff.mp hs
      exact .inr ⟨d, ds, view_dp s rx h1, view_dp s ry h2, a1, a2, ok H I ι (Ext.refl _ _) s _ (.bl _)⟩
    · exact ok.elim
  · exact ok.elim
theorem cm_ni : Op2 X C (fun x y H Q => rNotInD X.K x y H Q ∨ rInT X.K true x y H Q) (oIn true) := by
  intro EX H I ι st x y v u Q s rx ry ok
  unfold oIn at ok
  split at ok
  · next d ds h1 h2 =>
    split at ok
    · next hs =>
      obtain ⟨a1, a2⟩ := Bool.and_eq_true_iff.mp hs
      exact .inl ⟨d, ds, view_dp s rx h1, view_dp s ry h2, a1, a2, by simpa using ok H I ι (Ext.refl _ _) s _ (.bl _)⟩
    · exact ok.elim
  · next d ds h1 h2 =>
    split at ok
    · next hs =>
      obtain ⟨a1, a2⟩ := Bool.and_eq_true_iff.mp hs
      exact .inr ⟨d, ds, view_dp s rx h1, view_dp s ry h2, a1, a2, ok H I ι (Ext.refl _ _) s _ (.bl _)⟩
    · exact ok.elim
  · exact ok.elim
/-- is None -/
def isNon : EV → Bool
  | .d .none => true
  | _ => false
def oIs (n : Bool) : EV → EV → Store → Out EV := fun x y st => match y with
  | .d .none => .ok (.d (.bool (n != isNon x))) st
  | _ => .stuck
theorem isNon_iff {K : PySem.W.Frag} {mg : Mx} {I : Hp} {ι : List Addr} {x : EV} {v : V} (r : RV K mg I ι x v) : decide (v = .non) = isNon x := by
  cases x with
  | d x =>
    cases x with
    | none => rw [dp_none r]; rfl
    | bool _ => rw [dp_bool r]; rfl
    | int _ => rw [dp_int r]; rfl
    | str _ => rw [dp_str r]; rfl
    | list _ => obtain ⟨a, _, e, _⟩ := dp_list r; rw [e]; rfl
    | tuple _ => obtain ⟨a, _, e, _⟩ := dp_tup r; rw [e]; rfl
    | dict _ => cases (show Dp K I v (.dict _) from r)
  | ref n => obtain ⟨a, _, e⟩ := r; rw [e]; rfl
  | fz _ => obtain ⟨a, _, _, e, _⟩ := r; rw [e]; rfl
  | exc _ _ => obtain ⟨e, _⟩ := r; rw [e]; rfl
  | clo => obtain ⟨e, _⟩ := r; rw [e]; rfl
theorem cm_is : Op2 X C (fun x y H Q => y = .non ∧ Q (.bl (decide (x = .non))) H) (oIs false) := by
  intro EX H I ι st x y v u Q s rx ry ok
  unfold oIs at ok
  split at ok
  · next =>
    refine ⟨dp_none ry, ?_⟩
    rw [isNon_iff rx]
    simpa using ok H I ι (Ext.refl _ _) s _ (.bl _)
  · exact ok.elim
theorem cm_isnt : Op2 X C (fun x y H Q => y = .non ∧ Q (.bl (!decide (x = .non))) H) (oIs true) := by
  intro EX H I ι st x y v u Q s rx ry ok
  unfold oIs at ok
  split at ok
  · next =>
    refine ⟨dp_none ry, ?_⟩
    rw [isNon_iff rx]
    simpa using ok H I ι (Ext.refl _ _) s _ (.bl _)
  · exact ok.elim
end
end Nz

end
section
set_option Elab.async false
set_option linter.all false
set_option maxRecDepth 100000
set_option maxHeartbeats 1000000
namespace Nz
open PySem PySem.Spec PyProof.Rows L2
open LamX (Tabs TabS CodeO)
section
variable {X : Cx} {C : Cfg} {e a b c : Expr} {es : List Expr} {f g h : Ex} {pos : Pos}

/-! ### tests -/
def xB (f : Ex) : Tx := fun env st => (f env st).bind fun x st => match x with
  | .d (.bool b) => .ok b st
  | _ => .stuck
theorem st_val (h : SE X C e f) (he : ∀ whole, isTrue e X.env whole = (do let v ← whole; standAt e.pos; holding [v] (truthy v)) := by intro _; rfl) : ST X C e (xB f) :=
  pt_imp (pt_val h he) fun σ H Q ⟨I, ι, env, st, s, re, ok⟩ => ⟨I, ι, env, st, s, re, (OK.bind ok).mono fun x st1 H1 I1 ι1 x1 s1 ok1 v rv => by
    split at ok1
    · next b => exact ⟨b, dp_bool rv, ok1 _ _ _ (Ext.refl _ _) s1⟩
    · exact ok1.elim⟩
def tru : PyData → Option Bool
  | .none => some false
  | .bool b => some b
  | .int i => some (i != 0)
  | .list ds => some (!ds.isEmpty)
  | .tuple ds => some (!ds.isEmpty)
  | _ => none
def xTru (f : Ex) : Tx := fun env st => (f env st).bind fun x st => match (view st x).bind tru with
  | some b => .ok b st
  | none => .stuck
theorem isEmpty_dp {K : PySem.W.Frag} {I : Hp} {vs : List V} {ds : List PyData} (q : DpAll K I vs ds) : vs.isEmpty = ds.isEmpty := by
  cases q <;> rfl
theorem st_tru (h : SE X C e f) (he : ∀ whole, isTrue e X.env whole = (do let v ← whole; standAt e.pos; holding [v] (truthy v)) := by intro _; rfl) : ST X C e (xTru f) :=
  pt_imp (pt_truth h he) fun σ H Q ⟨I, ι, env, st, s, re, ok⟩ => ⟨I, ι, env, st, s, re, (OK.bind ok).mono fun x st1 H1 I1 ι1 x1 s1 ok1 v rv => by
    split at ok1
    · next b hb =>
      refine ⟨b, ?_, ok1 _ _ _ (Ext.refl _ _) s1⟩
      obtain ⟨d, hd, ht⟩ := Option.bind_eq_some_iff.mp hb
      cases d with
      | none => rw [view_none rv hd]; cases ht; rfl
      | bool k => rw [view_bool rv hd]; cases ht; rfl
      | int i => rw [view_int rv hd]; cases ht; rfl
      | str z => cases ht
      | dict _ => cases ht
      | list ds =>
        obtain ⟨p, vs, rfl, h1, h2⟩ := view_list s1 rv hd
        cases ht
        exact .inl ⟨vs, h1, by rw [isEmpty_dp h2]⟩
      | tuple ds =>
        obtain ⟨p, vs, rfl, h1, h2⟩ := view_tup s1 rv hd
        cases ht
        exact .inr (.inl ⟨vs, h1, by rw [isEmpty_dp h2]⟩)
    · exact ok1.elim⟩
def tNt (f : Tx) : Tx := fun env st => (f env st).bind fun b st => .ok (!b) st
def tAn (f g : Tx) : Tx := fun env st => (f env st).bind fun b st => if b = true then g env st else .ok false st
def tOrr (f g : Tx) : Tx := fun env st => (f env st).bind fun b st => if b = true then .ok true st else g env st
variable {p q : Tx}
theorem st_not (h : ST X C a p) : ST X C (.UnaryOp .Not a pos) (tNt p) := pt_imp (pt_not h) fun σ H Q ⟨I, ι, env, st, s, re, ok⟩ => ⟨I, ι, env, st, s, re, (OK.bind ok).mono fun b st1 H1 I1 ι1 x1 s1 ok1 => ok1 _ _ _ (Ext.refl _ _) s1⟩
theorem sw_an1 (h : ST X C a p) : SW X C (.BoolOp .And [a] pos) p := pw_and1 h
theorem sw_or1 (h : ST X C a p) : SW X C (.BoolOp .Or [a] pos) p := pw_or1 h
theorem sw_an {rest : List Expr} (h : ST X C a p) (k : SW X C (.BoolOp .And (b :: rest) pos) q) : SW X C (.BoolOp .And (a :: b :: rest) pos) (tAn p q) :=
  pw_imp (pw_and h k) fun σ H Q ⟨I, ι, env, st, s, re, ok⟩ => ⟨I, ι, env, st, s, re, (OK.bind ok).mono fun b st1 H1 I1 ι1 x1 s1 ok1 => by
    cases b with
    | true => exact ⟨I1, ι1, env, st1, s1, re.ext x1, ok1⟩
    | false => exact ok1 _ _ _ (Ext.refl _ _) s1⟩
theorem sw_or {rest : List Expr} (h : ST X C a p) (k : SW X C (.BoolOp .Or (b :: rest) pos) q) : SW X C (.BoolOp .Or (a :: b :: rest) pos) (tOrr p q) :=
  pw_imp (pw_or h k) fun σ H Q ⟨I, ι, env, st, s, re, ok⟩ => ⟨I, ι, env, st, s, re, (OK.bind ok).mono fun b st1 H1 I1 ι1 x1 s1 ok1 => by
    cases b with
    | true => exact ok1 _ _ _ (Ext.refl _ _) s1
    | false => exact ⟨I1, ι1, env, st1, s1, re.ext x1, ok1⟩⟩
theorem st_w (h : SW X C e p) : ST X C e p := PW.pt h
/-! the same as values: bools alone -/
def xNt (f : Ex) : Ex := fun env st => (f env st).bind fun x st => match x with
  | .d (.bool b) => .ok (.d (.bool (!b))) st
  | _ => .stuck
def xAn (f g : Ex) : Ex := fun env st => (f env st).bind fun x st => match x with
  | .d (.bool true) => g env st
  | .d (.bool false) => .ok (.d (.bool false)) st
  | _ => .stuck
def xOr (f g : Ex) : Ex := fun env st => (f env st).bind fun x st => match x with
  | .d (.bool true) => .ok (.d (.bool true)) st
  | .d (.bool false) => g env st
  | _ => .stuck
theorem se_not (h : SE X C a f) : SE X C (.UnaryOp .Not a pos) (xNt f) := pe_imp (pe_not h) fun σ H Q ⟨I, ι, env, st, s, re, ok⟩ => ⟨I, ι, env, st, s, re, (OK.bind ok).mono fun x st1 H1 I1 ι1 x1 s1 ok1 v rv => by
  split at ok1
  · next b => exact ⟨b, dp_bool rv, ok1 _ _ _ (Ext.refl _ _) s1 _ (.bl _)⟩
  · exact ok1.elim⟩
/-- not of a value by its truth -/
def xNtT (f : Ex) : Ex := fun env st => (f env st).bind fun x st => match (view st x).bind tru with
  | some b => .ok (.d (.bool (!b))) st
  | none => .stuck
theorem se_one {op : BoolOp} (h : SE X C a f) : SE X C (.BoolOp op [a] pos) f := pe_one h
theorem se_an {rest : List Expr} (h : SE X C a f) (k : SE X C (.BoolOp .And (b :: rest) pos) g) : SE X C (.BoolOp .And (a :: b :: rest) pos) (xAn f g) :=
  pe_imp (pe_and h k) fun σ H Q ⟨I, ι, env, st, s, re, ok⟩ => ⟨I, ι, env, st, s, re, (OK.bind ok).mono fun x st1 H1 I1 ι1 x1 s1 ok1 v rv => by
    split at ok1
    · next => exact ⟨true, dp_bool rv, ⟨I1, ι1, env, st1, s1, re.ext x1, ok1⟩⟩
    · next => exact ⟨false, dp_bool rv, ok1 _ _ _ (Ext.refl _ _) s1 _ (.bl _)⟩
    · exact ok1.elim⟩
theorem se_or {rest : List Expr} (h : SE X C a f) (k : SE X C (.BoolOp .Or (b :: rest) pos) g) : SE X C (.BoolOp .Or (a :: b :: rest) pos) (xOr f g) :=
  pe_imp (pe_or h k) fun σ H Q ⟨I, ι, env, st, s, re, ok⟩ => ⟨I, ι, env, st, s, re, (OK.bind ok).mono fun x st1 H1 I1 ι1 x1 s1 ok1 v rv => by
    split at ok1
    · next => exact ⟨true, dp_bool rv, ok1 _ _ _ (Ext.refl _ _) s1 _ (.bl _)⟩
    · next => exact ⟨false, dp_bool rv, ⟨I1, ι1, env, st1, s1, re.ext x1, ok1⟩⟩
    · exact ok1.elim⟩
def xIf (p : Tx) (f g : Ex) : Ex := fun env st => (p env st).bind fun b st => if b = true then f env st else g env st
theorem se_if {t : Expr} (hc : ST X C t p) (ha : SE X C a f) (hb : SE X C b g) : SE X C (.IfExp t a b pos) (xIf p f g) :=
  pe_imp (pe_ifExp hc ha hb) fun σ H Q ⟨I, ι, env, st, s, re, ok⟩ => ⟨I, ι, env, st, s, re, (OK.bind ok).mono fun b st1 H1 I1 ι1 x1 s1 ok1 => by
    cases b with
    | true => exact ⟨I1, ι1, env, st1, s1, re.ext x1, ok1⟩
    | false => exact ⟨I1, ι1, env, st1, s1, re.ext x1, ok1⟩⟩
/-- - x -/
def oNeg : EV → Store → Out EV := fun x st => match x with
  | .d (.int i) => .ok (.d (.int (-i))) st
  | _ => .stuck
def oInv : EV → Store → Out EV := fun x st => match x with
  | .d (.int i) => .ok (.d (.int (Builtin.bitNot i))) st
  | _ => .stuck
def xUn (k : EV → Store → Out EV) (f : Ex) : Ex := fun env st => (f env st).bind k
theorem se_neg (h : SE X C a f) : SE X C (.UnaryOp .USub a pos) (xUn oNeg f) := pe_imp (pe_un un_neg h) fun σ H Q ⟨I, ι, env, st, s, re, ok⟩ => ⟨I, ι, env, st, s, re, (OK.bind ok).mono fun x st1 H1 I1 ι1 x1 s1 ok1 v rv => by
  unfold oNeg at ok1
  split at ok1
  · next i => exact ⟨i, dp_int rv, ok1 _ _ _ (Ext.refl _ _) s1 _ (.int _)⟩
  · exact ok1.elim⟩
theorem se_inv (h : SE X C a f) : SE X C (.UnaryOp .Invert a pos) (xUn oInv f) := pe_imp (pe_un un_inv h) fun σ H Q ⟨I, ι, env, st, s, re, ok⟩ => ⟨I, ι, env, st, s, re, (OK.bind ok).mono fun x st1 H1 I1 ι1 x1 s1 ok1 v rv => by
  unfold oInv at ok1
  split at ok1
  · next i => exact ⟨i, dp_int rv, ok1 _ _ _ (Ext.refl _ _) s1 _ (.int _)⟩
  · exact ok1.elim⟩
/-- * and // of great ints -/
def oMulW := iOp (fun i j => decide (i.natAbs.log2 + j.natAbs.log2 < 1000000)) fun i j => .int (i * j)
def oDivW := iOp (fun _ j => decide (0 < j ∧ j.natAbs.log2 < 9000)) fun i j => .int (i / j)
theorem se_mulW (ha : SE X C a f) (hb : SE X C b g) : SE X C (.BinOp a .Mult b pos) (xOp oMulW f g) := se_op op_mulW (op2_i (fun i j h => of_decide_eq_true h) fun _ _ _ _ => .int _) ha hb
theorem se_divW (ha : SE X C a f) (hb : SE X C b g) : SE X C (.BinOp a .FloorDiv b pos) (xOp oDivW f g) := se_op op_fdivW (op2_i (fun i j h => of_decide_eq_true h) fun _ _ _ _ => .int _) ha hb

/-! ### items -/
theorem atI_dp {K : PySem.W.Frag} {I : Hp} {vs : List V} {ds : List PyData} {i : Int} {d : PyData} (q : DpAll K I vs ds) (h : atI ds i = some d) : ∃ v, atI vs i = some v ∧ Dp K I v d := by
  unfold atI at h ⊢
  obtain ⟨j, h1, h2⟩ := Option.bind_eq_some_iff.mp h
  obtain ⟨v, h3, h4⟩ := dpAll_get q h2
  exact ⟨v, by rw [dpAll_len q, h1]; exact h3, h4⟩
def oIx : EV → EV → Store → Out EV := fun x y st => match view st x, y with
  | some (.list ds), .d (.int i) => match atI ds i with
    | some d => .ok (.d d) st
    | none => .stuck
  | some (.tuple ds), .d (.int i) => match atI ds i with
    | some d => .ok (.d d) st
    | none => .stuck
  | _, _ => .stuck
theorem op2_ix : Op2 X C (rIx X.K) oIx := by
  intro EX H I ι st x y v u Q s rx ry ok
  unfold oIx at ok
  split at ok
  · next ds i h1 =>
    split at ok
    · next d hd =>
      obtain ⟨p, vs, rfl, g1, g2⟩ := view_list s rx h1
      obtain ⟨w, h3, h4⟩ := atI_dp g2 hd
      exact .inl ⟨p, vs, i, w, rfl, dp_int ry, g1, h3, ok _ _ _ (Ext.refl _ _) s _ h4⟩
    · exact ok.elim
  · next ds i h1 =>
    split at ok
    · next d hd =>
      obtain ⟨p, vs, rfl, g1, g2⟩ := view_tup s rx h1
      obtain ⟨w, h3, h4⟩ := atI_dp g2 hd
      exact .inr (.inl ⟨p, vs, i, w, rfl, dp_int ry, g1, h3, ok _ _ _ (Ext.refl _ _) s _ h4⟩)
    · exact ok.elim
  · exact ok.elim
theorem se_ix (ha : SE X C a f) (hb : SE X C b g) (hs : PlainIx b := by exact fun _ _ => rfl) : SE X C (.Subscript a b pos) (xOp oIx f g) :=
  pe_imp (pe_ix ix_seq ha hb hs) fun σ H Q h => top_ok op2_ix (ta := fun _ _ _ => True) (tb := fun _ _ _ => True) h

/-! ### slices -/
abbrev Px := Env' → Store → Out (Option Int)
def rO (K : PySem.W.Frag) (mg : Mx) (C : Cfg) (f : Px) : TO := fun σ H Q => ∃ I ι env st, S3 K C.T H I ι st ∧ RE K mg I ι env σ ∧ OK K mg C.T (C.EX σ) I ι (f env st) fun o _ H' _ _ => Q o H'
def SO (X : Cx) (C : Cfg) (e : Option Expr) (f : Px) : Prop := PO X e (rO X.K (mk X C) C f)
theorem po_imp {X : Cx} {e : Option Expr} {t t' : TO} (h : PO X e t) (m : ∀ σ H Q, t' σ H Q → t σ H Q) : PO X e t' := ⟨fun pins s σ H Q I q => h.run pins s σ H Q I (m σ H Q q)⟩
def pNo : Px := fun _ st => .ok none st
def pAt (f : Ex) : Px := fun env st => (f env st).bind fun x st => match x with
  | .d (.int i) => .ok (some i) st
  | _ => .stuck
theorem so_no : SO X C none pNo := po_imp po_none fun σ H Q ⟨I, ι, env, st, s, re, ok⟩ => ok _ _ _ (Ext.refl _ _) s
theorem so_at (h : SE X C e f) : SO X C (some e) (pAt f) := po_imp (po_some h) fun σ H Q ⟨I, ι, env, st, s, re, ok⟩ => ⟨I, ι, env, st, s, re, (OK.bind ok).mono fun x st1 H1 I1 ι1 x1 s1 ok1 v rv => by
  split at ok1
  · next i => exact ⟨i, dp_int rv, ok1 _ _ _ (Ext.refl _ _) s1⟩
  · exact ok1.elim⟩
def cutD (ds : List PyData) (lo hi : Option Int) : List PyData := (ds.drop (HT.sIx ds.length 0 lo)).take (HT.sIx ds.length ds.length hi - HT.sIx ds.length 0 lo)
theorem cut_dp {K : PySem.W.Frag} {I : Hp} {vs : List V} {ds : List PyData} (q : DpAll K I vs ds) (lo hi : Option Int) : DpAll K I (cutV vs lo hi) (cutD ds lo hi) := by
  unfold cutV cutD
  rw [dpAll_len q]
  exact dpAll_take _ (dpAll_drop _ q)
def oSl : EV → Option Int → Option Int → Store → Out EV := fun x lo hi st => match view st x with
  | some (.tuple ds) => .ok (.d (.tuple (cutD ds lo hi))) st
  | some (.list ds) => .ok (.d (.list (cutD ds lo hi))) st
  | _ => .stuck
def xSl (f : Ex) (l u : Px) : Ex := fun env st => (f env st).bind fun x st => (l env st).bind fun lo st => (u env st).bind fun hi st => oSl x lo hi st
theorem whole_cut {ds : List PyData} {lo hi : Option Int} (h : HT.sIx ds.length 0 lo = 0 ∧ HT.sIx ds.length ds.length hi = ds.length) : cutD ds lo hi = ds := by
  unfold cutD
  rw [h.1, h.2, List.drop_zero, Nat.sub_zero, List.take_length]
theorem se_sl {l u : Px} {lo hi : Option Expr} {p2 : Pos} (ha : SE X C a f) (hl : SO X C lo l) (hu : SO X C hi u) : SE X C (.Subscript a (.Slice lo hi none p2) pos) (xSl f l u) :=
  pe_imp (pe_slice (sl_tupA.or sl_list) ha hl hu) fun σ H Q ⟨I, ι, env, st, s, re, ok⟩ =>
    ⟨I, ι, env, st, s, re, (OK.bind ok).mono fun x st1 H1 I1 ι1 x1 s1 ok1 v rv => ⟨I1, ι1, env, st1, s1, re.ext x1, (OK.bind ok1).mono fun lo st2 H2 I2 ι2 x2 s2 ok2 =>
      ⟨I2, ι2, env, st2, s2, re.ext (x1.trans x2), (OK.bind ok2).mono fun hi st3 H3 I3 ι3 x3 s3 ok3 => by
        have rv3 := rv.ext (x2.trans x3)
        unfold oSl at ok3
        split at ok3
        · next ds h1 =>
          obtain ⟨p, vs, rfl, g1, g2⟩ := view_tup s3 rv3 h1
          refine .inl ⟨p, vs, rfl, g1, fun hw => ?_, fun _ r hr => ?_⟩
          · rw [dpAll_len g2] at hw
            rw [whole_cut hw] at ok3
            exact ok3 _ _ _ (Ext.refl _ _) s3 _ (rv_tup rv3 h1)
          · exact ok3 _ _ _ (s3.allocExt hr _) (s3.alloc hr (.tup (cutV vs lo hi))) _ (.tup (.inl (.inl upd_same)) (dpAll_mono (Same_upd (s3.free hr)) _ _ (cut_dp g2 lo hi)))
        · next ds h1 =>
          obtain ⟨p, vs, rfl, g1, g2⟩ := view_list s3 rv3 h1
          refine .inr ⟨p, vs, rfl, g1, fun r hr => ?_⟩
          exact ok3 _ _ _ (s3.allocExt hr _) (s3.alloc hr (.lst (cutV vs lo hi))) _ (.lst (.inl (.inl upd_same)) (dpAll_mono (Same_upd (s3.free hr)) _ _ (cut_dp g2 lo hi)))
        · exact ok3.elim⟩⟩⟩

/-! ### calls of built-in functions -/
def OpN (X : Cx) (C : Cfg) (r : List V → Hp → VK → Prop) (k : List EV → Store → Out EV) : Prop :=
  ∀ {EX : XK} {H I : Hp} {ι : List Addr} {st : Store} {xs : List EV} {vs : List V} {Q : VK}, S3 X.K C.T H I ι st → RVs X.K (mk X C) I ι xs vs →
    OK X.K (mk X C) C.T EX I ι (k xs st) (fun a _ H' I' ι' => ∀ w, RV X.K (mk X C) I' ι' a w → Q w H') → r vs H Q
def xFn (k : List EV → Store → Out EV) (f : Ax) : Ex := fun env st => (f env st).bind k
variable {r : List V → Hp → VK → Prop} {k : List EV → Store → Out EV} {x : Str} {id ty : String} {p0 : Pos} {fa : Ax}
theorem se_fn (hc : CallR X (.builtin id) r) (hk : OpN X C r k) (hg : Gl X x) (hm : X.mg x = none) (hv : bootBuiltins x = some (.builtin id)) (ha : SA X C (e :: es) fa) (hn : x ≠ "__name__" := by decide) (hdb : (x == ("__debug__" : Str)) = false := by decide)
    (he : starEach (e :: es) X.env = (false, eval e X.env) :: starEach es X.env := by rfl) (hpl : (backTo pos (starEach es X.env)).any (·.1) = false := by rfl) : SE X C (.Call (.Name x p0) (e :: es) [] pos) (xFn k fa) :=
  pe_imp (pe_callB hc hg hm hv ha hn hdb he hpl) fun σ H Q ⟨I, ι, env, st, s, re, ok⟩ => ⟨I, ι, env, st, s, re, (OK.bind ok).mono fun as st1 H1 I1 ι1 x1 s1 ok1 vs rvs => hk s1 rvs ok1⟩
theorem se_ty (hc : CallR X (.type ty) r) (hk : OpN X C r k) (hg : Gl X x) (hm : X.mg x = none) (hv : bootBuiltins x = some (.type ty)) (ha : SA X C (e :: es) fa) (hn : x ≠ "__name__" := by decide) (hdb : (x == ("__debug__" : Str)) = false := by decide)
    (he : starEach (e :: es) X.env = (false, eval e X.env) :: starEach es X.env := by rfl) (hpl : (backTo pos (starEach es X.env)).any (·.1) = false := by rfl) : SE X C (.Call (.Name x p0) (e :: es) [] pos) (xFn k fa) :=
  pe_imp (pe_callTy hc hg hm hv ha hn hdb he hpl) fun σ H Q ⟨I, ι, env, st, s, re, ok⟩ => ⟨I, ι, env, st, s, re, (OK.bind ok).mono fun as st1 H1 I1 ι1 x1 s1 ok1 vs rvs => hk s1 rvs ok1⟩
theorem rvs1 {K : PySem.W.Frag} {mg : Mx} {I : Hp} {ι : List Addr} {x : EV} {vs : List V} (h : RVs K mg I ι [x] vs) : ∃ v, vs = [v] ∧ RV K mg I ι x v := by
  cases h with
  | cons a b => cases b; exact ⟨_, rfl, a⟩
theorem rvs2 {K : PySem.W.Frag} {mg : Mx} {I : Hp} {ι : List Addr} {x y : EV} {vs : List V} (h : RVs K mg I ι [x, y] vs) : ∃ v u, vs = [v, u] ∧ RV K mg I ι x v ∧ RV K mg I ι y u := by
  cases h with
  | cons a b => obtain ⟨u, rfl, c⟩ := rvs1 b; exact ⟨_, _, rfl, a, c⟩
def kLen (xs : List EV) (st : Store) : Out EV := match xs with
  | [x] => match view st x with
    | some (.list ds) => .ok (.d (.int ds.length)) st
    | some (.tuple ds) => .ok (.d (.int ds.length)) st
    | some (.str z) => if z.length ≤ sizeLine then .ok (.d (.int z.length)) st else .stuck
    | _ => .stuck
  | _ => .stuck
theorem opN_len : OpN X C (fun xs H Q => (∃ p ys, xs = [.ref p] ∧ (SqL X.K H p ys ∨ SqT X.K H p ys) ∧ Q (.int ys.length) H) ∨ (∃ z, xs = [.str z] ∧ z.length ≤ sizeLine ∧ Q (.int z.length) H)) kLen := by
  intro EX H I ι st xs vs Q s rs ok
  unfold kLen at ok
  split at ok
  · next x =>
    obtain ⟨v, rfl, rv⟩ := rvs1 rs
    split at ok
    · next ds h1 =>
      obtain ⟨p, ws, rfl, g1, g2⟩ := view_list s rv h1
      exact .inl ⟨p, ws, rfl, .inl g1, by rw [dpAll_len g2]; exact ok _ _ _ (Ext.refl _ _) s _ (.int _)⟩
    · next ds h1 =>
      obtain ⟨p, ws, rfl, g1, g2⟩ := view_tup s rv h1
      exact .inl ⟨p, ws, rfl, .inr g1, by rw [dpAll_len g2]; exact ok _ _ _ (Ext.refl _ _) s _ (.int _)⟩
    · next z h1 =>
      split at ok
      · next hz => exact .inr ⟨z, by rw [view_str rv h1], hz, ok _ _ _ (Ext.refl _ _) s _ (.int _)⟩
      · exact ok.elim
    · exact ok.elim
  · exact ok.elim
theorem se_len (hg : Gl X "len") (hm : X.mg "len" = none) (ha : SA X C (e :: es) fa) (he : starEach (e :: es) X.env = (false, eval e X.env) :: starEach es X.env := by rfl) (hpl : (backTo pos (starEach es X.env)).any (·.1) = false := by rfl) :
    SE X C (.Call (.Name "len" p0) (e :: es) [] pos) (xFn kLen fa) := se_fn (call_len_seq.or call_len_str) opN_len hg hm PySem.boot_len ha (by decide) (by decide) he hpl
def kInt (xs : List EV) (st : Store) : Out EV := match xs with
  | [.d (.int i)] => .ok (.d (.int i)) st
  | [.d (.bool b)] => .ok (.d (.int (if b then 1 else 0))) st
  | _ => .stuck
theorem opN_int : OpN X C (fun xs H Q => (∃ i, xs = [.int i] ∧ Q (.int i) H) ∨ ∃ k, xs = [.bl k] ∧ Q (.int (if k then 1 else 0)) H) kInt := by
  intro EX H I ι st xs vs Q s rs ok
  unfold kInt at ok
  split at ok
  · next i =>
    obtain ⟨v, rfl, rv⟩ := rvs1 rs
    exact .inl ⟨i, by rw [dp_int rv], ok _ _ _ (Ext.refl _ _) s _ (.int _)⟩
  · next b =>
    obtain ⟨v, rfl, rv⟩ := rvs1 rs
    exact .inr ⟨b, by rw [dp_bool rv], ok _ _ _ (Ext.refl _ _) s _ (.int _)⟩
  · exact ok.elim
theorem se_intc (hg : Gl X "int") (hm : X.mg "int" = none) (ha : SA X C (e :: es) fa) (he : starEach (e :: es) X.env = (false, eval e X.env) :: starEach es X.env := by rfl) (hpl : (backTo pos (starEach es X.env)).any (·.1) = false := by rfl) :
    SE X C (.Call (.Name "int" p0) (e :: es) [] pos) (xFn kInt fa) := se_ty call_int1 opN_int hg hm (by decide +kernel) ha (by decide) (by decide) he hpl
def kMax2 (xs : List EV) (st : Store) : Out EV := match xs with
  | [.d (.int i), .d (.int j)] => .ok (.d (.int (if j > i then j else i))) st
  | _ => .stuck
def kMin2 (xs : List EV) (st : Store) : Out EV := match xs with
  | [.d (.int i), .d (.int j)] => .ok (.d (.int (if j < i then j else i))) st
  | _ => .stuck
theorem opN_max2 : OpN X C (fun xs H Q => ∃ i j, xs = [.int i, .int j] ∧ Q (.int (if j > i then j else i)) H) kMax2 := by
  intro EX H I ι st xs vs Q s rs ok
  unfold kMax2 at ok
  split at ok
  · next i j =>
    obtain ⟨v, u, rfl, r1, r2⟩ := rvs2 rs
    exact ⟨i, j, by rw [dp_int r1, dp_int r2], ok _ _ _ (Ext.refl _ _) s _ (.int _)⟩
  · exact ok.elim
theorem opN_min2 : OpN X C (fun xs H Q => ∃ i j, xs = [.int i, .int j] ∧ Q (.int (if j < i then j else i)) H) kMin2 := by
  intro EX H I ι st xs vs Q s rs ok
  unfold kMin2 at ok
  split at ok
  · next i j =>
    obtain ⟨v, u, rfl, r1, r2⟩ := rvs2 rs
    exact ⟨i, j, by rw [dp_int r1, dp_int r2], ok _ _ _ (Ext.refl _ _) s _ (.int _)⟩
  · exact ok.elim
theorem se_max2 (hc : X.calm = true) (hg : Gl X "max") (hm : X.mg "max" = none) (ha : SA X C (e :: es) fa) (he : starEach (e :: es) X.env = (false, eval e X.env) :: starEach es X.env := by rfl) (hpl : (backTo pos (starEach es X.env)).any (·.1) = false := by rfl) :
    SE X C (.Call (.Name "max" p0) (e :: es) [] pos) (xFn kMax2 fa) := se_fn (call_max2 hc) opN_max2 hg hm (by decide +kernel) ha (by decide) (by decide) he hpl
theorem se_min2 (hc : X.calm = true) (hg : Gl X "min") (hm : X.mg "min" = none) (ha : SA X C (e :: es) fa) (he : starEach (e :: es) X.env = (false, eval e X.env) :: starEach es X.env := by rfl) (hpl : (backTo pos (starEach es X.env)).any (·.1) = false := by rfl) :
    SE X C (.Call (.Name "min" p0) (e :: es) [] pos) (xFn kMin2 fa) := se_fn (call_min2 hc) opN_min2 hg hm (by decide +kernel) ha (by decide) (by decide) he hpl
/-- tuple(xs) -/
def kTuple (xs : List EV) (st : Store) : Out EV := match xs with
  | [x] => match view st x with
    | some (.list ds) => .ok (.d (.tuple ds)) st
    | some (.tuple ds) => .ok (.d (.tuple ds)) st
    | _ => .stuck
  | _ => .stuck
theorem opN_tuple : OpN X C (fun xs H Q => ∃ p ys, xs = [.ref p] ∧ ((SqL X.K H p ys ∧ ∀ l, H l = none → Q (.ref l) (upd H l (.tup ys))) ∨ (SqT X.K H p ys ∧ Q (.ref p) H))) kTuple := by
  intro EX H I ι st xs vs Q s rs ok
  unfold kTuple at ok
  split at ok
  · next x =>
    obtain ⟨v, rfl, rv⟩ := rvs1 rs
    split at ok
    · next ds h1 =>
      obtain ⟨p, ws, rfl, g1, g2⟩ := view_list s rv h1
      exact ⟨p, ws, rfl, .inl ⟨g1, fun l hl => ok _ _ _ (s.allocExt hl _) (s.alloc hl (.tup ws)) _ (.tup (.inl (.inl upd_same)) (dpAll_mono (Same_upd (s.free hl)) _ _ g2))⟩⟩
    · next ds h1 =>
      obtain ⟨p, ws, rfl, g1, g2⟩ := view_tup s rv h1
      exact ⟨p, ws, rfl, .inr ⟨g1, ok _ _ _ (Ext.refl _ _) s _ (rv_tup rv h1)⟩⟩
    · exact ok.elim
  · exact ok.elim
theorem se_tuplec (hg : Gl X "tuple") (hm : X.mg "tuple" = none) (ha : SA X C (e :: es) fa) (he : starEach (e :: es) X.env = (false, eval e X.env) :: starEach es X.env := by rfl) (hpl : (backTo pos (starEach es X.env)).any (·.1) = false := by rfl) :
    SE X C (.Call (.Name "tuple" p0) (e :: es) [] pos) (xFn kTuple fa) := se_ty call_tuple_of opN_tuple hg hm (by decide +kernel) ha (by decide) (by decide) he hpl
/-- list(xs) -/
def kList (xs : List EV) (st : Store) : Out EV := match xs with
  | [x] => match view st x with
    | some (.list ds) => .ok (.d (.list ds)) st
    | some (.tuple ds) => .ok (.d (.list ds)) st
    | _ => .stuck
  | _ => .stuck
def kListR (xs : List EV) (st : Store) : Out EV := match xs with
  | [x] => match view st x with
    | some (.list ds) => .ok (.ref st.length) (st ++ [some ds])
    | some (.tuple ds) => .ok (.ref st.length) (st ++ [some ds])
    | _ => .stuck
  | _ => .stuck
theorem opN_list : OpN X C (fun xs H Q => ∃ p ys, xs = [.ref p] ∧ (SqL X.K H p ys ∨ SqT X.K H p ys) ∧ ∀ l, H l = none → Q (.ref l) (upd H l (.lst ys))) kList := by
  intro EX H I ι st xs vs Q s rs ok
  unfold kList at ok
  split at ok
  · next x =>
    obtain ⟨v, rfl, rv⟩ := rvs1 rs
    split at ok
    · next ds h1 =>
      obtain ⟨p, ws, rfl, g1, g2⟩ := view_list s rv h1
      exact ⟨p, ws, rfl, .inl g1, fun l hl => ok _ _ _ (s.allocExt hl _) (s.alloc hl (.lst ws)) _ (.lst (.inl (.inl upd_same)) (dpAll_mono (Same_upd (s.free hl)) _ _ g2))⟩
    · next ds h1 =>
      obtain ⟨p, ws, rfl, g1, g2⟩ := view_tup s rv h1
      exact ⟨p, ws, rfl, .inr g1, fun l hl => ok _ _ _ (s.allocExt hl _) (s.alloc hl (.lst ws)) _ (.lst (.inl (.inl upd_same)) (dpAll_mono (Same_upd (s.free hl)) _ _ g2))⟩
    · exact ok.elim
  · exact ok.elim
theorem opN_listR : OpN X C (fun xs H Q => ∃ p ys, xs = [.ref p] ∧ (SqL X.K H p ys ∨ SqT X.K H p ys) ∧ ∀ l, H l = none → Q (.ref l) (upd H l (.lst ys))) kListR := by
  intro EX H I ι st xs vs Q s rs ok
  unfold kListR at ok
  split at ok
  · next x =>
    obtain ⟨v, rfl, rv⟩ := rvs1 rs
    split at ok
    · next ds h1 =>
      obtain ⟨p, ws, rfl, g1, g2⟩ := view_list s rv h1
      exact ⟨p, ws, rfl, .inl g1, fun l hl => ok _ _ _ (push_ext _ _ l) (s.push hl g2) _ (rv_last s.len)⟩
    · next ds h1 =>
      obtain ⟨p, ws, rfl, g1, g2⟩ := view_tup s rv h1
      exact ⟨p, ws, rfl, .inr g1, fun l hl => ok _ _ _ (push_ext _ _ l) (s.push hl g2) _ (rv_last s.len)⟩
    · exact ok.elim
  · exact ok.elim
theorem se_listc (hg : Gl X "list") (hm : X.mg "list" = none) (ha : SA X C (e :: es) fa) (he : starEach (e :: es) X.env = (false, eval e X.env) :: starEach es X.env := by rfl) (hpl : (backTo pos (starEach es X.env)).any (·.1) = false := by rfl) :
    SE X C (.Call (.Name "list" p0) (e :: es) [] pos) (xFn kList fa) := se_ty call_list_of opN_list hg hm (by decide +kernel) ha (by decide) (by decide) he hpl
theorem se_listcR (hg : Gl X "list") (hm : X.mg "list" = none) (ha : SA X C (e :: es) fa) (he : starEach (e :: es) X.env = (false, eval e X.env) :: starEach es X.env := by rfl) (hpl : (backTo pos (starEach es X.env)).any (·.1) = false := by rfl) :
    SE X C (.Call (.Name "list" p0) (e :: es) [] pos) (xFn kListR fa) := se_ty call_list_of opN_listR hg hm (by decide +kernel) ha (by decide) (by decide) he hpl
/-- repr(x) -/
def canShow (d : PyData) : Bool := SeqAt.shaped d && d.showable && !d.hasDict && decide (d.shown.length ≤ sizeLine)
def rRepr (K : PySem.W.Frag) : List V → Hp → VK → Prop := fun xs H Q => ∃ v d, xs = [v] ∧ Dp K H v d ∧ canShow d = true ∧ Q (.str d.shown) H
theorem call_reprD (hgd : X.A.guards = some []) (hu : X.A.units + 66 < cLine) : CallR X (.builtin "repr") (rRepr X.K) := by
  intro pins s σ H xs us Q I r h
  obtain ⟨v, d, rfl, hd, hc, q⟩ := h
  obtain ⟨u, rfl, r1⟩ := vals1 r
  unfold canShow at hc
  simp only [Bool.and_eq_true, decide_eq_true_eq, Bool.not_eq_true'] at hc
  obtain ⟨⟨⟨h1, h2⟩, h3⟩, h4⟩ := hc
  have hdep := SeqAt.depth_of_shaped h1
  cases d with
  | none =>
    have e := dp_none hd
    subst e
    cases r1
    exact PySem.P.repr_of_none ⟨.str _, H, I.tok _, ⟨_, rfl⟩, q⟩
  | bool b =>
    have e := dp_bool hd
    subst e
    cases r1
    exact PySem.P.repr_of_bool ⟨.str _, H, I.tok _, ⟨_, rfl⟩, by rw [PyData.shown_bool] at q; exact q⟩
  | int i =>
    have e := dp_int hd
    subst e
    obtain ⟨t, rfl⟩ := r1
    exact PySem.P.repr_of_int (of_decide_eq_true h2) ⟨.str _, H, I.tok _, ⟨_, rfl⟩, by rw [PyData.shown_int] at q; exact q⟩
  | str z =>
    have e := dp_str hd
    subst e
    obtain ⟨t, rfl⟩ := r1
    exact PySem.P.repr_of_str ⟨.str _, H, I.tok _, ⟨_, rfl⟩, by rw [PyData.shown_str] at q; exact q⟩ (by rw [PyData.shown_str] at h4; exact h4)
  | dict _ => cases hd
  | list ds =>
    obtain ⟨as, rr⟩ := Dp.reads I (.list ds) v u hd r1
    obtain ⟨p, vs, rfl, _⟩ := dp_list hd
    cases r1
    exact repr_of_reads' rr h2 (fun z => by rw [h3] at z; cases z) hgd (by omega) (fun _ _ e => e) (fun h' t tk k => ⟨.str _, H, I.kept k, ⟨_, rfl⟩, q⟩) h4
  | tuple ds =>
    obtain ⟨as, rr⟩ := Dp.reads I (.tuple ds) v u hd r1
    obtain ⟨p, vs, rfl, _⟩ := dp_tup hd
    cases r1
    exact repr_of_reads' rr h2 (fun z => by rw [h3] at z; cases z) hgd (by omega) (fun _ _ e => e) (fun h' t tk k => ⟨.str _, H, I.kept k, ⟨_, rfl⟩, q⟩) h4
def kRepr (xs : List EV) (st : Store) : Out EV := match xs with
  | [x] => match view st x with
    | some d => if canShow d = true then .ok (.d (.str d.shown)) st else .stuck
    | none => .stuck
  | _ => .stuck
theorem opN_repr : OpN X C (rRepr X.K) kRepr := by
  intro EX H I ι st xs vs Q s rs ok
  unfold kRepr at ok
  split at ok
  · next x =>
    obtain ⟨v, rfl, rv⟩ := rvs1 rs
    split at ok
    · next d h1 =>
      split at ok
      · next hc => exact ⟨v, d, rfl, view_dp s rv h1, hc, ok _ _ _ (Ext.refl _ _) s _ (.str _)⟩
      · exact ok.elim
    · exact ok.elim
  · exact ok.elim
theorem se_repr (hgd : X.A.guards = some []) (hu : X.A.units + 66 < cLine) (hg : Gl X "repr") (hm : X.mg "repr" = none) (ha : SA X C (e :: es) fa) (he : starEach (e :: es) X.env = (false, eval e X.env) :: starEach es X.env := by rfl) (hpl : (backTo pos (starEach es X.env)).any (·.1) = false := by rfl) :
    SE X C (.Call (.Name "repr" p0) (e :: es) [] pos) (xFn kRepr fa) := se_fn (call_reprD hgd hu) opN_repr hg hm (by decide +kernel) ha (by decide) (by decide) he hpl
end
end Nz

end
section
set_option Elab.async false
set_option linter.all false
set_option maxRecDepth 100000
set_option maxHeartbeats 2000000
/-! enumerate of a tuple -/
namespace PySem
set_option maxHeartbeats 1000000 in
theorem nz_meets_enum {u : Value} {ob : Obj} {G : Heap → Prop} (Bg : Begins u ob G) :
    Meets (Builtin.«enumerate.__new__» ⟨[.type "enumerate", u], []⟩) (fun _ Rr sh => G sh.heap ∧
      Rr (.ok (.ret (.ref (sh.heap.push ob).objs.size))) { sh with heap := (sh.heap.push ob).push { cls := .type "enumerate", data := .fields #[.none, .bool false, .ref sh.heap.objs.size, rawInt 0, .none, .none] } }) :=
  .of_wp fun pr wd Ar Rr sh hh => by
    obtain ⟨h0, g0, d0, t0, o0⟩ := sh; obtain ⟨hG, hh⟩ := hh
    have hsub := sub_enumerate
    have itr : ∀ {A2 : Around} {E2 : Value → Shared → Prop} {Q2 : Value → Shared → Prop}, Q2 (.ref h0.objs.size) ⟨h0.push ob, g0, d0, t0, o0⟩ → wpAny (model pr wd) A2 (pyIter u) Q2 E2 ⟨h0, g0, d0, t0, o0⟩ :=
      fun z => Bg.iter pr wd _ _ ⟨h0, g0, d0, t0, o0⟩ _ hG z
    wp_walk using itr
    refine wpAny_stack_any fun _ => wpAny_pure ?_
    split
    · rename_i cc _ _ _ _ _
      cases (cc == Value.type "enumerate")
      · wp_walk using itr
        exact ⟨_, rfl, hh⟩
      · wp_walk using itr
        exact ⟨_, rfl, hh⟩
    · wp_walk using itr
      exact ⟨_, rfl, hh⟩
section
variable {prog : Program} {w : World} {A : Around} {E : Value → Shared → Prop} {s : Shared}
theorem nz_call_enum {u : Value} {ob : Obj} {G : Heap → Prop} {Q : Value → Shared → Prop} (Bg : Begins u ob G) (hG : G s.heap)
    (hq : ∀ h2, IsEnum h2 (s.heap.objs.size + 1) s.heap.objs.size 0 .none → h2.get? s.heap.objs.size = some ob → h2.objs.size = s.heap.objs.size + 2 →
      (∀ b o, s.heap.get? b = some o → h2.get? b = some o) → Q (.ref (s.heap.objs.size + 1)) { s with heap := h2 }) :
    wpAny (model prog w) A (call (.type "enumerate") [u]) Q E s := by
  refine callType_new F.called_enumerate (by decide) (F.typeCall_enumerate_1 _) (F.newCall_enumerate_1 _) (fun self => F.args_object_init_2 self _) F.entry_enumerate_new
    (nz_meets_enum Bg) ⟨hG, ?_⟩
  have sz : (s.heap.push ob).objs.size = s.heap.objs.size + 1 := Heap.size_push ..
  show _ ∧ _
  rw [sz]
  have ie : IsEnum ((s.heap.push ob).push { cls := .type "enumerate", data := .fields #[.none, .bool false, .ref s.heap.objs.size, rawInt 0, .none, .none] }) (s.heap.objs.size + 1) s.heap.objs.size 0 .none := by
    have z := Heap.get?_push_size (s.heap.push ob) (o := { cls := .type "enumerate", data := .fields #[.none, .bool false, .ref s.heap.objs.size, rawInt 0, .none, .none] }) rfl
    rw [sz] at z
    exact z
  exact ⟨⟨_, ie, rfl⟩, hq _ ie (Heap.get?_push_of_some _ (Heap.get?_push_size _ Bg.free)) (by rw [Heap.size_push, sz]) fun b o z => Heap.get?_push_of_some _ (Heap.get?_push_of_some _ z)⟩
end
end PySem
namespace Nz
open PySem PySem.Spec PyProof.Rows L2
/-- the tuple at a, each item in a new pair -/
def ItE (K : PySem.W.Frag) (a : Addr) : It where
  go := fun n H => ∃ (us : List V) (z : V), SqT K H a us ∧ us[n]? = some z
  yld := fun n H v G => ∃ p z, v = .ref p ∧ H p = none ∧ G = upd H p (.tup [.int (n : Nat), z]) ∧ ∀ us, SqT K H a us → us[n]? = some z
  stop := fun n H => ∃ us : List V, SqT K H a us ∧ us.length ≤ n
theorem itE_turn {P : Program} {w : World} {K : PySem.W.Frag} {els : List Expr} {kd : Nat} {tp : Pos} (a en it : Addr) (hat : a ≠ it) :
    Turn P w K (.Tuple els kd tp) (ItE K a) [en, it] en (fun n h => (∃ old, IsEnum h en it ((n : Nat) : Int) old) ∧ h.IsTupleIter it a n ∧ en ≠ it) where
  mem := List.mem_cons_self
  obj := fun n h q b hb => by
    obtain ⟨⟨_, h1⟩, ⟨o, h2, _, h3⟩, _⟩ := q
    rcases List.mem_cons.mp hb with z | z
    · subst z
      exact ⟨_, h1, fun v y => nomatch y⟩
    · have z : b = it := by simpa using z
      subst z
      exact ⟨o, h2, fun v y => by rw [h3] at y; cases y⟩
  keep := fun n h h2 q k => let ⟨⟨old, q1⟩, q2, q3⟩ := q; ⟨⟨old, k en List.mem_cons_self _ q1⟩, q2.at fun o z => k it (by simp) o z, q3⟩
  item := fun X hP hw hK hc n pins s σ H E Iv hf q go => by
    subst hP hw hK
    obtain ⟨⟨old, q1⟩, q2, q3⟩ := q
    obtain ⟨us, z, sq, hz⟩ := go
    obtain ⟨its, rv, p, hsz⟩ := Iv.tuple sq
    obtain ⟨u, hu, ru⟩ := rv.get hz
    have hlt : n < its.toArray.size := by
      have := (List.getElem?_eq_some_iff.mp hu).1
      simpa using this
    have bigE : en < s.heap.objs.size := Heap.lt_size q1
    have bigI : it < s.heap.objs.size := by obtain ⟨_, y, _⟩ := q2; exact Heap.lt_size y
    have hen : en ∉ [it, a] := fun y => by
      rcases List.mem_cons.mp y with y | y
      · exact q3 y
      · have y : en = a := by simpa using y
        subst y
        obtain ⟨o, y1, y2, _⟩ := p
        have q1' : s.heap.get? en = some _ := q1
        rw [y1] at q1'
        cases q1'
        injection y2 with y3
        exact absurd y3 (by decide)
    refine wpAny_pyNext_enum_itemD (Draws.tuple (A := X.A.in1) (Iv.ok.hd hc) it a hat its.toArray) q1 ⟨q2, show s.heap.IsTuple a its.toArray from p⟩ hlt q3 hen fun y h2 tk hy out st2 hT hn hk => ?_
    have ey : y = u := by
      have hy' : its[n]? = some y := by simpa using hy
      rw [hu] at hy'
      exact (Option.some.inj hy').symm
    subst ey
    refine ⟨_, rfl, wpAny_letOwnedTupleGo_enum (s := { s with heap := h2, toks := tk + 1 }) out fun h3 he3 sb => ?_⟩
    have hT3 : h3.get? s.heap.objs.size = some { cls := .type "tuple", data := .seq #[.int n tk, y] } := (sb.2 _ (Nat.ne_of_gt bigE)).trans hT
    have ok3 : ObjOk X.prog X.w (upd H s.heap.objs.size (.tup [.int (n : Nat), z])) h3 s.heap.objs.size (.tup [.int (n : Nat), z]) :=
      ⟨by show 2 ≤ sizeLine; decide, [.int n tk, y], .cons ⟨_, rfl⟩ (.cons ru .nil), ⟨_, hT3, rfl, _, rfl⟩⟩
    have I3 : Inv X pins σ (upd H s.heap.objs.size (.tup [.int (n : Nat), z])) { s with heap := h3, toks := tk + 1 } :=
      Iv.turnedNew (ch := [en, it]) (fun b o hb y => (sb.2 b (fun e => hb (by simp [e]))).trans (hk b o (fun e => hb (by simp [e])) (fun e => hb (by simp [e])) y)) hf (Nat.le_refl _) ok3
    refine ⟨.ref s.heap.objs.size, _, I3, rfl, ⟨_, z, rfl, Iv.hok.fresh (Nat.le_refl _), rfl, fun ws hw => by rw [Iv.tuple_inj hw sq]; exact hz⟩, ⟨⟨y, ?_⟩, st2.1.at fun o e => (sb.2 it (Ne.symm q3)).trans e, q3⟩, fun b hb => ?_⟩
    · have e1 : ((n + 1 : Nat) : Int) = (n : Int) + 1 := by omega
      rw [e1]
      exact he3
    · have lt : b < s.heap.objs.size := by
        rcases List.mem_cons.mp hb with e | e
        · rw [e]; exact bigE
        · have e : b = it := by simpa using e
          rw [e]; exact bigI
      rw [upd_ne (Nat.ne_of_lt lt)]
      exact (hf b hb).1
  done := fun X hP hw hK hc n pins s σ H E Iv hf q st => by
    subst hP hw hK
    obtain ⟨⟨old, q1⟩, q2, q3⟩ := q
    obtain ⟨us, sq, hl⟩ := st
    obtain ⟨its, rv, p, hsz⟩ := Iv.tuple sq
    obtain ⟨f0, f1, f2, f3, f4, f5⟩ := hf it (by simp)
    have lens := rv.length
    have hT : s.TypeIs (.ref en) "enumerate" := ⟨_, q1, rfl⟩
    unfold pyNext
    refine wpAny_bind (wpAny_attempt (wpAny_callSpecial?_slot (name := Str.ofString "__next__") hT F.slot_enumerate_next
      (wpAny_call_entry F.slot_enumerate_next hT F.entry_enumerate_next ?_ (F.args_enumerate_next_1 _))))
    show wpAny _ _ (field (.ref en) 2 >>= _) _ _ _
    refine wpAny_bind (wpAny_field q1 rfl (x := .ref it) rfl ?_)
    refine wpAny_bind (wpAny_nextOf_tuple_end (Iv.ok.hd hc) q2 (show s.heap.IsTuple a its.toArray from p) (by simp; omega) fun h2 x hx hxx => ?_)
    obtain ⟨o, ho, hcl⟩ := hxx
    refine wpAny_bind (wpAny_isInstance (T := "StopIteration") (b := true) ⟨o, ho, hcl⟩ isSubtype_stop ?_)
    exact wpAny_pure ⟨rfl, Iv.turned (t' := s.toks) (fun b o hb y => hx b o hb y) f0 f1 f3 f4 f5⟩
  self := fun A n s Q E q h => let ⟨⟨_, q1⟩, _⟩ := q; wpAny_pyIter_enum q1 h
/-- enumerate of a list or of a tuple -/
def iEnumA (K : PySem.W.Frag) (ta : TA) : TI := fun σ H R => ta σ H fun vs G => ∃ a us, vs = [.ref a] ∧ ((SqL K G a us ∧ R (Ite K a) G) ∨ (SqT K G a us ∧ R (ItE K a) G))
theorem pi_enumA {X : Cx} {e : Expr} {ta : TA} {p pos tp : Pos} {els : List Expr} {kd : Nat} (hg : Gl X "enumerate") (hm : X.mg "enumerate" = none) (ha : PA X [e] ta) (hs : starEach [e] X.env = [(false, eval e X.env)] := by rfl) :
    PI X (.Tuple els kd tp) (.Call (.Name "enumerate" p) [e] [] pos) (iEnumA X.K ta) := by
  refine ⟨fun pins s σ H R Iv h => ?_⟩
  refine Call_ (ld_blt Iv hg hm boot_enumerate (PyProof.Rows.callWith_type1 (thn (ha.run pos pins s σ H _ Iv h) fun us s1 ⟨vs, G, I1, r1, q1⟩ => ?_) hs rfl))
  obtain ⟨a, xs, ex, q1⟩ := q1
  subst ex
  have hu := r1.ref1
  subst hu
  have young : ∀ {b : Addr}, b ∈ [s1.heap.objs.size + 1, s1.heap.objs.size] → s1.heap.objs.size ≤ b := fun {b} hb => by
    rcases List.mem_cons.mp hb with z | z
    · rw [z]; exact Nat.le_add_right _ _
    · have z : b = s1.heap.objs.size := by simpa using z
      rw [z]; exact Nat.le_refl _
  rcases q1 with ⟨sq, q⟩ | ⟨sq, q⟩
  · obtain ⟨its, rv, pl, hz⟩ := I1.list sq
    refine call_enumerate_list pl.isList fun h2 he hit hsz hk => wpAny_pyIter_enum he ?_
    have I2 : Inv X pins σ G { s1 with heap := h2 } := I1.kept (t' := s1.toks) hk
    exact ⟨s1.heap.objs.size + 1, [s1.heap.objs.size + 1, s1.heap.objs.size], _, _, G, rfl, I2, turn_enum a (s1.heap.objs.size + 1) s1.heap.objs.size, ⟨⟨.none, he⟩, hit, Nat.succ_ne_self _⟩, fun b hb => I1.fpOk (young hb) (I1.hok.fresh (young hb)), q⟩
  · obtain ⟨its, rv, pl, hz⟩ := I1.tuple sq
    have isT : s1.heap.IsTuple a its.toArray := pl
    have hal : a < s1.heap.objs.size := by obtain ⟨o, e1, _⟩ := pl; exact Heap.lt_size e1
    refine nz_call_enum (begins_tuple a its.toArray) isT fun h2 he hit hsz hk => wpAny_pyIter_enum he ?_
    have I2 : Inv X pins σ G { s1 with heap := h2 } := I1.kept (t' := s1.toks) hk
    exact ⟨s1.heap.objs.size + 1, [s1.heap.objs.size + 1, s1.heap.objs.size], _, _, G, rfl, I2, itE_turn a (s1.heap.objs.size + 1) s1.heap.objs.size (Nat.ne_of_lt hal), ⟨⟨.none, he⟩, ⟨_, hit, rfl, rfl⟩, Nat.succ_ne_self _⟩,
      fun b hb => I1.fpOk (young hb) (I1.hok.fresh (young hb)), q⟩
end Nz

end
section
set_option Elab.async false
set_option linter.all false
set_option maxRecDepth 100000
set_option maxHeartbeats 2000000
namespace Nz
open PySem PySem.Spec PyProof.Rows L2
open LamX (Tabs TabS CodeO)

/-! ### what is walked -/
/-- the items; the number of the own list that they are -/
abbrev Its' := List PyData × Option Nat
def okOwn (it : Its') (st : Store) : Prop := match it.2 with
  | none => True
  | some n => st[n]? = some (some it.1)
def Serves (K : PySem.W.Frag) (T : List (Addr × Str)) (J : It) (I : Hp) (ι : List Addr) (it : Its') : Prop :=
  ∀ (i : Nat) (H2 I2 : Hp) (ι2 : List Addr) (st2 : Store), Ext I ι I2 ι2 → S3 K T H2 I2 ι2 st2 → okOwn it st2 →
    (∀ d, it.1[i]? = some d → J.go i H2 ∧ ∀ x H', J.yld i H2 x H' → ∃ I', Ext I2 ι2 I' ι2 ∧ S3 K T H' I' ι2 st2 ∧ Dp K I' x d) ∧ (it.1.length ≤ i → J.stop i H2)
abbrev Ix' := Env' → Store → Out Its'
def rI (K : PySem.W.Frag) (mg : Mx) (C : Cfg) (f : Ix') : TI := fun σ H R => ∃ I ι env st, S3 K C.T H I ι st ∧ RE K mg I ι env σ ∧ OK K mg C.T (C.EX σ) I ι (f env st) fun it _ H' I' ι' => ∀ J, Serves K C.T J I' ι' it → R J H'
def SI (X : Cx) (C : Cfg) (tg e : Expr) (f : Ix') : Prop := PI X tg e (rI X.K (mk X C) C f)
theorem pi_imp {X : Cx} {tg e : Expr} {t t' : TI} (h : PI X tg e t) (m : ∀ σ H Q, t' σ H Q → t σ H Q) : PI X tg e t' := ⟨fun pins s σ H Q I q => h.run pins s σ H Q I (m σ H Q q)⟩
section
variable {K : PySem.W.Frag} {mg : Mx} {T : List (Addr × Str)} {H I : Hp} {ι : List Addr} {st : Store}
/-- a value that is walked: where its items lie at any later time -/
theorem walk_list {x : EV} {v : V} {ds : List PyData} (s : S3 K T H I ι st) (r : RV K mg I ι x v) (h : view st x = some (.list ds)) :
    ∃ a, v = .ref a ∧ (∃ vs, SqL K H a vs ∧ vs.length = ds.length) ∧ ∀ H2 I2 ι2 st2, Ext I ι I2 ι2 → S3 K T H2 I2 ι2 st2 → okOwn (ds, match x with | .ref n => some n | _ => none) st2 → ∃ vs, SqL K H2 a vs ∧ DpAll K I2 vs ds := by
  cases x with
  | fz _ => cases h
  | exc _ _ => cases h
  | clo => cases h
  | d y =>
    cases h
    obtain ⟨a, vs, h1, h2, h3⟩ := dp_list r
    exact ⟨a, h1, ⟨vs, sqL_mono s.im h2, dpAll_len h3⟩, fun H2 I2 ι2 st2 x s2 _ => ⟨vs, sqL_mono s2.im (sqL_mono x.same h2), dpAll_mono x.same _ _ h3⟩⟩
  | ref n =>
    obtain ⟨es, hs, q⟩ := view_ref h
    cases q
    obtain ⟨a, h1, h2⟩ := r
    obtain ⟨b, ws, g1, g2, g3, g4⟩ := s.cell n ds hs
    rw [h1] at g1
    cases g1
    refine ⟨a, h2, ⟨ws, .inl (.inl g2), dpAll_len g3⟩, fun H2 I2 ι2 st2 x s2 ow => ?_⟩
    obtain ⟨b, vs, g1, g2, g3, g4⟩ := s2.cell n ds ow
    rw [pre_get x.pre h1] at g1
    cases g1
    exact ⟨vs, .inl (.inl g2), g3⟩
def ownOf : EV → Option Nat
  | .ref n => some n
  | _ => none
end
section
variable {X : Cx} {C : Cfg} {tg e a b c : Expr} {es : List Expr} {f g h : Ex} {fa : Ax} {pos p0 : Pos}
theorem sq_len {K : PySem.W.Frag} {I : Hp} {vs : List V} {ds : List PyData} (q : DpAll K I vs ds) {i : Nat} (h : ds.length ≤ i) : vs.length ≤ i := by rw [dpAll_len q]; exact h
/-- two readings of one object agree: asked of the walks alone -/
def serve_l (K : PySem.W.Frag) (T : List (Addr × Str)) (a : Addr) (I : Hp) (ι : List Addr) (it : Its') : Prop :=
  ∀ (H2 I2 : Hp) (ι2 : List Addr) (st2 : Store), Ext I ι I2 ι2 → S3 K T H2 I2 ι2 st2 → okOwn it st2 → ∃ vs, SqL K H2 a vs ∧ DpAll K I2 vs it.1
theorem serves_list {K : PySem.W.Frag} {T : List (Addr × Str)} {a : Addr} {I : Hp} {ι : List Addr} {it : Its'} (h : serve_l K T a I ι it) : Serves K T (Itl K a) I ι it := fun i H2 I2 ι2 st2 x s2 ow => by
  obtain ⟨vs, h1, h2⟩ := h H2 I2 ι2 st2 x s2 ow
  refine ⟨fun d hd => ?_, fun hl => ⟨vs, h1, sq_len h2 hl⟩⟩
  obtain ⟨v, g1, g2⟩ := dpAll_get h2 hd
  refine ⟨⟨vs, v, h1, g1⟩, fun y H' hy => ?_⟩
  obtain ⟨rfl, hy⟩ := hy
  have e := hy vs h1
  rw [g1] at e
  cases e
  exact ⟨I2, Ext.refl _ _, s2, g2⟩
theorem serves_tup {K : PySem.W.Frag} {T : List (Addr × Str)} {a : Addr} {I : Hp} {ι : List Addr} {vs : List V} {ds : List PyData} (h1 : SqT K I a vs) (h2 : DpAll K I vs ds) : Serves K T (Itt K a) I ι (ds, none) := fun i H2 I2 ι2 st2 x s2 ow => by
  have k1 := sqT_mono s2.im (sqT_mono x.same h1)
  have k2 := dpAll_mono x.same _ _ h2
  refine ⟨fun d hd => ?_, fun hl => ⟨vs, k1, sq_len h2 hl⟩⟩
  obtain ⟨v, g1, g2⟩ := dpAll_get k2 hd
  refine ⟨⟨vs, v, k1, g1⟩, fun y H' hy => ?_⟩
  obtain ⟨rfl, hy⟩ := hy
  have e := hy vs k1
  rw [g1] at e
  cases e
  exact ⟨I2, Ext.refl _ _, s2, g2⟩
/-- a list or a tuple, walked -/
def iSeq (K : PySem.W.Frag) (tl : TE) : TI := fun σ H R => tl σ H fun x G => ∃ a, x = .ref a ∧ (((∃ us, SqL K G a us) ∧ R (Itl K a) G) ∨ ((∃ us, SqT K G a us) ∧ R (Itt K a) G))
theorem pi_seq {tl : TE} (hl : PE X e tl) : PI X tg e (iSeq X.K tl) := by
  refine ⟨fun pins s σ H R Iv h => ?_⟩
  refine thn (hl.run pins s σ H _ Iv h) fun v s1 ⟨x, G, I1, r1, a, ex, q⟩ => ?_
  subst ex
  cases r1
  have young : ∀ b ∈ [s1.heap.objs.size], FpOk X pins G b := fun b hb => by
    obtain rfl : b = s1.heap.objs.size := by simpa using hb
    exact I1.fpOk (Nat.le_refl _) (I1.hok.fresh (Nat.le_refl _))
  rcases q with ⟨⟨us, sq⟩, q⟩ | ⟨⟨us, sq⟩, q⟩
  · obtain ⟨its, rv, pl, hz⟩ := I1.list sq
    exact wpAny_pyIter_list pl.isList ⟨s1.heap.objs.size, [s1.heap.objs.size], _, _, G, rfl, I1.kept (t' := s1.toks) fun b o z => Heap.get?_push_of_some _ z, turn_list a _, ⟨_, Heap.get?_push_size _ rfl, rfl, rfl⟩, young, q⟩
  · obtain ⟨its, rv, pl, hz⟩ := I1.tuple sq
    exact wpAny_pyIter_tuple (show s1.heap.IsTuple a its.toArray from pl) ⟨s1.heap.objs.size, [s1.heap.objs.size], _, _, G, rfl, I1.kept (t' := s1.toks) fun b o z => Heap.get?_push_of_some _ z, turn_tuple a _, ⟨_, Heap.get?_push_size _ rfl, rfl, rfl⟩, young, q⟩
def wSeq (f : Ex) : Ix' := fun env st => (f env st).bind fun x st => match view st x with
  | some (.list ds) => .ok (ds, ownOf x) st
  | some (.tuple ds) => .ok (ds, none) st
  | _ => .stuck
theorem si_seq (h : SE X C e f) : SI X C tg e (wSeq f) := pi_imp (pi_seq h) fun σ H R ⟨I, ι, env, st, s, re, ok⟩ => ⟨I, ι, env, st, s, re, (OK.bind ok).mono fun x st1 H1 I1 ι1 x1 s1 ok1 v rv => by
  split at ok1
  · next ds h1 =>
    obtain ⟨a, rfl, ⟨vs, g1, _⟩, g2⟩ := walk_list s1 rv h1
    refine ⟨a, rfl, .inl ⟨⟨vs, g1⟩, ok1 H1 I1 ι1 (Ext.refl _ _) s1 _ (serves_list (it := (ds, ownOf x)) fun H2 I2 ι2 st2 e2 s2 ow => g2 H2 I2 ι2 st2 e2 s2 ?_)⟩⟩
    cases x <;> exact ow
  · next ds h1 =>
    obtain ⟨a, vs, rfl, g1, g2⟩ := dp_tup (rv_tup rv h1)
    exact ⟨a, rfl, .inr ⟨⟨vs, sqT_mono s1.im g1⟩, ok1 H1 I1 ι1 (Ext.refl _ _) s1 _ (serves_tup g1 g2)⟩⟩
  · exact ok1.elim⟩
/-- range -/
def rng (lo : Int) (n : Nat) : List PyData := (List.range n).map fun i => PyData.int (lo + (i : Nat))
theorem serves_rng {K : PySem.W.Frag} {T : List (Addr × Str)} {I : Hp} {ι : List Addr} (lo : Int) (n : Nat) : Serves K T (Itr lo n) I ι (rng lo n, none) := fun i H2 I2 ι2 st2 x s2 ow => by
  refine ⟨fun d hd => ?_, fun hl => ?_⟩
  · unfold rng at hd
    rw [List.getElem?_map] at hd
    obtain ⟨j, hj, rfl⟩ := Option.map_eq_some_iff.mp hd
    obtain ⟨h1, h2⟩ := List.getElem?_eq_some_iff.mp hj
    rw [List.length_range] at h1
    rw [List.getElem_range] at h2
    subst h2
    exact ⟨h1, fun y H' hy => by
      obtain ⟨rfl, rfl⟩ := hy
      exact ⟨I2, Ext.refl _ _, s2, .int _⟩⟩
  · have hl : (rng lo n).length ≤ i := hl
    unfold rng at hl
    rw [List.length_map, List.length_range] at hl
    exact hl
def wRng1 (f : Ex) : Ix' := fun env st => (f env st).bind fun x st => match x with
  | .d (.int j) => if -(2 ^ 62) ≤ j ∧ j < 2 ^ 62 then .ok (rng 0 j.toNat, none) st else .stuck
  | _ => .stuck
def wRng2 (f g : Ex) : Ix' := fun env st => (f env st).bind fun x st => (g env st).bind fun y st => match x, y with
  | .d (.int i), .d (.int j) => if -(2 ^ 62) ≤ i ∧ i < 2 ^ 62 ∧ -(2 ^ 62) ≤ j ∧ j < 2 ^ 62 then .ok (rng i (j - i).toNat, none) st else .stuck
  | _, _ => .stuck
theorem si_rng1 (hg : Gl X "range") (hm : X.mg "range" = none) (h : SE X C e f) (hs : starEach [e] X.env = [(false, eval e X.env)] := by rfl) : SI X C tg (.Call (.Name "range" p0) [e] [] pos) (wRng1 f) :=
  pi_imp (pi_range1 hg hm (pa_cons h pa_nil hs) hs) fun σ H R ⟨I, ι, env, st, s, re, ok⟩ => ⟨I, ι, env, st, s, re, (OK.bind ok).mono fun x st1 H1 I1 ι1 x1 s1 ok1 v rv => by
    split at ok1
    · next j =>
      split at ok1
      · next hb => exact ⟨j, by rw [dp_int rv], hb.1, hb.2, ok1 H1 I1 ι1 (Ext.refl _ _) s1 _ (serves_rng 0 j.toNat)⟩
      · exact ok1.elim
    · exact ok1.elim⟩
theorem si_rng2 (hg : Gl X "range") (hm : X.mg "range" = none) (ha : SE X C a f) (hb : SE X C b g) (hs : starEach [a, b] X.env = [(false, eval a X.env), (false, eval b X.env)] := by rfl) (hs2 : starEach [b] X.env = [(false, eval b X.env)] := by rfl) :
    SI X C tg (.Call (.Name "range" p0) [a, b] [] pos) (wRng2 f g) :=
  pi_imp (pi_range2 hg hm (pa_cons ha (pa_cons hb pa_nil hs2) (by rw [hs, hs2])) hs hs2) fun σ H R ⟨I, ι, env, st, s, re, ok⟩ => ⟨I, ι, env, st, s, re, (OK.bind ok).mono fun x st1 H1 I1 ι1 x1 s1 ok1 v rv =>
    ⟨I1, ι1, env, st1, s1, re.ext x1, (OK.bind ok1).mono fun y st2 H2 I2 ι2 x2 s2 ok2 u ru => by
      split at ok2
      · next i j =>
        split at ok2
        · next hb => exact ⟨i, j, by rw [dp_int rv, dp_int ru], hb, ok2 H2 I2 ι2 (Ext.refl _ _) s2 _ (serves_rng i (j - i).toNat)⟩
        · exact ok2.elim
      · exact ok2.elim⟩⟩
/-- enumerate -/
def enm (ds : List PyData) : List PyData := (List.range ds.length).map fun i => PyData.tuple [.int (i : Nat), ds.getD i .none]
theorem enm_get {ds : List PyData} {i : Nat} {d : PyData} (h : (enm ds)[i]? = some d) : ∃ x, ds[i]? = some x ∧ d = .tuple [.int (i : Nat), x] := by
  unfold enm at h
  rw [List.getElem?_map] at h
  obtain ⟨j, hj, rfl⟩ := Option.map_eq_some_iff.mp h
  obtain ⟨h1, h2⟩ := List.getElem?_eq_some_iff.mp hj
  rw [List.getElem_range] at h2
  subst h2
  rw [List.length_range] at h1
  exact ⟨ds[i], List.getElem?_eq_getElem h1, by rw [List.getD_eq_getElem?_getD, List.getElem?_eq_getElem h1]; rfl⟩
theorem enm_len (ds : List PyData) : (enm ds).length = ds.length := by unfold enm; rw [List.length_map, List.length_range]
def wEnm (f : Ex) : Ix' := fun env st => (f env st).bind fun x st => match view st x with
  | some (.tuple ds) => .ok (enm ds, none) st
  | some (.list ds) => match x with
    | .d _ => .ok (enm ds, none) st
    | _ => .stuck
  | _ => .stuck
theorem serves_enmT {K : PySem.W.Frag} {T : List (Addr × Str)} {a : Addr} {I : Hp} {ι : List Addr} {vs : List V} {ds : List PyData} (h1 : SqT K I a vs) (h2 : DpAll K I vs ds) : Serves K T (ItE K a) I ι (enm ds, none) := fun i H2 I2 ι2 st2 x s2 ow => by
  have k1 := sqT_mono s2.im (sqT_mono x.same h1)
  have k2 := dpAll_mono x.same _ _ h2
  refine ⟨fun d hd => ?_, fun hl => ⟨vs, k1, sq_len h2 (by rw [← enm_len ds]; exact hl)⟩⟩
  obtain ⟨y, hy, rfl⟩ := enm_get hd
  obtain ⟨v, g1, g2⟩ := dpAll_get k2 hy
  refine ⟨⟨vs, v, k1, g1⟩, fun w H' hw => ?_⟩
  obtain ⟨p, z, rfl, hp, rfl, hz⟩ := hw
  have e := hz vs k1
  rw [g1] at e
  cases e
  exact ⟨_, s2.allocExt hp _, s2.alloc hp _, .tup (.inl (.inl upd_same)) (.cons (.int _) (.cons (dp_mono (Same_upd (s2.free hp)) _ _ g2) .nil))⟩
theorem serves_enmL {K : PySem.W.Frag} {T : List (Addr × Str)} {a : Addr} {I : Hp} {ι : List Addr} {vs : List V} {ds : List PyData} (h1 : SqL K I a vs) (h2 : DpAll K I vs ds) : Serves K T (Ite K a) I ι (enm ds, none) := fun i H2 I2 ι2 st2 x s2 ow => by
  have k1 := sqL_mono s2.im (sqL_mono x.same h1)
  have k2 := dpAll_mono x.same _ _ h2
  refine ⟨fun d hd => ?_, fun hl => ⟨vs, k1, sq_len h2 (by rw [← enm_len ds]; exact hl)⟩⟩
  obtain ⟨y, hy, rfl⟩ := enm_get hd
  obtain ⟨v, g1, g2⟩ := dpAll_get k2 hy
  refine ⟨⟨vs, v, k1, g1⟩, fun w H' hw => ?_⟩
  obtain ⟨p, z, rfl, hp, rfl, hz⟩ := hw
  have e := hz vs k1
  rw [g1] at e
  cases e
  exact ⟨_, s2.allocExt hp _, s2.alloc hp _, .tup (.inl (.inl upd_same)) (.cons (.int _) (.cons (dp_mono (Same_upd (s2.free hp)) _ _ g2) .nil))⟩
theorem si_enm {els : List Expr} {kd : Nat} {tp : Pos} (hg : Gl X "enumerate") (hm : X.mg "enumerate" = none) (h : SE X C e f) (hs : starEach [e] X.env = [(false, eval e X.env)] := by rfl) : SI X C (.Tuple els kd tp) (.Call (.Name "enumerate" p0) [e] [] pos) (wEnm f) :=
  pi_imp (pi_enumA hg hm (pa_cons h pa_nil hs) hs) fun σ H R ⟨I, ι, env, st, s, re, ok⟩ => ⟨I, ι, env, st, s, re, (OK.bind ok).mono fun x st1 H1 I1 ι1 x1 s1 ok1 v rv => by
    split at ok1
    · next ds h1 =>
      obtain ⟨a, vs, rfl, g1, g2⟩ := dp_tup (rv_tup rv h1)
      exact ⟨a, vs, rfl, .inr ⟨sqT_mono s1.im g1, ok1 H1 I1 ι1 (Ext.refl _ _) s1 _ (serves_enmT g1 g2)⟩⟩
    · next ds h1 =>
      split at ok1
      · next y =>
        cases h1
        obtain ⟨a, vs, rfl, g1, g2⟩ := dp_list rv
        exact ⟨a, vs, rfl, .inl ⟨sqL_mono s1.im g1, ok1 H1 I1 ι1 (Ext.refl _ _) s1 _ (serves_enmL g1 g2)⟩⟩
      · exact ok1.elim
    · exact ok1.elim⟩

/-! ### targets -/
abbrev Tg := EV → Env' → Option Env'
abbrev Tgs := List PyData → Env' → Option Env'
theorem wipe_comm {σ : L2.St} {i : Nat} {x : Option V} : ∀ {vs : List Nat}, i ∉ vs → wipe (σ.set i x) vs = (wipe σ vs).set i x
  | [], _ => rfl
  | v :: vs, h => by
    have h1 : v ≠ i := fun e => h (by rw [e]; exact List.mem_cons_self)
    show (wipe (σ.set i x) vs).set v none = ((wipe σ vs).set v none).set i x
    rw [wipe_comm fun m => h (List.mem_cons_of_mem _ m), List.set_comm _ _ h1]
theorem wipe_set {σ : L2.St} {i : Nat} {x : Option V} : ∀ {vs : List Nat}, i ∈ vs → wipe (σ.set i x) vs = wipe σ vs
  | [], h => absurd h List.not_mem_nil
  | v :: vs, h => by
    show (wipe (σ.set i x) vs).set v none = (wipe σ vs).set v none
    by_cases hm : i ∈ vs
    · rw [wipe_set hm]
    · have e : i = v := by
        rcases List.mem_cons.mp h with e | e
        · exact e
        · exact absurd e hm
      subst e
      rw [wipe_comm hm, List.set_set]
/-- sl: the slots that it may store -/
def rG (K : PySem.W.Frag) (mg : Mx) (C : Cfg) (sl : List Nat) (t : Tg) : TG := fun v σ H Q => ∃ I ι env st x env', S3 K C.T H I ι st ∧ RE K mg I ι env σ ∧ RV K mg I ι x v ∧ t x env = some env' ∧ ∀ σ', RE K mg I ι env' σ' → wipe σ' sl = wipe σ sl → Q σ' H
def rGs (K : PySem.W.Frag) (mg : Mx) (C : Cfg) (sl : List Nat) (t : Tgs) : TGs := fun vs σ H Q => ∃ I ι env st ds env', S3 K C.T H I ι st ∧ RE K mg I ι env σ ∧ DpAll K I vs ds ∧ t ds env = some env' ∧ ∀ σ', RE K mg I ι env' σ' → wipe σ' sl = wipe σ sl → Q σ' H
def SG (X : Cx) (C : Cfg) (sl : List Nat) (e : Expr) (t : Tg) : Prop := PG X e (rG X.K (mk X C) C sl t)
def SGs (X : Cx) (C : Cfg) (sl : List Nat) (es : List Expr) (t : Tgs) : Prop := PGs X es (rGs X.K (mk X C) C sl t)
theorem pg_imp {X : Cx} {e : Expr} {t t' : TG} (h : PG X e t) (m : ∀ v σ H Q, t' v σ H Q → t v σ H Q) : PG X e t' := ⟨fun pins s σ H v u Q I r q => h.run pins s σ H v u Q I r (m v σ H Q q)⟩
theorem pgs_imp {X : Cx} {es : List Expr} {t t' : TGs} (h : PGs X es t) (m : ∀ v σ H Q, t' v σ H Q → t v σ H Q) : PGs X es t' := ⟨fun pins s σ H v u Q I r q => h.run pins s σ H v u Q I r (m v σ H Q q)⟩
def gN (i : Nat) : Tg := fun x env => some (env.set i (some x))
theorem sg_n {i : Nat} {sl : List Nat} (h : PG X e (gName i)) (hi : i ∈ sl := by decide) : SG X C sl e (gN i) := pg_imp h fun v σ H Q ⟨I, ι, env, st, x, env', s, re, rv, q, ok⟩ => by
  cases q
  exact ok _ (re.set i rv) (wipe_set hi)
def gs0 : Tgs := fun ds env => match ds with
  | [] => some env
  | _ => none
def gs1 (i : Nat) (t : Tgs) : Tgs := fun ds env => match ds with
  | d :: ds => t ds (env.set i (some (.d d)))
  | [] => none
theorem sgs_nil {sl : List Nat} : SGs X C sl [] gs0 := pgs_imp pgs_nil fun v σ H Q ⟨I, ι, env, st, ds, env', s, re, rv, q, ok⟩ => by
  cases rv with
  | nil =>
    cases q
    exact ⟨rfl, ok _ re rfl⟩
  | cons _ _ => cases q
theorem sgs_cons {i : Nat} {sl : List Nat} {t : Tgs} (h : PG X e (gName i)) (k : SGs X C sl es t) (hi : i ∈ sl := by decide) (hs : (assignEach (e :: es) X.env).map (·.2) = assign e X.env :: (assignEach es X.env).map (·.2) := by rfl) : SGs X C sl (e :: es) (gs1 i t) :=
  pgs_imp (pgs_cons h k hs) fun v σ H Q ⟨I, ι, env, st, ds, env', s, re, rv, q, ok⟩ => by
    cases rv with
    | nil => cases q
    | cons a b => exact ⟨_, _, rfl, I, ι, _, st, _, env', s, re.set i (x := .d _) a, b, q, fun σ' r' w' => ok σ' r' (w'.trans (wipe_set hi))⟩
def gT (n : Nat) (t : Tgs) : Tg := fun x env => match x with
  | .d (.tuple ds) => if ds.length = n then t ds env else none
  | _ => none
theorem sg_t {k n : Nat} {sl : List Nat} {t : Tgs} (hc : X.calm = true) (h : SGs X C sl es t) (hn : (assignEach es X.env).length = n := by rfl) (hst : (assignEach es X.env).findIdx? (·.1) = none := by rfl) : SG X C sl (.Tuple es k pos) (gT n t) :=
  pg_imp (pg_tup hc h hn hst) fun v σ H Q ⟨I, ι, env, st, x, env', s, re, rv, q, ok⟩ => by
    unfold gT at q
    split at q
    · next ds =>
      split at q
      · next hl =>
        obtain ⟨a, vs, rfl, g1, g2⟩ := dp_tup rv
        exact ⟨a, vs, rfl, sqT_mono s.im g1, by rw [dpAll_len g2]; exact hl, I, ι, env, st, ds, env', s, re, g2, q, ok⟩
      · cases q
    · cases q

/-! ### statements -/
def bNil : Sx := fun env st => .ok (.nx env) st
/-- one behind the other -/
def thenB (r : Fl) (st : Store) (g : Sx) : Out Fl := match r with
  | .nx env => g env st
  | r => .ok r st
def bCons (f g : Sx) : Sx := fun env st => (f env st).bind fun r st => thenB r st g
variable {ss ss2 : List Stmt} {s1 : Stmt} {u v : Sx} {p : Tx} {pos2 : Pos}
theorem sb_nil : SB X C [] bNil := pss_imp pss_nil fun D σ H ⟨I, ι, env, st, s, re, ok⟩ => ok H I ι (Ext.refl _ _) s σ re
theorem gd_seq {K : PySem.W.Frag} {mg : Mx} {D : Ends} {u : TS} {g : Sx} (hu : ∀ σ H, rS K mg C g D σ H → u D σ H) {r : Fl} {st : Store} {H I : Hp} {ι : List Addr} (s : S3 K C.T H I ι st)
    (h : OK K mg C.T NoX I ι (thenB r st g) (GD K mg C D)) : GD K mg C { D with nx := u D } r st H I ι := by
  cases r with
  | nx env => exact fun σ' re => hu σ' H ⟨I, ι, env, st, s, re, h⟩
  | rt a => exact h H I ι (Ext.refl _ _) s
  | bk env => exact h H I ι (Ext.refl _ _) s
  | ct env => exact h H I ι (Ext.refl _ _) s
  | ex env c x => exact h H I ι (Ext.refl _ _) s
theorem sb_cons (h1 : SS X C s1 u) (h2 : SB X C ss v) : SB X C (s1 :: ss) (bCons u v) := pss_imp (pss_cons h1 h2) fun D σ H ⟨I, ι, env, st, s, re, ok⟩ =>
  ⟨I, ι, env, st, s, re, (OK.bind ok).mono fun r st1 H1 I1 ι1 x1 s1 ok1 => gd_seq (fun σ' H' h => h) s1 ok1⟩
theorem sb_one (h1 : SS X C s1 u) : SB X C [s1] u := pss_imp (pss_one h1) fun D σ H h => h
def sPass : Sx := fun env st => .ok (.nx env) st
theorem ss_pass : SS X C (.Pass pos) sPass := ps_imp ps_pass fun D σ H ⟨I, ι, env, st, s, re, ok⟩ => ok H I ι (Ext.refl _ _) s σ re
theorem ss_break : SS X C (.Break pos) (fun env st => .ok (.bk env) st) := ps_imp ps_break fun D σ H ⟨I, ι, env, st, s, re, ok⟩ => ok H I ι (Ext.refl _ _) s σ re
theorem ss_cont : SS X C (.Continue pos) (fun env st => .ok (.ct env) st) := ps_imp ps_continue fun D σ H ⟨I, ι, env, st, s, re, ok⟩ => ok H I ι (Ext.refl _ _) s σ re
theorem ss_doc {x : Str} {j : Nat} : SS X C (.Expr (.Constant (.str x) j pos) pos2) sPass := ps_imp ps_doc fun D σ H ⟨I, ι, env, st, s, re, ok⟩ => ok H I ι (Ext.refl _ _) s σ re
def sExp (f : Ex) : Sx := fun env st => sb env (f env st) fun _ st => .ok (.nx env) st
theorem ss_expr (h : SE X C e f) (hs : swapsWith e none pos.line X.env = pure false := by rfl) : SS X C (.Expr e pos) (sExp f) := ps_imp (ps_expr h hs) fun D σ H ⟨I, ι, env, st, s, re, ok⟩ =>
  ⟨I, ι, env, st, s, re, (OK.sb re ok).mono fun x st1 H1 I1 ι1 x1 s1 ok1 v rv => ok1 H1 I1 ι1 (Ext.refl _ _) s1 σ (re.ext x1)⟩
def sRet (f : Ex) : Sx := fun env st => sb env (f env st) fun a st => .ok (.rt a) st
theorem ss_ret (h : SE X C e f) : SS X C (.Return (some e) pos) (sRet f) := ps_imp (ps_ret h) fun D σ H ⟨I, ι, env, st, s, re, ok⟩ =>
  ⟨I, ι, env, st, s, re, (OK.sb re ok).mono fun x st1 H1 I1 ι1 x1 s1 ok1 v rv => ok1 H1 I1 ι1 (Ext.refl _ _) s1 v rv⟩
theorem ss_retN : SS X C (.Return none pos) (fun _ st => .ok (.rt (.d .none)) st) := ps_imp ps_retN fun D σ H ⟨I, ι, env, st, s, re, ok⟩ => ok H I ι (Ext.refl _ _) s .non .non
def sIf (p : Tx) (u v : Sx) : Sx := fun env st => sb env (p env st) fun b st => if b = true then u env st else v env st
theorem ss_if (hc : ST X C e p) (ha : SB X C ss u) (hb : SB X C ss2 v) : SS X C (.If e ss ss2 pos) (sIf p u v) := ps_imp (ps_if hc ha hb) fun D σ H ⟨I, ι, env, st, s, re, ok⟩ =>
  ⟨I, ι, env, st, s, re, (OK.sb re ok).mono fun b st1 H1 I1 ι1 x1 s1 ok1 => by
    cases b with
    | true => exact ⟨I1, ι1, env, st1, s1, re.ext x1, ok1⟩
    | false => exact ⟨I1, ι1, env, st1, s1, re.ext x1, ok1⟩⟩
def sSet (i : Nat) (f : Ex) : Sx := fun env st => sb env (f env st) fun a st => .ok (.nx (env.set i (some a))) st
theorem ss_set {i : Nat} (h : PS X s1 (tAsg (rE X.K (mk X C) C f) (gName i))) : SS X C s1 (sSet i f) := ps_imp h fun D σ H ⟨I, ι, env, st, s, re, ok⟩ =>
  ⟨I, ι, env, st, s, re, (OK.sb re ok).mono fun x st1 H1 I1 ι1 x1 s1 ok1 v rv => ok1 H1 I1 ι1 (Ext.refl _ _) s1 _ ((re.ext x1).set i rv)⟩
/-- a, b, .. = value -/
def sTup (t : Tg) (f : Ex) : Sx := fun env st => sb env (f env st) fun a st => match t a env with
  | some env' => .ok (.nx env') st
  | none => .stuck
theorem ss_tup {t : Tg} {sl : List Nat} (he : SE X C e f) (hg : SG X C sl tg t) (hs : swapsWithSole [tg] e pos.line X.env = pure false := by rfl) (hw : swappedStores [tg] e X.env = pure none := by rfl)
    (h1 : (assignEach [tg] X.env).map (·.2) = [assign tg X.env] := by rfl) : SS X C (.Assign [tg] e pos) (sTup t f) := ps_imp (ps_asg he hg hs hw h1) fun D σ H ⟨I, ι, env, st, s, re, ok⟩ =>
  ⟨I, ι, env, st, s, re, (OK.sb re ok).mono fun x st1 H1 I1 ι1 x1 s1 ok1 v rv => by
    split at ok1
    · next env' hq => exact ⟨I1, ι1, env, st1, x, env', s1, re.ext x1, rv, hq, fun σ' re' _ => ok1 H1 I1 ι1 (Ext.refl _ _) s1 σ' re'⟩
    · exact ok1.elim⟩
/-- a, b = x, y -/
def sPar (i j : Nat) (f : Ax) : Sx := fun env st => sb env (f env st) fun as st => match as with
  | [a, b] => .ok (.nx ((env.set i (some a)).set j (some b))) st
  | _ => .stuck
theorem ss_par {i j : Nat} (h : PS X s1 (tPar i j (rA X.K (mk X C) C fa))) : SS X C s1 (sPar i j fa) := ps_imp h fun D σ H ⟨I, ι, env, st, s, re, ok⟩ =>
  ⟨I, ι, env, st, s, re, (OK.sb re ok).mono fun as st1 H1 I1 ι1 x1 s1 ok1 vs rv => by
    split at ok1
    · next a b =>
      obtain ⟨v, w, rfl, r1, r2⟩ := rvs2 rv
      exact ⟨v, w, rfl, ok1 H1 I1 ι1 (Ext.refl _ _) s1 _ (((re.ext x1).set i r1).set j r2)⟩
    · exact ok1.elim⟩
/-- o[i] = value, o an own list -/
def sSub (f o k : Ex) : Sx := fun env st => sb env (f env st) fun a st => sb env (o env st) fun x st => sb env (k env st) fun y st => match frz st a with
  | none => .stuck
  | some (d, st) => match x, y with
    | .ref n, .d (.int z) => match st[n]? with
      | some (some ds) => match ixN ds.length z with
        | some j => .ok (.nx env) (st.set n (some (ds.set j d)))
        | none => .stuck
      | _ => .stuck
    | _, _ => .stuck
theorem ss_sub {o k : Expr} {fo fk : Ex} {tp : Pos} (he : SE X C e f) (hg : PG X (.Subscript o k tp) (gSub (rE X.K (mk X C) C fo) (rE X.K (mk X C) C fk) rSetL)) (hs : swapsWithSole [.Subscript o k tp] e pos.line X.env = pure false := by rfl) (hw : swappedStores [.Subscript o k tp] e X.env = pure none := by rfl)
    (h1 : (assignEach [.Subscript o k tp] X.env).map (·.2) = [assign (.Subscript o k tp) X.env] := by rfl) : SS X C (.Assign [.Subscript o k tp] e pos) (sSub f fo fk) :=
  ps_imp (ps_asg he hg hs hw h1) fun D σ H ⟨I, ι, env, st, s, re, ok⟩ =>
    ⟨I, ι, env, st, s, re, (OK.sb re ok).mono fun a st1 H1 I1 ι1 x1 s1 ok1 v rv => ⟨I1, ι1, env, st1, s1, re.ext x1, (OK.sb (re.ext x1) ok1).mono fun x st2 H2 I2 ι2 x2 s2 ok2 w rw' =>
      ⟨I2, ι2, env, st2, s2, re.ext (x1.trans x2), (OK.sb (re.ext (x1.trans x2)) ok2).mono fun y st3 H3 I3 ι3 x3 s3 ok3 t rt => by
        split at ok3
        · exact ok3.elim
        · next d st4 hf =>
          obtain ⟨I4, x4, s4, q4⟩ := frz_ok s3 (rv.ext (x2.trans x3)) hf
          split at ok3
          · next n z =>
            split at ok3
            · next ds hd =>
              split at ok3
              · next j hj =>
                obtain ⟨b, us, g1, g2, g3, g4⟩ := s4.cell n ds hd
                obtain ⟨b', h1, rfl⟩ := (rw'.ext (x3.trans x4))
                rw [h1] at g1
                cases g1
                refine ⟨_, us, z, j, rfl, dp_int rt, g2, by rw [dpAll_len g3]; exact hj, ?_⟩
                exact ok3 _ _ _ x4 (s4.write hd h1 g2 (dpAll_set q4 j g3)) σ (re.ext (x1.trans (x2.trans (x3.trans x4))))
              · exact ok3.elim
            · exact ok3.elim
          · exact ok3.elim⟩⟩⟩

/-! ### loops -/
open Classical in
/-- the rest of the items -/
noncomputable def forL (t : Tg) (u : Sx) (it : Its') : List PyData → Sx
  | [] => fun env st => if okOwn it st then .ok (.nx env) st else .stuck
  | d :: ds => fun env st => if okOwn it st then (match t (.d d) env with
      | none => .stuck
      | some env1 => (u env1 st).bind fun r st => match r with
        | .nx e => forL t u it ds e st
        | .ct e => forL t u it ds e st
        | .bk e => .ok (.nx e) st
        | .rt a => .ok (.rt a) st
        | .ex e c x => .ok (.ex e c x) st) else .stuck
noncomputable def sFor (w : Ix') (t : Tg) (u : Sx) : Sx := fun env st => sb env (w env st) fun it st => forL t u it it.1 env st
theorem ss_for {w : Ix'} {t : Tg} {sl : List Nat} (hp : PassesOwn (model X.prog X.w) X.A X.env X.xe) (hc : X.calm = true) (hi : SI X C tg e w) (hg : SG X C sl tg t) (hb : SB X C ss u)
    (hs : ∀ x, foldedSetIterable e X.env x = pure x := by intro _; rfl) : SS X C (.For tg e ss [] pos) (sFor w t u) :=
  ps_imp (ps_for hp hc hi hg hb hs) fun D σ H ⟨I, ι, env, st, s, re, ok⟩ =>
    ⟨I, ι, env, st, s, re, (OK.sb re ok).mono fun it st1 H1 I1 ι1 x1 s1 ok1 J srv => by
      refine ⟨fun i m σ2 H2 => ∃ I2 ι2 env2 st2, Ext I1 ι1 I2 ι2 ∧ S3 X.K C.T H2 I2 ι2 st2 ∧ RE X.K (mk X C) I2 ι2 env2 σ2 ∧ i + m = it.1.length ∧ OK X.K (mk X C) C.T NoX I2 ι2 (forL t u it (it.1.drop i) env2 st2) (GD X.K (mk X C) C D),
        ⟨it.1.length, I1, ι1, env, st1, Ext.refl _ _, s1, re.ext x1, by omega, ok1⟩, fun i m σ2 H2 hW => ?_⟩
      obtain ⟨I2, ι2, env2, st2, x2, s2, re2, em, ok2⟩ := hW
      by_cases hl : i < it.1.length
      · have ed : it.1.drop i = it.1[i] :: it.1.drop (i + 1) := List.drop_eq_getElem_cons hl
        rw [ed] at ok2
        unfold forL at ok2
        split at ok2
        · next ow =>
          obtain ⟨go, _⟩ := srv i H2 I2 ι2 st2 x2 s2 ow
          obtain ⟨g1, g2⟩ := go _ (List.getElem?_eq_getElem hl)
          refine .inr ⟨g1, fun σ3 H3 => ∃ I3 ι3 env3 st3, Ext I1 ι1 I3 ι3 ∧ S3 X.K C.T H3 I3 ι3 st3 ∧ RE X.K (mk X C) I3 ι3 env3 σ3 ∧ OK X.K (mk X C) C.T NoX I3 ι3 (forL t u it (it.1.drop (i + 1)) env3 st3) (GD X.K (mk X C) C D), fun σ3 H3 hN => ?_, fun x H3 hy => ?_⟩
          · obtain ⟨I3, ι3, env3, st3, y1, y2, y3, y4⟩ := hN
            exact ⟨m - 1, by omega, I3, ι3, env3, st3, y1, y2, y3, by omega, y4⟩
          · obtain ⟨I3, x3, s3, q3⟩ := g2 x H3 hy
            split at ok2
            · exact ok2.elim
            · next env1 ht =>
              refine ⟨I3, ι2, env2, st2, .d it.1[i], env1, s3, re2.ext x3, q3, ht, fun σ4 re4 _ => ⟨I3, ι2, env1, st2, s3, re4, (OK.bind (ok2.ext x3)).mono fun r st5 H5 I5 ι5 x5 s5 ok5 => ?_⟩⟩
              cases r with
              | nx e2 => exact fun σ6 re6 => ⟨I5, ι5, e2, st5, x2.trans (x3.trans x5), s5, re6, ok5⟩
              | ct e2 => exact fun σ6 re6 => ⟨I5, ι5, e2, st5, x2.trans (x3.trans x5), s5, re6, ok5⟩
              | bk e2 => exact fun σ6 re6 => ok5 H5 I5 ι5 (Ext.refl _ _) s5 σ6 re6
              | rt a => exact ok5 H5 I5 ι5 (Ext.refl _ _) s5
              | ex e2 c2 x2 => exact ok5 H5 I5 ι5 (Ext.refl _ _) s5
        · exact ok2.elim
      · have ed : it.1.drop i = [] := List.drop_eq_nil_of_le (by omega)
        rw [ed] at ok2
        unfold forL at ok2
        split at ok2
        · next ow =>
          obtain ⟨_, stop⟩ := srv i H2 I2 ι2 st2 x2 s2 ow
          exact .inl ⟨stop (by omega), ok2 H2 I2 ι2 (Ext.refl _ _) s2 σ2 re2⟩
        · exact ok2.elim⟩
/-- while -/
def whl (p : Tx) (u : Sx) : Nat → Sx
  | 0 => fun _ _ => .stuck
  | n + 1 => fun env st => sb env (p env st) fun b st => if b = true then (u env st).bind fun r st => match r with
      | .nx e => whl p u n e st
      | .ct e => whl p u n e st
      | .bk e => .ok (.nx e) st
      | .rt a => .ok (.rt a) st
      | .ex e c x => .ok (.ex e c x) st
    else .ok (.nx env) st
/-- so many turns at most -/
def fuel : Nat := 1000000
def sWhl (p : Tx) (u : Sx) : Sx := fun env st => whl p u fuel env st
theorem ss_while (hp : PassesOwn (model X.prog X.w) X.A X.env X.xe) (hc : ST X C e p) (hb : SB X C ss u) : SS X C (.While e ss [] pos) (sWhl p u) :=
  ps_imp (ps_while hp hc hb) fun D σ H ⟨I, ι, env, st, s, re, ok⟩ => by
    refine ⟨fun m σ2 H2 => ∃ I2 ι2 env2 st2, S3 X.K C.T H2 I2 ι2 st2 ∧ RE X.K (mk X C) I2 ι2 env2 σ2 ∧ OK X.K (mk X C) C.T NoX I2 ι2 (whl p u m env2 st2) (GD X.K (mk X C) C D), ⟨fuel, I, ι, env, st, s, re, ok⟩, fun m σ2 H2 hW => ?_⟩
    obtain ⟨I2, ι2, env2, st2, s2, re2, ok2⟩ := hW
    cases m with
    | zero => exact ok2.elim
    | succ m =>
      unfold whl at ok2
      refine ⟨I2, ι2, env2, st2, s2, re2, (OK.sb re2 ok2).mono fun b st3 H3 I3 ι3 x3 s3 ok3 => ?_⟩
      cases b with
      | false => exact ok3 H3 I3 ι3 (Ext.refl _ _) s3 σ2 (re2.ext x3)
      | true =>
        rw [if_pos rfl] at ok3 ⊢
        refine ⟨fun σ4 H4 => ∃ I4 ι4 env4 st4, S3 X.K C.T H4 I4 ι4 st4 ∧ RE X.K (mk X C) I4 ι4 env4 σ4 ∧ OK X.K (mk X C) C.T NoX I4 ι4 (whl p u m env4 st4) (GD X.K (mk X C) C D), fun σ4 H4 hN => ⟨m, Nat.lt_succ_self m, hN⟩, I3, ι3, env2, st3, s3, re2.ext x3, (OK.bind ok3).mono fun r st5 H5 I5 ι5 x5 s5 ok5 => ?_⟩
        cases r with
        | nx e2 => exact fun σ6 re6 => ⟨I5, ι5, e2, st5, s5, re6, ok5⟩
        | ct e2 => exact fun σ6 re6 => ⟨I5, ι5, e2, st5, s5, re6, ok5⟩
        | bk e2 => exact fun σ6 re6 => ok5 H5 I5 ι5 (Ext.refl _ _) s5 σ6 re6
        | rt a => exact ok5 H5 I5 ι5 (Ext.refl _ _) s5
        | ex e2 c2 x2 => exact ok5 H5 I5 ι5 (Ext.refl _ _) s5
end
end Nz

end
section
set_option Elab.async false
set_option linter.all false
set_option maxRecDepth 100000
set_option maxHeartbeats 2000000
namespace Nz
open PySem PySem.Spec PyProof.Rows L2
open LamX (Tabs TabS CodeO)

/-! ### a def's promise, where nothing is being printed -/
structure FnG (P : Program) (w : World) (K : PySem.W.Frag) (mg : Str → Option Value) (base : Heap) (k : Nat) (f : Addr) (fd : FuncData) (ps : List Str) (sp : Sp) : Prop where
  len : ∀ vs H Q E, sp vs H Q E → vs.length = ps.length
  run : ∀ (A : Around) (outer : List Env) (s : Shared) (H : Hp) (args : Args) (us : List Value) (vs : List V) (Q : VK) (E : XK), Room k A → A.guards = some [] → Env0 P w K mg base A outer s H →
    BindsTo s fd args (ps.zip us) → Vals vs us → sp vs H Q E → codeAny (model P w) A (.call (.ref f) args) (CR (L2N.CX P w) outer P w H s Q E) s
theorem FnG.mono {P : Program} {w : World} {K : PySem.W.Frag} {mg : Str → Option Value} {base : Heap} {j k : Nat} {f : Addr} {fd : FuncData} {ps : List Str} {sp : Sp} (F : FnG P w K mg base j f fd ps sp) (h : j ≤ k) : FnG P w K mg base k f fd ps sp :=
  ⟨F.len, fun A o s H g us vs Q E r => F.run A o s H g us vs Q E (r.mono h)⟩
section
variable {P : Program} {w : World} {K : PySem.W.Frag} {mg : Str → Option Value} {base : Heap} {k : Nat} {f : Addr} {ps N : List Str} {sp : Sp}
theorem runG_of {nm qn : Str} {pars : Arguments} {bd : List Stmt} {sc : Scope} {d1 d2 d3 d4 cv ct oc : Value} {an od : Option Addr} {sl : Array (Option Value)}
    (lk : K.lookup f = some ⟨oc, od, .func (PySem.W.fnOf nm qn pars bd sc d1 d2 d3 d4 an cv ct), sl⟩) (hcd : PySem.W.codeIn K cv qn = true) (S : FnScope N ps sc)
    {A : Around} {outer : List Env} {s : Shared} {H : Hp} {args : Args} {us : List Value} {vs : List V} {Q : VK} {E : XK} (hr : Room (k + 1) A) (e0 : Env0 P w K mg base A outer s H) (bt : BindsTo s (PySem.W.fnOf nm qn pars bd sc d1 d2 d3 d4 an cv ct) args (ps.zip us)) (rv : Vals vs us) (vl : vs.length = ps.length)
    (hb : Room k (A.deeper (envOfC qn sc s.heap.objs.size f cv)) → ∃ t, PSs (cxOf (L2N.CX P w) P w K mg base N qn sc f cv A outer s H E) bd t ∧ t { nx := fun _ G => Q .non G, rt := Q } (start N vs) H) :
    codeAny (model P w) A (.call (.ref f) args) (CR (L2N.CX P w) outer P w H s Q E) s := by
  have inK : K.In s.heap := e0.mod.kin.keeps fun b o z => (e0.bs b o z).1
  have nl : s.heap.NoLimit := e0.mod.nolimit.keeps fun b o z => (e0.bs b o z).1
  have kinds : ∀ y ∈ ps.zip us, sc.names.lookup y.1 = some .local ∨ (sc.names.lookup y.1 = some .cell ∧ ((cellsFrom (s.heap.objs.size + 1) sc.names []).lookup y.1).isSome = true) := fun ⟨n, z⟩ hy => by
    rcases S.par n (List.of_mem_zip hy).1 with q | q
    · exact .inl q
    · exact .inr ⟨q, PySem.W.cellsFrom_some _ _ _ (.inl q)⟩
  refine codeAny_call_function hr.depth (inK _ _ lk) rfl S.co S.gen rfl (PySem.W.codeRec_of inK hcd) (bt _ _ _ _ ?_)
  refine wpAny_newFunctionEnv_cells S.kind kinds fun env0 heq s1 x => ?_
  subst heq
  refine ⟨nl.keeps x.toInCall.keep, codeAny_func ?_⟩
  obtain ⟨t, ht, hq⟩ := hb (hr.deeper _)
  have Iv : Inv (cxOf (L2N.CX P w) P w K mg base N qn sc f cv A outer s H E) [] (start N vs) H s1 := inv_start S hr.hd e0 vl rv x
  refine wpAny_mono (ht.run [] s1 (start N vs) H _ Iv hq) (fun fl s2 hs => ?_) fun _ _ z => z
  cases fl with
  | ret u =>
    obtain ⟨v, σ2, H2, J, r2, q⟩ := hs
    exact ⟨v, H2, J.os, J.bare, J.base, J.hok, r2, q⟩
  | next =>
    obtain ⟨σ2, H2, J, q⟩ := hs
    exact ⟨.non, H2, J.os, J.bare, J.base, J.hok, rfl, q⟩
  | brk =>
    obtain ⟨_, _, _, q⟩ := hs
    exact q.elim
  | cont =>
    obtain ⟨_, _, _, q⟩ := hs
    exact q.elim
theorem fnG_of {nm qn : Str} {pars : Arguments} {bd : List Stmt} {sc : Scope} {d1 d2 d3 d4 cv ct oc : Value} {an od : Option Addr} {sl : Array (Option Value)}
    (lk : K.lookup f = some ⟨oc, od, .func (PySem.W.fnOf nm qn pars bd sc d1 d2 d3 d4 an cv ct), sl⟩) (hcd : PySem.W.codeIn K cv qn = true) (S : FnScope N ps sc) (len : ∀ vs H Q E, sp vs H Q E → vs.length = ps.length)
    (hb : ∀ (A : Around) (outer : List Env) (s : Shared) (H : Hp) (vs : List V) (Q : VK) (E : XK), Room k (A.deeper (envOfC qn sc s.heap.objs.size f cv)) → A.guards = some [] → sp vs H Q E →
      ∃ t, PSs (cxOf (L2N.CX P w) P w K mg base N qn sc f cv A outer s H E) bd t ∧ t { nx := fun _ G => Q .non G, rt := Q } (start N vs) H) :
    FnG P w K mg base (k + 1) f (PySem.W.fnOf nm qn pars bd sc d1 d2 d3 d4 an cv ct) ps sp :=
  ⟨len, fun A outer s H args us vs Q E hr hgd e0 bt rv hsp => runG_of lk hcd S hr e0 bt rv (len _ _ _ _ hsp) fun r => hb A outer s H vs Q E r hgd hsp⟩
end

/-! ### the function that a body is -/
def retV (keep : Bool) (L : Nat) (a : EV) (st : Store) : Out EV := match a with
  | .ref n => if n < L then .ok (.ref n) (st.take L) else match st[n]? with
    | some (some ds) => if keep = true then .ok (.ref L) (st.take L ++ [some ds]) else .ok (.d (.list ds)) (st.take L)
    | _ => .stuck
  | .clo => .stuck
  | a => .ok a (st.take L)
def fin (keep : Bool) (L : Nat) (r : Fl) (st : Store) : Out EV := match r with
  | .rt a => retV keep L a st
  | .nx _ => .ok (.d .none) (st.take L)
  | .ex _ c x => .exc c x (st.take L)
  | _ => .stuck
def entry (n : Nat) (args : List EV) : Env' := args.map some ++ List.replicate (n - args.length) none
/-- the def as a function of its arguments and the own lists -/
def fnO (keep : Bool) (n : Nat) (u : Sx) (args : List EV) (st : Store) : Out EV := match u (entry n args) st with
  | .ok r st' => fin keep st.length r st'
  | _ => .stuck
abbrev Fn := List EV → Store → Out EV
def spF (K : PySem.W.Frag) (mg : Str → Option Value) (T : List (Addr × Str)) (n : Nat) (fn : Fn) : Sp := fun vs H Q E => ∃ (I : Hp) (ι : List Addr) (args : List EV) (st : Store) (ax : Aux), S3 K T H I ι st ∧ RVs K ⟨mg, ax⟩ I ι args vs ∧ args.length = n ∧
  OK K ⟨mg, ax⟩ T E I ι (fn args st) fun r _ H' I' ι' => ∀ v, RV K ⟨mg, ax⟩ I' ι' r v → Q v H'
section
variable {K : PySem.W.Frag} {mg : Mx} {T : List (Addr × Str)} {H I : Hp} {ι : List Addr} {st : Store}
theorem entry_re {args : List EV} {vs : List V} (n : Nat) (r : RVs K mg I ι args vs) (h : args.length ≤ n) (N : List Str) (hN : N.length = n) : RE K mg I ι (entry n args) (L2.start N vs) := by
  have hl := r.length
  refine ⟨?_, fun i x hx => ?_⟩
  · unfold entry L2.start
    rw [List.length_append, List.length_append, List.length_map, List.length_map, List.length_replicate, List.length_replicate, hl, hN]
  · have key : ∀ {xs : List EV} {us : List V} {i : Nat} {x : EV}, RVs K mg I ι xs us → xs[i]? = some x → ∃ v, us[i]? = some v ∧ RV K mg I ι x v := by
      intro xs us i x r
      induction r generalizing i with
      | nil => intro e; simp at e
      | cons a b ih =>
        intro e
        cases i with
        | zero => cases (show some _ = some x from e); exact ⟨_, rfl, a⟩
        | succ i => exact ih e
    unfold entry at hx
    by_cases hi : i < args.length
    · rw [List.getElem?_append_left (by rw [List.length_map]; exact hi), List.getElem?_map] at hx
      obtain ⟨y, hy, e⟩ := Option.map_eq_some_iff.mp hx
      cases e
      obtain ⟨v, h1, h2⟩ := key r hy
      refine ⟨v, ?_, h2⟩
      unfold L2.start
      rw [List.getElem?_append_left (by rw [List.length_map, hl]; exact hi), List.getElem?_map, h1]
      rfl
    · rw [List.getElem?_append_right (by rw [List.length_map]; omega), List.getElem?_replicate] at hx
      split at hx <;> cases hx
/-- the lists of before the call, and one that the call made -/
theorem S3.back (s : S3 K T H I ι st) {L n : Nat} (hL : L ≤ n) {a : Addr} {ds : List PyData} (hs : st[n]? = some (some ds)) (hi : ι[n]? = some a) : S3 K T H I (ι.take L ++ [a]) (st.take L ++ [some ds]) := by
  have t := s.take L
  obtain ⟨b, vs, h1, h2, h3, h4⟩ := s.cell n ds hs
  rw [hi] at h1
  cases h1
  have lt : n < ι.length := (List.getElem?_eq_some_iff.mp hi).1
  have ll : (ι.take L).length = (st.take L).length := t.len
  refine ⟨s.im, by rw [List.length_append, List.length_append, ll]; rfl, ?_, fun m es e => ?_, fun b hb => ?_, s.tabs, s.notb⟩
  · rw [List.nodup_append]
    refine ⟨t.nd, List.nodup_cons.mpr ⟨List.not_mem_nil, List.nodup_nil⟩, fun x hx y hy z => ?_⟩
    have hy : y = a := by simpa using hy
    subst hy
    subst z
    obtain ⟨j, hj, ej⟩ := List.getElem_of_mem hx
    rw [List.length_take] at hj
    rw [List.getElem_take] at ej
    obtain ⟨_, en⟩ := List.getElem?_eq_some_iff.mp hi
    have := (List.getElem_inj s.nd).mp (ej.trans en.symm)
    omega
  · by_cases hm : m < (st.take L).length
    · rw [List.getElem?_append_left hm] at e
      obtain ⟨b, us, g1, g2, g3, g4⟩ := t.cell m es e
      exact ⟨b, us, by rw [List.getElem?_append_left (by rw [ll]; exact hm)]; exact g1, g2, g3, g4⟩
    · have em : m = (st.take L).length := by
        have := (List.getElem?_eq_some_iff.mp e).1
        rw [List.length_append] at this
        have : m < (st.take L).length + 1 := this
        omega
      subst em
      rw [List.getElem?_append_right (Nat.le_refl _), Nat.sub_self] at e
      cases (show some (some ds) = some (some es) from e)
      refine ⟨a, vs, ?_, h2, h3, h4⟩
      rw [← ll, List.getElem?_append_right (Nat.le_refl _), Nat.sub_self]
      rfl
  · rcases List.mem_append.mp hb with z | z
    · exact t.there b z
    · have z : b = a := by simpa using z
      subst z
      exact ⟨_, h2⟩
theorem pre_take {ι ι' : List Addr} (h : ι <+: ι') {L : Nat} (e : ι.length = L) : ι'.take L = ι := by
  obtain ⟨t, rfl⟩ := h
  rw [← e]
  exact List.take_left
/-- what a call leaves, seen by the caller -/
theorem ret_ok {keep : Bool} {L : Nat} {a : EV} {v : V} {I' : Hp} {ι' : List Addr} {st' : Store} {EX : XK} {H' : Hp} {Q : V → Hp → Prop} (hL : ι.length = L) (x : Ext I ι I' ι') (s : S3 K T H' I' ι' st') (r : RV K mg I' ι' a v)
    (h : OK K mg T EX I ι (retV keep L a st') fun r _ H' I' ι' => ∀ v, RV K mg I' ι' r v → Q v H') : Q v H' := by
  have tk := pre_take x.pre hL
  have s0 : S3 K T H' I' ι (st'.take L) := by have z := s.take L; rw [tk] at z; exact z
  have x0 : Ext I ι I' ι := ⟨x.same, List.prefix_refl _⟩
  cases a with
  | d y => exact h H' I' ι x0 s0 v r
  | fz ds => exact h H' I' ι x0 s0 v r
  | exc c y => exact h H' I' ι x0 s0 v r
  | clo => exact h.elim
  | ref n =>
    obtain ⟨a, h1, rfl⟩ := r
    have h : OK K mg T EX I ι (if n < L then .ok (.ref n) (st'.take L) else match st'[n]? with
      | some (some ds) => if keep = true then .ok (.ref L) (st'.take L ++ [some ds]) else .ok (.d (.list ds)) (st'.take L)
      | _ => .stuck) fun r _ H' I' ι' => ∀ v, RV K mg I' ι' r v → Q v H' := h
    split at h
    · next hn =>
      refine h H' I' ι x0 s0 _ ⟨a, ?_, rfl⟩
      rw [← tk, List.getElem?_take_of_lt hn]
      exact h1
    · next hn =>
      split at h
      · next ds hd =>
        split at h
        · next hk =>
          have s1 := s.back (Nat.le_of_not_lt hn) hd h1
          rw [tk] at s1
          exact h H' I' _ ⟨x.same, List.prefix_append _ _⟩ s1 _ (rv_last hL)
        · obtain ⟨b, vs, g1, g2, g3, g4⟩ := s.cell n ds hd
          rw [h1] at g1
          cases g1
          obtain ⟨f1, f2, f3⟩ := s.freeze hd h1 g2 g3
          have s1 := f1.take L
          rw [tk] at s1
          refine h H' _ ι ⟨fun b o e => f2.same b o (x.same b o e), List.prefix_refl _⟩ ?_ _ f3
          have e : (st'.set n none).take L = st'.take L := by
            rw [List.take_set_of_le (Nat.le_of_not_lt hn)]
          rw [e] at s1
          exact s1
      · exact h.elim
end
/-- a body's reading at its entry, from what is wanted of the def -/
theorem body_reads {K : PySem.W.Frag} {mg : Str → Option Value} {T : List (Addr × Str)} {keep : Bool} {n : Nat} {u : Sx} {args : List EV} {I H : Hp} {ι : List Addr} {st' : Store} {ax : Aux} {E : XK} {Q : VK} (h1 : S3 K T H I ι st')
    (h4 : OK K ⟨mg, ax⟩ T E I ι (fnO keep n u args st') fun r _ H' I' ι' => ∀ v, RV K ⟨mg, ax⟩ I' ι' r v → Q v H') :
    OK K ⟨mg, ax⟩ T NoX I ι (u (entry n args) st') (GD K ⟨mg, ax⟩ ⟨T, fun _ => E, ax⟩ { nx := fun _ G => Q .non G, rt := Q }) := by
  have h5 : OK K ⟨mg, ax⟩ T E I ι (match u (entry n args) st' with
    | .ok r st2 => fin keep st'.length r st2
    | _ => .stuck) (fun r _ H' I' ι' => ∀ v, RV K ⟨mg, ax⟩ I' ι' r v → Q v H') := h4
  revert h5
  cases hu : u (entry n args) st' with
  | stuck => exact fun z => z.elim
  | exc c2 x2 st2 => exact fun z => z.elim
  | ok r st2 =>
    intro z H2 I2 ι2 x2 s2
    have z : OK K ⟨mg, ax⟩ T E I ι (fin keep st'.length r st2) (fun r _ H' I' ι' => ∀ v, RV K ⟨mg, ax⟩ I' ι' r v → Q v H') := z
    have tk := pre_take x2.pre h1.len
    have s0 : S3 K T H2 I2 ι (st2.take st'.length) := by have q := s2.take st'.length; rw [tk] at q; exact q
    cases r with
    | nx e => exact fun σ' re' => z H2 I2 ι ⟨x2.same, List.prefix_refl _⟩ s0 .non .non
    | rt r => exact fun v rv => ret_ok h1.len x2 s2 rv z
    | bk e => exact z.elim
    | ct e => exact z.elim
    | ex e c2 y =>
      have z : Wish K ⟨mg, ax⟩ T E I ι c2 y (st2.take st'.length) := z
      intro σ' re' cl dd v H3 I3 ι3 g1 g2 g3 g4 g5
      have tk3 := pre_take (x2.pre.trans g2.pre) h1.len
      have q := g3.take st'.length
      rw [tk3] at q
      exact z cl dd v H3 I3 ι g1 ⟨fun b o q => g2.same b o (x2.same b o q), List.prefix_refl _⟩ q g4 g5
section
variable {P : Program} {w : World} {K : PySem.W.Frag} {mg : Str → Option Value} {base : Heap} {k : Nat} {f : Addr} {ps N : List Str} {T : List (Addr × Str)}
/-- THE RULE for a def: its body says u -/
theorem def_ok {x qn : Str} {st : Stmt} {fd : FuncData} {u : Sx} {keep : Bool} (F : Fun K x qn st f fd) (S : FnScope N ps (defScope st))
    (hb : ∀ (cv : Value) (A : Around) (outer : List Env) (s : Shared) (H : Hp) (E : XK) (ax : Aux), Room k (A.deeper (envOfC qn (defScope st) s.heap.objs.size f cv)) → A.guards = some [] →
      SB (cxOf (L2N.CX P w) P w K mg base N qn (defScope st) f cv A outer s H E) ⟨T, fun _ => E, ax⟩ (defBody st) u) : FnG P w K mg base (k + 1) f fd ps (spF K mg T ps.length (fnO keep N.length u)) := by
  obtain ⟨oc, od, kV, doc, pm, an, cv, ct, osl, rfl, lk, hcd⟩ := F.ex
  refine fnG_of lk hcd S (fun vs H Q E h => ?_) fun A outer s H vs Q E hr hgd h => ?_
  · obtain ⟨I, ι, args, st', ax, h1, h2, h3, h4⟩ := h
    rw [h2.length, h3]
  · obtain ⟨I, ι, args, st', ax, h1, h2, h3, h4⟩ := h
    refine ⟨_, hb cv A outer s H E ax hr hgd, I, ι, entry N.length args, st', h1, entry_re _ h2 ?_ N rfl, ?_⟩
    · have := congrArg List.length S.pre
      rw [List.length_take] at this
      omega
    · exact body_reads h1 h4
end
end Nz

end
section
set_option Elab.async false
set_option linter.all false
set_option maxRecDepth 100000
set_option maxHeartbeats 2000000
namespace Nz
open PySem PySem.Spec PyProof.Rows L2
open LamX (Tabs TabS CodeO)
theorem skyZ {B : Heap} {l : List Env} {a L : Addr} {h : Heap} {cls : Value} {d : Option Addr} (x : Sky B l a (L2N.Zn cls d) L h) : Sky B l a (Zc cls d) L h := by
  have tr : ∀ {fl : Value}, HandSPX.TracedZ h B a (L2N.Zn cls d) fl → HandSPX.TracedZ h B a (Zc cls d) fl := fun ⟨oe, vs, T, oT, ts, he, hz, r⟩ => ⟨oe, vs, T, oT, ts, he, hz.zc, r⟩
  rcases x with ⟨x1, x2, x3, oe, vs, he, hz, r⟩ | ⟨x1, x2, x3, x4⟩ | ⟨x1, x2, x3, x4⟩
  · exact .inl ⟨x1, x2, x3, oe, vs, he, hz.zc, r⟩
  · exact .inr (.inl ⟨x1, x2, x3, tr x4⟩)
  · exact .inr (.inr ⟨x1, x2, x3, tr x4⟩)
theorem takesN {X : Cx} {W : WX} (t : L2.Takes X W) : L2N.Takes X W := fun u s' ⟨a, B, sI, pins, σ, H, cls, d, e, I, nb, up, sky, na, os, ag, w⟩ => t u s' ⟨a, B, sI, pins, σ, H, cls, d, e, I, nb, up, skyZ sky, na, os, ag, w⟩
/-- what this context lets out -/
abbrev Tk (X : Cx) (C : Cfg) : Prop := L2N.Takes X (fun cls d σ H => C.EX σ cls d H)
section
variable {X : Cx} {C : Cfg} {tg e a b c : Expr} {es : List Expr} {f g h : Ex} {fa : Ax} {pos p0 : Pos} {k : Nat} {fad : Addr} {fd : FuncData} {ps : List Str} {sp : Sp} {x : Str}

/-! ### a def called -/
theorem run_fnG {pins : List (Addr × Obj)} {σ : L2.St} {H : Hp} {s : Shared} {Q : VK} {us : List Value} {vs : List V} {E : XK} (F : FnG X.prog X.w X.K X.mg X.base k fad fd ps sp) (hr : Room k X.A) (hgd : X.A.guards = some []) (hb : Binds X.K fd ps [])
    (hx : PassesAt (L2N.CX X.prog X.w) X σ E) (Iv : Inv X pins σ H s) (rv : Vals vs us) (hs : sp vs H Q E) : wpAny (model X.prog X.w) X.A (call (.ref fad) us) (EP X pins σ Q) X.xe s := by
  have ul : us.length = ps.length := by rw [← rv.length]; exact F.len _ _ _ _ hs
  have bt := hb s us Iv.kIn (by rw [List.append_nil]; exact ul)
  rw [List.append_nil] at bt
  refine wpAny_call (codeAny_mono (F.run X.A X.stack s H ⟨us, []⟩ us vs Q E hr hgd Iv.env0 bt rv hs) fun res s2 hq => ?_)
  cases res with
  | error er => exact hx pins H s er s2 Iv hq
  | ok fl =>
    cases fl with
    | ret u => exact Iv.after hq
    | next => exact hq.elim
    | brk => exact hq.elim
    | cont => exact hq.elim
def xCall (n : Nat) (fn : Fn) (fa : Ax) : Ex := fun env st => (fa env st).bind fun as st => if as.length = n then fn as st else .stuck
theorem se_call {n : Nat} {fn : Fn} (F : FnG X.prog X.w X.K X.mg X.base k fad fd ps (spF X.K X.mg C.T n fn)) (hr : Room k X.A) (hgd : X.A.guards = some []) (hg : Gl X x) (hm : X.mg x = some (.ref fad)) (hk : PySem.W.keepIn X.K (.ref fad) = true)
    (hb : Binds X.K fd ps []) (tk : Tk X C) (ha : SA X C (e :: es) fa) (hdb : (x == ("__debug__" : Str)) = false := by decide) (he : starEach (e :: es) X.env = (false, eval e X.env) :: starEach es X.env := by rfl)
    (hpl : (backTo pos (starEach es X.env)).any (·.1) = false := by rfl) : SE X C (.Call (.Name x p0) (e :: es) [] pos) (xCall n fn fa) := by
  refine ⟨fun pins s σ H Q Iv hh => ?_⟩
  obtain ⟨I, ι, env, st, s3, re, ok⟩ := hh
  refine wpAny_Call_Name_kw (ld_glob Iv hg hm ?_ hdb)
  have arg : rA X.K (mk X C) C fa σ H fun vs H1 => spF X.K X.mg C.T n fn vs H1 Q (C.EX σ) := ⟨I, ι, env, st, s3, re, (OK.bind ok).mono fun as st1 H1 I1 ι1 x1 s1 ok1 vs rvs => by
    split at ok1
    · next hl => exact ⟨I1, ι1, as, st1, C.x, s1, rvs, hl, ok1⟩
    · exact ok1.elim⟩
  refine PySem.W.callWith_K (h₀ := X.base) Iv.ok.mod.kin hk (thn (ha.run pos pins s σ H _ Iv arg) fun us s1 ⟨vs, H1, I1, r1, q1⟩ => ⟨I1.kIn, ?_⟩) he hpl
  exact run_fnG (Q := Q) (E := C.EX σ) F hr hgd hb (L2N.passAt tk σ) I1 r1 q1

/-! ### isinstance -/
/-- the name of a value's type -/
def tyN : PyData → String
  | .none => "NoneType"
  | .bool _ => "bool"
  | .int _ => "int"
  | .str _ => "str"
  | .list _ => "list"
  | .tuple _ => "tuple"
  | .dict _ => "dict"
def isN (ty : String) : PyData → Option Bool
  | .bool _ => some (ty == "bool" || ty == "int")
  | .dict _ => none
  | d => some (tyN d == ty)
theorem kit_all (ty : String) (h : ty = "int" ∨ ty = "bool" ∨ ty = "tuple" ∨ ty = "str" ∨ ty = "list") {d : PyData} {b : Bool} (hb : isN ty d = some b) : kitB (tyN d) ty = some b := by
  have key : ∀ t ∈ ["int", "bool", "tuple", "str", "list"], kitB "NoneType" t = some ("NoneType" == t) ∧ kitB "bool" t = some (t == "bool" || t == "int") ∧ kitB "int" t = some ("int" == t) ∧ kitB "str" t = some ("str" == t) ∧ kitB "list" t = some ("list" == t) ∧ kitB "tuple" t = some ("tuple" == t) := by decide +kernel
  have hm : ty ∈ ["int", "bool", "tuple", "str", "list"] := by
    rcases h with rfl | rfl | rfl | rfl | rfl <;> decide
  obtain ⟨k1, k2, k3, k4, k5, k6⟩ := key ty hm
  cases d with
  | none => rw [← hb]; exact k1
  | bool _ => rw [← hb]; exact k2
  | int _ => rw [← hb]; exact k3
  | str _ => rw [← hb]; exact k4
  | list _ => rw [← hb]; exact k5
  | tuple _ => rw [← hb]; exact k6
  | dict _ => cases hb
theorem tyX_of {K : PySem.W.Frag} {H : Hp} {v : V} {d : PyData} (h : Dp K H v d) : TyX K H v (.type (tyN d)) := by
  cases h with
  | non => exact .base .non
  | bl b => exact .base (.bl b)
  | int i => exact .base (.int i)
  | str z => exact .base (.str z)
  | lst a _ =>
    rcases a with (a | ⟨o, a⟩) | ⟨o, _, _, k1, k2, _⟩
    · exact .base (.lst a)
    · exact .base (.frz a)
    · exact .kList k1 k2
  | tup a _ =>
    rcases a with (a | ⟨o, a⟩) | ⟨o, _, _, k1, k2, _⟩
    · exact .base (.tup a)
    · exact .fTuple a
    · exact .kTuple k1 k2
def xIsi (ty : String) (f : Ex) : Ex := fun env st => (f env st).bind fun x st => match (view st x).bind (isN ty) with
  | some b => .ok (.d (.bool b)) st
  | none => .stuck
theorem se_isi {t : Expr} {ty : String} (hty : ty = "int" ∨ ty = "bool" ∨ ty = "tuple" ∨ ty = "str" ∨ ty = "list") (hg : Gl X "isinstance") (hm : X.mg "isinstance" = none) (ha : SE X C a f) (ht : PE X t (tC (.ty ty)))
    (hs : starEach (a :: [t]) X.env = (false, eval a X.env) :: starEach [t] X.env := by rfl) (hs2 : starEach (t :: []) X.env = (false, eval t X.env) :: starEach [] X.env := by rfl) (hpl : (backTo pos (starEach [t] X.env)).any (·.1) = false := by rfl) :
    SE X C (.Call (.Name "isinstance" p0) [a, t] [] pos) (xIsi ty f) :=
  pe_imp (pe_callB call_isi hg hm (by decide +kernel) (pa_cons ha (pa_cons ht pa_nil hs2) hs) (by decide) (by decide) hs hpl) fun σ H Q ⟨I, ι, env, st, s, re, ok⟩ => ⟨I, ι, env, st, s, re, (OK.bind ok).mono fun x st1 H1 I1 ι1 x1 s1 ok1 v rv => by
    split at ok1
    · next b hb =>
      obtain ⟨d, h1, h2⟩ := Option.bind_eq_some_iff.mp hb
      exact ⟨v, .ty ty, _, _, b, rfl, .ty ty, tyX_of (view_dp s1 rv h1), kit_ty (kit_all ty hty h2), ok1 _ _ _ (Ext.refl _ _) s1 _ (.bl b)⟩
    · exact ok1.elim⟩

/-! ### methods of own lists -/
def xApp (f : Ex) (g : Ax) : Ex := fun env st => (f env st).bind fun x st => match x with
  | .ref n => match st[n]? with
    | some (some _) => (g env st).bind fun as st => match as with
      | [y] => match frz st y with
        | some (d, st) => match st[n]? with
          | some (some ds) => if ds.length < sizeLine then .ok (.d .none) (st.set n (some (ds ++ [d]))) else .stuck
          | _ => .stuck
        | none => .stuck
      | _ => .stuck
    | _ => .stuck
  | _ => .stuck
theorem se_app {o : Expr} {apos : Pos} (ho : SE X C o f) (ha : SA X C (e :: []) fa) (hbase : attributeBase o "append" X.env (eval o X.env) = eval o X.env := by rfl)
    (hfew : ((backTo pos (starEach (e :: []) X.env)).all (fun x => !x.1) && (backToKw pos (keywordEach [] X.env)).all (fun x => x.1.isSome)
      && decide ((e :: ([] : List Expr)).length + ([] : List Keyword).length + (if ([] : List Keyword).isEmpty then 0 else 1) < 30)) = true := by rfl)
    (hline : (apos.endLine == pos.line) = true := by rfl) (hs : starEach (e :: []) X.env = (false, eval e X.env) :: starEach [] X.env := by rfl) (hpl : (backTo pos (starEach [] X.env)).any (·.1) = false := by rfl) :
    SE X C (.Call (.Attribute o "append" apos) (e :: []) [] pos) (xApp f fa) :=
  pe_imp (pe_bm PySem.F.plainAttrs_list PySem.F.slot_list_append PySem.F.type_list_append mt_append ho ha hbase hfew hline hs hpl) fun σ H Q ⟨I, ι, env, st, s, re, ok⟩ => ⟨I, ι, env, st, s, re, (OK.bind ok).mono fun x st1 H1 I1 ι1 x1 s1 ok1 v rv => by
    split at ok1
    · next n =>
      split at ok1
      · next ds0 h0 =>
        obtain ⟨b, us, g1, g2, g3, g4⟩ := s1.cell n ds0 h0
        obtain ⟨b2, g5, rfl⟩ := rv
        rw [g5] at g1
        cases g1
        refine ⟨.inl ⟨rfl, _, .inl (.inl g2)⟩, I1, ι1, env, st1, s1, re.ext x1, (OK.bind ok1).mono fun as st2 H2 I2 ι2 x2 s2 ok2 vs rvs => ?_⟩
        split at ok2
        · next y =>
          obtain ⟨w, rfl, rw'⟩ := rvs1 rvs
          split at ok2
          · next d st3 hf =>
            obtain ⟨I3, x3, s3, q3⟩ := frz_ok s2 rw' hf
            split at ok2
            · next ds hd =>
              split at ok2
              · next hl =>
                obtain ⟨b, us, k1, k2, k3, k4⟩ := s3.cell n ds hd
                rw [pre_get (x2.pre.trans x3.pre) g5] at k1
                cases k1
                refine ⟨_, us, w, rfl, rfl, k2, by rw [dpAll_len k3]; exact hl, ?_⟩
                exact ok2 _ _ _ x3 (s3.write hd (pre_get (x2.pre.trans x3.pre) g5) k2 (dpAll_append k3 (.cons q3 .nil))) _ .non
              · exact ok2.elim
            · exact ok2.elim
          · exact ok2.elim
        · exact ok2.elim
      · exact ok1.elim
    · exact ok1.elim⟩
/-- xs.pop(i) -/
def xPopAt (f : Ex) (g : Ax) : Ex := fun env st => (f env st).bind fun x st => match x with
  | .ref n => match st[n]? with
    | some (some _) => (g env st).bind fun as st => match as with
      | [.d (.int i)] => match st[n]? with
        | some (some ds) => if -(2 ^ 63) ≤ i ∧ i < 2 ^ 63 then match seqIndex? i ds.length with
            | some j => match ds[j]? with
              | some d => .ok (.d d) (st.set n (some (ds.eraseIdx j)))
              | none => .stuck
            | none => .stuck
          else .stuck
        | _ => .stuck
      | _ => .stuck
    | _ => .stuck
  | _ => .stuck
theorem se_popAt {o : Expr} {apos : Pos} (ho : SE X C o f) (ha : SA X C (e :: []) fa) (hbase : attributeBase o "pop" X.env (eval o X.env) = eval o X.env := by rfl)
    (hfew : ((backTo pos (starEach (e :: []) X.env)).all (fun x => !x.1) && (backToKw pos (keywordEach [] X.env)).all (fun x => x.1.isSome)
      && decide ((e :: ([] : List Expr)).length + ([] : List Keyword).length + (if ([] : List Keyword).isEmpty then 0 else 1) < 30)) = true := by rfl)
    (hline : (apos.endLine == pos.line) = true := by rfl) (hs : starEach (e :: []) X.env = (false, eval e X.env) :: starEach [] X.env := by rfl) (hpl : (backTo pos (starEach [] X.env)).any (·.1) = false := by rfl) :
    SE X C (.Call (.Attribute o "pop" apos) (e :: []) [] pos) (xPopAt f fa) :=
  pe_imp (pe_bm PySem.F.plainAttrs_list PySem.F.slot_list_pop PySem.F.type_list_pop mt_popAt ho ha hbase hfew hline hs hpl) fun σ H Q ⟨I, ι, env, st, s, re, ok⟩ => ⟨I, ι, env, st, s, re, (OK.bind ok).mono fun x st1 H1 I1 ι1 x1 s1 ok1 v rv => by
    split at ok1
    · next n =>
      split at ok1
      · next ds0 h0 =>
        obtain ⟨b, us, g1, g2, g3, g4⟩ := s1.cell n ds0 h0
        obtain ⟨b2, g5, rfl⟩ := rv
        rw [g5] at g1
        cases g1
        refine ⟨.inl ⟨rfl, _, .inl (.inl g2)⟩, I1, ι1, env, st1, s1, re.ext x1, (OK.bind ok1).mono fun as st2 H2 I2 ι2 x2 s2 ok2 vs rvs => ?_⟩
        split at ok2
        · next i =>
          obtain ⟨w, rfl, rw'⟩ := rvs1 rvs
          split at ok2
          · next ds hd =>
            split at ok2
            · next hb =>
              split at ok2
              · next j hj =>
                split at ok2
                · next d hdj =>
                  obtain ⟨b, us, k1, k2, k3, k4⟩ := s2.cell n ds hd
                  rw [pre_get x2.pre g5] at k1
                  cases k1
                  obtain ⟨y, e1, e2⟩ := dpAll_get k3 hdj
                  refine ⟨_, us, i, j, y, rfl, by rw [dp_int rw'], k2, hb.1, hb.2, by rw [dpAll_len k3]; exact hj, e1, ?_⟩
                  exact ok2 _ _ _ (Ext.refl _ _) (s2.write hd (pre_get x2.pre g5) k2 (dpAll_erase j k3)) _ e2
                · exact ok2.elim
              · exact ok2.elim
            · exact ok2.elim
          · exact ok2.elim
        · exact ok2.elim
      · exact ok1.elim
    · exact ok1.elim⟩

/-! ### comprehensions -/
def wipeE (env : Env') : List Nat → Env'
  | [] => env
  | v :: vs => (wipeE env vs).set v none
theorem re_none {K : PySem.W.Frag} {mg : Mx} {I : Hp} {ι : List Addr} {env : Env'} {σ : L2.St} (h : RE K mg I ι env σ) (i : Nat) : RE K mg I ι (env.set i none) (σ.set i none) := by
  refine ⟨by rw [List.length_set, List.length_set]; exact h.1, fun j y q => ?_⟩
  by_cases e : i = j
  · subst e
    have hi : i < env.length := by
      obtain ⟨hi, _⟩ := List.getElem?_eq_some_iff.mp q
      rwa [List.length_set] at hi
    rw [List.getElem?_set_self hi] at q
    cases q
  · rw [List.getElem?_set_ne e] at q
    obtain ⟨u, a, b⟩ := h.2 j y q
    exact ⟨u, by rw [List.getElem?_set_ne e]; exact a, b⟩
theorem wipe_wipe (σ : L2.St) : ∀ vs : List Nat, wipe (wipe σ vs) vs = wipe σ vs := fun vs => by
  have key : ∀ (us : List Nat) (τ : L2.St), (∀ u ∈ us, ∀ x, τ[u]? = some x → x = none) → wipe τ us = τ := by
    intro us
    induction us with
    | nil => intro τ _; rfl
    | cons u us ih =>
      intro τ h
      show (wipe τ us).set u none = τ
      rw [ih τ fun u' hu => h u' (List.mem_cons_of_mem _ hu)]
      refine List.ext_getElem? fun j => ?_
      by_cases e : u = j
      · subst e
        cases q : τ[u]? with
        | none => rw [List.getElem?_eq_none (by rw [List.length_set]; exact List.getElem?_eq_none_iff.mp q)]
        | some y =>
          have hy := h u List.mem_cons_self y q
          subst hy
          rw [List.getElem?_set_self (List.getElem?_eq_some_iff.mp q).1]
      · rw [List.getElem?_set_ne e]
  refine key vs _ fun u hu x hx => ?_
  cases x with
  | none => rfl
  | some y => exact absurd hu (wipe_some hx).2
theorem re_wipe {K : PySem.W.Frag} {mg : Mx} {I : Hp} {ι : List Addr} {env : Env'} {σ : L2.St} (h : RE K mg I ι env σ) : ∀ vs : List Nat, RE K mg I ι (wipeE env vs) (wipe σ vs)
  | [] => h
  | v :: vs => re_none (re_wipe h vs) v
open Classical in
/-- the rest of the items; the new list stands in the L-th own list -/
noncomputable def lcL (t : Tg) (p : Tx) (f : Ex) (vs : List Nat) (it : Its') (L : Nat) (env : Env') : List PyData → Store → Out Unit
  | [], st => if okOwn it st then .ok () st else .stuck
  | d :: ds, st => if okOwn it st then (match t (.d d) (wipeE env vs) with
      | none => .stuck
      | some env1 => (p env1 st).safe.bind fun b st => if b = true then (f env1 st).safe.bind fun y st => (match frz st y with
          | none => .stuck
          | some (x, st) => match st[L]? with
            | some (some acc) => if acc.length < sizeLine then lcL t p f vs it L env ds (st.set L (some (acc ++ [x]))) else .stuck
            | _ => .stuck) else lcL t p f vs it L env ds st) else .stuck
/-- the new list is data (keep: it stays an own list) -/
def lcEnd (keep : Bool) (L : Nat) (st : Store) : Out EV := match st[L]? with
  | some (some acc) => if keep = true then .ok (.ref L) (st.take (L + 1)) else .ok (.d (.list acc)) (st.take L)
  | _ => .stuck
noncomputable def xLc (keep : Bool) (w : Ix') (t : Tg) (p : Tx) (f : Ex) (vs : List Nat) : Ex := fun env st => (w env st).bind fun it st => (lcL t p f vs it st.length env it.1 (st ++ [some []])).bind fun _ st' => lcEnd keep st.length st'
abbrev Cb (C : Cfg) : Cfg := { C with EX := fun _ => NoX }
def yes : Tx := fun _ st => .ok true st
def STs (X : Cx) (C : Cfg) (ifs : List Expr) (p : Tx) : Prop := PTs X ifs (rT X.K (mk X C) C p)
theorem sts_nil : STs X C [] yes := ⟨fun pins s σ H Q Iv ⟨I, ι, env, st, s3, re, ok⟩ => wpAny_tests_nil ⟨H, Iv, ok H I ι (Ext.refl _ _) s3⟩⟩
theorem sts_one {p : Tx} (h : ST X C c p) : STs X C [c] p := pts_one h
theorem lc_reads {keep : Bool} {K : PySem.W.Frag} {mg : Mx} {w : Ix'} {t : Tg} {p : Tx} {vs : List Nat} {σ : L2.St} {H : Hp} {Q : VK} (h : rE K mg C (xLc keep w t p f vs) σ H Q) :
    tLc (rI K mg C w) (rG K mg (Cb C) vs t) (rT K mg (Cb C) p) (rE K mg (Cb C) f) vs σ H Q := by
  obtain ⟨I, ι, env, st, s, re, ok⟩ := h
  refine ⟨I, ι, env, st, s, re, (OK.bind ok).mono fun it st1 H1 I1 ι1 x1 s1 ok1 J srv D hD => ?_⟩
  have s0 := s1.push hD (vs := []) (ds := []) .nil
  have hL : st1.length = ι1.length := s1.len.symm
  have loop := OK.ext (OK.bind0 ok1) (push_ext I1 ι1 D)
  have iD : (ι1 ++ [D])[st1.length]? = some D := by
    rw [hL, List.getElem?_append_right (Nat.le_refl _), Nat.sub_self]
    rfl
  refine ⟨fun i m H2 => ∃ I2 ι2 st2, Ext I1 (ι1 ++ [D]) I2 ι2 ∧ S3 K C.T H2 I2 ι2 st2 ∧ i + m = it.1.length ∧ OK K mg C.T (C.EX σ) I2 ι2 (lcL t p f vs it st1.length env (it.1.drop i) st2) (fun _ st' _ _ _ => OK K mg C.T (C.EX σ) I1 ι1 (lcEnd keep st1.length st') fun a _ H' I' ι' => ∀ v, RV K mg I' ι' a v → Q v H'),
    ⟨it.1.length, I1, ι1 ++ [D], _, Ext.refl _ _, s0, by omega, loop⟩, fun i m H2 hW => ?_⟩
  obtain ⟨I2, ι2, st2, x2, s2, em, ok2⟩ := hW
  by_cases hl : i < it.1.length
  · have ed : it.1.drop i = it.1[i] :: it.1.drop (i + 1) := List.drop_eq_getElem_cons hl
    rw [ed] at ok2
    unfold lcL at ok2
    split at ok2
    · next ow =>
      obtain ⟨gg, _⟩ := srv i H2 I2 ι2 st2 ((push_ext I1 ι1 D).trans x2) s2 ow
      obtain ⟨g1, g2⟩ := gg _ (List.getElem?_eq_getElem hl)
      refine .inr ⟨g1, fun H3 => ∃ I3 ι3 st3, Ext I1 (ι1 ++ [D]) I3 ι3 ∧ S3 K C.T H3 I3 ι3 st3 ∧ OK K mg C.T (C.EX σ) I3 ι3 (lcL t p f vs it st1.length env (it.1.drop (i + 1)) st3) (fun _ st' _ _ _ => OK K mg C.T (C.EX σ) I1 ι1 (lcEnd keep st1.length st') fun a _ H' I' ι' => ∀ v, RV K mg I' ι' a v → Q v H'), fun H3 hN => ?_, fun x H3 hy => ?_⟩
      · obtain ⟨I3, ι3, st3, y1, y2, y3⟩ := hN
        exact ⟨m - 1, by omega, I3, ι3, st3, y1, y2, by omega, y3⟩
      · obtain ⟨I3, x3, s3, q3⟩ := g2 x H3 hy
        split at ok2
        · exact ok2.elim
        · next env1 ht =>
          have re3 : RE K mg I3 ι2 (wipeE env vs) (wipe σ vs) := re_wipe (re.ext (x1.trans ((push_ext I1 ι1 D).trans (x2.trans x3)))) vs
          refine ⟨I3, ι2, wipeE env vs, st2, .d it.1[i], env1, s3, re3, q3, ht, fun σ4 re4 w4 => ⟨w4.trans (wipe_wipe σ vs), I3, ι2, env1, st2, s3, re4, (OK.safe (OK.ext ok2 x3)).mono fun b st4 H4 I4 ι4 x4 s4 ok4 => ?_⟩⟩
          cases b with
          | false => exact ⟨I4, ι4, st4, x2.trans (x3.trans x4), s4, ok4⟩
          | true =>
            rw [if_pos rfl] at ok4 ⊢
            refine ⟨I4, ι4, env1, st4, s4, re4.ext x4, (OK.safe ok4).mono fun y st5 H5 I5 ι5 x5 s5 ok5 v rv => ?_⟩
            split at ok5
            · exact ok5.elim
            · next d st6 hf =>
              obtain ⟨I6, x6, s6, q6⟩ := frz_ok s5 rv hf
              split at ok5
              · next acc ha =>
                split at ok5
                · next hz =>
                  have far := x2.trans (x3.trans (x4.trans (x5.trans x6)))
                  obtain ⟨b, us, k1, k2, k3, k4⟩ := s6.cell _ acc ha
                  have kD := pre_get far.pre iD
                  rw [kD] at k1
                  cases k1
                  exact ⟨us, k2, by rw [dpAll_len k3]; exact hz, I6, ι5, _, far, s6.write ha kD k2 (dpAll_append k3 (.cons q6 .nil)), ok5.ext x6⟩
                · exact ok5.elim
              · exact ok5.elim
    · exact ok2.elim
  · have ed : it.1.drop i = [] := List.drop_eq_nil_of_le (by omega)
    rw [ed] at ok2
    unfold lcL at ok2
    split at ok2
    · next ow =>
      obtain ⟨_, stop⟩ := srv i H2 I2 ι2 st2 ((push_ext I1 ι1 D).trans x2) s2 ow
      refine .inl ⟨stop (by omega), ?_⟩
      have ok3 := ok2 H2 I2 ι2 (Ext.refl _ _) s2
      have kD := pre_get x2.pre iD
      have pT : ι2.take st1.length = ι1 := pre_take ((List.prefix_append ι1 [D]).trans x2.pre) s1.len
      have ok3 : OK K mg C.T (C.EX σ) I1 ι1 (lcEnd keep st1.length st2) (fun a _ H' I' ι' => ∀ v, RV K mg I' ι' a v → Q v H') := ok3
      unfold lcEnd at ok3
      cases ha : st2[st1.length]? with
      | none =>
        rw [ha] at ok3
        exact ok3.elim
      | some oa =>
        cases oa with
        | none =>
          rw [ha] at ok3
          exact ok3.elim
        | some acc =>
          rw [ha] at ok3
          obtain ⟨b, us, k1, k2, k3, k4⟩ := s2.cell _ acc ha
          rw [kD] at k1
          cases k1
          cases keep with
          | true =>
            have s4 := s2.take (st1.length + 1)
            have pT1 : ι2.take (st1.length + 1) = ι1 ++ [D] := pre_take x2.pre (by rw [List.length_append, s1.len]; rfl)
            rw [pT1] at s4
            exact ok3 H2 I2 _ ⟨x2.same, List.prefix_append _ _⟩ s4 _ ⟨D, iD, rfl⟩
          | false =>
            obtain ⟨f1, f2, f3⟩ := s2.freeze ha kD k2 k3
            have s4 := f1.take st1.length
            rw [pT] at s4
            have e : (st2.set st1.length none).take st1.length = st2.take st1.length := List.take_set_of_le (Nat.le_refl _)
            rw [e] at s4
            exact ok3 H2 _ ι1 ⟨fun b o q => f2.same b o (x2.same b o q), List.prefix_refl _⟩ s4 _ f3
    · exact ok2.elim
theorem se_lc {keep : Bool} {elt iter : Expr} {ifs : List Expr} {scope : Scope} {own : List (Str × Nat)} {w : Ix'} {t : Tg} {p : Tx} (hc : X.calm = true) (hN : X.N.Nodup) (hi : SI X C tg iter w) (ok : BlkOk X.N X.env.scope scope own)
    (hg : ∀ (s : Shared) (H : Hp) (B : Addr) (cl : List (Str × Addr)) (fp : List Addr), SG (X.blk s H scope (compEnvC scope cl B X.env) fp) (Cb C) (own.map (·.2)) tg t)
    (ht : ∀ (s : Shared) (H : Hp) (B : Addr) (cl : List (Str × Addr)) (fp : List Addr), STs (X.blk s H scope (compEnvC scope cl B X.env) fp) (Cb C) ifs p)
    (he : ∀ (s : Shared) (H : Hp) (B : Addr) (cl : List (Str × Addr)) (fp : List Addr), SE (X.blk s H scope (compEnvC scope cl B X.env) fp) (Cb C) elt f) (hs : ∀ x, foldedSetIterable iter X.env x = pure x := by intro _; rfl) :
    SE X C (.ListComp elt [⟨tg, iter, ifs, 0⟩] scope pos) (xLc keep w t p f (own.map (·.2))) := pe_imp (pe_lc (g := rG X.K (mk X C) (Cb C) (own.map fun (q : Str × Nat) => q.2) t) (tt := rT X.K (mk X C) (Cb C) p) (te := rE X.K (mk X C) (Cb C) f) hc hN hi ok hg ht he hs) fun σ H Q h => lc_reads h
/-- y = [..] -/
theorem ps_lc {keep : Bool} {i : Nat} {y : Str} {py spos : Pos} {elt iter : Expr} {ifs : List Expr} {scope : Scope} {own : List (Str × Nat)} {w : Ix'} {t : Tg} {p : Tx} (hc : X.calm = true) (hN : X.N.Nodup) (hy : X.N[i]? = some y) (hyl : X.env.scope.names.lookup y = some .local)
    (hsw : swapsWith (.ListComp elt [⟨tg, iter, ifs, 0⟩] scope pos) (some (.Name y py)) spos.line X.env = pure true) (hi : SI X C tg iter w) (ok : BlkOk X.N X.env.scope scope own)
    (hg : ∀ (s : Shared) (H : Hp) (B : Addr) (cl : List (Str × Addr)) (fp : List Addr), SG (X.blk s H scope (compEnvC scope cl B X.env) fp) (Cb C) (own.map (·.2)) tg t)
    (ht : ∀ (s : Shared) (H : Hp) (B : Addr) (cl : List (Str × Addr)) (fp : List Addr), STs (X.blk s H scope (compEnvC scope cl B X.env) fp) (Cb C) ifs p)
    (he : ∀ (s : Shared) (H : Hp) (B : Addr) (cl : List (Str × Addr)) (fp : List Addr), SE (X.blk s H scope (compEnvC scope cl B X.env) fp) (Cb C) elt f) (hs : ∀ x, foldedSetIterable iter X.env x = pure x := by intro _; rfl) :
    SS X C (.Assign [.Name y py] (.ListComp elt [⟨tg, iter, ifs, 0⟩] scope pos) spos) (sSet i (xLc keep w t p f (own.map (·.2)))) :=
  ss_set (ps_imp (ps_setLc (g := rG X.K (mk X C) (Cb C) (own.map fun (q : Str × Nat) => q.2) t) (tt := rT X.K (mk X C) (Cb C) p) (te := rE X.K (mk X C) (Cb C) f) hc hN hy hyl hsw hi ok hg ht he hs) fun D σ H h => lc_reads h)

/-! ### try: body, except x: suite -/
/-- which classes the clause takes -/
abbrev Catch := Str → Option Bool
def calmB (o : Out Fl) : Out Fl := o.bind fun r st => match r with
  | .ex _ _ _ => .stuck
  | r => .ok r st
def sTry (ct : Catch) (u v : Sx) : Sx := fun env st => (u env st).bind fun r st => match r with
  | .ex e c y => match ct c with
    | some true => calmB (v e st)
    | _ => .stuck
  | r => .ok r st
theorem ss_tryO {cl : Value} {xn : Str} {np pos2 : Pos} {body suite : List Stmt} {b0 : Stmt} {u v : Sx} {ct : Catch} (hs : X.stack = X.env :: X.outer) (hf : X.env.frame = some X.env.locals) (hn : Names X xn cl) (tk : Tk X C)
    (hct : ∀ c D b, X.mg c = some (.ref D) → ct c = some b → PySem.W.exmOne X.K (.ref D) cl = some b)
    (hb : ∀ (C2 : Cfg) (pn : List (Addr × Obj)) (xe : Value → Shared → Prop), C2.T = C.T → C2.x = C.x → Tk (X.tr pn xe) C2 → PassesOwn (model X.prog X.w) X.A X.env xe → SB (X.tr pn xe) C2 body u)
    (hsu : ∀ (a : Addr) (oe : Obj) (cls : Value) (d : Option Addr) (pn : List (Addr × Obj)), Zc cls d oe → (∃ vs, oe.data = .fields vs) → SB (X.suite a ((a, oe) :: pn)) (Cb C) (b0 :: suite) v) :
    SS X C (.Try body [.ExceptHandler (some (.Name xn np)) none (b0 :: suite) pos2] [] [] pos) (sTry ct u v) := by
  refine ps_imp (ps_try_only (tb := fun W => rS X.K (mk X C) { C with EX := fun σ cls d H => W cls d σ H } u) (ts := fun _ _ _ => rS X.K (mk X C) (Cb C) v) (Wout := fun _ _ _ _ => False) hs hf hn takes_none5
    (fun W pn xe t2 po => hb { C with EX := fun σ cls d H => W cls d σ H } pn xe rfl rfl (takesN t2) po) hsu) fun D σ H ⟨I, ι, env, st, s, re, ok⟩ => ⟨I, ι, env, st, s, re, (OK.bind ok).mono fun r st1 H1 I1 ι1 x1 s1 ok1 => ?_⟩
  cases r with
  | nx e => exact ok1 H1 I1 ι1 (Ext.refl _ _) s1
  | rt a => exact ok1 H1 I1 ι1 (Ext.refl _ _) s1
  | bk e => exact ok1 H1 I1 ι1 (Ext.refl _ _) s1
  | ct e => exact ok1 H1 I1 ι1 (Ext.refl _ _) s1
  | ex e c y =>
    intro σ2 re2 D2 d2 v2 H2 I2 ι2 h1 h2 h3 h4 h5
    have ok1 : OK X.K (mk X C) C.T NoX I1 ι1 (match ct c with
      | some true => calmB (v e st1)
      | _ => .stuck) (GD X.K (mk X C) C D) := ok1
    cases hq : ct c with
    | none =>
      rw [hq] at ok1
      exact ok1.elim
    | some b =>
      rw [hq] at ok1
      refine ⟨b, hct c D2 b h1 hq, fun e1 a ha => ?_, fun e1 => ?_⟩
      · subst e1
        refine ⟨I2, ι2, e, st1, h3, re2.ext h2, (OK.bind (OK.ext ok1 h2)).mono fun r st5 H5 I5 ι5 x5 s5 g => ?_⟩
        cases r with
        | nx e => exact g H5 I5 ι5 (Ext.refl _ _) s5
        | rt a => exact g H5 I5 ι5 (Ext.refl _ _) s5
        | bk e => exact g H5 I5 ι5 (Ext.refl _ _) s5
        | ct e => exact g H5 I5 ι5 (Ext.refl _ _) s5
        | ex e c y => exact g.elim
      · subst e1
        exact ok1.elim
end
end Nz

end
section
set_option Elab.async false
set_option linter.all false
set_option maxRecDepth 100000
set_option maxHeartbeats 2000000
/-! own errors: a class under Refused; the block is the guide's, its field "what" -/
namespace PySem
namespace NzX
open PySem.W PySem.Calls PyProof.Rows PySem.HandSPX
/-! ### the text of __init__ -/
def iA (p1 p2 : Pos) : Arguments := { posonlyargs := [], args := [{ arg := "self", annotation := none, pos := p1 }, { arg := "what", annotation := none, pos := p2 }], vararg := none, kwonlyargs := [], kw_defaults := [], kwarg := none, defaults := [] }
def iB (q1 q2 q3 q4 q5 q6 q7 q8 q9 q0 : Pos) : List Stmt := [.Assign [.Attribute (.Name "self" q1) "what" q2] (.Name "what" q3) q4, .Assign [.Attribute (.Name "self" q5) "kind" q6] (.Attribute (.Attribute (.Name "self" q7) "__class__" q8) "__name__" q9) q0]
def iS : Scope := { kind := .function, names := [(PySem.Str.ofString "self", .local), (PySem.Str.ofString "what", .local)], isGenerator := false, isCoroutine := false, more := [] }
/-- what the written part says of Low, at C, and of its __init__, at fI -/
structure LowTxt (K : Frag) (mg : Str → Option Value) (nmC : Str) (C fI : Addr) : Prop where
  gC : mg nmC = some (.ref C)
  cls : ∃ nm q N bs bm sn sub ab col dd k0 k1 tn k3 k5, K.lookup C = some (excClassObj nm q C N bs bm true sn sub ab col dd k0 k1 (some (.str nmC tn)) k3 k5 "ValueError.__new__") ∧ refsVE bm = true
  sa : findIn K (.ref C) "__setattr__" = some (some (.builtin "object.__setattr__"))
  ga : findIn K (.ref C) "__getattribute__" = some (some (.builtin "BaseException.__getattribute__"))
  gg : findIn K (.ref C) "__getattr__" = some none
  noN : findIn K (.ref C) "what" = some none
  noK : findIn K (.ref C) "kind" = some none
  ca : findIn K (.ref C) "__class__" = some (some (.builtin "object.__class__"))
  cn : specialIn K (.builtin "object.__class__") "__get__" = some (some (.builtin "getset_descriptor.__get__"))
  ct : takesIn K (.builtin "object.__class__") = some true
  cm : mroIn K C (.type "object") = some true
  rd : readsIn K C (.type "type") = true
  iC : findIn K (.ref C) "__init__" = some (some (.ref fI))
  tC : typeIn K (.ref fI) = some (.type "function")
  kC : keepIn K (.ref C) = true
  exC : subIn K (.ref C) (.type "BaseException") = some true
  tyC : typeIn K (.ref C) = some (.type "type")
  hdC : hasDictIn K C = true
  te : exmOne K (.ref C) (.ref C) = some true
  fn : ∃ (oc : Value) (od : Option Addr) (doc pm : Value) (an : Option Addr) (cdv ct : Value) (osl : Array (Option Value)) (p1 p2 q1 q2 q3 q4 q5 q6 q7 q8 q9 q0 : Pos),
    K.lookup fI = some ⟨oc, od, .func (fnOf "__init__" "Refused.__init__" (iA p1 p2) (iB q1 q2 q3 q4 q5 q6 q7 q8 q9 q0) iS .none .none doc pm an cdv ct), osl⟩ ∧ codeIn K cdv "Refused.__init__" = true
theorem one_size (v : Value) : [v].length ≤ sizeLine := by
  rw [sizeLine_eq]
  exact (by decide : 1 ≤ 16777216)
theorem kept_but {K : Frag} {h h' : Heap} {x : Addr} (X : K.In h) (hx : K.lookup x = none) (k : ∀ b o, b ≠ x → h.get? b = some o → h'.get? b = some o) : K.In h' := fun a o e =>
  k a o (fun z => by rw [z, hx] at e; cases e) (X a o e)
theorem ldC {M : Model} {s : Shared} {name : Str} {scope : Scope} {L a : Addr} {cd : Value} {m : Str → Option Value} {x : Str} {pos : Pos} {v : Value} {Q : Value → Shared → Prop} {A : Around} {E : Value → Shared → Prop} (hn : s.heap.Ns L m) (hv : m x = some v) (h : Q v s)
    (hk : scope.kind = .function := by rfl) (hl : (envOfC name scope L a cd).kindOf x = some .local := by rfl) (hd : (x == ("__debug__" : Str)) = false := by decide) :
    wpAny M A (eval (.Name x pos) (envOfC name scope L a cd)) Q E s := wpAny_Name (wpAny_loadName_local hk hl hn hv h) hd
/-- what __init__ leaves of a fresh exception at x -/
structure InitEnd (h h' : Heap) (x C dx t1 : Addr) (nmC : Str) (v : Value) : Prop where
  keep : ∀ b o, b ≠ x → h.get? b = some o → h'.get? b = some o
  obj : h'.get? x = some { cls := .ref C, dict := some dx, data := .fields #[.ref t1, .none, .none, .none, .bool false, .none] }
  dbig : h.objs.size ≤ dx
  dne : dx ≠ x
  ns : ∃ tn, h'.Ns1 dx (fun y => if y = "kind" then some (.str nmC tn) else if y = "what" then some v else none)
/-- a made Low -/
structure OwnMade (h h' : Heap) (e C d : Addr) (nmC : Str) (v : Value) : Prop where
  keep : ∀ b o, h.get? b = some o → h'.get? b = some o
  new : h.objs.size ≤ e
  obj : ∃ oe vs, h'.get? e = some oe ∧ oe.cls = .ref C ∧ oe.dict = some d ∧ oe.data = .fields vs ∧ vs[1]? = some .none ∧ vs[2]? = some .none
  dbig : h.objs.size ≤ d
  dne : d ≠ e
  ns : ∃ tn, h'.Ns1 d (fun y => if y = "kind" then some (.str nmC tn) else if y = "what" then some v else none)
section
open Builtin Builtin.ObjectAttr Builtin.Getset_descriptor
variable {prog : Program} {w : World} {A : Around} {E : Value → Shared → Prop} {R : Result → Shared → Prop} {s : Shared} {K : Frag} {mg : Str → Option Value} {nmC : Str} {C fI : Addr}
/-! ### self.__class__.__name__ -/
theorem nm_dga (d tp : Value) (x : Addr) : descrGetArgs ⟨[d, .ref x, tp], []⟩ = pure (d, some (.ref x), given tp) := by
  first | rfl | kernel_rfl
theorem own_name {x : Addr} {oc : Obj} {v : Value} {tp : Value} (X : K.In s.heap) (ht : typeIn K (.ref x) = some (.type "type")) (hx : s.heap.get? x = some oc) (hs : oc.slots[2]? = some (some v)) (h : R (.ok (.ret v)) s) :
    codeAny (model prog w) A (.call (.builtin "getset_descriptor.__get__") ⟨[.builtin "type.__name__", .ref x, tp], []⟩) R s := by
  obtain ⟨hh, g, dr, t, os⟩ := s
  have t0 : Looks (model prog w) hh (typeOf (.ref x)) (.type "type") := looks_typeIn X ht
  have t1 : Looks (model prog w) hh (isSubtype (.type "type") (.type "type")) true := Looks.of_pure (by rw [isSubtype_type]; kernel_rfl)
  refine codeAny_call_builtin KF.slot_gs.plain KF.entry_gs (KF.slot_gs.check _ _ _ _ _ _ _ _ ktyn_type (KF.args_gs _ _ _) ?_)
  unfold Builtin.«getset_descriptor.__get__» descrGet
  rw [nm_dga]
  refine wpAny_bind (wpAny_pure ?_)
  unfold descrGetter descrCheckInstance descrNameAndClass isInstance
  simp only [ktyn_owner]
  repeat lk
  refine ⟨Code.quiet_builtin _ (by decide +kernel), codeAny_builtin ktyn_entry ?_⟩
  unfold Builtin.«type.__name__» keptObject slotAt
  dsimp only
  refine wpAny_bind (wpAny_bind (wpAny_loadPart hx ?_))
  refine wpAny_pure ?_
  rw [hs]
  exact wpAny_pure h
theorem name_cls (T : typeIn K (.ref C) = some (.type "type")) : findCls K (.ref C) (.type "type") "__name__" = some (.get (.builtin "getset_descriptor.__get__") (.builtin "type.__name__") (.ref C) (.type "type")) := by
  have e1 : findIn K (.type "type") "__name__" = some (some (.builtin "type.__name__")) := by unfold findIn; kernel_rfl
  have e0 : typeIn K (.builtin "type.__name__") = some (.type "getset_descriptor") := by unfold typeIn; kernel_rfl
  have e2 : specialIn K (.builtin "type.__name__") "__get__" = some (some (.builtin "getset_descriptor.__get__")) := by
    unfold specialIn
    rw [e0, Option.bind_some]
    unfold findIn
    kernel_rfl
  have e3 : takesIn K (.builtin "type.__name__") = some true := by
    have e4 : specialIn K (.builtin "type.__name__") "__set__" = some (some (.builtin "getset_descriptor.__set__")) := by
      unfold specialIn
      rw [e0, Option.bind_some]
      unfold findIn
      kernel_rfl
    unfold takesIn
    rw [e4]
  unfold findCls
  rw [e1]
  simp only [Option.bind_some, e2, e3]
theorem name_of {x : Addr} {oc : Obj} {v : Value} {ex : Bool} {Q : Value → Shared → Prop} (X : K.In s.heap) (rd : readsIn K x (.type "type") = true) (ht : typeIn K (.ref x) = some (.type "type")) (hx : s.heap.get? x = some oc) (hs : oc.slots[2]? = some (some v)) (hv : handedIn v = true)
    (h : Q v { s with toks := s.toks + 1 }) : wpAny (model prog w) A (getAttr (.ref x) "__name__" ex) Q E s := by
  refine cls_read X rd (name_cls ht) ?_
  show wpAny _ _ (do ret (← holding [Value.builtin "type.__name__"] (call (.builtin "getset_descriptor.__get__") [.builtin "type.__name__", .ref x, .type "type"]))) _ _ _
  refine wpAny_bind (wpAny_holding (wpAny_call (own_name (s := { s with toks := s.toks + 1 }) X ht hx hs ?_)))
  exact wpAny_pure (handed_on hv h)
theorem class_of {x : Addr} {ox : Obj} {od : Option Obj} {ex : Bool} {Q : Value → Shared → Prop} (T : LowTxt K mg nmC C fI) (X : K.In s.heap) (I : InstAt s.heap x ox C od) (h : Q (.ref C) { s with toks := s.toks + 1 }) : wpAny (model prog w) A (getAttr (.ref x) "__class__" ex) Q E s := by
  have hcl : (clsIn K C).isSome = true := by
    obtain ⟨cd, z, _⟩ := any_some T.hdC
    rw [z]
    rfl
  obtain ⟨hp, g, d, t, os⟩ := s
  have l0 := I.type (M := model prog w)
  have l1 := looks_findIn (M := model prog w) X T.ga
  have l2 := looks_findIn (M := model prog w) X T.gg
  have l3 := looks_find (M := model prog w) X I (findObj_dataE hcl T.ca T.cn T.ct)
  have be : Looks (model prog w) hp (isInstance (.ref x) (.type "BaseException")) true := l0.andThen (looks_subIn X T.exC)
  have n2 : (Value.builtin "BaseException.__getattribute__" == Value.builtin "object.__getattribute__") = false := by decide +kernel
  unfold getAttr getAttrBy
  refine wpAny_bind (wpAny_mkText (wpAny_holding (wpAny_bind (l0.at (wpAny_bind (l1.at ?_))))))
  dsimp only
  rw [n2, Bool.and_false, if_neg Bool.false_ne_true]
  unfold getAttrByItsOwn hookBefore
  refine wpAny_bind ?_
  rw [if_pos (by rfl)]
  refine l2.at (wpAny_bind (wpAny_attempt (wpAny_holding ?_)))
  unfold callGetattribute
  rw [if_neg (by cases ex <;> exact Bool.false_ne_true)]
  unfold boundAndCalled
  rw [PySem.F.excAttr_ValueError.ga.bind (.ref x)]
  refine wpAny_bind (wpAny_pure (wpAny_call (codeAny_call_builtin PySem.F.excAttr_ValueError.ga.plain PySem.F.entry_bexc_ga ?_)))
  refine @PySem.W.check_slot (model prog w) _ _ ⟨hp, g, d, t + 1, os⟩ "BaseException.__getattribute__" "BaseException" "__getattribute__" _ _ [] _ (by decide +kernel) (by decide +kernel) be (PySem.F.args_bexc_ga (.ref x) (.str "__class__" t)) ?_
  unfold Builtin.«object.__getattribute__»
  refine wpAny_bind (wpAny_of_eq (a := ((Value.ref x : Value), [Value.str "__class__" t])) (by first | rfl | (simp only [slotArgs]; rfl)) ?_)
  refine wpAny_bind (wpAny_pure (wpAny_bind (l0.at (wpAny_bind (l3.at (wpAny_bind (wpAny_holding (wpAny_call (class_get (s := ⟨hp, g, d, t + 1, os⟩) X I T.cm ?_)))))))))
  exact wpAny_pure (handed_on rfl h)
theorem low_init (T : LowTxt K mg nmC C fI) {x t0 : Addr} {v : Value} (X : K.In s.heap) (hlim : s.heap.NoLimit) (hx : s.heap.get? x = some (excO C t0)) (hnx : K.lookup x = none) (hroom : A.depth < recursionLimit)
    (hq : ∀ h' tk dx, InitEnd s.heap h' x C dx t0 nmC v → R (.ok (.ret .none)) { s with heap := h', toks := tk }) :
    codeAny (model prog w) A (.call (.ref fI) ⟨[.ref x, v], []⟩) R s := by
  obtain ⟨oc, od, doc, pm, an, cdv, ct, osl, p1, p2, q1, q2, q3, q4, q5, q6, q7, q8, q9, q0, ho, hcd⟩ := T.fn
  obtain ⟨nm, q, N, bs, bm, sn, sub, ab, col, dd, k0, k1, tn, k3, k5, hC, hbm⟩ := T.cls
  have hcl : clsIn K C = some { name := nm, bases := bs, mro := .ref C :: bm, ns := N, qualname := q, hasDict := true, slotNames := sn, subclasses := sub, abstract := ab, collection := col, hasDel := false } := by unfold clsIn; rw [hC] <;> rfl
  refine Att.call_fn (binds := [("self", .ref x), ("what", v)]) X hlim ho hcd hroom (BindsTo.of_eq (by first | rfl | with_unfolding_all rfl)) (by first | rfl | decide | with_unfolding_all rfl) (fun s₁ IC => ?_) rfl rfl rfl
  obtain ⟨h₁, tk₁, rfl⟩ := IC.toInCall.same
  have k : ∀ b o, s.heap.get? b = some o → h₁.get? b = some o := IC.toInCall.keep
  have hn := IC.toInCall.ns
  have hxL : s.heap.objs.size ≠ x := Nat.ne_of_gt (Heap.lt_size hx)
  have X₁ : K.In h₁ := X.keeps k
  have hx₁ := k _ _ hx
  -- self.what = what
  show wpAny _ _ (execs _ _) _ _ _
  refine wpAny_execs_cons (plainObj_wpAny_Assign_Attribute ?_)
  refine ldC (v := v) hn (by first | rfl | with_unfolding_all rfl | kernel_rfl) (ldC (v := .ref x) hn (by first | rfl | with_unfolding_all rfl | kernel_rfl) ?_)
  refine set_plain X₁ (ox := excO C t0) (od := none) ⟨hx₁, rfl, rfl, trivial⟩ T.sa ?_
  refine exc_osa X₁ hx₁ hcl (show refsVE (.ref C :: bm) = true from hbm) rfl T.noN (fun h₃ tk₃ dx k₃ dn dne hx₃ hn₃ => ?_)
  have hneX : ∀ b o, K.lookup b = some o → b ≠ x := fun b o e z => by rw [z, hnx] at e; cases e
  have X₃ : K.In h₃ := fun b o e => k₃ b o (hneX b o e) (X₁ b o e)
  have hnL : h₃.Ns s.heap.objs.size _ := hn.at fun o e => k₃ _ o hxL e
  have hC3 : h₃.get? C = some (excClassObj nm q C N bs bm true sn sub ab col dd k0 k1 (some (.str nmC tn)) k3 k5 "ValueError.__new__") := X₃ _ _ hC
  -- self.kind = self.__class__.__name__
  obtain ⟨od3, es3, ep3, e31, e32, e33⟩ := id hn₃
  have I3 : InstAt h₃ x { cls := .ref C, dict := some dx, data := .fields #[.ref t0, .none, .none, .none, .bool false, .none] } C (some od3) := ⟨hx₃, rfl, rfl, e31⟩
  show wpAny _ _ (execs _ _) _ _ _
  refine wpAny_execs_cons (plainObj_wpAny_Assign_Attribute ?_)
  refine L2.attr_of rfl (L2.attr_of rfl (ldC (v := .ref x) hnL (by first | rfl | with_unfolding_all rfl | kernel_rfl) ?_))
  refine class_of T X₃ I3 (name_of (oc := excClassObj nm q C N bs bm true sn sub ab col dd k0 k1 (some (.str nmC tn)) k3 k5 "ValueError.__new__") X₃ T.rd T.tyC hC3 rfl rfl ?_)
  refine ldC (v := .ref x) hnL (by first | rfl | with_unfolding_all rfl | kernel_rfl) ?_
  refine set_plain X₃ I3 T.sa ?_
  refine OEX.osa_old (nl := ["what"]) X₃ hx₃ hn₃ (Within.cons "what" v Within.nil) (by decide) hcl (show refsVE (.ref C :: bm) = true from hbm) rfl T.noK (fun h₄ tk₄ k₄ hn₄ => ?_)
  show wpAny _ _ (execs _ _) _ _ _
  have z : s.heap.objs.size < h₁.objs.size := hn.lt
  have ndx : ∀ b o, h₁.get? b = some o → b ≠ dx := fun b o e q => by
    have := Heap.lt_size e
    rw [q] at this
    exact absurd (Nat.lt_of_lt_of_le this dn) (Nat.lt_irrefl _)
  exact wpAny_execs_nil (hq h₄ tk₄ dx ⟨fun b o hb e => k₄ b o (ndx b o (k b o e)) (k₃ b o hb (k b o e)), k₄ _ _ (Ne.symm dne) hx₃, Nat.le_of_lt (Nat.lt_of_lt_of_le z dn), dne, ⟨tn, hn₄⟩⟩)
theorem low_made (T : LowTxt K mg nmC C fI) {v : Value} (X : K.In s.heap) (hlim : s.heap.NoLimit) (hroom : A.depth + 1 < recursionLimit)
    (hq : ∀ h' tk e d, OwnMade s.heap h' e C d nmC v → R (.ok (.ret (.ref e))) { s with heap := h', toks := tk }) :
    codeAny (model prog w) A (.call (.ref C) ⟨[v], []⟩) R s := by
  obtain ⟨nm, q, N, bs, bm, sn, sub, ab, col, dd, k0, k1, tn, k3, k5, hC, hbm⟩ := T.cls
  obtain ⟨hp, g, dr, tk, os⟩ := s
  have k : ∀ b o, hp.get? b = some o → ((hp.push (kdv_tup [v])).push (excO C hp.objs.size)).get? b = some o := fun b o e => Heap.get?_push_of_some _ (Heap.get?_push_of_some _ e)
  have hget : ((hp.push (kdv_tup [v])).push (excO C hp.objs.size)).get? (hp.objs.size + 1) = some (excO C hp.objs.size) := by heap_get
  have hnx : K.lookup (hp.objs.size + 1) = none := by
    cases e : K.lookup (hp.objs.size + 1) with
    | none => rfl
    | some o =>
      have z : hp.get? (hp.objs.size + 1) = some o := X _ _ e
      exact absurd (Nat.lt_of_succ_lt (Heap.lt_size z)) (Nat.lt_irrefl _)
  refine call_own F.excBase_ValueError (fun X => refsVE_contains X bm hbm) (X _ _ hC) (looks_findIn X T.iC) (fun self => bind_fn X self T.tC) (one_size v) ?_
  refine low_init (s := ⟨(hp.push (kdv_tup [v])).push (excO C hp.objs.size), g, dr, tk, os⟩) T (X.keeps k) (hlim.keeps k) hget hnx ?_ fun h' tk' dx ⟨k', hx, dn, dne, hns⟩ => ?_
  · show A.depth + 1 < recursionLimit
    exact hroom
  · have old : ∀ b o, hp.get? b = some o → h'.get? b = some o := fun b o e => k' b o (Nat.ne_of_lt (Nat.lt_succ_of_lt (Heap.lt_size e))) (k b o e)
    have z : hp.objs.size + 1 + 1 ≤ dx := by
      first
        | (simpa only [Heap.size_push] using dn)
        | exact dn
        | (have q := dn; rw [Heap.size_push, Heap.size_push] at q; exact q)
    exact ⟨rfl, hq h' tk' (hp.objs.size + 1) dx ⟨old, Nat.le_succ _, ⟨_, _, hx, rfl, rfl, rfl, rfl, rfl⟩, Nat.le_trans (Nat.le_trans (Nat.le_succ _) (Nat.le_succ _)) z, dne, hns⟩⟩
end
end NzX
end PySem
namespace L2
open PySem PySem.Spec PyProof.Rows
theorem relO_low {v : V} {v' : Value} {nm : Str} {tn : Tok} (r : RelV v v') (f : Str) : RelO (List.lookup f [(("what" : Str), v), (("kind" : Str), .str nm)]) (if f = "kind" then some (.str nm tn) else if f = "what" then some v' else none) := by
  have nk : (("kind" : Str) == ("what" : Str)) = false := by decide
  have nw : ¬ (("what" : Str) = "kind") := by decide
  by_cases hk : f = "kind"
  · subst hk
    rw [if_pos rfl]
    have q : List.lookup ("kind" : Str) [(("what" : Str), v), (("kind" : Str), V.str nm)] = some (V.str nm) := by simp [List.lookup, nk]
    rw [q]
    exact ⟨tn, rfl⟩
  · rw [if_neg hk]
    have qk : (f == ("kind" : Str)) = false := by simpa using hk
    by_cases hw : f = "what"
    · subst hw
      rw [if_pos rfl]
      have q : List.lookup ("what" : Str) [(("what" : Str), v), (("kind" : Str), V.str nm)] = some v := by simp [List.lookup]
      rw [q]
      exact r
    · rw [if_neg hw]
      have qw : (f == ("what" : Str)) = false := by simpa using hw
      have q2 : List.lookup f [(("what" : Str), v), (("kind" : Str), V.str nm)] = none := by simp [List.lookup, qw, qk]
      rw [q2]
      trivial
section
variable {X : Cx} {nmC : Str} {C fI : Addr}
/-- Low(e) -/
def tMkLow (nmC : Str) (C : Addr) (ta : TA) : St → Hp → XK → Prop := fun σ H Q => ta σ H fun vs H1 => ∃ v, vs = [v] ∧ ∀ d, H1 d = none → Q (.ref C) (some d) (upd H1 d (Nz.xdF nmC v))
theorem pmk_low {a : Expr} {ta : TA} {p pos : Pos} {k : Nat} (T : PySem.NzX.LowTxt X.K X.mg nmC C fI) (hr : Room k X.A) (ha : PA X [a] ta) (hg : Gl X nmC := by rfl) (hdb : (nmC == ("__debug__" : Str)) = false := by decide)
    (he : starEach (a :: []) X.env = (false, eval a X.env) :: starEach [] X.env := by rfl) (hpl : (backTo pos (starEach [] X.env)).any (·.1) = false := by rfl) :
    L2N.PMk X (.Call (.Name nmC p) [a] [] pos) (tMkLow nmC C ta) := by
  intro pins s σ H Q I h
  refine wpAny_Call_Name_kw (ld_glob I hg T.gC ?_ hdb)
  refine PySem.W.callWith_K (h₀ := X.base) I.ok.mod.kin T.kC (thn (ha.run pos pins s σ H _ I h) fun us s1 hh => ?_) he hpl
  obtain ⟨vs, H1, I1, r1, v, ev, q1⟩ := hh
  subst ev
  refine ⟨I1.kIn, ?_⟩
  cases r1 with
  | cons rv rn =>
    rename_i v' us'
    cases rn
    show wpAny _ _ (call (.ref C) [v']) _ _ _
    have hlim := I1.nolimit
    obtain ⟨hp, g, dr, tk, os⟩ := s1
    refine wpAny_call (PySem.NzX.low_made T I1.kIn hlim (by have := hr.dp; omega) fun h' tk' e d M => ?_)
    show L2N.MkP X pins σ Q (.ref e) ⟨h', g, dr, tk', os⟩
    obtain ⟨oe, fv, hoe, hc, hd, hdat, h1, h12⟩ := M.obj
    have hns := M.ns
    obtain ⟨G', g1, g2⟩ := restrict h' fun b => decide (b ≠ e)
    have gk : ∀ b, b ≠ e → G'.get? b = h'.get? b := fun b hb => g1 b (decide_eq_true hb)
    have ge : G'.get? e = none := g2 e (by simp)
    have old : ∀ b o, hp.get? b = some o → G'.get? b = some o := fun b o q => (gk b (Nat.ne_of_lt (Nat.lt_of_lt_of_le (Heap.lt_size q) M.new))).trans (M.keep b o q)
    have ob : ObjOk X.prog X.w (upd H1 d (Nz.xdF nmC v)) G' d (Nz.xdF nmC v) := by
      obtain ⟨tn, hns⟩ := hns
      exact ⟨_, hns.at (fun o q => (gk d M.dne).trans q), fun f => relO_low rv f⟩
    have J : Inv X pins σ (upd H1 d (Nz.xdF nmC v)) ⟨G', g, dr, tk', os⟩ := I1.laid (t' := tk') old M.dbig ob
    refine ⟨e, oe, fv, ⟨G', g, dr, tk', os⟩, _, .ref C, some d, rfl, J, fun b o q => ?_, ge, hoe, ⟨hc, hd, fun ws e => by rw [hdat] at e; cases e; exact h12⟩, hdat, h1, ?_, rfl, I1.bare, raises_own T.exC T.tyC, q1 d (I1.hok.fresh M.dbig)⟩
    · by_cases hb : b = e
      · have q' : G'.get? b = some o := q
        rw [hb, ge] at q'; cases q'
      · exact (gk b hb).symm.trans q
    · rw [upd_ne (Ne.symm M.dne)]
      exact I1.hok.fresh M.new
/-- raise Low(e) -/
def tRaiseLow (nmC : Str) (C : Addr) (W : WX) (ta : TA) : TS := fun _ σ H => tMkLow nmC C ta σ H fun cls d H' => W cls d σ H'
theorem ps_raiseLow {a : Expr} {ta : TA} {W : WX} {p pos pos2 : Pos} {k : Nat} (hc : X.calm = true) (T : PySem.NzX.LowTxt X.K X.mg nmC C fI) (hr : Room k X.A) (tk : L2N.Takes X W) (ha : PA X [a] ta) (hg : Gl X nmC := by rfl) (hdb : (nmC == ("__debug__" : Str)) = false := by decide)
    (he : starEach (a :: []) X.env = (false, eval a X.env) :: starEach [] X.env := by rfl) (hpl : (backTo pos (starEach [] X.env)).any (·.1) = false := by rfl) :
    PS X (.Raise (some (.Call (.Name nmC p) [a] [] pos)) none pos2) (tRaiseLow nmC C W ta) := L2N.ps_raise hc tk (pmk_low T hr ha hg hdb he hpl)
end
end L2

end
section
set_option Elab.async false
set_option linter.all false
set_option maxRecDepth 100000
set_option maxHeartbeats 2000000
namespace Nz
open PySem PySem.Spec PyProof.Rows L2
open LamX (Tabs TabS CodeO)
section
variable {X : Cx} {C : Cfg} {tg e a b c : Expr} {es : List Expr} {f g h : Ex} {fa : Ax} {pos p0 pos2 pos3 : Pos} {k : Nat} {x nmC : Str} {Cl fI : Addr}

/-! ### raise -/
def sRaise (c : Str) (fa : Ax) : Sx := fun env st => sb env (fa env st) fun as st => match as with
  | [a] => match frz st a with
    | some (d, st) => .ok (.ex env c d) st
    | none => .stuck
  | _ => .stuck
theorem ss_raise (hc : X.calm = true) (LT : PySem.NzX.LowTxt X.K X.mg nmC Cl fI) (hr : Room k X.A) (tk : Tk X C) (ha : SA X C [a] fa) (hg : Gl X nmC := by rfl) (hdb : (nmC == ("__debug__" : Str)) = false := by decide)
    (he : starEach (a :: []) X.env = (false, eval a X.env) :: starEach [] X.env := by rfl) (hpl : (backTo pos (starEach [] X.env)).any (·.1) = false := by rfl) :
    SS X C (.Raise (some (.Call (.Name nmC p0) [a] [] pos)) none pos2) (sRaise nmC fa) :=
  ps_imp (ps_raiseLow (W := fun cls d σ H => C.EX σ cls d H) hc LT hr tk ha hg hdb he hpl) fun D σ H ⟨I, ι, env, st, s, re, ok⟩ => ⟨I, ι, env, st, s, re, (OK.sb re ok).mono fun as st1 H1 I1 ι1 x1 s1 ok1 vs rvs => by
    split at ok1
    · next a =>
      obtain ⟨v, rfl, rv⟩ := rvs1 rvs
      cases hf : frz st1 a with
      | none =>
        rw [hf] at ok1
        exact ok1.elim
      | some q =>
        obtain ⟨d, st2⟩ := q
        rw [hf] at ok1
        obtain ⟨I2, x2, s2, q2⟩ := frz_ok s1 rv hf
        refine ⟨v, rfl, fun dd hdd => ?_⟩
        exact ok1 H1 I2 ι1 x2 s2 σ (re.ext (x1.trans x2)) Cl dd v _ I2 ι1 LT.gC (Ext.refl _ _) (s2.junk hdd _) upd_same q2
    · exact ok1.elim⟩

/-! ### try: body, except x as n: suite -/
def dropX : Option EV → Option EV
  | some (.exc _ _) => none
  | some .clo => none
  | o => o
theorem re_drop {K : PySem.W.Frag} {m m' : Mx} {I : Hp} {ι : List Addr} {env : Env'} {σ : L2.St} (hm : m.g = m'.g) (h : RE K m I ι env σ) : RE K m' I ι (env.map dropX) σ := by
  refine ⟨by rw [List.length_map]; exact h.1, fun i y q => ?_⟩
  rw [List.getElem?_map] at q
  obtain ⟨o, ho, e⟩ := Option.map_eq_some_iff.mp q
  cases o with
  | none => cases e
  | some z =>
    obtain ⟨v, h1, h2⟩ := h.2 i z ho
    cases z with
    | d x => cases e; exact ⟨v, h1, h2⟩
    | ref n => cases e; exact ⟨v, h1, h2⟩
    | fz ds => cases e; exact ⟨v, h1, h2⟩
    | exc c x => cases e
    | clo => cases e
def sTryA (i : Nat) (ct : Catch) (u v : Sx) : Sx := fun env st => (u env st).bind fun r st => match r with
  | .ex e c y => match ct c with
    | some true => (v ((e.map dropX).set i (some (.exc c y))) st).bind fun r st => match r with
      | .nx e2 => .ok (.nx ((e2.map dropX).set i none)) st
      | .bk e2 => .ok (.bk ((e2.map dropX).set i none)) st
      | .ct e2 => .ok (.ct ((e2.map dropX).set i none)) st
      | .rt a => match dropX (some a) with
        | some a => .ok (.rt a) st
        | none => .stuck
      | .ex _ _ _ => .stuck
    | some false => .ok (.ex e c y) st
    | none => .stuck
  | r => .ok r st
def refOf : Value → Addr
  | .ref a => a
  | _ => 0
theorem rv_drop {K : PySem.W.Frag} {m m' : Mx} {I : Hp} {ι : List Addr} {x y : EV} {v : V} (hm : m.g = m'.g) (h : dropX (some x) = some y) (r : RV K m I ι x v) : RV K m' I ι y v := by
  cases x with
  | d x => cases h; exact r
  | ref n => cases h; exact r
  | fz ds => cases h; exact r
  | exc c x => cases h
  | clo => cases h
theorem ss_tryA {cl : Value} {xn n : Str} {i : Nat} {np pos2 : Pos} {body suite : List Stmt} {b0 : Stmt} {u v : Sx} {ct : Catch} (hs : X.stack = X.env :: X.outer) (hf : X.env.frame = some X.env.locals) (hN : X.N.Nodup) (hi : X.N[i]? = some n) (hln : X.env.kindOf n = some .local)
    (hn : Names X xn cl) (tk : Tk X C) (hct : ∀ c D b, X.mg c = some (.ref D) → ct c = some b → PySem.W.exmOne X.K (.ref D) cl = some b)
    (hb : ∀ (C2 : Cfg) (pn : List (Addr × Obj)) (xe : Value → Shared → Prop), C2.T = C.T → C2.x = C.x → Tk (X.tr pn xe) C2 → PassesOwn (model X.prog X.w) X.A X.env xe → SB (X.tr pn xe) C2 body u)
    (hsu : ∀ (a : Addr) (oe : Obj) (D dd : Addr) (pn : List (Addr × Obj)), L2N.Zn (.ref D) (some dd) oe → (∃ vs, oe.data = .fields vs) → SB (X.suite a ((a, oe) :: pn)) ⟨C.T, fun _ => NoX, { xa := a, xc := D, xd := dd }⟩ (b0 :: suite) v) :
    SS X C (.Try body [.ExceptHandler (some (.Name xn np)) (some n) (b0 :: suite) pos2] [] [] pos) (sTryA i ct u v) := by
  refine ps_imp (L2N.ps_try_as (i := i) (tb := fun W => rS X.K (mk X C) { C with EX := fun σ cls d H => W cls d σ H } u)
    (ts := fun a cls d => match cls, d with
      | .ref D, some dd => rS X.K ⟨X.mg, { xa := a, xc := D, xd := dd }⟩ ⟨C.T, fun _ => NoX, { xa := a, xc := D, xd := dd }⟩ v
      | _, _ => tNever) (Wout := fun cls d σ H => C.EX σ cls d H) hs hf hN hi hln hn tk
    (fun W pn xe t2 po => hb { C with EX := fun σ cls d H => W cls d σ H } pn xe rfl rfl t2 po) (fun a oe cls d pn hz hfl => ?_)) fun D σ H ⟨I, ι, env, st, s, re, ok⟩ => ⟨I, ι, env, st, s, re, (OK.bind ok).mono fun r st1 H1 I1 ι1 x1 s1 ok1 => ?_⟩
  · split
    · exact hsu a oe _ _ pn hz hfl
    · exact pss_never
  cases r with
  | nx e => exact ok1 H1 I1 ι1 (Ext.refl _ _) s1
  | rt a => exact ok1 H1 I1 ι1 (Ext.refl _ _) s1
  | bk e => exact ok1 H1 I1 ι1 (Ext.refl _ _) s1
  | ct e => exact ok1 H1 I1 ι1 (Ext.refl _ _) s1
  | ex e c y =>
    intro σ2 re2 D2 d2 v2 H2 I2 ι2 h1 h2 h3 h4 h5
    cases hq : ct c with
    | none =>
      dsimp only at ok1
      rw [hq] at ok1
      exact ok1.elim
    | some b =>
      dsimp only at ok1
      rw [hq] at ok1
      refine ⟨b, hct c D2 b h1 hq, fun e1 a ha => ?_, fun e1 => ?_⟩
      · subst e1
        -- the error's own dict is known from now on
        have sm : ∀ b o, I2 b = some o → upd I2 d2 (xdF c v2) b = some o := fun b o q => by
          by_cases z : b = d2
          · subst z
            rw [upd_same]
            exact h4.symm.trans (h3.im _ _ q)
          · rw [upd_ne z]
            exact q
        have x3 : Ext I2 ι2 (upd I2 d2 (xdF c v2)) ι2 := ⟨sm, List.prefix_refl _⟩
        have s3 : S3 X.K C.T H2 (upd I2 d2 (xdF c v2)) ι2 st1 := by
          refine ⟨fun b o q => ?_, h3.len, h3.nd, fun n ds q => ?_, h3.there, h3.tabs, fun b ps q => ?_⟩
          · by_cases z : b = d2
            · subst z
              rw [upd_same] at q
              rw [h4]
              exact q
            · rw [upd_ne z] at q
              exact h3.im b o q
          · obtain ⟨b, us, g1, g2, g3, g4⟩ := h3.cell n ds q
            exact ⟨b, us, g1, g2, dpAll_mono sm _ _ g3, by rw [upd_ne (ne_of g2 h4 (by intro z; cases z))]; exact g4⟩
          · by_cases z : b = d2
            · subst z
              rw [upd_same] at q
              cases q
            · rw [upd_ne z] at q
              exact h3.notb b ps q
        have re3 : RE X.K ⟨X.mg, { xa := a, xc := D2, xd := d2 }⟩ (upd I2 d2 (xdF c v2)) ι2 ((e.map dropX).set i (some (.exc c y))) (σ2.set i (some (.ref a))) :=
          RE.set (mg := ⟨X.mg, { xa := a, xc := D2, xd := d2 }⟩) (x := .exc c y) (v := .ref a) (re_drop (m := mk X C) (m' := ⟨X.mg, { xa := a, xc := D2, xd := d2 }⟩) rfl (re2.ext (h2.trans x3))) i (show RV X.K ⟨X.mg, { xa := a, xc := D2, xd := d2 }⟩ _ ι2 (.exc c y) (.ref a) from ⟨rfl, h1, v2, upd_same, dp_mono sm _ _ h5⟩)
        refine ⟨upd I2 d2 (xdF c v2), ι2, _, st1, s3, re3, (OK.bind (OK.ext ok1 (h2.trans x3))).mono fun r st5 H5 I5 ι5 x5 s5 gg => ?_⟩
        cases r with
        | nx e2 => exact fun σ6 re6 => gg H5 I5 ι5 (Ext.refl _ _) s5 _ (re_none (re_drop (m := ⟨X.mg, { xa := a, xc := D2, xd := d2 }⟩) (m' := mk X C) rfl re6) i)
        | bk e2 => exact fun σ6 re6 => gg H5 I5 ι5 (Ext.refl _ _) s5 _ (re_none (re_drop (m := ⟨X.mg, { xa := a, xc := D2, xd := d2 }⟩) (m' := mk X C) rfl re6) i)
        | ct e2 => exact fun σ6 re6 => gg H5 I5 ι5 (Ext.refl _ _) s5 _ (re_none (re_drop (m := ⟨X.mg, { xa := a, xc := D2, xd := d2 }⟩) (m' := mk X C) rfl re6) i)
        | rt a2 =>
          intro v rv
          dsimp only at gg
          cases hd : dropX (some a2) with
          | none =>
            rw [hd] at gg
            exact gg.elim
          | some a3 =>
            rw [hd] at gg
            exact gg H5 I5 ι5 (Ext.refl _ _) s5 v (rv_drop (m := ⟨X.mg, { xa := a, xc := D2, xd := d2 }⟩) (m' := mk X C) rfl hd rv)
        | ex e2 c2 y2 => exact gg.elim
      · subst e1
        exact ok1 H1 I1 ι1 (Ext.refl _ _) s1 σ2 re2 D2 d2 v2 H2 I2 ι2 h1 h2 h3 h4 h5

/-! ### the caught error -/
/-- what the class D says, for e.what and isinstance(e, ..) -/
structure ExK (K : PySem.W.Frag) (D : Addr) : Prop where
  ga : PySem.W.findIn K (.ref D) "__getattribute__" = some (some (.builtin "BaseException.__getattribute__"))
  gg : PySem.W.findIn K (.ref D) "__getattr__" = some none
  ex : PySem.W.subIn K (.ref D) (.type "BaseException") = some true
  hd : PySem.W.hasDictIn K D = true
  noN : PySem.W.findIn K (.ref D) "what" = some none
  ca : PySem.W.findIn K (.ref D) "__class__" = some (some (.builtin "object.__class__"))
  cn : PySem.W.specialIn K (.builtin "object.__class__") "__get__" = some (some (.builtin "getset_descriptor.__get__"))
  ct : PySem.W.takesIn K (.builtin "object.__class__") = some true
  cm : PySem.W.mroIn K D (.type "object") = some true
def xWhat (kn : Str → Bool) (f : Ex) : Ex := fun env st => (f env st).bind fun x st => match x with
  | .exc c y => if kn c = true then .ok (.d y) st else .stuck
  | _ => .stuck
theorem se_what {ad D dd : Addr} {oe : Obj} {pn : List (Addr × Obj)} {kn : Str → Bool} {C : Cfg} (hz : L2N.Zn (.ref D) (some dd) oe) (hf : ∃ vs, oe.data = .fields vs) (hx : C.x.xa = ad ∧ C.x.xc = D ∧ C.x.xd = dd)
    (hk : ∀ c D, kn c = true → X.mg c = some (.ref D) → ExK X.K D) (he : SE (X.suite ad ((ad, oe) :: pn)) C e f)
    (hb : attributeBase e "what" X.env (eval e X.env) = eval e X.env := by rfl) : SE (X.suite ad ((ad, oe) :: pn)) C (.Attribute e "what" pos) (xWhat kn f) := by
  refine ⟨fun pins s σ H Q Iv hh => ?_⟩
  obtain ⟨I, ι, env, st, s3, re, ok⟩ := hh
  obtain ⟨hx1, hx2, hx3⟩ := hx
  have arg : rE X.K (mk X C) C f σ H fun v H1 => ∃ y u c, Dp X.K H1 u y ∧ v = .ref ad ∧ H1 dd = some (xdF c u) ∧ ExK X.K D ∧ Q u H1 := ⟨I, ι, env, st, s3, re, (OK.bind ok).mono fun z st1 H1 I1 ι1 x1 s1 ok1 v rv => by
    split at ok1
    · next c y =>
      split at ok1
      · next hkn =>
        obtain ⟨e1, e2, u, e3, e4⟩ := rv
        have q1 : v = .ref ad := by rw [← hx1]; exact e1
        have q2 : X.mg c = some (.ref D) := by
          have z : (mk X C).g c = some (.ref C.x.xc) := e2
          rw [hx2] at z
          exact z
        have q3 : I1 dd = some (xdF c u) := by
          have z : I1 C.x.xd = some (xdF c u) := e3
          rw [hx3] at z
          exact z
        exact ⟨y, u, c, dp_mono s1.im _ _ e4, q1, s1.im _ _ q3, hk c D hkn q2, ok1 H1 I1 ι1 (Ext.refl _ _) s1 u e4⟩
      · exact ok1.elim
    · exact ok1.elim⟩
  refine attr_of hb (thn (he.run pins s σ H _ Iv arg) fun u s1 hh => ?_)
  obtain ⟨v, H1, I1, rx, y, w, c, dw, ev, ea, ek, q⟩ := hh
  subst ev
  obtain rfl : u = Value.ref ad := rx
  obtain ⟨hget, _⟩ := I1.pin (ad, oe) (List.mem_append_left _ List.mem_cons_self)
  obtain ⟨vs, hdt⟩ := hf
  have hok : ObjOk X.prog X.w H1 s1.heap dd (xdF c w) := I1.hok dd _ ea
  obtain ⟨mA, hns, hrel⟩ := hok
  obtain ⟨od, ho, hl⟩ := lookIn_ns hns
  have l : List.lookup ("what" : Str) [(("what" : Str), w), ("kind", .str c)] = some w := by simp [List.lookup]
  obtain ⟨u, hu, ru⟩ := RelO.some_of (v := w) (o := mA "what") (by rw [← l]; exact hrel "what")
  have J : PySem.W.InstAt s1.heap ad oe D (some od) := ⟨hget, hz.1, by unfold PySem.W.notCls; rw [hdt] <;> rfl, by rw [hz.2.1]; exact ho⟩
  exact HandSPX.exc_get I1.kIn J ek.ga ek.gg ek.ex (PySem.W.findObj_own ek.hd ek.noN rfl (by rw [hl, hu])) (handed_of ru) ⟨w, H1, I1.tok _, ru, q⟩
/-- isinstance(e, c), e the caught error -/
def xIsX (tab : Str → Option Bool) (f : Ex) : Ex := fun env st => (f env st).bind fun x st => match x with
  | .exc c _ => match tab c with
    | some b => .ok (.d (.bool b)) st
    | none => .stuck
  | _ => .stuck
theorem se_isX {ad D dd : Addr} {oe : Obj} {pn : List (Addr × Obj)} {tab : Str → Option Bool} {C : Cfg} {t : Expr} {tv : V} {tu : Value} (hz : L2N.Zn (.ref D) (some dd) oe) (hf : ∃ vs, oe.data = .fields vs) (hx : C.x.xa = ad ∧ C.x.xc = D ∧ C.x.xd = dd)
    (htv : ∀ u, RelV tv u → u = tu) (hk : ∀ c D b, tab c = some b → X.mg c = some (.ref D) → ExK X.K D ∧ PySem.W.kitOne X.K (.ref D) tu = some b)
    (hg : Gl X "isinstance") (hm : X.mg "isinstance" = none) (ha : SE (X.suite ad ((ad, oe) :: pn)) C a f) (ht : PE (X.suite ad ((ad, oe) :: pn)) t (tC tv))
    (hs : starEach (a :: [t]) X.env = (false, eval a X.env) :: starEach [t] X.env := by rfl) (hs2 : starEach (t :: []) X.env = (false, eval t X.env) :: starEach [] X.env := by rfl) (hpl : (backTo pos (starEach [t] X.env)).any (·.1) = false := by rfl) :
    SE (X.suite ad ((ad, oe) :: pn)) C (.Call (.Name "isinstance" p0) [a, t] [] pos) (xIsX tab f) := by
  obtain ⟨hx1, hx2, hx3⟩ := hx
  have call : CallR (X.suite ad ((ad, oe) :: pn)) (.builtin "isinstance") (fun xs H Q => ∃ b w c, xs = [.ref ad, tv] ∧ H dd = some (xdF c w) ∧ ExK X.K D ∧ PySem.W.kitOne X.K (.ref D) tu = some b ∧ Q (.bl b) H) := by
    intro pins s σ H xs us Q Iv r hh
    obtain ⟨b, w, c, rfl, ea, ek, e, q⟩ := hh
    obtain ⟨u1, u2, rfl, r1, r2⟩ := vals2 r
    obtain rfl : u1 = Value.ref ad := r1
    have e2 := htv _ r2
    subst e2
    obtain ⟨hget, _⟩ := Iv.pin (ad, oe) (List.mem_append.mpr (.inl List.mem_cons_self))
    obtain ⟨vs, hdt⟩ := hf
    have hok : ObjOk X.prog X.w H s.heap dd (xdF c w) := Iv.hok dd _ ea
    obtain ⟨mA, hns, hrel⟩ := hok
    obtain ⟨od, ho, hl⟩ := lookIn_ns hns
    have J : PySem.W.InstAt s.heap ad oe D (some od) := ⟨hget, hz.1, by unfold PySem.W.notCls; rw [hdt] <;> rfl, by rw [hz.2.1]; exact ho⟩
    have hcl : (PySem.W.clsIn X.K D).isSome = true := by
      obtain ⟨cd, h1, _⟩ := PySem.W.any_some ek.hd
      rw [h1]
      rfl
    exact PySem.W.kia_one (PySem.W.kitx_exc hcl ek.ga ek.gg ek.ex ek.ca ek.cn ek.ct ek.cm) Iv.kIn J e (fun z => nomatch z) fun tk => ⟨.bl b, H, Iv.kept (t' := tk) fun _ _ z => z, rfl, q⟩
  refine pe_imp (pe_callB call hg hm (by decide +kernel) (pa_cons ha (pa_cons ht pa_nil hs2) hs) (by decide) (by decide) hs hpl) fun σ H Q ⟨I, ι, env, st, s, re, ok⟩ => ⟨I, ι, env, st, s, re, (OK.bind ok).mono fun x st1 H1 I1 ι1 x1 s1 ok1 v rv => ?_⟩
  split at ok1
  · next c y =>
    split at ok1
    · next b hb =>
      obtain ⟨e1, e2, u, e3, e4⟩ := rv
      have q1 : v = .ref ad := by rw [← hx1]; exact e1
      have q2 : X.mg c = some (.ref D) := by
        have z : (mk (X.suite ad ((ad, oe) :: pn)) C).g c = some (.ref C.x.xc) := e2
        rw [hx2] at z
        exact z
      have q3 : I1 dd = some (xdF c u) := by
        have z : I1 C.x.xd = some (xdF c u) := e3
        rw [hx3] at z
        exact z
      obtain ⟨k1, k2⟩ := hk c D b hb q2
      exact ⟨b, u, c, by rw [q1], s1.im _ _ q3, k1, k2, ok1 H1 I1 ι1 (Ext.refl _ _) s1 _ (.bl b)⟩
    · exact ok1.elim
  · exact ok1.elim
end
end Nz

end
section
set_option Elab.async false
set_option linter.all false
set_option maxRecDepth 100000
set_option maxHeartbeats 2000000
namespace Nz
open PySem PySem.Spec PyProof.Rows L2
open LamX (Tabs TabS CodeO ExtN TabB LamS lamEnv lamCx lam_start2 lam_make2)
theorem OK.mx {K : PySem.W.Frag} {m m' : Mx} {T : List (Addr × Str)} {EX : XK} {I : Hp} {ι : List Addr} {α : Type} {o : Out α} {G : α → Store → Hp → Hp → List Addr → Prop} (hm : m.g = m'.g) (h : OK K m T EX I ι o G) : OK K m' T EX I ι o G := by
  cases o with
  | ok a st => exact h
  | exc c x st => exact fun C d v H2 I2 ι2 h1 => h C d v H2 I2 ι2 (by rw [hm]; exact h1)
  | stuck => exact h
theorem S3.extN {K : PySem.W.Frag} {T : List (Addr × Str)} {H H1 I : Hp} {ι : List Addr} {st : Store} (s : S3 K T H I ι st) (e : ExtN H H1) (t : Tabs T H1) : S3 K T H1 I ι st := by
  refine ⟨fun a o q => e a o (s.im a o q) fun ps z => s.notb a ps (by rw [← z]; exact q), s.len, s.nd, fun n ds q => ?_, fun a ha => ?_, t, s.notb⟩
  · obtain ⟨a, vs, h1, h2, h3, h4⟩ := s.cell n ds q
    exact ⟨a, vs, h1, e a _ h2 (fun ps z => nomatch z), h3, h4⟩
  · obtain ⟨vs, q⟩ := s.there a ha
    exact ⟨vs, e a _ q (fun ps z => nomatch z)⟩
theorem inv_xe {X : Cx} {pins : List (Addr × Obj)} {σ : L2.St} {H : Hp} {s : Shared} {e2 : Value → Shared → Prop} (I : Inv X pins σ H s) : Inv { X with xe := e2 } pins σ H s :=
  ⟨⟨I.ok.mod, I.ok.kind, I.ok.glob, I.ok.blt, I.ok.above, I.ok.inj, I.ok.has, I.ok.cab, I.ok.hd, I.ok.frames, I.ok.stk, I.ok.exf, I.ok.bs, I.ok.bsz, I.ok.noex, I.ok.exfs, I.ok.funs, I.ok.frf⟩, I.os, I.bare, I.base, I.loc, I.cell, I.free, I.freeC, I.pin, I.hok, I.len⟩
/-- a lambda's body, its errors' contexts known -/
abbrev lamN (X : Cx) (A : Around) (outer : List Env) (s : Shared) (H : Hp) (E : XK) (scope : Scope) (f c' : Addr) : Cx :=
  { lamCx X A outer s H E scope f c' with xe := fun u s1 => wpAny (model X.prog X.w) (A.deeper (lamEnv X scope s.heap.objs.size f c')) (leaving (lamEnv X scope s.heap.objs.size f c') u) (fun _ s2 => L2N.CX X.prog X.w outer H s E u s2) (fun u2 s2 => L2N.CX X.prog X.w outer H s E u2 s2) s1 }
section
variable {X : Cx} {C : Cfg} {pins : List (Addr × Obj)} {σ : L2.St} {H HZ : Hp} {s s1 : Shared}
/-- the lambda that stands in slot i is called: g0 is what it says -/
def xClo (i : Nat) (g0 : Store → Out EV) : Ex := fun env st => match env[i]? with
  | some (some .clo) => (g0 st).bind fun a st => match dropX (some a) with
    | some a => .ok a st
    | none => .stuck
  | _ => .stuck
theorem se_clo {Ng : List Str} {qg : Str} {sg : Scope} {gad f c' : Addr} {cdg pm ctv : Value} {params : Arguments} {body : Expr} {scope : Scope} {k i : Nat} {a : Str} {pn : List (Addr × Obj)} {xe : Value → Shared → Prop} {Eg : XK} {p1 p2 : Pos} {C2 : Cfg} {g : Ex} {env : Env'} {cI : Hp} {cι : List Addr}
    (Iv : Inv X pins σ H s) (L : LamS X.env.scope scope) (hf : s.heap.get? f = some (PySem.W.kla_obj "<lambda>" (X.env.qual ++ "<lambda>") params body scope (cloFrom X.env.cells scope.names []) pm c' ctv)) (hfn : H f = none) (hfr : f ∉ frs X.stack)
    (hbind : bindArgs (PySem.W.kla_fn "<lambda>" (X.env.qual ++ "<lambda>") params body scope (cloFrom X.env.cells scope.names []) pm (.ref c') ctv) ⟨[], []⟩ = pure [])
    (tk : Tk ((cxOf (L2N.CX X.prog X.w) X.prog X.w X.K X.mg X.base Ng qg sg gad cdg X.A X.stack s H Eg).tr pn xe) C2) (hT : C2.T = C.T) (hx : C2.x = { xf := f, cI := cI, cι := cι }) (hr : Room (k + 1) (X.A.deeper (envOfC qg sg s.heap.objs.size gad cdg))) (hgd : X.A.guards = some [])
    (re : RE X.K (mk X C) cI cι env σ) (hc : cI c' = some (CodeO c' (X.env.qual ++ "<lambda>")))
    (hbody : ∀ (A : Around) (outer : List Env) (s : Shared) (H : Hp) (E : XK), Room k (A.deeper (lamEnv X scope s.heap.objs.size f c')) → A.guards = some [] → SE (lamN X A outer s H E scope f c') ⟨C.T, fun _ => E, C.x⟩ body g)
    (hN : Ng[i]? = some a) (hv : Vis sg a) (hd : (a == ("__debug__" : Str)) = false := by decide) (hcd : (a == ("__classdict__" : Str)) = false := by decide) :
    SE ((cxOf (L2N.CX X.prog X.w) X.prog X.w X.K X.mg X.base Ng qg sg gad cdg X.A X.stack s H Eg).tr pn xe) C2 (.Call (.Name a p1) [] [] p2) (xClo i fun st => g env st) := by
  refine ⟨fun pinsZ sZ σZ HZ Q IZ hh => ?_⟩
  obtain ⟨I, ι, envZ, st, s3, reZ, ok⟩ := hh
  unfold xClo at ok
  split at ok
  rotate_left 1
  · exact ok.elim
  next hslot =>
  obtain ⟨vf, hs, ev, hcI, hcι⟩ := reZ.2 i .clo hslot
  have ev : vf = .ref f := by rw [ev]; show V.ref C2.x.xf = _; rw [hx]
  subst ev
  have hcI : ∀ a o, cI a = some o → I a = some o := fun a o q => hcI a o (by show C2.x.cI a = _; rw [hx]; exact q)
  have hcι : cι <+: ι := by have z : C2.x.cι <+: ι := hcι; rw [hx] at z; exact z
  have far : Ext cI cι I ι := ⟨hcI, hcι⟩
  have codeZ : HZ c' = some (CodeO c' (X.env.qual ++ "<lambda>")) := s3.im _ _ (hcI _ _ hc)
  have rd : rE X.K (mk X C) ⟨C.T, fun _ => C2.EX σZ, C.x⟩ g σ HZ Q := by
    refine ⟨I, ι, env, st, by rw [← hT]; exact s3, re.ext far, OK.mx (m := mk ((cxOf (L2N.CX X.prog X.w) X.prog X.w X.K X.mg X.base Ng qg sg gad cdg X.A X.stack s H Eg).tr pn xe) C2) rfl ?_⟩
    have z := OK.bind ok
    rw [hT] at z
    refine z.mono fun a st1 H1 I1 ι1 x1 s1 ok1 v rv => ?_
    cases hd : dropX (some a) with
    | none =>
      rw [hd] at ok1
      exact ok1.elim
    | some b =>
      rw [hd] at ok1
      exact ok1 H1 I1 ι1 (Ext.refl _ _) s1 v (rv_drop (m := mk X C) rfl hd rv)
  refine wpAny_Call_Name_kw (thn ((pe_var (pos := p1) (i := i) hN hv hd hcd).run pinsZ sZ σZ HZ (fun v H1 => v = .ref f ∧ H1 = HZ) IZ ⟨.ref f, hs, rfl, rfl⟩) fun u s1 ⟨v, H1, I1, r1, q1⟩ => ?_)
  obtain ⟨ev, eH⟩ := q1
  subst ev
  rw [eH] at I1
  obtain rfl : u = Value.ref f := r1
  have stays : s1.heap.get? f = some (PySem.W.kla_obj "<lambda>" (X.env.qual ++ "<lambda>") params body scope (cloFrom X.env.cells scope.names []) pm c' ctv) := I1.base.keep f _ hf hfn hfr (fun z => nomatch (show f ∈ ([] : List Addr) from z))
  refine PySem.W.callWith_F0 ⟨_, _, _, _, stays⟩ ?_
  have un : Un (frs X.stack) [] H HZ s.heap s1.heap := I1.base
  obtain ⟨⟨oc, vs, t, o1, o2, o3⟩, _, _⟩ := I1.hok c' _ codeZ
  have rc : codeAny (model X.prog X.w) (X.A.deeper (envOfC qg sg s.heap.objs.size gad cdg)) (.call (.ref f) ⟨[], []⟩) (CR (L2N.CX X.prog X.w) (envOfC qg sg s.heap.objs.size gad cdg :: X.stack) X.prog X.w HZ s1 Q (C2.EX σZ)) s1 := by
    refine PySem.W.kla_callFunE hr.depth stays rfl L.co L.gen rfl ⟨c', oc, vs, t, rfl, o1, o2, o3⟩ ?_
    rw [hbind]
    refine wpAny_pure (wpAny_newFunctionEnv (fun y hy => (L.own y hy).2) (fun y hy => absurd hy (by simp)) (fun h₁ hns hsb => ⟨I1.nolimit.fresh _ hsb, ?_⟩) L.kind)
    show codeAny _ _ (.expr body (lamEnv X scope s1.heap.objs.size f c')) _ _
    have kp : ∀ b o, s1.heap.get? b = some o → h₁.get? b = some o := fun b o z => hsb.extBut b o (Nat.ne_of_lt (Heap.lt_size z)) (Heap.get?_push_of_some _ z)
    have J : Inv (lamN X (X.A.deeper (envOfC qg sg s.heap.objs.size gad cdg)) (envOfC qg sg s.heap.objs.size gad cdg :: X.stack) s1 HZ (C2.EX σZ) scope f c') [] σ HZ { s1 with heap := h₁, toks := s1.toks + ([] : List (Str × Value)).length } :=
      inv_xe (lam_start2 Iv L I1.env0 hr.hd un hns kp)
    refine PySem.W.kla_codeExpr (wpAny_mono ((hbody _ _ s1 HZ (C2.EX σZ) (hr.deeper _) hgd).run [] _ _ HZ Q J rd) (fun v s2 hq => ?_) fun _ _ z => z)
    obtain ⟨w2, H2, J2, rv, q⟩ := hq
    exact ⟨w2, H2, J2.os, J2.bare, J2.base, J2.hok, rv, q⟩
  refine wpAny_call (codeAny_mono rc fun res s2 hq => ?_)
  cases res with
  | error er => exact L2N.passAt tk σZ pinsZ HZ s1 er s2 I1 hq
  | ok fl =>
    cases fl with
    | ret u => exact I1.after hq
    | next => exact hq.elim
    | brk => exact hq.elim
    | cont => exact hq.elim
end
section
variable {X : Cx} {C : Cfg}
/-- x(lambda: body): u says what x makes of what it gets -/
def noX (o : Out EV) : Out EV := o.bind fun a st => match dropX (some a) with
  | some a => .ok a st
  | none => .stuck
def xHeard (keep : Bool) (n : Nat) (u : (Store → Out EV) → Sx) (g : Ex) : Ex := fun env st => noX (fnO keep n (u fun st => g env st) [.clo] st)
theorem se_heard {x a : Str} {gad c P : Addr} {k : Nat} {pg : Arguments} {bg : List Stmt} {sg : Scope} {dV kV doc pm cdv ct oc : Value} {an od : Option Addr} {osl : Array (Option Value)} {Ng : List Str} {keep : Bool} {u : (Store → Out EV) → Sx} {g : Ex}
    {params : Arguments} {body : Expr} {scope : Scope} {p lpos pos : Pos} (hg : Gl X x) (hm : X.mg x = some (.ref gad)) (hk : PySem.W.keepIn X.K (.ref gad) = true)
    (lk : X.K.lookup gad = some ⟨oc, od, .func (PySem.W.fnOf x x pg bg sg dV kV doc pm an cdv ct), osl⟩) (hcg : PySem.W.codeIn X.K cdv x = true) (hb : L2.Binds X.K (PySem.W.fnOf x x pg bg sg dV kV doc pm an cdv ct) [a] []) (Sg : FnScope Ng [a] sg) (hNg : Ng[0]? = some a) (hva : Vis sg a)
    (hG : ∀ (s : Shared) (H : Hp) (E : XK) (x0 : Aux) (g0 : Store → Out EV), Room (k + 1) (X.A.deeper (envOfC x sg s.heap.objs.size gad cdv)) →
      (∀ (C2 : Cfg) (pn : List (Addr × Obj)) (xe : Value → Shared → Prop) (p1 p2 : Pos), C2.T = C.T → C2.x = x0 → Tk ((cxOf (L2N.CX X.prog X.w) X.prog X.w X.K X.mg X.base Ng x sg gad cdv X.A X.stack s H E).tr pn xe) C2 →
        SE ((cxOf (L2N.CX X.prog X.w) X.prog X.w X.K X.mg X.base Ng x sg gad cdv X.A X.stack s H E).tr pn xe) C2 (.Call (.Name a p1) [] [] p2) (xClo 0 g0)) →
      SB (cxOf (L2N.CX X.prog X.w) X.prog X.w X.K X.mg X.base Ng x sg gad cdv X.A X.stack s H E) ⟨C.T, fun _ => E, x0⟩ bg (u g0))
    (TB : TabB X.base X.mg c P) (hcode : X.env.code = .ref c) (hmT : (P, X.env.qual ++ "<lambda>") ∈ C.T) (hu : ∀ p ∈ C.T, p.1 = P → p.2 = X.env.qual ++ "<lambda>") (hr : Room (k + 2) X.A) (hgd : X.A.guards = some []) (tk : Tk X C) (L : LamS X.env.scope scope) (hdef : defaultsOf params X.env = ([], []))
    (hbind : ∀ (q : Str) (cl : List (Str × Addr)) (pm cv ctv : Value), bindArgs (PySem.W.kla_fn "<lambda>" q params body scope cl pm cv ctv) ⟨[], []⟩ = pure [])
    (hbody : ∀ (A : Around) (outer : List Env) (s : Shared) (H : Hp) (E : XK) (f c' : Addr), Room k (A.deeper (lamEnv X scope s.heap.objs.size f c')) → A.guards = some [] → SE (lamN X A outer s H E scope f c') ⟨C.T, fun _ => E, C.x⟩ body g)
    (hdb : (x == ("__debug__" : Str)) = false := by decide) (hd : (a == ("__debug__" : Str)) = false := by decide) (hcd : (a == ("__classdict__" : Str)) = false := by decide) :
    SE X C (.Call (.Name x p) [.Lambda params body scope lpos] [] pos) (xHeard keep Ng.length u g) := by
  refine ⟨fun pins s σ H Q Iv hh => ?_⟩
  obtain ⟨I, ι, env, st, s3, re, ok⟩ := hh
  refine wpAny_Call_Name_kw (ld_glob Iv hg hm ?_ hdb)
  refine PySem.W.callWith_K (h₀ := X.base) Iv.ok.mod.kin hk ?_ (by rfl) (by rfl)
  show wpAny _ _ (spliced ((false, eval (.Lambda params body scope lpos) X.env) :: backTo pos (starEach [] X.env))) _ _ s
  refine Calls.spliced_cons (lam_make2 Iv TB hcode hmT hu s3.tabs hdef (L.has Iv.ok) fun f c' pm' ctv H1 s' I1 eN T1 hf hfn hfr hco => ?_)
  refine Calls.spliced_nil ⟨I1.kIn, ?_⟩
  have s4 := s3.extN eN T1
  -- the lambda's code is known from now on
  have sm : ∀ b o, I b = some o → upd I c' (CodeO c' (X.env.qual ++ "<lambda>")) b = some o := fun b o q => by
    by_cases z : b = c'
    · subst z
      rw [upd_same]
      exact hco.symm.trans (s4.im _ _ q)
    · rw [upd_ne z]
      exact q
  have x5 : Ext I ι (upd I c' (CodeO c' (X.env.qual ++ "<lambda>"))) ι := ⟨sm, List.prefix_refl _⟩
  have s5 : S3 X.K C.T H1 (upd I c' (CodeO c' (X.env.qual ++ "<lambda>"))) ι st := by
    refine ⟨fun b o q => ?_, s4.len, s4.nd, fun n ds q => ?_, s4.there, s4.tabs, fun b ps q => ?_⟩
    · by_cases z : b = c'
      · subst z
        rw [upd_same] at q
        rw [hco]
        exact q
      · rw [upd_ne z] at q
        exact s4.im b o q
    · obtain ⟨b, us, g1, g2, g3, g4⟩ := s4.cell n ds q
      exact ⟨b, us, g1, g2, dpAll_mono sm _ _ g3, by rw [upd_ne (ne_of g2 hco (by intro z; unfold CodeO at z; cases z))]; exact g4⟩
    · by_cases z : b = c'
      · subst z
        rw [upd_same] at q
        exact LamX.codeO_ne ps (Option.some.inj q)
      · rw [upd_ne z] at q
        exact s4.notb b ps q
  have rc : codeAny (model X.prog X.w) X.A (.call (.ref gad) ⟨[.ref f], []⟩) (CR (L2N.CX X.prog X.w) X.stack X.prog X.w H1 s' Q (C.EX σ)) s' := by
    refine runG_of (N := Ng) (ps := [a]) (us := [.ref f]) (vs := [.ref f]) lk hcg Sg hr I1.env0 (hb s' [.ref f] I1.kIn rfl) (.cons rfl .nil) rfl fun hr' => ?_
    let x0 : Aux := { xf := f, cI := upd I c' (CodeO c' (X.env.qual ++ "<lambda>")), cι := ι }
    have body := hG s' H1 (C.EX σ) x0 (fun st => g env st) hr' fun C2 pn xe p1 p2 e1 e2 t2 =>
      se_clo (i := 0) I1 L hf hfn hfr (hbind _ _ _ _ _) t2 e1 e2 hr' hgd (re.ext x5) upd_same (fun A outer s H E hr2 hg2 => hbody A outer s H E f c' hr2 hg2) hNg hva hd hcd
    refine ⟨_, body, upd I c' (CodeO c' (X.env.qual ++ "<lambda>")), ι, entry Ng.length [.clo], st, s5, ?_, ?_⟩
    · refine entry_re (mg := ⟨X.mg, x0⟩) Ng.length (.cons (x := .clo) (v := .ref f) ⟨rfl, fun _ _ q => q, List.prefix_refl _⟩ .nil) ?_ Ng rfl
      have := (List.getElem?_eq_some_iff.mp hNg).1
      exact this
    · have ok := OK.bind (OK.ext ok x5)
      refine body_reads s5 (OK.mx (m := mk X C) rfl (ok.mono fun r st2 H2 I2 ι2 x2 s2 ok2 v rv => ?_))
      cases hdr : dropX (some r) with
      | none =>
        rw [hdr] at ok2
        exact ok2.elim
      | some b =>
        rw [hdr] at ok2
        exact ok2 H2 I2 ι2 (Ext.refl _ _) s2 v (rv_drop (m := ⟨X.mg, x0⟩) (m' := mk X C) rfl hdr rv)
  refine wpAny_call (codeAny_mono rc fun res s2 hq => ?_)
  cases res with
  | error er => exact L2N.passAt tk σ pins H1 s' er s2 I1 hq
  | ok fl =>
    cases fl with
    | ret u => exact I1.after hq
    | next => exact hq.elim
    | brk => exact hq.elim
    | cont => exact hq.elim
end
end Nz

end
section
set_option Elab.async false
set_option linter.all false
set_option maxRecDepth 100000
set_option maxHeartbeats 2000000
/-! the end: the law's own call -/
namespace Nz
open PySem PySem.Spec PyProof.Rows L2
open LamX (Tabs TabS CodeO TabB)
/-- what is tracked as the law is called: the empty tables, the script -/
def H0 (tb : List (Addr × Addr)) (sc : Option (Addr × Obj × List V)) : Hp := fun b =>
  if b ∈ tb.map Prod.snd then some (.tbl #[]) else match sc with
    | some (a, o, us) => if b = a then some (.frz o (.lst us)) else none
    | none => none
theorem h0_some {tb : List (Addr × Addr)} {sc : Option (Addr × Obj × List V)} {b : Addr} {u : HO} (h : H0 tb sc b = some u) : (b ∈ tb.map Prod.snd ∧ u = .tbl #[]) ∨ (b ∉ tb.map Prod.snd ∧ ∃ o us, sc = some (b, o, us) ∧ u = .frz o (.lst us)) := by
  unfold H0 at h
  split at h
  · next hb => exact .inl ⟨hb, (Option.some.inj h).symm⟩
  · next hb =>
    refine .inr ⟨hb, ?_⟩
    split at h
    · next a o us =>
      split at h
      · next e =>
        subst e
        exact ⟨o, us, rfl, (Option.some.inj h).symm⟩
      · cases h
    · cases h
section
variable {P : Program} {w : World} {K : PySem.W.Frag} {mg mb : Str → Option Value} {k : Nat} {fa a : Addr} {tb : List (Addr × Addr)} {fd : FuncData} {x : Str} {sp : Sp} {sh : Shared} {its : List Value} {ns : List Int}
theorem nz_call (hK : K.In sh.heap) (gl : sh.heap.Ns mainGlobals mg) (bl : sh.heap.Ns builtinsNs mb) (boot : ∀ y : Str, y ≠ "__name__" → mb y = bootBuiltins y) (lim : sh.heap.NoLimit) (quiet : sh.gens = #[])
    (tE : ∀ p ∈ tb, sh.heap.get? p.2 = some { cls := .none, data := .fields #[] }) (tK : ∀ p ∈ tb, K.lookup p.2 = none) (tC : ∀ p ∈ tb, PySem.W.CodeHd sh.heap p.1 p.2)
    (bmod : ∃ (m : Addr) (ob : Obj), mg "__builtins__" = some (.ref m) ∧ m ≠ builtinsNs ∧ sh.heap.get? m = some ob ∧ ob.cls = .type "module" ∧ ob.dict = some builtinsNs ∧ ob.data = .plain)
    (at_a : sh.heap.get? a = some { cls := .type "list", data := .seq its.toArray }) (areI : IntsAre its ns) (short : ns.length ≤ sizeLine) (room : Room k callerA)
    (G : ∀ base : Heap, K.In base → base.Ns mainGlobals mg → (∀ p ∈ tb, TabB base mg p.1 p.2) → FnG P w K mg base k fa fd [x] sp) (bind : ∀ (s : Shared) (u : Value), BindsTo s fd ⟨[u], []⟩ [(x, u)])
    (wish : ∀ H : Hp, (∀ p ∈ tb, H p.2 = some (.tbl #[])) → SqL K H a (ns.map V.int) → sp [.ref a] H (fun v _ => v = .bl true) fun _ _ _ => False) :
    codeAny (model P w) callerA (.call (.ref fa) ⟨[.ref a], []⟩) (fun r s2 => r = .ok (.ret (.bool true)) ∧ OldK sh.heap s2.heap ∧ s2.os = sh.os ∧ AllBare s2.gens) sh := by
  have vals := vals_ints areI
  have cnt := areI.length
  have empty : ∀ {b : Addr}, b ∈ tb.map Prod.snd → sh.heap.get? b = some { cls := .none, data := .fields #[] } := fun {b} hb => by
    obtain ⟨p, hp, rfl⟩ := List.mem_map.mp hb
    exact tE p hp
  have inT : ∀ p ∈ tb, p.2 ∈ tb.map Prod.snd := fun p hp => List.mem_map_of_mem hp
  have apart : a ∉ tb.map Prod.snd := fun hb => by
    have z := empty hb
    rw [at_a] at z
    have z2 : Data.seq its.toArray _ = Data.fields #[] := congrArg Obj.data (Option.some.inj z)
    cases z2
  -- the script is tracked unless it is an object of the module
  obtain ⟨sc, hsc, hread⟩ : ∃ sc : Option (Addr × Obj × List V), (∀ b o us, sc = some (b, o, us) → b = a ∧ o = { cls := .type "list", data := .seq its.toArray } ∧ us = ns.map V.int ∧ K.lookup a = none) ∧ SqL K (H0 tb sc) a (ns.map V.int) := by
    rcases Option.eq_none_or_eq_some (K.lookup a) with hl | ⟨o, hl⟩
    · refine ⟨some (a, { cls := .type "list", data := .seq its.toArray }, ns.map V.int), fun b o us z => ?_, .inl (.inr ⟨{ cls := .type "list", data := .seq its.toArray }, ?_⟩)⟩
      · cases z
        exact ⟨rfl, rfl, rfl, hl⟩
      · unfold H0
        rw [if_neg apart]
        exact if_pos rfl
    · refine ⟨none, (fun b o us z => nomatch z), .inr ?_⟩
      have z := hK a o hl
      rw [at_a] at z
      cases z
      exact ⟨_, its.toArray, _, hl, rfl, rfl, rfl, by rw [List.size_toArray, cnt]; exact short, by simpa using vals⟩
  -- what is not tracked stands in the base
  have loose : ∀ {b : Addr} {o : Obj}, sh.heap.get? b = some o → o.data ≠ .fields #[] → (∀ l n, o.data ≠ .seq l n) → H0 tb sc b = none := fun {b o} hb n1 n2 => by
    cases q : H0 tb sc b with
    | none => rfl
    | some u =>
      rcases h0_some q with ⟨z, _⟩ | ⟨_, o2, us, z, _⟩
      · rw [empty z] at hb
        cases hb
        exact (n1 rfl).elim
      · obtain ⟨z1, _⟩ := hsc _ _ _ z
        rw [z1, at_a] at hb
        cases hb
        exact (n2 _ _ rfl).elim
  have down : ∀ {b : Addr} {m : Str → Option Value}, sh.heap.Ns b m → (hidT sh.heap (H0 tb sc)).Ns b m := fun {b m} ⟨o, es, ep, h1, h2, h3⟩ =>
    ⟨o, es, ep, hidT_get h1 (loose h1 (fun z => by rw [h2] at z; cases z) fun l n z => by rw [h2] at z; cases z), h2, h3⟩
  have inB : K.In (hidT sh.heap (H0 tb sc)) := fun b o hb => hidT_get (hK b o hb) (by
    cases q : H0 tb sc b with
    | none => rfl
    | some u =>
      rcases h0_some q with ⟨z, _⟩ | ⟨_, o2, us, z, _⟩
      · obtain ⟨p, hp, rfl⟩ := List.mem_map.mp z
        rw [tK p hp] at hb
        cases hb
      · obtain ⟨z1, _, _, z2⟩ := hsc _ _ _ z
        rw [z1, z2] at hb
        cases hb)
  have modl : L2.Mod K mg (hidT sh.heap (H0 tb sc)) := ⟨inB, down gl, ⟨mb, down bl, boot⟩, let ⟨m, h1, h2⟩ := lim; ⟨m, down h1, h2⟩⟩
  have tabB : ∀ p ∈ tb, TabB (hidT sh.heap (H0 tb sc)) mg p.1 p.2 := fun p hp => by
    refine ⟨?_, ?_, fun z => ?_⟩
    · obtain ⟨o, us, fl, tf, fg, tg, nf, tx, tt, e1, r1, r2, r3, r4⟩ := tC p hp
      refine ⟨o, us, fl, tf, fg, tg, nf, tx, tt, hidT_get e1 (loose e1 (fun z => ?_) fun l n z => ?_), r1, r2, r3, r4⟩
      · rw [r2] at z
        cases z
        simp at r3
      · rw [r2] at z
        cases z
    · obtain ⟨m, ob, b1, b2, b3, b4, b5, b6⟩ := bmod
      refine ⟨m, ob, b1, b2, fun q => ?_, fun q => ?_, hidT_get b3 (loose b3 (fun z => by rw [b6] at z; cases z) fun l n z => by rw [b6] at z; cases z), b4, b5, b6⟩
      · obtain ⟨o, es, ep, h1, h2, _⟩ := gl
        rw [q, h1] at b3
        cases b3
        rw [h2] at b6
        cases b6
      · rw [q, tE p hp] at b3
        cases b3
        cases b6
    · obtain ⟨o, es, ep, h1, h2, _⟩ := gl
      rw [z, tE p hp] at h1
      cases h1
      cases h2
  have held : HOk P w (H0 tb sc) sh.heap := fun b u q => by
    rcases h0_some q with ⟨z, rfl⟩ | ⟨_, o2, us, z, rfl⟩
    · exact empty z
    · obtain ⟨z1, z2, z3, _⟩ := hsc _ _ _ z
      rw [z1, z2, z3]
      exact ⟨at_a, by rw [List.length_map]; exact short, its, _, vals, at_a⟩
  have here : Env0 P w K mg (hidT sh.heap (H0 tb sc)) callerA [] sh (H0 tb sc) := ⟨rfl, modl, fun b o z => of_hidT z, Nat.le_of_eq (hidT_size _ _), trivial, fun b hb => absurd (show b ∈ ([] : List Addr) from hb) List.not_mem_nil, held, .of_eq quiet⟩
  refine codeAny_mono ((G _ inB (down gl) tabB).run callerA [] sh (H0 tb sc) ⟨[.ref a], []⟩ [.ref a] [.ref a] _ _ room rfl here (bind sh (.ref a)) (.cons rfl .nil) (wish _ (fun p hp => if_pos (inT p hp)) hread)) fun res s2 hq => ?_
  cases res with
  | error e =>
    obtain ⟨_, _, _, _, _, _, _, _, _, _, _, _, z⟩ := hq
    exact z.elim
  | ok fl =>
    cases fl with
    | next => exact hq.elim
    | brk => exact hq.elim
    | cont => exact hq.elim
    | ret u =>
      obtain ⟨v, H2, os2, bare2, un, hok2, rv2, hv⟩ := hq
      have hv : v = .bl true := hv
      subst hv
      obtain rfl : u = Value.bool true := rv2
      have stays : ∀ {b : Addr} {o : Obj}, b ∉ tb.map Prod.snd → sh.heap.get? b = some o → s2.heap.get? b = some o := fun {b o} nb hb => by
        cases q : H0 tb sc b with
        | none => exact un.keep b o hb q (fun z => absurd (show b ∈ ([] : List Addr) from z) List.not_mem_nil) List.not_mem_nil
        | some u =>
          rcases h0_some q with ⟨z, _⟩ | ⟨_, o2, us, z, rfl⟩
          · exact absurd z nb
          · obtain ⟨e1, _⟩ := held b _ q
            obtain ⟨e2, _⟩ := hok2 b _ (un.frzs b o2 _ q)
            rw [hb] at e1
            cases e1
            exact e2
      have grew : ∀ p ∈ tb, ∃ more : Array Value, s2.heap.get? p.2 = some { cls := .none, data := .fields more } := fun p hp => by
        obtain ⟨more, z⟩ := un.tbls p.2 #[] (if_pos (inT p hp))
        exact ⟨_, hok2 p.2 _ z⟩
      refine ⟨rfl, ⟨fun b o hb => ?_, fun b o hb => ?_⟩, os2, bare2⟩
      · by_cases z : b ∈ tb.map Prod.snd
        · obtain ⟨p, hp, rfl⟩ := List.mem_map.mp z
          obtain ⟨more, hm⟩ := grew p hp
          rw [tE p hp] at hb
          cases hb
          exact .inr (.inl ⟨((tC p hp).tab (tE p hp)).isCodeTable, rfl, #[], more, rfl, by rw [Array.empty_append]; exact hm⟩)
        · exact .inl (stays z hb)
      · by_cases z : b ∈ tb.map Prod.snd
        · obtain ⟨p, hp, rfl⟩ := List.mem_map.mp z
          obtain ⟨more, hm⟩ := grew p hp
          exact ⟨_, hm⟩
        · exact ⟨o, stays z hb⟩
end
/-- what the text's facts must give at the head -/
structure LawG (l : PySem.W.OpenLaw) (w : World) (K : PySem.W.Frag) (k n : Nat) (x : Str) (mg : Str → Option Value) (fa : Addr) (h : Heap) : Prop where
  ex : ∃ (fd : FuncData) (tb : List (Addr × Addr)) (sp : Sp), (∀ p ∈ tb, h.get? p.2 = some { cls := .none, data := .fields #[] }) ∧ (∀ p ∈ tb, K.lookup p.2 = none) ∧ (∀ p ∈ tb, PySem.W.CodeHd h p.1 p.2) ∧ (∀ (s : Shared) (u : Value), BindsTo s fd ⟨[u], []⟩ [(x, u)]) ∧
    (∀ (H : Hp) (a : Addr) (ns : List Int), ns.length ≤ n → (∀ z ∈ ns, Builtin.Int.intBits z ≤ 1048576) → (∀ p ∈ tb, H p.2 = some (.tbl #[])) → SqL K H a (ns.map V.int) → sp [.ref a] H (fun v _ => v = .bl true) fun _ _ _ => False) ∧
    ∀ base : Heap, K.In base → base.Ns mainGlobals mg → (∀ p ∈ tb, TabB base mg p.1 p.2) → FnG l.prog w K mg base k fa fd [x] sp
theorem nz_end {l : PySem.W.OpenLaw} {n k : Nat} {q : Program} {lo : List Str} {XP : (Str → Option Value) → Heap → Prop} {YP : World → Heap → Prop} {d : DefRec} {K : Params → PySem.W.Frag} {x : Str}
    (hn : l.most = some n) (hn2 : n ≤ sizeLine) (hdf : d.params.defaults = []) (room : Room k callerA) (hY : ∀ (w : World) (h : Heap), YP w h → (K w.params).In h)
    (F : ∀ (w : World) (mg : Str → Option Value) (fa : Addr) (h : Heap), (∀ (y : Str) (e : DefRec) (c T : Addr), (recsOf q).find? (fun r => r.name == y) = some e → PySem.W.tabIn (K w.params) y = some (c, T) → PySem.W.CodeHd h c T ∧ h.get? T = some { cls := .none, data := .fields #[] }) →
      (K w.params).In h → h.Ns mainGlobals mg → mg d.name = some (.ref fa) → LawG l w (K w.params) k n x mg fa h) :
    PySem.W.WalkO q lo XP YP l.row.toRowW d [] (fun f vs => PySem.call f vs) := by
  refine Att.attach_callB hn hdf fun w s₀ s₁ mg mb fa o pm cd doc a vs ns G Y ho hd hcd hmg hobj hints hlen hbits hg => ?_
  have hK := hY w _ Y
  obtain ⟨fd, tb, sp, t1, t2, t3, hb, hsp, hF⟩ := (F w mg fa _ (fun y e c T h1 h2 => PySem.W.tab_of G.T hK h1 h2) hK G.T.g hmg).ex
  exact nz_call hK G.T.g G.T.b G.T.builtins G.T.nolimit hg t1 t2 t3 G.T.bmain hobj hints (Nat.le_trans hlen hn2) room hF hb fun H hH hS => hsp H a ns hlen hbits hH hS
end Nz

end
section
set_option Elab.async false
set_option linter.all false
set_option maxRecDepth 100000
set_option maxHeartbeats 2000000
/-! calls with keywords; two places of own lists stored at once; a def's facts; the law's beginning -/
namespace Nz
open PySem PySem.Spec PyProof.Rows L2
open LamX (Tabs TabS CodeO TabB)
section
variable {X : Cx} {C : Cfg} {tg e a b c : Expr} {es : List Expr} {f g h : Ex} {fa fk : Ax} {pos p0 kpos : Pos} {k : Nat} {fad : Addr} {fd : FuncData} {ps ks : List Str} {sp : Sp} {x : Str} {kws : List Keyword} {nm : Option Str}
/-! ### keywords, in the parameters' order, behind the other arguments -/
def SK (X : Cx) (C : Cfg) (kws : List Keyword) (f : Ax) : Prop := PK X kws (rA X.K (mk X C) C f)
theorem sk_nil : SK X C [] xNil := ⟨fun pos pins s σ H Q Iv ⟨I, ι, env, st, s3, re, ok⟩ => wpAny_evalAll_nil ⟨[], H, Iv, .nil, ok H I ι (Ext.refl _ _) s3 [] .nil⟩⟩
theorem sk_cons {f : Ex} {g : Ax} (ha : SE X C e f) (hr : SK X C kws g) : SK X C (⟨nm, e, kpos⟩ :: kws) (xCons f g) :=
  ⟨fun pos pins s σ H Q Iv ⟨I, ι, env, st, s, re, ok⟩ => (pk_cons (nm := nm) (kpos := kpos) ha hr).run pos pins _ σ H Q Iv
    ⟨I, ι, env, st, s, re, (OK.bind ok).mono fun a st1 H1 I1 ι1 x1 s1 ok1 v rv => ⟨I1, ι1, env, st1, s1, re.ext x1, (OK.bind ok1).mono fun as st2 H2 I2 ι2 x2 s2 ok2 vs rvs => ok2 H2 I2 ι2 (Ext.refl _ _) s2 _ (.cons (rv.ext x2) rvs)⟩⟩⟩
/-- how keywords bind -/
def KB (K : PySem.W.Frag) (fd : FuncData) (ps ks : List Str) : Prop := ∀ (s : Shared) (ws : List Value), K.In s.heap → ws.length = ps.length → BindsTo s fd ⟨[], ks.zip ws⟩ (ps.zip ws)
theorem se_callK0 {n : Nat} {fn : Fn} (F : FnG X.prog X.w X.K X.mg X.base k fad fd ps (spF X.K X.mg C.T n fn)) (hr : Room k X.A) (hgd : X.A.guards = some []) (hg : Gl X x) (hm : X.mg x = some (.ref fad)) (hk : PySem.W.keepIn X.K (.ref fad) = true)
    (hb : KB X.K fd ps ks) (tk : Tk X C) (ha : SK X C kws fa) (hall : (backToKw pos (keywordEach kws X.env)).all (·.1.isSome) = true := by rfl) (hks : (backToKw pos (keywordEach kws X.env)).filterMap (·.1) = ks := by rfl) (hdb : (x == ("__debug__" : Str)) = false := by decide)
    (hpl : ((backTo pos (starEach [] X.env)).any (·.1) || (backToKw pos (keywordEach kws X.env)).any (·.1.isNone)) = false := by rfl) : SE X C (.Call (.Name x p0) [] kws pos) (xCall n fn fa) := by
  refine ⟨fun pins s σ H Q Iv hh => ?_⟩
  obtain ⟨I, ι, env, st, s3, re, ok⟩ := hh
  refine wpAny_Call_Name_kw (ld_glob Iv hg hm ?_ hdb)
  have arg : rA X.K (mk X C) C fa σ H fun vs H1 => spF X.K X.mg C.T n fn vs H1 Q (C.EX σ) := ⟨I, ι, env, st, s3, re, (OK.bind ok).mono fun as st1 H1 I1 ι1 x1 s1 ok1 vs rvs => by
    split at ok1
    · next hl => exact ⟨I1, ι1, as, st1, C.x, s1, rvs, hl, ok1⟩
    · exact ok1.elim⟩
  refine PySem.W.callWith_KW0 (h₀ := X.base) Iv.ok.mod.kin hk hall (thn (ha.run pos pins s σ H _ Iv arg) fun us s1 ⟨vs, H1, I1, r1, q1⟩ => ⟨I1.kIn, ?_⟩) hpl
  rw [hks]
  have ul : us.length = ps.length := by rw [← r1.length]; exact F.len _ _ _ _ q1
  refine wpAny_call (codeAny_mono (F.run X.A X.stack s1 H1 ⟨[], ks.zip us⟩ us vs Q (C.EX σ) hr hgd I1.env0 (hb s1 us I1.kIn ul) r1 q1) fun res s2 hq => ?_)
  cases res with
  | error er => exact L2N.passAt tk σ pins H1 s1 er s2 I1 hq
  | ok fl =>
    cases fl with
    | ret u => exact I1.after hq
    | next => exact hq.elim
    | brk => exact hq.elim
    | cont => exact hq.elim

/-! ### o[i], o2[j] = a pair -/
def putAt (d : PyData) (x y : EV) (st : Store) : Option Store := match x, y with
  | .ref n, .d (.int z) => match st[n]? with
    | some (some ds) => match ixN ds.length z with
      | some j => some (st.set n (some (ds.set j d)))
      | none => none
    | _ => none
  | _, _ => none
theorem putAt_some {d : PyData} {x y : EV} {st st' : Store} (h : putAt d x y st = some st') : ∃ n z ds j, x = .ref n ∧ y = .d (.int z) ∧ st[n]? = some (some ds) ∧ ixN ds.length z = some j ∧ st' = st.set n (some (ds.set j d)) := by
  unfold putAt at h
  split at h
  · next n z =>
    split at h
    · next ds hd =>
      split at h
      · next j hj => exact ⟨n, z, ds, j, rfl, rfl, hd, hj, (Option.some.inj h).symm⟩
      · cases h
    · cases h
  · cases h
def sSub2 (f o1 k1 o2 k2 : Ex) : Sx := fun env st => sb env (f env st) fun a st => match a with
  | .d (.tuple [d1, d2]) => sb env (o1 env st) fun x st => sb env (k1 env st) fun y st => match putAt d1 x y st with
    | some st => sb env (o2 env st) fun x st => sb env (k2 env st) fun y st => match putAt d2 x y st with
      | some st => .ok (.nx env) st
      | none => .stuck
    | none => .stuck
  | _ => .stuck
theorem put_ok {K : PySem.W.Frag} {mg : Mx} {T : List (Addr × Str)} {H I : Hp} {ι : List Addr} {st st' : Store} {d : PyData} {x y : EV} {v w t : V} {Q : Hp → Prop} (s : S3 K T H I ι st) (rx : RV K mg I ι x w) (ry : RV K mg I ι y t) (rv : Dp K I v d) (h : putAt d x y st = some st')
    (q : ∀ H', S3 K T H' I ι st' → Q H') : rSetL w t v H Q := by
  obtain ⟨n, z, ds, j, rfl, rfl, hd, hj, rfl⟩ := putAt_some h
  obtain ⟨b, us, g1, g2, g3, g4⟩ := s.cell n ds hd
  obtain ⟨b', h1, rfl⟩ := rx
  rw [h1] at g1
  cases g1
  exact ⟨_, us, z, j, rfl, dp_int ry, g2, by rw [dpAll_len g3]; exact hj, q _ (s.write hd h1 g2 (dpAll_set rv j g3))⟩
theorem ss_sub2 {o1 k1 o2 k2 : Expr} {f1 g1 f2 g2 : Ex} {tp1 tp2 tp : Pos} {kd : Nat} (hc : X.calm = true) (he : SE X C e f) (hg1 : PG X (.Subscript o1 k1 tp1) (gSub (rE X.K (mk X C) C f1) (rE X.K (mk X C) C g1) rSetL))
    (hg2 : PG X (.Subscript o2 k2 tp2) (gSub (rE X.K (mk X C) C f2) (rE X.K (mk X C) C g2) rSetL))
    (hs : swapsWithSole [.Tuple [.Subscript o1 k1 tp1, .Subscript o2 k2 tp2] kd tp] e pos.line X.env = pure false := by rfl) (hw : swappedStores [.Tuple [.Subscript o1 k1 tp1, .Subscript o2 k2 tp2] kd tp] e X.env = pure none := by rfl)
    (h1 : (assignEach [.Tuple [.Subscript o1 k1 tp1, .Subscript o2 k2 tp2] kd tp] X.env).map (·.2) = [assign (.Tuple [.Subscript o1 k1 tp1, .Subscript o2 k2 tp2] kd tp) X.env] := by rfl) :
    SS X C (.Assign [.Tuple [.Subscript o1 k1 tp1, .Subscript o2 k2 tp2] kd tp] e pos) (sSub2 f f1 g1 f2 g2) :=
  ps_imp (ps_asg he (pg_tup (n := 2) hc (pgs_cons hg1 (pgs_cons hg2 pgs_nil))) hs hw h1) fun D σ H ⟨I, ι, env, st, s, re, ok⟩ =>
    ⟨I, ι, env, st, s, re, (OK.sb re ok).mono fun a st1 H1 I1 ι1 x1 s1 ok1 v rv => by
      split at ok1
      · next d1 d2 =>
        obtain ⟨p, vs, rfl, q1, q2⟩ := dp_tup rv
        cases q2 with
        | cons r1 q2 =>
          cases q2 with
          | cons r2 q2 =>
            cases q2
            refine ⟨p, _, rfl, sqT_mono s1.im q1, rfl, _, _, rfl, I1, ι1, env, st1, s1, re.ext x1, (OK.sb (re.ext x1) ok1).mono fun x st2 H2 I2 ι2 x2 s2 ok2 w rw' =>
              ⟨I2, ι2, env, st2, s2, re.ext (x1.trans x2), (OK.sb (re.ext (x1.trans x2)) ok2).mono fun y st3 H3 I3 ι3 x3 s3 ok3 t rt => ?_⟩⟩
            split at ok3
            · next st4 hp =>
              refine put_ok s3 (rw'.ext x3) rt (dp_mono (x2.trans x3).same _ _ r1) hp fun H4 s4 => ?_
              refine ⟨_, _, rfl, I3, ι3, env, st4, s4, re.ext (x1.trans (x2.trans x3)), (OK.sb (re.ext (x1.trans (x2.trans x3))) ok3).mono fun x st5 H5 I5 ι5 x5 s5 ok5 w rw' =>
                ⟨I5, ι5, env, st5, s5, re.ext (x1.trans (x2.trans (x3.trans x5))), (OK.sb (re.ext (x1.trans (x2.trans (x3.trans x5)))) ok5).mono fun y st6 H6 I6 ι6 x6 s6 ok6 t rt => ?_⟩⟩
              split at ok6
              · next st7 hp =>
                refine put_ok s6 (rw'.ext x6) rt (dp_mono (x2.trans (x3.trans (x5.trans x6))).same _ _ r2) hp fun H7 s7 => ?_
                exact ⟨rfl, ok6 H7 I6 ι6 (Ext.refl _ _) s7 σ (re.ext (x1.trans (x2.trans (x3.trans (x5.trans x6)))))⟩
              · exact ok6.elim
            · exact ok3.elim
      · exact ok1.elim⟩

/-! ### a number of the module -/
theorem se_gint {x : Str} {i : Int} (hg : Gl X x) (h : ∃ t, X.mg x = some (.int i t)) (hd : (x == ("__debug__" : Str)) = false := by decide) : SE X C (.Name x pos) (xC (.int i)) :=
  let ⟨t, e⟩ := h; se_c (v := .int i) (pe_glob hg e ⟨t, rfl⟩ hd) fun _ => .int i
end

/-! ### a def's facts -/
structure DefK (K : PySem.W.Frag) (mg : Str → Option Value) (x : Str) (st : Stmt) (ps : List Str) (f : Addr) (fd : FuncData) : Prop where
  F : Fun K x x st f fd
  g : mg x = some (.ref f)
  b : Binds K fd ps []
theorem defK_mk {K : PySem.W.Frag} {mg : Str → Option Value} {h : Heap} {x : Str} {st : Stmt} {ps : List Str} {f : Addr} {oc : Value} {od an : Option Addr} {osl : Array (Option Value)} {kV doc pm cdv ct : Value} (X : K.In h) (G : h.Ns mainGlobals mg)
    (a : PySem.W.nsIn K mainGlobals x = some (some (.ref f))) (l : K.lookup f = some ⟨oc, od, .func (PySem.W.fnOf x x (defArgs st) (defBody st) (defScope st) .none kV doc pm an cdv ct), osl⟩) (c : PySem.W.codeIn K cdv x = true) (k : PySem.W.keepIn K (.ref f) = true)
    (hb : ∀ (kV doc pm : Value) (an : Option Addr) (cdv ct : Value) (us : List Value), us.length = ps.length → bindArgs (PySem.W.fnOf x x (defArgs st) (defBody st) (defScope st) .none kV doc pm an cdv ct) ⟨us, []⟩ = pure (ps.zip us)) :
    DefK K mg x st ps f (PySem.W.fnOf x x (defArgs st) (defBody st) (defScope st) .none kV doc pm an cdv ct) :=
  ⟨fun_mk l c k, PySem.W.mg_of X G a, .all (hb kV doc pm an cdv ct)⟩
section
variable {P : Program} {w : World} {K : PySem.W.Frag} {mg : Str → Option Value} {base : Heap} {k : Nat} {f : Addr} {ps N : List Str} {T : List (Addr × Str)}
/-- the rule for a def, its object known -/
theorem def_okC {x qn : Str} {st : Stmt} {fd : FuncData} {u : Sx} {keep : Bool} (F : Fun K x qn st f fd) (S : FnScope N ps (defScope st))
    (hb : ∀ (oc : Value) (od : Option Addr) (kV doc pm : Value) (an : Option Addr) (cv ct : Value) (osl : Array (Option Value)), fd = PySem.W.fnOf x qn (defArgs st) (defBody st) (defScope st) .none kV doc pm an cv ct → K.lookup f = some ⟨oc, od, .func fd, osl⟩ →
      ∀ (A : Around) (outer : List Env) (s : Shared) (H : Hp) (E : XK) (ax : Aux), Room k (A.deeper (envOfC qn (defScope st) s.heap.objs.size f cv)) → A.guards = some [] →
      SB (cxOf (L2N.CX P w) P w K mg base N qn (defScope st) f cv A outer s H E) ⟨T, fun _ => E, ax⟩ (defBody st) u) : FnG P w K mg base (k + 1) f fd ps (spF K mg T ps.length (fnO keep N.length u)) := by
  obtain ⟨oc, od, kV, doc, pm, an, cv, ct, osl, rfl, lk, hcd⟩ := F.ex
  refine fnG_of lk hcd S (fun vs H Q E h => ?_) fun A outer s H vs Q E hr hgd h => ?_
  · obtain ⟨I, ι, args, st', ax, h1, h2, h3, h4⟩ := h
    rw [h2.length, h3]
  · obtain ⟨I, ι, args, st', ax, h1, h2, h3, h4⟩ := h
    refine ⟨_, hb oc od kV doc pm an cv ct osl rfl lk A outer s H E ax hr hgd, I, ι, entry N.length args, st', h1, entry_re _ h2 ?_ N rfl, ?_⟩
    · have := congrArg List.length S.pre
      rw [List.length_take] at this
      omega
    · exact body_reads h1 h4
end
/-! ### the law's beginning -/
theorem nz_start {K : PySem.W.Frag} {mg : Str → Option Value} {tb : List (Addr × Addr)} {T : List (Addr × Str)} {fn : Fn} {n : Nat} (hT : ∀ p ∈ T, p.1 ∈ tb.map Prod.snd)
    (ok : ∀ ns : List Int, ns.length ≤ n → (∀ z ∈ ns, Builtin.Int.intBits z ≤ 1048576) → ∃ st, fn [.d (.list (ns.map .int))] [] = .ok (.d (.bool true)) st) :
    ∀ (H : Hp) (a : Addr) (ns : List Int), ns.length ≤ n → (∀ z ∈ ns, Builtin.Int.intBits z ≤ 1048576) → (∀ p ∈ tb, H p.2 = some (.tbl #[])) → SqL K H a (ns.map V.int) → spF K mg T 1 fn [.ref a] H (fun v _ => v = .bl true) fun _ _ _ => False := by
  intro H a ns hl hb ht hS
  obtain ⟨st, e⟩ := ok ns hl hb
  have tabs : Tabs T H := fun p hp => by
    obtain ⟨q, hq, e⟩ := List.mem_map.mp (hT p hp)
    refine ⟨#[], by rw [← e]; exact ht q hq, ⟨?_, ?_⟩⟩
    · exact trivial
    · intro pos cv hc
      cases hc
  obtain ⟨I, i1, i2, i3⟩ : ∃ I : Hp, (∀ a o, I a = some o → H a = some o) ∧ (∀ a ps, I a ≠ some (.tbl ps)) ∧ SqL K I a (ns.map V.int) := by
    rcases hS with (hS | ⟨o, hS⟩) | hS
    · refine ⟨fun b => if b = a then H a else none, fun b o q => ?_, fun b ps q => ?_, .inl (.inl ?_)⟩
      · dsimp only at q; split at q
        · next e => rw [e]; exact q
        · cases q
      · dsimp only at q; split at q
        · rw [hS] at q; cases q
        · cases q
      · show (if a = a then H a else none) = _
        rw [if_pos rfl]; exact hS
    · refine ⟨fun b => if b = a then H a else none, fun b o q => ?_, fun b ps q => ?_, .inl (.inr ⟨o, ?_⟩)⟩
      · dsimp only at q; split at q
        · next e => rw [e]; exact q
        · cases q
      · dsimp only at q; split at q
        · rw [hS] at q; cases q
        · cases q
      · show (if a = a then H a else none) = _
        rw [if_pos rfl]; exact hS
    · exact ⟨fun _ => none, (fun _ _ q => nomatch q), (fun _ _ q => nomatch q), .inr hS⟩
  refine ⟨I, [], [.d (.list (ns.map .int))], [], {}, ⟨i1, rfl, List.nodup_nil, (fun n ds q => by simp at q), (fun a ha => absurd ha List.not_mem_nil), tabs, i2⟩, .cons (.lst i3 (dpAll_of_ints ns)) .nil, rfl, ?_⟩
  rw [e]
  intro H' I' ι' _ _ v rv
  exact dp_bool rv
end Nz

end
section
set_option Elab.async false
set_option linter.all false
set_option maxRecDepth 100000
set_option maxHeartbeats 2000000
/-! what the text's terms need -/
namespace Nz
open PySem PySem.Spec PyProof.Rows L2
open LamX (Tabs TabS CodeO TabB)
theorem hu64 {A : Around} {k : Nat} (hr : Room k A) : A.units + 64 < cLine := by have := hr.un; omega
theorem hu65 {A : Around} {k : Nat} (hr : Room k A) : A.units + 65 < cLine := by have := hr.un; omega
theorem hu66 {A : Around} {k : Nat} (hr : Room k A) : A.units + 66 < cLine := by have := hr.un; omega
theorem tk_no {X : Cx} {C : Cfg} : Tk X (Cb C) := fun u s' ⟨_, _, _, _, _, _, _, _, _, _, _, _, _, _, _, _, w⟩ => w.elim
theorem pe_bty {X : Cx} {x : Str} {ty : String} {pos : Pos} (hg : Gl X x) (hm : X.mg x = none) (hv : bootBuiltins x = some (.type ty)) (hn : x ≠ "__name__" := by decide) (hd : (x == ("__debug__" : Str)) = false := by decide) : PE X (.Name x pos) (tC (.ty ty)) :=
  ⟨fun pins s σ H Q I h => ld_blt I hg hm hv ⟨.ty ty, H, I, rfl, h⟩ hn hd⟩
/-! == and != of texts and numbers straight -/
def oEqS : EV → EV → Store → Out EV := fun x y st => match x, y with
  | .d (.str a), .d (.str b) => .ok (.d (.bool (decide (a = b)))) st
  | .d (.int a), .d (.int b) => .ok (.d (.bool (decide (a = b)))) st
  | x, y => oEq x y st
def oNeS : EV → EV → Store → Out EV := fun x y st => match x, y with
  | .d (.str a), .d (.str b) => .ok (.d (.bool (!decide (a = b)))) st
  | .d (.int a), .d (.int b) => .ok (.d (.bool (!decide (a = b)))) st
  | x, y => oNe x y st
theorem cm_eqS {X : Cx} {C : Cfg} : Op2 X C (fun x y H Q => rEq x y H Q ∨ rEqD X.K x y H Q) oEqS := by
  intro EX H I ι st x y v u Q s rx ry ok
  unfold oEqS at ok
  split at ok
  · next a b =>
    have e1 := dp_str rx
    have e2 := dp_str ry
    subst e1 e2
    have z := ok H I ι (Ext.refl _ _) s _ (.bl _)
    refine .inl ⟨rfl, ?_⟩
    have e : decide (V.str a = V.str b) = decide (a = b) := by simp
    rw [e]; exact z
  · next a b =>
    have e1 := dp_int rx
    have e2 := dp_int ry
    subst e1 e2
    have z := ok H I ι (Ext.refl _ _) s _ (.bl _)
    refine .inl ⟨rfl, ?_⟩
    have e : decide (V.int a = V.int b) = decide (a = b) := by simp
    rw [e]; exact z
  · exact .inr (cm_eq s rx ry ok)
theorem cm_neS {X : Cx} {C : Cfg} : Op2 X C (fun x y H Q => rNe x y H Q ∨ rNeD X.K x y H Q) oNeS := by
  intro EX H I ι st x y v u Q s rx ry ok
  unfold oNeS at ok
  split at ok
  · next a b =>
    have e1 := dp_str rx
    have e2 := dp_str ry
    subst e1 e2
    have z := ok H I ι (Ext.refl _ _) s _ (.bl _)
    refine .inl ⟨rfl, ?_⟩
    have e : decide (V.str a = V.str b) = decide (a = b) := by simp
    rw [e]; exact z
  · next a b =>
    have e1 := dp_int rx
    have e2 := dp_int ry
    subst e1 e2
    have z := ok H I ι (Ext.refl _ _) s _ (.bl _)
    refine .inl ⟨rfl, ?_⟩
    have e : decide (V.int a = V.int b) = decide (a = b) := by simp
    rw [e]; exact z
  · exact .inr (cm_ne s rx ry ok)
def blkB (N : List Str) (sc scope : Scope) (own : List (Str × Nat)) : Bool :=
  decide (scope.kind = .function) && (scope.names.all fun y => decide (scope.names.lookup y.1 = some y.2)) && (own.all fun p => decide (N[p.2]? = some p.1)) &&
    (scope.names.all fun y => !decide (y.2 = .free) || decide (sc.names.lookup y.1 = some .cell) || decide (sc.names.lookup y.1 = some .free)) &&
    (scope.names.all fun y => !(decide (y.2 = .local) || decide (y.2 = .cell)) || decide (y.1 ∈ own.map (·.1)) || !decide (y.1 ∈ N))
theorem blk_ok {N : List Str} {sc scope : Scope} {own : List (Str × Nat)} (h : blkB N sc scope own = true) : BlkOk N sc scope own := by
  unfold blkB at h
  simp only [Bool.and_eq_true, Bool.or_eq_true, Bool.not_eq_true', decide_eq_true_eq, decide_eq_false_iff_not, List.all_eq_true] at h
  obtain ⟨⟨⟨⟨h1, h2⟩, h3⟩, h4⟩, h5⟩ := h
  refine ⟨h1, h2, h3, fun y hy e => ?_, fun y hy e => ?_⟩
  · rcases h4 y hy with (z | z) | z
    · exact absurd e z
    · exact .inl z
    · exact .inr z
  · rcases h5 y hy with (z | z) | z
    · exfalso
      rw [Bool.or_eq_false_iff] at z
      rcases e with e | e
      · simp [e] at z
      · simp [e] at z
    · exact .inl z
    · exact .inr z
section
variable {X : Cx} {C : Cfg} {e a b c : Expr} {f g h : Ex} {pos : Pos}
theorem test_ok {K : PySem.W.Frag} {mg : Mx} {t : TE} {f : Ex} {σ : L2.St} {H : Hp} {Q : Bool → Hp → Prop} (ht : ∀ Q, rE K mg C f σ H Q → t σ H Q) (h : rT K mg C (xB f) σ H Q) : tTest t σ H Q := by
  obtain ⟨I, ι, env, st, s, re, ok⟩ := h
  refine ht _ ⟨I, ι, env, st, s, re, (OK.bind ok).mono fun x st1 H1 I1 ι1 x1 s1 ok1 v rv => ?_⟩
  split at ok1
  · next b => exact ⟨b, dp_bool rv, ok1 _ _ _ (Ext.refl _ _) s1⟩
  · exact ok1.elim
theorem st_cmp {op : CmpOp} {r : R2} {k : EV → EV → Store → Out EV} (ho : OpR X (compareOp op) r) (hk : Op2 X C r k) (ha : SE X C a f) (hb : SE X C b g) (hm : behindInMarks op b = false := by first | exact nobehind _ (by decide) (by decide) | rfl) :
    ST X C (.Compare a [op] [b] pos) (xB (xOp k f g)) :=
  pt_imp (pt_cmpR ho ha hb hm) fun σ H Q h => test_ok (fun Q h => top_ok hk (ta := fun _ _ _ => True) (tb := fun _ _ _ => True) h) h
theorem chain_ok {r r' : R2} {k k' : EV → EV → Store → Out EV} (hk : Op2 X C r k) (hk' : Op2 X C r' k') {σ : L2.St} {H : Hp} {Q : VK} (q : rE X.K (mk X C) C (xChain k k' f g h) σ H Q) : tChain r r' (rE X.K (mk X C) C f) (rE X.K (mk X C) C g) (rE X.K (mk X C) C h) σ H Q := by
  obtain ⟨I, ι, env, st, s, re, ok⟩ := q
  exact ⟨I, ι, env, st, s, re, (OK.bind ok).mono fun x st1 H1 I1 ι1 x1 s1 ok1 v rv => ⟨I1, ι1, env, st1, s1, re.ext x1, (OK.bind ok1).mono fun y st2 H2 I2 ι2 x2 s2 ok2 u ru => by
      refine hk s2 (rv.ext x2) ru ((OK.bind ok2).mono fun z st3 H3 I3 ι3 x3 s3 ok3 w rw' => ?_)
      split at ok3
      · next => exact ⟨true, dp_bool rw', by
          rw [if_pos rfl]
          exact ⟨I3, ι3, env, st3, s3, re.ext (x1.trans (x2.trans x3)), (OK.bind ok3).mono fun w2 st4 H4 I4 ι4 x4 s4 ok4 t rt => hk' s4 (ru.ext (x3.trans x4)) rt ok4⟩⟩
      · next => exact ⟨false, dp_bool rw', by
          rw [if_neg Bool.false_ne_true]
          exact ok3 _ _ _ (Ext.refl _ _) s3 _ (.bl false)⟩
      · exact ok3.elim⟩⟩
theorem st_chain {op op' : CmpOp} {r r' : R2} {k k' : EV → EV → Store → Out EV} (ho : OpR X (compareOp op) r) (hk : Op2 X C r k) (ho' : OpR X (compareOp op') r') (hk' : Op2 X C r' k') (ha : SE X C a f) (hb : SE X C b g) (hc : SE X C c h)
    (hm : lastMarks [op, op'] [b, c] = false := by with_unfolding_all rfl) : ST X C (.Compare a [op, op'] [b, c] pos) (xB (xChain k k' f g h)) :=
  pt_imp (pt_chain ho ho' ha hb hc hm) fun σ H Q q => test_ok (fun Q q => chain_ok hk hk' q) q
end
section
variable {P : Program} {w : World} {K : PySem.W.Frag} {mg : Str → Option Value} {base : Heap} {k : Nat} {f : Addr} {T : List (Addr × Str)}
/-- the rule for a def, its numbers given -/
theorem def_okN (N ps : List Str) (n m : Nat) (keep : Bool) (u : Sx) {x qn : Str} {st : Stmt} {fd : FuncData} (F : Fun K x qn st f fd) (S : FnScope N ps (defScope st)) (hn : N.length = n) (hm : ps.length = m)
    (hb : ∀ (cv : Value) (A : Around) (outer : List Env) (s : Shared) (H : Hp) (E : XK) (ax : Aux), Room k (A.deeper (envOfC qn (defScope st) s.heap.objs.size f cv)) → A.guards = some [] →
      SB (cxOf (L2N.CX P w) P w K mg base N qn (defScope st) f cv A outer s H E) ⟨T, fun _ => E, ax⟩ (defBody st) u) : FnG P w K mg base (k + 1) f fd ps (spF K mg T m (fnO keep n u)) := by
  subst hn hm
  exact def_ok F S hb
theorem def_okCN (N ps : List Str) (n m : Nat) (keep : Bool) (u : Sx) {x qn : Str} {st : Stmt} {fd : FuncData} (F : Fun K x qn st f fd) (S : FnScope N ps (defScope st)) (hn : N.length = n) (hm : ps.length = m)
    (hb : ∀ (oc : Value) (od : Option Addr) (kV doc pm : Value) (an : Option Addr) (cv ct : Value) (osl : Array (Option Value)), fd = PySem.W.fnOf x qn (defArgs st) (defBody st) (defScope st) .none kV doc pm an cv ct → K.lookup f = some ⟨oc, od, .func fd, osl⟩ →
      ∀ (A : Around) (outer : List Env) (s : Shared) (H : Hp) (E : XK) (ax : Aux), Room k (A.deeper (envOfC qn (defScope st) s.heap.objs.size f cv)) → A.guards = some [] →
      SB (cxOf (L2N.CX P w) P w K mg base N qn (defScope st) f cv A outer s H E) ⟨T, fun _ => E, ax⟩ (defBody st) u) : FnG P w K mg base (k + 1) f fd ps (spF K mg T m (fnO keep n u)) := by
  subst hn hm
  exact def_okC F S hb
/-- a def that makes lambdas: its code object, its table -/
structure LamT (K : PySem.W.Frag) (mg : Str → Option Value) (base : Heap) (T : List (Addr × Str)) (x q : Str) : Prop where
  ex : ∃ c Pt, (Pt, q) ∈ T ∧ (∀ p ∈ T, p.1 = Pt → p.2 = q) ∧ TabB base mg c Pt ∧ ∀ (f : Addr) (oc : Value) (od : Option Addr) (fd : FuncData) (sl : Array (Option Value)), mg x = some (.ref f) → K.lookup f = some ⟨oc, od, .func fd, sl⟩ → fd.code = .ref c
theorem bb_int : bootBuiltins "int" = some (.type "int") := by decide +kernel
theorem bb_bool : bootBuiltins "bool" = some (.type "bool") := by decide +kernel
theorem bb_tuple : bootBuiltins "tuple" = some (.type "tuple") := by decide +kernel
theorem bb_list : bootBuiltins "list" = some (.type "list") := by decide +kernel
theorem bb_str : bootBuiltins "str" = some (.type "str") := by decide +kernel
theorem bb_ValueError : bootBuiltins "ValueError" = some (.type "ValueError") := by decide +kernel
end
/-! ### own errors, by what is written -/
theorem kit_own {K : PySem.W.Frag} {C D : Addr} {b : Bool} (h1 : PySem.W.isClsIn K D = true) (h2 : PySem.W.typeIn K (.ref D) = some (.type "type")) (h3 : PySem.W.subIn K (.ref C) (.ref D) = some b) (h4 : C = D → b = true) : PySem.W.kitOne K (.ref C) (.ref D) = some b := by
  unfold PySem.W.kitOne
  by_cases e : C = D
  · subst e
    rw [h4 rfl]
    simp
  · have n : (Value.ref C == Value.ref D) = false := by
      cases hq : (Value.ref C == Value.ref D) with
      | false => rfl
      | true => exact absurd (Value.ref.inj (eq_of_beq hq)) e
    rw [n, if_neg Bool.false_ne_true]
    have h1' : (PySem.W.clsIn K D).isSome = true := h1
    unfold PySem.W.kitCls
    dsimp only
    rw [h1', h2, if_pos (by rfl)]
    exact h3
theorem kit_blt {K : PySem.W.Frag} {C : Addr} {t : String} {b : Bool} (h1 : PySem.W.kitMeta t = true) (h3 : PySem.W.subIn K (.ref C) (.type t) = some b) : PySem.W.kitOne K (.ref C) (.type t) = some b := by
  unfold PySem.W.kitOne
  have n : (Value.ref C == Value.type t) = false := by
    cases hq : (Value.ref C == Value.type t) with
    | false => rfl
    | true => exact nomatch (eq_of_beq hq)
  rw [n, if_neg Bool.false_ne_true]
  unfold PySem.W.kitCls
  dsimp only
  rw [if_pos h1]
  exact h3
theorem exm_of {K : PySem.W.Frag} {C D : Addr} {b : Bool} (h0 : PySem.W.subIn K (.ref D) (.type "BaseException") = some true) (h1 : PySem.W.isClsIn K D = true) (h2 : PySem.W.typeIn K (.ref D) = some (.type "type")) (h3 : PySem.W.subIn K (.ref C) (.ref D) = some b) : PySem.W.exmOne K (.ref C) (.ref D) = some b := by
  unfold PySem.W.exmOne
  have h1' : (PySem.W.clsIn K D).isSome = true := h1
  rw [h0, if_pos (by rfl)]
  unfold PySem.W.kitCls
  dsimp only
  rw [h1', h2, if_pos (by rfl)]
  exact h3
theorem tab_is {K : PySem.W.Frag} {x : Str} {f c Pt : Addr} {oc oc2 : Value} {od od2 : Option Addr} {fd : FuncData} {sl sl2 : Array (Option Value)} {vs : Array Value} (a : PySem.W.nsIn K mainGlobals x = some (some (.ref f))) (l : K.lookup f = some ⟨oc, od, .func fd, sl⟩) (hc : fd.code = .ref c)
    (xc : K.lookup c = some ⟨oc2, od2, .fields vs, sl2⟩) (xv : vs[11]? = some (.ref Pt)) : PySem.W.tabIn K x = some (c, Pt) := by
  unfold PySem.W.tabIn
  rw [a]
  dsimp only
  rw [l]
  dsimp only
  rw [hc]
  dsimp only
  rw [xc]
  dsimp only
  rw [xv]
end Nz

end
section
set_option Elab.async false
set_option linter.all false
set_option maxRecDepth 100000
set_option maxHeartbeats 2000000
/-! starred displays; a display of texts looked up; try without a name; a tuple of the module -/
namespace Nz
open PySem PySem.Spec PyProof.Rows L2
open LamX (Tabs TabS CodeO TabB)
open StX (tStar)
theorem hu1 {A : Around} {k : Nat} (hr : Room k A) : A.units + 1 < cLine := by have := hr.un; omega
section
variable {X : Cx} {C : Cfg} {tg e a b c : Expr} {es : List Expr} {f g h : Ex} {fa fk : Ax} {pos p0 kpos : Pos} {x : Str}

/-! ### *xs in a display -/
def seqOf (st : Store) (x : EV) : Option (List PyData) := match view st x with
  | some (.list ds) => some ds
  | some (.tuple ds) => some ds
  | _ => none
def xStar (f : Ex) (g : Ax) : Ax := fun env st => (f env st).bind fun x st => match seqOf st x with
  | some ds => (g env st).bind fun as st => .ok (ds.map EV.d ++ as) st
  | none => .stuck
theorem rvs_d {K : PySem.W.Frag} {mg : Mx} {I : Hp} {ι : List Addr} : ∀ {ds : List PyData} {vs : List V}, DpAll K I vs ds → RVs K mg I ι (ds.map EV.d) vs
  | [], _, q => by cases q; exact .nil
  | d :: ds, _, q => by
    cases q with
    | cons a b => exact .cons a (rvs_d b)
theorem rvs_app {K : PySem.W.Frag} {mg : Mx} {I : Hp} {ι : List Addr} : ∀ {xs ys : List EV} {vs ws : List V}, RVs K mg I ι xs vs → RVs K mg I ι ys ws → RVs K mg I ι (xs ++ ys) (vs ++ ws)
  | [], _, _, _, p, q => by cases p; exact q
  | x :: xs, _, _, _, p, q => by
    cases p with
    | cons a b => exact .cons a (rvs_app b q)
theorem sa_star {p : Pos} {g : Ax} (ha : SE X C e f) (hr : SA X C es g) (hs : starEach (.Starred e p :: es) X.env = (true, eval e X.env) :: starEach es X.env := by rfl) : SA X C (.Starred e p :: es) (xStar f g) :=
  pa_imp (StX.pa_star ha hr hs) fun σ H Q ⟨I, ι, env, st, s, re, ok⟩ =>
    ⟨I, ι, env, st, s, re, (OK.bind ok).mono fun y st1 H1 I1 ι1 x1 s1 ok1 v rv => by
      cases hq : seqOf st1 y with
      | none => rw [hq] at ok1; exact ok1.elim
      | some ds =>
        rw [hq] at ok1
        obtain ⟨p, vs, e1, e2, e3⟩ : ∃ p vs, v = V.ref p ∧ (SqT X.K H1 p vs ∨ SqL X.K H1 p vs) ∧ DpAll X.K I1 vs ds := by
          unfold seqOf at hq
          split at hq
          · next ds' hv =>
            cases hq
            obtain ⟨p, vs, q1, q2, q3⟩ := view_list s1 rv hv
            exact ⟨p, vs, q1, .inr q2, q3⟩
          · next ds' hv =>
            cases hq
            obtain ⟨p, vs, q1, q2, q3⟩ := view_tup s1 rv hv
            exact ⟨p, vs, q1, .inl q2, q3⟩
          · cases hq
        refine ⟨p, vs, e1, e2, ?_⟩
        exact ⟨I1, ι1, env, st1, s1, re.ext x1, (OK.bind ok1).mono fun as st2 H2 I2 ι2 x2 s2 ok2 ws rws =>
          ok2 H2 I2 ι2 (Ext.refl _ _) s2 _ (rvs_app (rvs_d (dpAll_mono x2.same _ _ e3)) rws)⟩⟩

/-! ### {'a': 'b', ..}[x] -/
def lastOf (kvs : List (Str × Str)) (z : Str) : Option Str := kvs.reverse.lookup z
def xDsub (kvs : List (Str × Str)) (g : Ex) : Ex := fun env st => (g env st).bind fun y st => match y with
  | .d (.str z) => match lastOf kvs z with
    | some v => .ok (.d (.str v)) st
    | none => .stuck
  | _ => .stuck
theorem tPairs_c {σ : L2.St} : ∀ (kvs : List (Str × Str)) {H : Hp} {Q : List (V × V) → Hp → Prop}, Q (kvs.map fun p => (V.str p.1, V.str p.2)) H → tPairs (kvs.map fun p => (tC (.str p.1), tC (.str p.2))) σ H Q
  | [], _, _, q => q
  | p :: r, _, _, q => tPairs_c r q
theorem valV_mergeS (z : Str) : ∀ (kvs : List (Str × Str)) (acc : List (Key × V)), valV (mergeK acc (kvs.map fun p => ((Sum.inr p.1 : Key), V.str p.2))) (Sum.inr z) = match lastOf kvs z with
    | some v => some (V.str v)
    | none => valV acc (Sum.inr z)
  | [], acc => rfl
  | p :: r, acc => by
    have e : mergeK acc ((p :: r).map fun p => ((Sum.inr p.1 : Key), V.str p.2)) = mergeK (putK acc (Sum.inr p.1) (.str p.2)) (r.map fun p => ((Sum.inr p.1 : Key), V.str p.2)) := rfl
    rw [e, valV_mergeS z r]
    have e2 : lastOf (p :: r) z = (lastOf r z).or (if z = p.1 then some p.2 else none) := by
      unfold lastOf
      rw [List.reverse_cons, List.lookup_append]
      congr 1
      rw [List.lookup_cons]
      by_cases hz : z = p.1
      · subst hz; simp
      · have hb : (z == p.1) = false := by simpa using hz
        simp [hz, hb]
    rw [e2]
    cases lastOf r z with
    | some v => rfl
    | none =>
      rw [valV_put]
      by_cases hz : z = p.1
      · subst hz; simp
      · have : ¬ ((Sum.inr z : Key) = Sum.inr p.1) := fun q => hz (Sum.inr.inj q)
        simp [hz, this]
theorem upd_upd {H : Hp} {p : Addr} {o o' : HO} : upd (upd H p o) p o' = upd H p o' := by
  funext b
  by_cases hb : b = p
  · subst hb; rw [upd_same, upd_same]
  · rw [upd_ne hb, upd_ne hb, upd_ne hb]
theorem se_dsub {kvs : List (Str × Str)} {keys : List (Option Expr)} {values : List Expr} {dpos : Pos} (hu : X.A.units + 1 < cLine) (hp : PPs X dpos keys values (kvs.map fun p => (tC (.str p.1), tC (.str p.2)))) (hi : SE X C b g)
    (hall : keys.all (·.isSome) = true := by rfl) (hl : keys.length = values.length := by rfl) (h0 : keys ≠ [] := by simp) (h15 : keys.length ≤ 15 := by decide) (hk : kvs.length ≤ 15 := by decide)
    (hs : NoSl b := by exact fun _ _ => rfl) : SE X C (.Subscript (.Dict keys values dpos) b pos) (xDsub kvs g) :=
  pe_imp (pe_dget hu (pe_disp hp hall hl h0 h15) hi hs) fun σ H Q ⟨I, ι, env, st, s, re, ok⟩ => fun p hpn => by
    refine tPairs_c kvs ?_
    refine ⟨upd_same, kvs.map fun p => ((Sum.inr p.1 : Key), V.str p.2), by rw [List.map_map]; rfl, by rw [List.length_map]; exact hk, ?_⟩
    rw [upd_upd]
    have s2 := s.alloc hpn (.dK (mergeK [] (kvs.map fun p => ((Sum.inr p.1 : Key), V.str p.2))))
    have x2 := s.allocExt hpn (.dK (mergeK [] (kvs.map fun p => ((Sum.inr p.1 : Key), V.str p.2))))
    refine ⟨_, ι, env, st, s2, re.ext x2, (OK.bind (OK.ext ok x2)).mono fun y st1 H1 I1 ι1 x1 s1 ok1 v rv => ?_⟩
    split at ok1
    · next z =>
      split at ok1
      · next w hw =>
        have e1 := dp_str rv
        subst e1
        refine ⟨p, V.str w, rfl, ?_, ok1 H1 I1 ι1 (Ext.refl _ _) s1 _ (.str w)⟩
        have hh : H1 p = some (.dK (mergeK [] (kvs.map fun p => ((Sum.inr p.1 : Key), V.str p.2)))) := s1.im _ _ (x1.same _ _ upd_same)
        have := DGet.k (k := Sum.inr z) hh
        rw [valV_mergeS, hw] at this
        exact this
      · exact ok1.elim
    · exact ok1.elim

/-! ### a text times a number -/
def repS (z : Str) (n : Int) : Str := if n < 1 then Str.empty else if (n == 1 || z.length == 0) = true then z else ⟨(List.replicate n.toNat z.cps).foldl (· ++ ·) #[]⟩
def rMulS : R2 := fun x y H Q => ∃ (z : Str) (n : Int), x = .str z ∧ y = .int n ∧ 0 ≤ n ∧ n ≤ 1000 ∧ z.length ≤ 1000 ∧ Q (.str (repS z n)) H
theorem foldl_size {α : Type} (a : Array α) : ∀ (m : Nat) (acc : Array α), ((List.replicate m a).foldl (· ++ ·) acc).size = acc.size + m * a.size
  | 0, acc => by simp
  | m + 1, acc => by
    rw [List.replicate_succ, List.foldl_cons, foldl_size a m, Array.size_append, Nat.succ_mul]
    omega
theorem op_mulS : OpR X (binaryOp .Mult) rMulS := by
  intro pins s σ H x y v u Q I rx ry h
  obtain ⟨z, n, rfl, rfl, n0, n1, z1, q⟩ := h
  obtain ⟨t, rfl⟩ := rx
  obtain ⟨t2, rfl⟩ := ry
  have b63 : (2 : Int) ^ 63 = 9223372036854775808 := rfl
  have big : (z.length * n.toNat) ≤ 1000000 := by
    have : n.toNat ≤ 1000 := by omega
    exact Nat.mul_le_mul z1 this
  refine PySem.P.mul_str ?_ (fun c1 c2 => ?_) (fun c1 c2 => ?_) ?_
  · rw [b63, Bool.or_eq_false_iff]
    exact ⟨decide_eq_false (by omega), decide_eq_false (by omega)⟩
  · rw [b63]
    have : (9223372036854775808 - 1 : Int) / n ≥ 9223372036854775807 / 1000 := by
      have h1 : (9223372036854775808 - 1 : Int) = 9223372036854775807 := by omega
      rw [h1]
      rw [ge_iff_le, Int.le_ediv_iff_mul_le (by omega)]
      have : n * (9223372036854775807 / 1000) ≤ 1000 * (9223372036854775807 / 1000) := Int.mul_le_mul_of_nonneg_right n1 (by decide)
      rw [Int.mul_comm]
      exact Int.le_trans this (by decide)
    omega
  · exact decide_eq_false (by rw [sizeLine_eq]; omega)
  · unfold repS at q
    split
    · next hn =>
      rw [if_pos hn] at q
      refine ⟨Nat.zero_le _, ?_⟩
      exact ⟨_, _, I.kept (t' := _) fun _ _ z => z, (show RelV (V.str _) _ from ⟨_, rfl⟩), q⟩
    · next hn =>
      rw [if_neg hn] at q
      split
      · next hn => 
        rw [if_pos hn] at q
        exact ⟨_, _, I, (show RelV (V.str _) _ from ⟨_, rfl⟩), q⟩
      · next hn => 
        rw [if_neg hn] at q
        refine ⟨?_, ?_⟩
        · show ((List.replicate n.toNat z.cps).foldl (· ++ ·) #[]).size ≤ sizeLine
          rw [foldl_size, sizeLine_eq]
          have e : z.cps.size = z.length := rfl
          rw [e, Nat.mul_comm]
          show 0 + _ ≤ _
          omega
        exact ⟨_, _, I.kept (t' := _) fun _ _ z => z, (show RelV (V.str _) _ from ⟨_, rfl⟩), q⟩
def oMulS : EV → EV → Store → Out EV := fun x y st => match x, y with
  | .d (.str z), .d (.int n) => if 0 ≤ n ∧ n ≤ 1000 ∧ z.length ≤ 1000 then .ok (.d (.str (repS z n))) st else .stuck
  | _, _ => .stuck
theorem se_mulS (ha : SE X C a f) (hb : SE X C b g) : SE X C (.BinOp a .Mult b pos) (xOp oMulS f g) := se_op op_mulS (by
  intro EX H I ι st x y v u Q s rx ry ok
  unfold oMulS at ok
  split at ok
  · next z n =>
    split at ok
    · next hc => exact ⟨z, n, dp_str rx, dp_int ry, hc.1, hc.2.1, hc.2.2, ok H I ι (Ext.refl _ _) s _ (.str _)⟩
    · exact ok.elim
  · exact ok.elim) ha hb

/-! ### list + list -/
def rCatL (K : PySem.W.Frag) : R2 := fun x y H Q => ∃ a b xs ys, x = .ref a ∧ y = .ref b ∧ SqL K H a xs ∧ SqL K H b ys ∧ xs.length + ys.length ≤ sizeLine ∧ ∀ p, H p = none → Q (.ref p) (upd H p (.lst (xs ++ ys)))
theorem op_catL : OpR X (binaryOp .Add) (rCatL X.K) := by
  intro pins s σ H x y v u Q I rx ry h
  obtain ⟨a, b, xs, ys, rfl, rfl, ha, hb, hz, q⟩ := h
  cases rx
  cases ry
  obtain ⟨us, r1, p1, z1⟩ := I.list ha
  obtain ⟨ws, r2, p2, z2⟩ := I.list hb
  obtain ⟨⟨c1, d1, t1, s1⟩, g1, e1, n1, f1⟩ := p1.isList
  obtain ⟨⟨c2, d2, t2, s2⟩, g2, e2, n2, f2⟩ := p2.isList
  simp only at e1 f1 e2 f2
  subst e1 f1 e2 f2
  have k1 := r1.length
  have k2 := r2.length
  have jn : us.toArray ++ ws.toArray = (us ++ ws).toArray := by simp
  refine concat_meets ⟨_, g1, rfl⟩ ⟨_, g2, rfl⟩ noFill_list_add seq_list_add PySem.F.slot_list_add PySem.F.entry_list_add (PySem.F.args_list_add_2 _ _) (list_addW a b us.toArray ws.toArray n1 n2 d1 d2 s1 s2 (by rw [List.size_toArray, List.size_toArray]; omega)) ⟨g1, g2, ?_⟩
  rw [jn]
  exact ⟨.ref _, _, I.lnew (t' := s.toks) (r1.append r2) (by rw [List.length_append]; omega), rfl, q _ I.fresh⟩
def oAddL : EV → EV → Store → Out EV := fun x y st => match view st x, view st y with
  | some (.list xs), some (.list ys) => if xs.length + ys.length ≤ 1000 then .ok (.d (.list (xs ++ ys))) st else .stuck
  | _, _ => oAdd x y st
theorem se_addL (ha : SE X C a f) (hb : SE X C b g) : SE X C (.BinOp a .Add b pos) (xOp oAddL f g) := se_op (op_catL.or (op_add.or (op_catA.or op_add_str))) (by
  intro EX H I ι st x y v u Q s rx ry ok
  unfold oAddL at ok
  split at ok
  · next xs ys h1 h2 =>
    split at ok
    · next hl =>
      obtain ⟨p, vs, rfl, g1, g2⟩ := view_list s rx h1
      obtain ⟨q, us, rfl, g3, g4⟩ := view_list s ry h2
      refine .inl ⟨p, q, vs, us, rfl, rfl, g1, g3, by rw [dpAll_len g2, dpAll_len g4]; exact le_line hl, fun r hr => ?_⟩
      exact ok _ _ _ (s.allocExt hr _) (s.alloc hr (.lst (vs ++ us))) _ (.lst (.inl (.inl upd_same)) (dpAll_mono (Same_upd (s.free hr)) _ _ (dpAll_append g2 g4)))
    · exact ok.elim
  · exact .inr (op2_add s rx ry ok)) ha hb

/-! ### a tuple of the module, of texts and numbers -/
def flatV : Value → Option (V × PyData)
  | .int i _ => some (.int i, .int i)
  | .str z _ => some (.str z, .str z)
  | _ => none
def flats : List Value → Option (List V × List PyData)
  | [] => some ([], [])
  | u :: us => match flatV u, flats us with
    | some (v, d), some (vs, ds) => some (v :: vs, d :: ds)
    | _, _ => none
theorem flats_ok {K : PySem.W.Frag} {I : Hp} : ∀ {us : List Value} {vs : List V} {ds : List PyData}, flats us = some (vs, ds) → Vals vs us ∧ DpAll K I vs ds
  | [], _, _, e => by cases e; exact ⟨.nil, .nil⟩
  | u :: us, _, _, e => by
    unfold flats at e
    split at e
    · next v d vs ds h1 h2 =>
      cases e
      obtain ⟨q1, q2⟩ := flats_ok (K := K) (I := I) h2
      cases u <;> cases h1
      · exact ⟨.cons ⟨_, rfl⟩ q1, .cons (.int _) q2⟩
      · exact ⟨.cons ⟨_, rfl⟩ q1, .cons (.str _) q2⟩
    · cases e
/-- the module's name x is a tuple of ds -/
def GTup (K : PySem.W.Frag) (mg : Str → Option Value) (x : Str) (ds : List PyData) : Prop :=
  ∃ (ad : Addr) (o : Obj) (its : Array Value) (n : Nat) (vs : List V), mg x = some (.ref ad) ∧ K.lookup ad = some o ∧ o.cls = .type "tuple" ∧ o.data = .seq its n ∧ its.size ≤ sizeLine ∧ flats its.toList = some (vs, ds)
theorem se_gtup {x : Str} {ds : List PyData} (hg : Gl X x) (h : GTup X.K X.mg x ds) (hd : (x == ("__debug__" : Str)) = false := by decide) : SE X C (.Name x pos) (xC (.tuple ds)) :=
  let ⟨ad, o, its, n, vs, e, lk, hc, hdt, hz, hf⟩ := h
  se_c (v := .ref ad) (pe_glob hg e rfl hd) fun I => .tup (.inr ⟨o, its, n, lk, hc, hdt, hz, (flats_ok (K := X.K) (I := I) hf).1⟩) (flats_ok hf).2
end
end Nz

end
section
set_option Elab.async false
set_option linter.all false
set_option maxRecDepth 100000
set_option maxHeartbeats 4000000
/-! within an except suite: a def that looks at the error; comprehensions over lists there -/
namespace Nz
open PySem PySem.Spec PyProof.Rows L2
open LamX (Tabs TabS CodeO TabB)
open L2H (RoomH Hot1 PinOk HotC cxH)

/-! ### a list's end, an error being handled -/
section
variable {prog : Program} {w : World} {A : Around} {E : Value → Shared → Prop} {s : Shared}
theorem list_out {it l y : Addr} {i : Nat} {xs : Array Value} {Q : Option Value → Shared → Prop} (hot : HotX.HotAt A y s.heap) (hi : s.heap.IsListIter it l i) (hl : s.heap.IsList l xs) (hx : xs[i]? = none)
    (hQ : ∀ h2, Heap.ExtBut it s.heap h2 → Q none { s with heap := h2 }) : wpAny (model prog w) A (pyNext (.ref it)) Q E s := by
  obtain ⟨ob, gi, ci, di⟩ := id hi
  obtain ⟨ol, gl, _, nl, dl⟩ := hl
  obtain ⟨hh, oy, fy, gy, dy, cy⟩ := hot
  have far : y ≠ it := fun z => by
    rw [z, gi] at gy
    cases gy
    rw [di] at dy
    have e := Data.fields.inj dy
    rw [← e] at cy
    simp at cy
  unfold pyNext
  refine wpAny_bind (wpAny_attempt (wpAny_callSpecial?_slot (name := Str.ofString "__next__") hi.typeIs slot_listiter_next (wpAny_call_entry slot_listiter_next hi.typeIs entry_listiter_next ?_ (args_listiter_next _))))
  show wpAny _ _ (field (.ref it) 0 >>= _) _ _ s
  refine wpAny_bind (wpAny_field gi di (x := .ref l) rfl ?_)
  show wpAny _ _ (if (Value.ref l == Value.none) = true then _ else _) _ _ s
  rw [if_neg (show ¬ ((Value.ref l == Value.none) = true) from Bool.false_ne_true)]
  show wpAny _ _ (field (.ref it) 1 >>= _) _ _ s
  refine wpAny_bind (wpAny_field gi di (x := .int i 0) rfl ?_)
  show wpAny _ _ (seqItems? (.ref l) >>= _) _ _ s
  refine wpAny_bind (wpAny_seqItems gl dl ?_)
  simp only [Int.toNat_natCast, hx]
  refine wpAny_bind (wpAny_rule (wpAny_bind (wpAny_setField gi di (by simp) ?_)))
  show wpAny _ _ (newExc (.type "StopIteration") [] >>= _) _ _ _
  refine wpAny_bind ?_
  simp only [newExc, newTuple]
  refine wpAny_bind (wpAny_newObj_type ?_ (by size_fits))
  refine wpAny_bind (m := firstArgMember _ _) (wpAny_of_eq (a := Value.none) (by first | rfl | (simp only [firstArgMember]; rfl)) ?_)
  refine wpAny_newObj_type ?_ (by size_fits)
  have gy2 : ∀ (f : Obj → Obj), (s.heap.update it f).get? y = some oy := fun f => (Heap.get?_update_other _ _ (Ne.symm far)).trans gy
  refine HotX.raiseNew_hot ⟨hh, oy, fy, Heap.get?_push_of_some _ (Heap.get?_push_of_some _ (gy2 _)), dy, cy⟩ (Nat.ne_of_lt (Heap.lt_size (Heap.get?_push_of_some _ (gy2 _)))) (Heap.get?_push_size _ rfl) rfl (by first | (simp; done) | (simp; omega) | (simp only [Array.size_append]; simp; omega)) ?_
  refine wpAny_bind (wpAny_isInstance (T := "StopIteration") (b := true) ⟨_, Heap.get?_update_self _ (Heap.get?_push_size _ rfl) rfl, rfl⟩ isSubtype_stop ?_)
  refine wpAny_pure (hQ _ fun b o hb e => ?_)
  have e2 : ∀ (f : Obj → Obj), (s.heap.update it f).get? b = some o := fun f => (Heap.get?_update_other _ _ (Ne.symm hb)).trans e
  rw [Heap.get?_update_other _ _ (Nat.ne_of_gt (Heap.lt_size (Heap.get?_push_of_some _ (e2 _))))]
  exact Heap.get?_push_of_some _ (Heap.get?_push_of_some _ (e2 _))
end

/-! ### comprehensions over lists -/
section
variable {X : Cx}
def iLst (K : PySem.W.Frag) (te : TE) : TI := fun σ H R => te σ H fun x G => ∃ a, x = .ref a ∧ (∃ us, SqL K G a us) ∧ R (Itl K a) G
theorem pe_lcH {elt tg iter : Expr} {ifs : List Expr} {scope : Scope} {own : List (Str × Nat)} {pos : Pos} {ti : TE} {g : TG} {tt : TT} {te : TE} (q : Addr × Obj) (hot : Hot1 X.A q) (hq : q ∈ X.pn) (hN : X.N.Nodup) (hi : PE X iter ti) (ok : BlkOk X.N X.env.scope scope own)
    (hg : ∀ (s : Shared) (H : Hp) (B : Addr) (cl : List (Str × Addr)) (fp : List Addr), PG (X.blk s H scope (compEnvC scope cl B X.env) fp) tg g) (ht : ∀ (s : Shared) (H : Hp) (B : Addr) (cl : List (Str × Addr)) (fp : List Addr), PTs (X.blk s H scope (compEnvC scope cl B X.env) fp) ifs tt)
    (he : ∀ (s : Shared) (H : Hp) (B : Addr) (cl : List (Str × Addr)) (fp : List Addr), PE (X.blk s H scope (compEnvC scope cl B X.env) fp) elt te) (hs : ∀ x, foldedSetIterable iter X.env x = pure x := by intro _; rfl) :
    PE X (.ListComp elt [⟨tg, iter, ifs, 0⟩] scope pos) (tLc (iLst X.K ti) g tt te (own.map (·.2))) := by
  refine ⟨fun pins s σ H Q I h => ?_⟩
  rw [eval_ListComp]
  have up : ∀ y ∈ scope.names, y.2 = .free → ∃ c, X.env.cells.lookup y.1 = some c := fun y hy e => (ok.free y hy e).elim (fun z => I.ok.has _ (.inl z)) fun z => I.ok.has _ (.inr z)
  refine wpAny_comprehension_free (use := none) rfl hs (closure_ok up) ok.kind (fun y hy e => by rw [ok.uniq y hy, e]) (thn (hi.run pins s σ H _ I h) fun v s1 hh => ?_)
  obtain ⟨x, H2, I1, r1, a, ex, ⟨us, sq⟩, w0⟩ := hh
  subst ex
  obtain rfl : v = Value.ref a := r1
  obtain ⟨its, rv, pl, hz⟩ := I1.list sq
  refine wpAny_pyIter_list pl.isList ?_
  have I2 := I1.kept (h' := s1.heap.push { cls := .type "list_iterator", data := .fields #[.ref a, .int 0 0] }) (t' := s1.toks) fun b o z => Heap.get?_push_of_some _ z
  have go2 : (s1.heap.push { cls := .type "list_iterator", data := .fields #[.ref a, .int 0 0] }).IsListIter s1.heap.objs.size a 0 := ⟨_, Heap.get?_push_size _ rfl, rfl, rfl⟩
  have fp2 : FpOk X pins H2 s1.heap.objs.size := I1.fpOk (Nat.le_refl _) (I1.hok.fresh (Nat.le_refl _))
  generalize hk : s1.heap.objs.size = it at go2 fp2 ⊢
  generalize hs2 : ({ s1 with heap := s1.heap.push { cls := .type "list_iterator", data := .fields #[.ref a, .int 0 0] } } : Shared) = s2 at I2 ⊢
  have go2 : s2.heap.IsListIter it a 0 := by rw [← hs2]; exact go2
  refine wpAny_newObj_type (newEnv_comp ?_) (by show 0 ≤ sizeLine; decide)
  generalize hL : s2.heap.objs.size = L
  have freeL : H2 L = none := I2.hok.fresh (Nat.le_of_eq hL)
  obtain ⟨W, ⟨m0, wm⟩, turn⟩ := w0 L freeL
  generalize hs3 : ({ s2 with heap := s2.heap.push { cls := .type "list", data := .seq ([] : List Value).toArray } } : Shared) = s3
  have I3 : Inv X pins σ (upd H2 L (.lst [])) s3 := by
    rw [← hs3]
    refine I2.laid (t' := s2.toks) (fun b o e => Heap.get?_push_of_some _ e) (Nat.le_of_eq hL) ⟨Nat.zero_le _, [], 0, .nil, ?_⟩
    rw [← hL]
    exact Heap.get?_push_size _ rfl
  have e3 : s3.heap = s2.heap.push { cls := .type "list", data := .seq ([] : List Value).toArray } := by rw [← hs3]
  have ltI : it < s2.heap.objs.size := by
    obtain ⟨o, e, _⟩ := go2
    exact Heap.lt_size e
  have fp3 : ∀ b ∈ [it], FpOk X pins (upd H2 L (.lst [])) b ∧ b < s3.heap.objs.size := fun b hb => by
    obtain rfl : b = it := by simpa using hb
    refine ⟨⟨?_, fp2.2⟩, by rw [e3, Heap.size_push]; exact Nat.lt_succ_of_lt ltI⟩
    rw [upd_ne (by rw [← hL]; exact Nat.ne_of_lt ltI)]
    exact fp2.1
  have go3 : s3.heap.IsListIter it a 0 := go2.at fun o e => by rw [e3]; exact Heap.get?_push_of_some _ e
  have I4 := block_start I3 ok hN fp3
  have pg := hg s3 (upd H2 L (.lst [])) s3.heap.objs.size (cellsFrom (s3.heap.objs.size + 1) scope.names (cloFrom X.env.cells scope.names [])) [it]
  have pt := ht s3 (upd H2 L (.lst [])) s3.heap.objs.size (cellsFrom (s3.heap.objs.size + 1) scope.names (cloFrom X.env.cells scope.names [])) [it]
  have pe := he s3 (upd H2 L (.lst [])) s3.heap.objs.size (cellsFrom (s3.heap.objs.size + 1) scope.names (cloFrom X.env.cells scope.names [])) [it]
  show codeAny _ _ (.compStart (.ListComp elt [⟨tg, iter, ifs, 0⟩] scope pos) 0 (.ref it) (.ref L) (compEnvC scope (cellsFrom (s3.heap.objs.size + 1) scope.names (cloFrom X.env.cells scope.names [])) s3.heap.objs.size X.env)) (compPost (model X.prog X.w) X.A X.xe none _ (.ref L) s3.heap.objs.size) { s3 with heap := pushCells (s3.heap.push { cls := .type "dict", data := .dict #[] }) scope.names }
  have nit : ∀ b ∈ [it], (upd H2 L (.lst [])) b = none := fun b hb => (fp3 b hb).1.1
  -- the handled error stays where it is
  obtain ⟨hh, fy, dy, cy⟩ := hot
  have p3 := I3.pin q (List.mem_append_left _ hq)
  have kq : ({ s3 with heap := pushCells (s3.heap.push { cls := .type "dict", data := .dict #[] }) scope.names } : Shared).heap.get? q.1 = some q.2 := pushCells_keeps _ _ _ _ (Heap.get?_push_of_some _ p3.1)
  have nq : q.1 ≠ s3.heap.objs.size := Nat.ne_of_lt (Heap.lt_size p3.1)
  generalize hce : compEnvC scope (cellsFrom (s3.heap.objs.size + 1) scope.names (cloFrom X.env.cells scope.names [])) s3.heap.objs.size X.env = ce at I4 pg pt pe ⊢
  have cL : ce.locals = s3.heap.objs.size := by subst hce; rfl
  generalize hH3 : upd H2 L (.lst []) = H3 at I3 I4 pg pt pe wm nit fp3 p3
  generalize hs4 : ({ s3 with heap := pushCells (s3.heap.push { cls := .type "dict", data := .dict #[] }) scope.names } : Shared) = s4 at I4 kq ⊢
  have go4 : s4.heap.IsListIter it a 0 := go3.at fun o e => by rw [← hs4]; exact pushCells_keeps _ _ _ _ (Heap.get?_push_of_some _ e)
  have nF : q.1 ∉ (X.blk s3 H3 scope ce [it]).fs := fun z => (List.mem_cons.mp (I.stkSub q.1 z)).elim p3.2.2.1 p3.2.2.2.1
  have I5 : Inv (X.blk s3 H3 scope ce [it]) [q] (wipe σ (own.map (·.2))) H3 s4 := I4.pins_of fun p hp => by
    obtain rfl : p = q := by simpa using hp
    exact ⟨kq, p3.2.1, by show p.1 ≠ ce.locals; rw [cL]; exact nq, nF, p3.2.2.2.2⟩
  have hotAt : ∀ {σ2 : L2.St} {G : Hp} {s' : Shared} {pl : List (Addr × Obj)}, Inv (X.blk s3 H3 scope ce [it]) ([q] ++ pl) σ2 G s' → HotX.HotAt X.A q.1 s'.heap := fun {σ2 G s' pl} J => ⟨hh, q.2, fy, (J.pin q (List.mem_append_right _ (List.mem_append_left _ List.mem_cons_self))).1, dy, cy⟩
  have nqi : q.1 ≠ it := fun z => (fp2.2.2.2.2.2 q (List.mem_append_left _ hq)) z
  have stat : ∀ {σ2 : L2.St} {G : Hp} {s' : Shared}, Inv (X.blk s3 H3 scope ce [it]) [q] σ2 G s' → (∀ b ∈ [it], G b = none) → ∀ b ∈ [it], FpOk (X.blk s3 H3 scope ce [it]) [q] G b := fun {σ2 G s'} J hn b hb =>
    ⟨hn b hb, (J.ok.exf b hb).1, J.ok.exfs b hb, .inl hb, fun y c e => (J.ok.exf b hb).2 y c e, fun p hp => by
      obtain rfl : p = q := by simpa using (show p ∈ ([] : List (Addr × Obj)) ++ [q] from hp)
      obtain rfl : b = it := by simpa using hb
      exact nqi⟩
  have loop : codeAny (model X.prog X.w) X.A (.compLoop (.ListComp elt [⟨tg, iter, ifs, 0⟩] scope pos) 0 (.ref it) (.ref L) ce) (compPost (model X.prog X.w) X.A X.xe none (fun v s' => ∃ x H', Inv X pins σ H' s' ∧ RelV x v ∧ Q x H') (.ref L) s3.heap.objs.size) s4 := by
    refine compLoop_any (fun n s' => ∃ i G, Inv (X.blk s3 H3 scope ce [it]) [q] (wipe σ (own.map (·.2))) G s' ∧ s'.heap.IsListIter it a i ∧ (∀ b ∈ [it], G b = none) ∧ W i n G) ?_ m0 ⟨0, H3, I5, go4, nit, wm⟩
    rintro n s5 ⟨i, H5, J5, go5, n5, w5⟩
    rcases turn i n H5 w5 with ⟨⟨ys, sy, ly⟩, qq⟩ | ⟨⟨ys, y, sy, hy⟩, Nx, hNx, step⟩
    · obtain ⟨its5, rv5, pl5, hz5⟩ := J5.list sy
      have len5 := rv5.length
      obtain ⟨f0, f1, f2, f3, f4, f5⟩ := stat J5 n5 it List.mem_cons_self
      refine list_out (hotAt (pl := []) J5) go5 pl5.isList (by simp; omega) fun h2 eb => ?_
      have J6 : Inv (X.blk s3 H3 scope ce [it]) [q] (wipe σ (own.map (·.2))) H5 { s5 with heap := h2 } := J5.turned (t' := s5.toks) (fun b o hb e => eb b o hb e) f0 f1 f3 f4 f5
      have I7 : Inv X pins σ H5 { s5 with heap := h2 } := I3.call' (ch := [it]) J6.os J6.base J6.hok J6.bare fun b hb => ⟨(fp3 b hb).1.2.2.2.1, (fp3 b hb).1.2.1, (fp3 b hb).1.2.2.2.2.1, (fp3 b hb).1.2.2.2.2.2⟩
      have nC : H5 s3.heap.objs.size = none := by
        have z : H5 ce.locals = none := J6.free
        rw [cL] at z
        exact z
      obtain ⟨m, hn, _⟩ := J6.loc
      have hn : h2.Ns ce.locals m := hn
      rw [cL] at hn
      have fC := I3.fpOk (Nat.le_refl _) nC
      exact ⟨m, hn, fun h3 sb => ⟨.ref L, H5, I7.turned (t' := s5.toks) (fun b o hb e => (sb.2 b hb).trans e) fC.1 fC.2.1 fC.2.2.2.1 fC.2.2.2.2.1 fC.2.2.2.2.2, rfl, qq⟩⟩
    · obtain ⟨its5, rv5, pl5, hz5⟩ := J5.list sy
      obtain ⟨u, hu, ru⟩ := rv5.get hy
      obtain ⟨f0, f1, f2, f3, f4, f5⟩ := stat J5 n5 it List.mem_cons_self
      refine wpAny_pyNext_list_item go5 pl5.isList (x := u) (by simpa using hu) fun h2 go6 sb => ?_
      have J6 : Inv (X.blk s3 H3 scope ce [it]) [q] (wipe σ (own.map (·.2))) H5 { s5 with heap := h2 } := J5.turned (t' := s5.toks) (fun b o hb e => (sb.2 b hb).trans e) f0 f1 f3 f4 f5
      obtain ⟨o6, e6, c6, d6⟩ := id go6
      refine go_of (s := { s5 with heap := h2 }) e6 c6 d6 (by decide) ?_
      have J7 := J6.pinned (fp := [it]) (stat J6 n5) (fun b hb => by
        obtain rfl : b = it := by simpa using hb
        exact ⟨o6, e6, fun v z => by rw [d6] at z; cases z⟩)
      refine thnF (pg.run _ _ _ H5 y u _ J7 ru (step y H5 ⟨rfl, fun zs sz => by rw [J5.list_inj sz sy]; exact hy⟩)) fun _ s8 ⟨σ8, H8, J8, hw8, q8⟩ => ?_
      refine thnF (pt.run _ s8 σ8 H8 _ J8 q8) fun b s9 ⟨H9, J9, q9⟩ => ?_
      have fin : ∀ {s' : Shared} {G : Hp}, Inv (X.blk s3 H3 scope ce [it]) ([q] ++ pinsAt [it] h2) σ8 G s' → Nx G → ∃ m, m < n ∧ ∃ i G, Inv (X.blk s3 H3 scope ce [it]) [q] (wipe σ (own.map (·.2))) G s' ∧ s'.heap.IsListIter it a i ∧ (∀ b ∈ [it], G b = none) ∧ W i m G := fun {s' G} J nx => by
        obtain ⟨m', hm, w'⟩ := hNx G nx
        have pk := J.pin (it, o6) (List.mem_append_right _ (List.mem_append_right _ (mem_pinsAt List.mem_cons_self e6)))
        refine ⟨m', hm, i + 1, G, (J.unpinned (pins := [q])).weak (by rw [← hw8, wipe_length]) (fun j v e => ?_), go6.at fun o e => ?_, fun b hb => ?_, w'⟩
        · rw [← hw8] at e
          exact (wipe_some e).1
        · have : o6 = o := Option.some.inj (e6.symm.trans e)
          rw [← this]
          exact pk.1
        · obtain rfl : b = it := by simpa using hb
          exact pk.2.1
      cases b with
      | false =>
        simp only [Bool.false_eq_true, if_false] at q9 ⊢
        exact fin J9 q9
      | true =>
        simp only [if_true] at q9 ⊢
        refine thnF (pe.run _ s9 σ8 H9 _ J9 q9) fun z s10 ⟨yv, H10, J10, r10, acc, hL10, hz10, nx⟩ => ?_
        exact app_ok (X := X.blk s3 H3 scope ce [it]) J10 hL10 hz10 r10 fun s11 J11 => fin J11 nx
  exact codeAny_compStart_list loop (wpAny_pyIter_listiter go4 loop)
end

/-! ### .. over data -/
section
variable {X : Cx} {C : Cfg} {tg e a b c : Expr} {es : List Expr} {f g h : Ex} {fa : Ax} {pos p0 pos2 pos3 : Pos} {k : Nat} {x : Str}
def wLst (f : Ex) : Ix' := fun env st => (f env st).bind fun x st => match view st x with
  | some (.list ds) => .ok (ds, ownOf x) st
  | _ => .stuck
theorem lst_reads {f : Ex} {σ : L2.St} {H : Hp} {R : It → Hp → Prop} (q : rI X.K (mk X C) C (wLst f) σ H R) : iLst X.K (rE X.K (mk X C) C f) σ H R := by
  obtain ⟨I, ι, env, st, s, re, ok⟩ := q
  exact ⟨I, ι, env, st, s, re, (OK.bind ok).mono fun x st1 H1 I1 ι1 x1 s1 ok1 v rv => by
    split at ok1
    · next ds h1 =>
      obtain ⟨a, rfl, ⟨vs, g1, _⟩, g2⟩ := walk_list s1 rv h1
      refine ⟨a, rfl, ⟨vs, g1⟩, ok1 H1 I1 ι1 (Ext.refl _ _) s1 _ (serves_list (it := (ds, ownOf x)) fun H2 I2 ι2 st2 e2 s2 ow => g2 H2 I2 ι2 st2 e2 s2 ?_)⟩
      cases x <;> exact ow
    · exact ok1.elim⟩
theorem se_lcH {keep : Bool} {elt iter : Expr} {ifs : List Expr} {scope : Scope} {own : List (Str × Nat)} {w : Ex} {t : Tg} {p : Tx} (q : Addr × Obj) (hot : Hot1 X.A q) (hq : q ∈ X.pn) (hN : X.N.Nodup) (hi : SE X C iter w) (ok : BlkOk X.N X.env.scope scope own)
    (hg : ∀ (s : Shared) (H : Hp) (B : Addr) (cl : List (Str × Addr)) (fp : List Addr), SG (X.blk s H scope (compEnvC scope cl B X.env) fp) (Cb C) (own.map (·.2)) tg t)
    (ht : ∀ (s : Shared) (H : Hp) (B : Addr) (cl : List (Str × Addr)) (fp : List Addr), STs (X.blk s H scope (compEnvC scope cl B X.env) fp) (Cb C) ifs p)
    (he : ∀ (s : Shared) (H : Hp) (B : Addr) (cl : List (Str × Addr)) (fp : List Addr), SE (X.blk s H scope (compEnvC scope cl B X.env) fp) (Cb C) elt f) (hs : ∀ x, foldedSetIterable iter X.env x = pure x := by intro _; rfl) :
    SE X C (.ListComp elt [⟨tg, iter, ifs, 0⟩] scope pos) (xLc keep (wLst w) t p f (own.map (·.2))) :=
  pe_imp (pe_lcH (g := rG X.K (mk X C) (Cb C) (own.map fun (q : Str × Nat) => q.2) t) (tt := rT X.K (mk X C) (Cb C) p) (te := rE X.K (mk X C) (Cb C) f) q hot hq hN hi ok hg ht he hs) fun σ H Q h => lst_reads (lc_reads h)
/-- isinstance(e, c), e the handled error, anywhere -/
theorem se_isXp {ad D dd : Addr} {oe : Obj} {tab : Str → Option Bool} {t : Expr} {tv : V} {tu : Value} (hp : (ad, oe) ∈ X.pn) (hz : L2N.Zn (.ref D) (some dd) oe) (hf : ∃ vs, oe.data = .fields vs) (hx : C.x.xa = ad ∧ C.x.xc = D ∧ C.x.xd = dd)
    (htv : ∀ u, RelV tv u → u = tu) (hk : ∀ c D b, tab c = some b → X.mg c = some (.ref D) → ExK X.K D ∧ PySem.W.kitOne X.K (.ref D) tu = some b)
    (hg : Gl X "isinstance") (hm : X.mg "isinstance" = none) (ha : SE X C a f) (ht : PE X t (tC tv))
    (hs : starEach (a :: [t]) X.env = (false, eval a X.env) :: starEach [t] X.env := by rfl) (hs2 : starEach (t :: []) X.env = (false, eval t X.env) :: starEach [] X.env := by rfl) (hpl : (backTo pos (starEach [t] X.env)).any (·.1) = false := by rfl) :
    SE X C (.Call (.Name "isinstance" p0) [a, t] [] pos) (xIsX tab f) := by
  obtain ⟨hx1, hx2, hx3⟩ := hx
  have call : CallR X (.builtin "isinstance") (fun xs H Q => ∃ b w c, xs = [.ref ad, tv] ∧ H dd = some (xdF c w) ∧ ExK X.K D ∧ PySem.W.kitOne X.K (.ref D) tu = some b ∧ Q (.bl b) H) := by
    intro pins s σ H xs us Q Iv r hh
    obtain ⟨b, w, c, rfl, ea, ek, e, q⟩ := hh
    obtain ⟨u1, u2, rfl, r1, r2⟩ := vals2 r
    obtain rfl : u1 = Value.ref ad := r1
    have e2 := htv _ r2
    subst e2
    obtain ⟨hget, _⟩ := Iv.pin (ad, oe) (List.mem_append.mpr (.inl hp))
    obtain ⟨vs, hdt⟩ := hf
    have hok : ObjOk X.prog X.w H s.heap dd (xdF c w) := Iv.hok dd _ ea
    obtain ⟨mA, hns, hrel⟩ := hok
    obtain ⟨od, ho, hl⟩ := lookIn_ns hns
    have J : PySem.W.InstAt s.heap ad oe D (some od) := ⟨hget, hz.1, by unfold PySem.W.notCls; rw [hdt] <;> rfl, by rw [hz.2.1]; exact ho⟩
    have hcl : (PySem.W.clsIn X.K D).isSome = true := by
      obtain ⟨cd, h1, _⟩ := PySem.W.any_some ek.hd
      rw [h1]
      rfl
    exact PySem.W.kia_one (PySem.W.kitx_exc hcl ek.ga ek.gg ek.ex ek.ca ek.cn ek.ct ek.cm) Iv.kIn J e (fun z => nomatch z) fun tk => ⟨.bl b, H, Iv.kept (t' := tk) fun _ _ z => z, rfl, q⟩
  refine pe_imp (pe_callB call hg hm (by decide +kernel) (pa_cons ha (pa_cons ht pa_nil hs2) hs) (by decide) (by decide) hs hpl) fun σ H Q ⟨I, ι, env, st, s, re, ok⟩ => ⟨I, ι, env, st, s, re, (OK.bind ok).mono fun x st1 H1 I1 ι1 x1 s1 ok1 v rv => ?_⟩
  split at ok1
  · next c y =>
    split at ok1
    · next b hb =>
      obtain ⟨e1, e2, u, e3, e4⟩ := rv
      have q1 : v = .ref ad := by rw [← hx1]; exact e1
      have q2 : X.mg c = some (.ref D) := by
        have z : (mk X C).g c = some (.ref C.x.xc) := e2
        rw [hx2] at z
        exact z
      have q3 : I1 dd = some (xdF c u) := by
        have z : I1 C.x.xd = some (xdF c u) := e3
        rw [hx3] at z
        exact z
      obtain ⟨k1, k2⟩ := hk c D b hb q2
      exact ⟨b, u, c, by rw [q1], s1.im _ _ q3, k1, k2, ok1 H1 I1 ι1 (Ext.refl _ _) s1 _ (.bl b)⟩
    · exact ok1.elim
  · exact ok1.elim
end

/-! ### a def that is called while an error is handled -/
abbrev axX (a D d : Addr) : Aux := { xa := a, xc := D, xd := d }
structure FnX (P : Program) (w : World) (K : PySem.W.Frag) (mg : Str → Option Value) (base : Heap) (k : Nat) (f : Addr) (fd : FuncData) (ps : List Str) (sp : Addr → Addr → Addr → Sp) : Prop where
  len : ∀ a D d vs H Q E, sp a D d vs H Q E → vs.length = ps.length
  run : ∀ (A : Around) (outer : List Env) (s : Shared) (H : Hp) (args : Args) (us : List Value) (vs : List V) (Q : VK) (E : XK) (q : Addr × Obj) (D d : Addr), RoomH k A → A.guards = some [] → Hot1 A q → L2N.Zn (.ref D) (some d) q.2 → PinOk outer H s q → Env0 P w K mg base A outer s H →
    BindsTo s fd args (ps.zip us) → Vals vs us → sp q.1 D d vs H Q E → codeAny (model P w) A (.call (.ref f) args) (CR (L2N.CX P w) outer P w H s Q E) s
theorem FnX.mono {P : Program} {w : World} {K : PySem.W.Frag} {mg : Str → Option Value} {base : Heap} {j k : Nat} {f : Addr} {fd : FuncData} {ps : List Str} {sp : Addr → Addr → Addr → Sp} (F : FnX P w K mg base j f fd ps sp) (h : j ≤ k) : FnX P w K mg base k f fd ps sp :=
  ⟨F.len, fun A o s H g us vs Q E q D d r => F.run A o s H g us vs Q E q D d (r.mono h)⟩
def spX (K : PySem.W.Frag) (mg : Str → Option Value) (T : List (Addr × Str)) (n : Nat) (fn : Fn) (a D d : Addr) : Sp := fun vs H Q E => ∃ (I : Hp) (ι : List Addr) (args : List EV) (st : Store), S3 K T H I ι st ∧ RVs K ⟨mg, axX a D d⟩ I ι args vs ∧ args.length = n ∧
  OK K ⟨mg, axX a D d⟩ T E I ι (fn args st) fun r _ H' I' ι' => ∀ v, RV K ⟨mg, axX a D d⟩ I' ι' r v → Q v H'
section
variable {P : Program} {w : World} {K : PySem.W.Frag} {mg : Str → Option Value} {base : Heap} {k : Nat} {f : Addr} {ps N : List Str} {T : List (Addr × Str)}
theorem fnX_of {nm qn : Str} {pars : Arguments} {bd : List Stmt} {sc : Scope} {d1 d2 d3 d4 cv ct oc : Value} {an od : Option Addr} {sl : Array (Option Value)} {sp : Addr → Addr → Addr → Sp}
    (lk : K.lookup f = some ⟨oc, od, .func (PySem.W.fnOf nm qn pars bd sc d1 d2 d3 d4 an cv ct), sl⟩) (hcd : PySem.W.codeIn K cv qn = true) (S : FnScope N ps sc) (len : ∀ a D d vs H Q E, sp a D d vs H Q E → vs.length = ps.length)
    (hb : ∀ (A : Around) (outer : List Env) (s : Shared) (H : Hp) (vs : List V) (Q : VK) (E : XK) (q : Addr × Obj) (D d : Addr), Hot1 A q → L2N.Zn (.ref D) (some d) q.2 → RoomH k (A.deeper (envOfC qn sc s.heap.objs.size f cv)) → A.guards = some [] → sp q.1 D d vs H Q E →
      ∃ t, PSs (cxH (L2N.CX P w) P w K mg base N qn sc f cv A outer s H E q) bd t ∧ t { nx := fun _ G => Q .non G, rt := Q } (start N vs) H) :
    FnX P w K mg base (k + 1) f (PySem.W.fnOf nm qn pars bd sc d1 d2 d3 d4 an cv ct) ps sp := by
  refine ⟨len, fun A outer s H args us vs Q E q D d hr hgd hot hz hpin e0 bt rv hsp => ?_⟩
  have vl := len _ _ _ _ _ _ _ hsp
  have inK : K.In s.heap := e0.mod.kin.keeps fun b o z => (e0.bs b o z).1
  have nl : s.heap.NoLimit := e0.mod.nolimit.keeps fun b o z => (e0.bs b o z).1
  have kinds : ∀ y ∈ ps.zip us, sc.names.lookup y.1 = some .local ∨ (sc.names.lookup y.1 = some .cell ∧ ((cellsFrom (s.heap.objs.size + 1) sc.names []).lookup y.1).isSome = true) := fun ⟨n, z⟩ hy => by
    rcases S.par n (List.of_mem_zip hy).1 with q | q
    · exact .inl q
    · exact .inr ⟨q, PySem.W.cellsFrom_some _ _ _ (.inl q)⟩
  refine codeAny_call_function hr.depth (inK _ _ lk) rfl S.co S.gen rfl (PySem.W.codeRec_of inK hcd) (bt _ _ _ _ ?_)
  refine wpAny_newFunctionEnv_cells S.kind kinds fun env0 heq s1 x => ?_
  subst heq
  refine ⟨nl.keeps x.toInCall.keep, codeAny_func ?_⟩
  obtain ⟨t, ht, hq⟩ := hb A outer s H vs Q E q D d hot hz (hr.deeper _) hgd hsp
  have Iv : Inv (cxH (L2N.CX P w) P w K mg base N qn sc f cv A outer s H E q) [] (start N vs) H s1 := L2H.inv_startH S hpin e0 vl rv x
  refine wpAny_mono (ht.run [] s1 (start N vs) H _ Iv hq) (fun fl s2 hs => ?_) fun _ _ z => z
  cases fl with
  | ret u =>
    obtain ⟨v, σ2, H2, J, r2, q⟩ := hs
    exact ⟨v, H2, J.os, J.bare, J.base, J.hok, r2, q⟩
  | next =>
    obtain ⟨σ2, H2, J, q⟩ := hs
    exact ⟨.non, H2, J.os, J.bare, J.base, J.hok, rfl, q⟩
  | brk =>
    obtain ⟨_, _, _, q⟩ := hs
    exact q.elim
  | cont =>
    obtain ⟨_, _, _, q⟩ := hs
    exact q.elim
theorem def_okX {x qn : Str} {st : Stmt} {fd : FuncData} (N ps : List Str) (n m : Nat) (keep : Bool) (u : Sx) (F : Fun K x qn st f fd) (S : FnScope N ps (defScope st)) (hn : N.length = n) (hm : ps.length = m)
    (hb : ∀ (cv : Value) (A : Around) (outer : List Env) (s : Shared) (H : Hp) (E : XK) (q : Addr × Obj) (D d : Addr), Hot1 A q → L2N.Zn (.ref D) (some d) q.2 → (∃ vs, q.2.data = .fields vs) → RoomH k (A.deeper (envOfC qn (defScope st) s.heap.objs.size f cv)) → A.guards = some [] →
      SB (cxH (L2N.CX P w) P w K mg base N qn (defScope st) f cv A outer s H E q) ⟨T, fun _ => E, axX q.1 D d⟩ (defBody st) u) : FnX P w K mg base (k + 1) f fd ps (spX K mg T m (fnO keep n u)) := by
  subst hn hm
  obtain ⟨oc, od, kV, doc, pm, an, cv, ct, osl, rfl, lk, hcd⟩ := F.ex
  refine fnX_of lk hcd S (fun a D d vs H Q E h => ?_) fun A outer s H vs Q E q D d hot hz hr hgd h => ?_
  · obtain ⟨I, ι, args, st', h1, h2, h3, h4⟩ := h
    rw [h2.length, h3]
  · obtain ⟨I, ι, args, st', h1, h2, h3, h4⟩ := h
    refine ⟨_, hb cv A outer s H E q D d hot hz (let ⟨_, vs, e, _⟩ := hot; ⟨vs, e⟩) hr hgd, I, ι, entry N.length args, st', h1, entry_re _ h2 ?_ N rfl, ?_⟩
    · have := congrArg List.length S.pre
      rw [List.length_take] at this
      omega
    · exact body_reads h1 h4
end
section
variable {X : Cx} {C : Cfg} {e : Expr} {es : List Expr} {fa : Ax} {pos p0 : Pos} {k : Nat} {fad : Addr} {fd : FuncData} {ps : List Str} {x : Str}
theorem tk_nox {X : Cx} {T : List (Addr × Str)} {ax : Aux} : Tk X ⟨T, fun _ => NoX, ax⟩ := fun u s' ⟨_, _, _, _, _, _, _, _, _, _, _, _, _, _, _, _, w⟩ => w.elim
theorem roomX {A : Around} {v : Option Value} (h : Room k A) : RoomH k (A.mark v) := ⟨h.dp, h.un⟩
/-- such a def called in the suite -/
theorem se_callX {ad D dd : Addr} {oe : Obj} {pn : List (Addr × Obj)} {n : Nat} {fn : Fn} (F : FnX X.prog X.w X.K X.mg X.base k fad fd ps (spX X.K X.mg C.T n fn)) (hr : RoomH k (X.suite ad ((ad, oe) :: pn)).A) (hgd : X.A.guards = some [])
    (hz : L2N.Zn (.ref D) (some dd) oe) (hf : ∃ vs, oe.data = .fields vs) (hx : C.x = axX ad D dd) (hg : Gl X x) (hm : X.mg x = some (.ref fad)) (hk : PySem.W.keepIn X.K (.ref fad) = true)
    (hb : Binds X.K fd ps []) (tk : Tk (X.suite ad ((ad, oe) :: pn)) C) (ha : SA (X.suite ad ((ad, oe) :: pn)) C (e :: es) fa) (hdb : (x == ("__debug__" : Str)) = false := by decide) (he : starEach (e :: es) X.env = (false, eval e X.env) :: starEach es X.env := by rfl)
    (hpl : (backTo pos (starEach es X.env)).any (·.1) = false := by rfl) : SE (X.suite ad ((ad, oe) :: pn)) C (.Call (.Name x p0) (e :: es) [] pos) (xCall n fn fa) := by
  refine ⟨fun pins s σ H Q Iv hh => ?_⟩
  obtain ⟨I, ι, env, st, s3, re, ok⟩ := hh
  have gl : Gl (X.suite ad ((ad, oe) :: pn)) x := hg
  refine wpAny_Call_Name_kw (ld_glob Iv gl hm ?_ hdb)
  have arg : rA X.K (mk (X.suite ad ((ad, oe) :: pn)) C) C fa σ H fun vs H1 => spX X.K X.mg C.T n fn ad D dd vs H1 Q (C.EX σ) := ⟨I, ι, env, st, s3, re, (OK.bind ok).mono fun as st1 H1 I1 ι1 x1 s1 ok1 vs rvs => by
    split at ok1
    · next hl =>
      have em : mk (X.suite ad ((ad, oe) :: pn)) C = ⟨X.mg, axX ad D dd⟩ := by show (⟨X.mg, C.x⟩ : Mx) = _; rw [hx]
      rw [em] at rvs ok1
      exact ⟨I1, ι1, as, st1, s1, rvs, hl, ok1⟩
    · exact ok1.elim⟩
  refine PySem.W.callWith_K (h₀ := X.base) Iv.ok.mod.kin hk (thn (ha.run pos pins s σ H _ Iv arg) fun us s1 ⟨vs, H1, I1, r1, q1⟩ => ⟨I1.kIn, ?_⟩) he hpl
  obtain ⟨vs0, hd0⟩ := hf
  have hot : Hot1 (X.suite ad ((ad, oe) :: pn)).A (ad, oe) := ⟨rfl, vs0, hd0, hz.2.2 vs0 hd0⟩
  have P1 := I1.pin (ad, oe) (List.mem_append_left _ List.mem_cons_self)
  have hpin : PinOk (X.suite ad ((ad, oe) :: pn)).stack H1 s1 (ad, oe) := ⟨P1.1, P1.2.1, fun hm => (List.mem_cons.mp (I1.stkSub ad hm)).elim P1.2.2.1 P1.2.2.2.1, P1.2.2.2.2⟩
  have ul : us.length = ps.length := by rw [← r1.length]; exact F.len _ _ _ _ _ _ _ q1
  have bt := hb s1 us I1.kIn (by rw [List.append_nil]; exact ul)
  rw [List.append_nil] at bt
  refine wpAny_call (codeAny_mono (F.run (X.suite ad ((ad, oe) :: pn)).A X.stack s1 H1 ⟨us, []⟩ us vs Q (C.EX σ) (ad, oe) D dd hr hgd hot hz hpin I1.env0 bt r1 q1) fun res s2 hq => ?_)
  cases res with
  | error er => exact L2N.passAt tk σ pins H1 s1 er s2 I1 hq
  | ok fl =>
    cases fl with
    | ret u => exact I1.after hq
    | next => exact hq.elim
    | brk => exact hq.elim
    | cont => exact hq.elim
end
end Nz

end
section
set_option Elab.async false
set_option linter.all false
set_option maxRecDepth 100000
set_option maxHeartbeats 4000000
/-! comprehensions with two clauses; the place of an item in a tuple; a list from its end -/
namespace Nz
open PySem PySem.Spec PyProof.Rows L2
open LamX (Tabs TabS CodeO TabB)
section
variable {X : Cx} {C : Cfg} {tg tg1 e a b c elt iter iter1 : Expr} {es : List Expr} {f g h : Ex} {fa fk : Ax} {pos p0 kpos : Pos} {x : Str}
open Classical in
noncomputable def lcL2 (t : Tg) (p : Tx) (w1 : Ix') (t1 : Tg) (p1 : Tx) (f : Ex) (vs vs1 : List Nat) (it : Its') (L : Nat) (env : Env') : List PyData → Store → Out Unit
  | [], st => if okOwn it st then .ok () st else .stuck
  | d :: ds, st => if okOwn it st then (match t (.d d) (wipeE env vs) with
      | none => .stuck
      | some env1 => (p env1 st).safe.bind fun b st => if b = true then (w1 env1 st).safe.bind fun it1 st => (lcL t1 p1 f vs1 it1 L env1 it1.1 st).bind fun _ st => lcL2 t p w1 t1 p1 f vs vs1 it L env ds st
          else lcL2 t p w1 t1 p1 f vs vs1 it L env ds st) else .stuck
noncomputable def xLc2 (keep : Bool) (w : Ix') (t : Tg) (p : Tx) (w1 : Ix') (t1 : Tg) (p1 : Tx) (f : Ex) (vs vs1 : List Nat) : Ex := fun env st => (w env st).bind fun it st => (lcL2 t p w1 t1 p1 f vs vs1 it st.length env it.1 (st ++ [some []])).bind fun _ st' => lcEnd keep st.length st'
theorem lc2_reads {keep : Bool} {K : PySem.W.Frag} {mg : Mx} {w w1 : Ix'} {t t1 : Tg} {p p1 : Tx} {vs vs1 : List Nat} {σ : L2.St} {H : Hp} {Q : VK} (h : rE K mg C (xLc2 keep w t p w1 t1 p1 f vs vs1) σ H Q) :
    tLc2 (rI K mg C w) (rG K mg (Cb C) vs t) (rT K mg (Cb C) p) (rI K mg (Cb C) w1) (rG K mg (Cb C) vs1 t1) (rT K mg (Cb C) p1) (rE K mg (Cb C) f) vs vs1 σ H Q := by
  obtain ⟨I, ι, env, st, s, re, ok⟩ := h
  refine ⟨I, ι, env, st, s, re, (OK.bind ok).mono fun it st1 H1 I1 ι1 x1 s1 ok1 J srv D hD => ?_⟩
  have s0 := s1.push hD (vs := []) (ds := []) .nil
  have hL : st1.length = ι1.length := s1.len.symm
  have loop := OK.ext (OK.bind0 ok1) (push_ext I1 ι1 D)
  have iD : (ι1 ++ [D])[st1.length]? = some D := by
    rw [hL, List.getElem?_append_right (Nat.le_refl _), Nat.sub_self]
    rfl
  refine ⟨fun i m H2 => ∃ I2 ι2 st2, Ext I1 (ι1 ++ [D]) I2 ι2 ∧ S3 K C.T H2 I2 ι2 st2 ∧ i + m = it.1.length ∧ OK K mg C.T (C.EX σ) I2 ι2 (lcL2 t p w1 t1 p1 f vs vs1 it st1.length env (it.1.drop i) st2) (fun _ st' _ _ _ => OK K mg C.T (C.EX σ) I1 ι1 (lcEnd keep st1.length st') fun a _ H' I' ι' => ∀ v, RV K mg I' ι' a v → Q v H'),
    ⟨it.1.length, I1, ι1 ++ [D], _, Ext.refl _ _, s0, by omega, loop⟩, fun i m H2 hW => ?_⟩
  obtain ⟨I2, ι2, st2, x2, s2, em, ok2⟩ := hW
  by_cases hl : i < it.1.length
  · have ed : it.1.drop i = it.1[i] :: it.1.drop (i + 1) := List.drop_eq_getElem_cons hl
    rw [ed] at ok2
    unfold lcL2 at ok2
    split at ok2
    · next ow =>
      obtain ⟨gg, _⟩ := srv i H2 I2 ι2 st2 ((push_ext I1 ι1 D).trans x2) s2 ow
      obtain ⟨g1, g2⟩ := gg _ (List.getElem?_eq_getElem hl)
      refine .inr ⟨g1, fun H3 => ∃ I3 ι3 st3, Ext I1 (ι1 ++ [D]) I3 ι3 ∧ S3 K C.T H3 I3 ι3 st3 ∧ OK K mg C.T (C.EX σ) I3 ι3 (lcL2 t p w1 t1 p1 f vs vs1 it st1.length env (it.1.drop (i + 1)) st3) (fun _ st' _ _ _ => OK K mg C.T (C.EX σ) I1 ι1 (lcEnd keep st1.length st') fun a _ H' I' ι' => ∀ v, RV K mg I' ι' a v → Q v H'), fun H3 hN => ?_, fun x H3 hy => ?_⟩
      · obtain ⟨I3, ι3, st3, y1, y2, y3⟩ := hN
        exact ⟨m - 1, by omega, I3, ι3, st3, y1, y2, by omega, y3⟩
      · obtain ⟨I3, x3, s3, q3⟩ := g2 x H3 hy
        split at ok2
        · exact ok2.elim
        · next env1 ht =>
          have re3 : RE K mg I3 ι2 (wipeE env vs) (wipe σ vs) := re_wipe (re.ext (x1.trans ((push_ext I1 ι1 D).trans (x2.trans x3)))) vs
          refine ⟨I3, ι2, wipeE env vs, st2, .d it.1[i], env1, s3, re3, q3, ht, fun σ4 re4 w4 => ⟨w4.trans (wipe_wipe σ vs), I3, ι2, env1, st2, s3, re4, (OK.safe (OK.ext ok2 x3)).mono fun b st4 H4 I4 ι4 x4 s4 ok4 => ?_⟩⟩
          cases b with
          | false => exact ⟨I4, ι4, st4, x2.trans (x3.trans x4), s4, ok4⟩
          | true =>
            rw [if_pos rfl] at ok4 ⊢
            refine ⟨I4, ι4, env1, st4, s4, re4.ext x4, (OK.safe ok4).mono fun it1 st5 H5 I5 ι5 x5 s5 ok5 J1 srv1 => ?_⟩
            refine ⟨fun j k H6 => ∃ I6 ι6 st6, Ext I5 ι5 I6 ι6 ∧ S3 K C.T H6 I6 ι6 st6 ∧ j + k = it1.1.length ∧ OK K mg C.T (C.EX σ) I6 ι6 (lcL t1 p1 f vs1 it1 st1.length env1 (it1.1.drop j) st6) (fun _ st' _ I' ι' => OK K mg C.T (C.EX σ) I' ι' (lcL2 t p w1 t1 p1 f vs vs1 it st1.length env (it.1.drop (i + 1)) st') (fun _ st' _ _ _ => OK K mg C.T (C.EX σ) I1 ι1 (lcEnd keep st1.length st') fun a _ H' I' ι' => ∀ v, RV K mg I' ι' a v → Q v H')),
              ⟨it1.1.length, I5, ι5, st5, Ext.refl _ _, s5, by omega, OK.bind ok5⟩, fun j k H6 hW1 => ?_⟩
            obtain ⟨I6, ι6, st6, x6, s6, em1, ok6⟩ := hW1
            by_cases hl1 : j < it1.1.length
            · have ed1 : it1.1.drop j = it1.1[j] :: it1.1.drop (j + 1) := List.drop_eq_getElem_cons hl1
              rw [ed1] at ok6
              unfold lcL at ok6
              split at ok6
              · next ow1 =>
                obtain ⟨gg1, _⟩ := srv1 j H6 I6 ι6 st6 x6 s6 ow1
                obtain ⟨g11, g12⟩ := gg1 _ (List.getElem?_eq_getElem hl1)
                refine .inr ⟨g11, fun H7 => ∃ I7 ι7 st7, Ext I5 ι5 I7 ι7 ∧ S3 K C.T H7 I7 ι7 st7 ∧ OK K mg C.T (C.EX σ) I7 ι7 (lcL t1 p1 f vs1 it1 st1.length env1 (it1.1.drop (j + 1)) st7) (fun _ st' _ I' ι' => OK K mg C.T (C.EX σ) I' ι' (lcL2 t p w1 t1 p1 f vs vs1 it st1.length env (it.1.drop (i + 1)) st') (fun _ st' _ _ _ => OK K mg C.T (C.EX σ) I1 ι1 (lcEnd keep st1.length st') fun a _ H' I' ι' => ∀ v, RV K mg I' ι' a v → Q v H')), fun H7 hN => ?_, fun x H7 hy1 => ?_⟩
                · obtain ⟨I7, ι7, st7, y1, y2, y3⟩ := hN
                  exact ⟨k - 1, by omega, I7, ι7, st7, y1, y2, by omega, y3⟩
                · obtain ⟨I7, x7, s7, q7⟩ := g12 x H7 hy1
                  split at ok6
                  · exact ok6.elim
                  · next env2 ht1 =>
                    have re7 : RE K mg I7 ι6 (wipeE env1 vs1) (wipe σ4 vs1) := re_wipe (re4.ext (x4.trans (x5.trans (x6.trans x7)))) vs1
                    refine ⟨I7, ι6, wipeE env1 vs1, st6, .d it1.1[j], env2, s7, re7, q7, ht1, fun σ8 re8 w8 => ⟨w8.trans (wipe_wipe σ4 vs1), I7, ι6, env2, st6, s7, re8, (OK.safe (OK.ext ok6 x7)).mono fun b st8 H8 I8 ι8 x8 s8 ok8 => ?_⟩⟩
                    cases b with
                    | false => exact ⟨I8, ι8, st8, x6.trans (x7.trans x8), s8, ok8⟩
                    | true =>
                      rw [if_pos rfl] at ok8 ⊢
                      refine ⟨I8, ι8, env2, st8, s8, re8.ext x8, (OK.safe ok8).mono fun y st9 H9 I9 ι9 x9 s9 ok9 v rv => ?_⟩
                      split at ok9
                      · exact ok9.elim
                      · next d st10 hf =>
                        obtain ⟨I10, x10, s10, q10⟩ := frz_ok s9 rv hf
                        split at ok9
                        · next acc ha =>
                          split at ok9
                          · next hz =>
                            have near := x6.trans (x7.trans (x8.trans (x9.trans x10)))
                            have far := x2.trans (x3.trans (x4.trans (x5.trans near)))
                            obtain ⟨b, us, k1, k2, k3, k4⟩ := s10.cell _ acc ha
                            have kD := pre_get far.pre iD
                            rw [kD] at k1
                            cases k1
                            exact ⟨us, k2, by rw [dpAll_len k3]; exact hz, I10, ι9, _, near, s10.write ha kD k2 (dpAll_append k3 (.cons q10 .nil)), ok9.ext x10⟩
                          · exact ok9.elim
                        · exact ok9.elim
              · exact ok6.elim
            · have ed1 : it1.1.drop j = [] := List.drop_eq_nil_of_le (by omega)
              rw [ed1] at ok6
              unfold lcL at ok6
              split at ok6
              · next ow1 =>
                obtain ⟨_, stop1⟩ := srv1 j H6 I6 ι6 st6 x6 s6 ow1
                exact .inl ⟨stop1 (by omega), I6, ι6, st6, x2.trans (x3.trans (x4.trans (x5.trans x6))), s6, ok6 H6 I6 ι6 (Ext.refl _ _) s6⟩
              · exact ok6.elim
    · exact ok2.elim
  · have ed : it.1.drop i = [] := List.drop_eq_nil_of_le (by omega)
    rw [ed] at ok2
    unfold lcL2 at ok2
    split at ok2
    · next ow =>
      obtain ⟨_, stop⟩ := srv i H2 I2 ι2 st2 ((push_ext I1 ι1 D).trans x2) s2 ow
      refine .inl ⟨stop (by omega), ?_⟩
      have ok3 := ok2 H2 I2 ι2 (Ext.refl _ _) s2
      have kD := pre_get x2.pre iD
      have pT : ι2.take st1.length = ι1 := pre_take ((List.prefix_append ι1 [D]).trans x2.pre) s1.len
      have ok3 : OK K mg C.T (C.EX σ) I1 ι1 (lcEnd keep st1.length st2) (fun a _ H' I' ι' => ∀ v, RV K mg I' ι' a v → Q v H') := ok3
      unfold lcEnd at ok3
      cases ha : st2[st1.length]? with
      | none =>
        rw [ha] at ok3
        exact ok3.elim
      | some oa =>
        cases oa with
        | none =>
          rw [ha] at ok3
          exact ok3.elim
        | some acc =>
          rw [ha] at ok3
          obtain ⟨b, us, k1, k2, k3, k4⟩ := s2.cell _ acc ha
          rw [kD] at k1
          cases k1
          cases keep with
          | true =>
            have s4 := s2.take (st1.length + 1)
            have pT1 : ι2.take (st1.length + 1) = ι1 ++ [D] := pre_take x2.pre (by rw [List.length_append, s1.len]; rfl)
            rw [pT1] at s4
            exact ok3 H2 I2 _ ⟨x2.same, List.prefix_append _ _⟩ s4 _ ⟨D, iD, rfl⟩
          | false =>
            obtain ⟨f1, f2, f3⟩ := s2.freeze ha kD k2 k3
            have s4 := f1.take st1.length
            rw [pT] at s4
            have e : (st2.set st1.length none).take st1.length = st2.take st1.length := List.take_set_of_le (Nat.le_refl _)
            rw [e] at s4
            exact ok3 H2 _ ι1 ⟨fun b o q => f2.same b o (x2.same b o q), List.prefix_refl _⟩ s4 _ f3
    · exact ok2.elim
theorem se_lc2 {keep : Bool} {ifs ifs1 : List Expr} {scope : Scope} {own : List (Str × Nat)} {vs1 : List Nat} {w w1 : Ix'} {t t1 : Tg} {p p1 : Tx} (hc : X.calm = true) (hN : X.N.Nodup) (hi : SI X C tg iter w) (ok : BlkOk X.N X.env.scope scope own) (hv : ∀ i ∈ vs1, i ∈ own.map (·.2))
    (hg : ∀ (s : Shared) (H : Hp) (B : Addr) (cl : List (Str × Addr)) (fp : List Addr), SG (X.blk s H scope (compEnvC scope cl B X.env) fp) (Cb C) (own.map (·.2)) tg t)
    (ht : ∀ (s : Shared) (H : Hp) (B : Addr) (cl : List (Str × Addr)) (fp : List Addr), STs (X.blk s H scope (compEnvC scope cl B X.env) fp) (Cb C) ifs p)
    (hi1 : ∀ (s : Shared) (H : Hp) (B : Addr) (cl : List (Str × Addr)) (fp : List Addr), SI (X.blk s H scope (compEnvC scope cl B X.env) fp) (Cb C) tg1 iter1 w1)
    (hg1 : ∀ (s : Shared) (H : Hp) (B : Addr) (cl : List (Str × Addr)) (fp : List Addr), SG (X.blk s H scope (compEnvC scope cl B X.env) fp) (Cb C) vs1 tg1 t1)
    (ht1 : ∀ (s : Shared) (H : Hp) (B : Addr) (cl : List (Str × Addr)) (fp : List Addr), STs (X.blk s H scope (compEnvC scope cl B X.env) fp) (Cb C) ifs1 p1)
    (he : ∀ (s : Shared) (H : Hp) (B : Addr) (cl : List (Str × Addr)) (fp : List Addr), SE (X.blk s H scope (compEnvC scope cl B X.env) fp) (Cb C) elt f) (hs : ∀ x, foldedSetIterable iter X.env x = pure x := by intro _; rfl) (hs1 : ∀ env x, foldedSetIterable iter1 env x = pure x := by intro _ _; rfl) :
    SE X C (.ListComp elt [⟨tg, iter, ifs, 0⟩, ⟨tg1, iter1, ifs1, 0⟩] scope pos) (xLc2 keep w t p w1 t1 p1 f (own.map (·.2)) vs1) :=
  pe_imp (pe_lc2 (wi1 := rI X.K (mk X C) (Cb C) w1) (g := rG X.K (mk X C) (Cb C) (own.map fun (q : Str × Nat) => q.2) t) (tt := rT X.K (mk X C) (Cb C) p) (g1 := rG X.K (mk X C) (Cb C) vs1 t1) (tt1 := rT X.K (mk X C) (Cb C) p1) (te := rE X.K (mk X C) (Cb C) f) hc hN hi ok hv hg ht hi1 hg1 ht1 he hs hs1) fun σ H Q h => lc2_reads h

/-! ### a tuple whose object is known -/
def tTupF (t : TA) : TE := fun σ H Q => t σ H fun xs H1 => xs.length ≤ sizeLine ∧ ∀ p (ob : Obj), ob.dict = none → H1 p = none → Q (.ref p) (upd H1 p (.frz ob (.tup xs)))
theorem pe_tupF {j : Nat} {t : TA} (h : PA X es t) : PE X (.Tuple es j pos) (tTupF t) := by
  refine ⟨fun pins s σ H Q I hq => ?_⟩
  refine wpAny_Tuple_spliced (thn (h.run pos pins s σ H _ I hq) fun us s1 ⟨xs, H1, I1, r, z, q⟩ => ⟨by rw [← r.length]; exact z, ?_⟩)
  have hf : H1 s1.heap.objs.size = none := I1.hok.fresh (Nat.le_refl _)
  refine ⟨.ref s1.heap.objs.size, upd H1 s1.heap.objs.size (.frz { cls := .type "tuple", data := .seq us.toArray } (.tup xs)), I1.laid (t' := s1.toks) (fun b u e => Heap.get?_push_of_some _ e) (Nat.le_refl _) ?_, rfl, q _ _ rfl hf⟩
  exact ⟨Heap.get?_push_size _ rfl, z, us, r, ⟨_, Heap.get?_push_size _ rfl, rfl, _, rfl⟩⟩
def xTupF (f : Ax) : Ex := fun env st => (f env st).bind fun as st => match frzAll as st with
  | some (ds, st') => if ds.length ≤ 1000 then .ok (.fz ds) st' else .stuck
  | none => .stuck
theorem se_tupF {j : Nat} {f : Ax} (h : SA X C es f) : SE X C (.Tuple es j pos) (xTupF f) := pe_imp (pe_tupF h) fun σ H Q ⟨I, ι, env, st, s, re, ok⟩ =>
  ⟨I, ι, env, st, s, re, (OK.bind ok).mono fun as st1 H1 I1 ι1 x1 s1 ok1 vs rvs => by
    split at ok1
    · next ds st2 e =>
      split at ok1
      · next hl =>
        obtain ⟨I2, x2, s2, q⟩ := frzAll_ok s1 rvs e
        refine ⟨by rw [dpAll_len q]; exact le_line hl, fun p ob hd hp => ?_⟩
        have s3 := s2.alloc hp (.frz ob (.tup vs))
        exact ok1 _ _ _ (x2.trans (s2.allocExt hp _)) s3 _ ⟨p, ob, vs, rfl, upd_same, hd, dpAll_mono (Same_upd (s2.free hp)) _ _ q⟩
      · exact ok1.elim
    · exact ok1.elim⟩
def rIndexT (K : PySem.W.Frag) : V → List V → Hp → VK → Prop := fun x xs H Q => ∃ (a : Addr) (y : V) (d : PyData) (ds : List PyData) (j : Nat) (z : PyData), x = V.ref a ∧ xs = [y] ∧ Dp K H (V.ref a) (.tuple ds) ∧ Dp K H y d ∧
  SeqAt.shaped (.tuple ds) = true ∧ SeqAt.shaped d = true ∧ ds[j]? = some z ∧ PyData.eqv z d = true ∧ (∀ (m : Nat) (w : PyData), m < j → ds[m]? = some w → PyData.eqv w d = false) ∧ Q (.int (j : Nat)) H
theorem mt_indexT (hu : X.A.units + 65 < cLine) : MtR X "tuple.index" (rIndexT X.K) := by
  intro pins s σ H x xs v us Q I rx rxs h
  obtain ⟨a, y, d, ds, j, z, rfl, rfl, hl, hy, sl, sd, hz, hzj, hno, q⟩ := h
  cases rx
  cases rxs with
  | cons ry rt =>
    rename_i uy ut
    cases rt
    obtain ⟨bs, r1⟩ := Dp.reads I d y uy hy ry
    have lay : PyData.canLayAll0 ds = true := SeqAt.canLay_of_shaped sl
    have room : X.A.units + 1 + min (PyData.depthAll ds) d.depth < cLine := room_in_shaped sd hu
    cases hl with
    | tup hs ha =>
      obtain ⟨its, rv, ⟨⟨cls, dd, data, sls⟩, ho, hc, n, hdt⟩, hlen⟩ := I.tuple hs
      simp only at hc hdt
      subst hc hdt
      obtain ⟨as, h4⟩ := Dp.readsAll I ds _ its ha rv
      have hn : its.length = ds.length := SeqAt.ReadsAll.length ds its as h4
      have hmap : its.map (SeqAt.readOf s.heap) = ds := SeqAt.readsAll_map ds its as lay h4
      obtain ⟨hjd, _⟩ := List.getElem?_eq_some_iff.mp hz
      have hjl : j < its.length := by omega
      have hj : j < its.toArray.size := by simpa using hjl
      have here : ∀ (m : Nat) (hm : m < its.toArray.size) (w : PyData), ds[m]? = some w → SeqAt.readOf s.heap its.toArray[m] = w := by
        intro m hm w hw
        have hml : m < its.length := by simpa using hm
        rw [← hmap, List.getElem?_map, List.getElem?_eq_getElem hml] at hw
        have e1 : SeqAt.readOf s.heap its[m] = w := Option.some.inj hw
        simpa using e1
      refine call_meets PySem.F.slot_tuple_index ⟨_, ho, rfl⟩ PySem.F.entry_tuple_index (PySem.F.args_tuple_index_2 _ _)
        (TI.tuple_indexAt a its.toArray n dd sls uy (fun u => PyData.eqv (SeqAt.readOf s.heap u) d) j hj ?_ ?_) ⟨ho, SeqAt.items_eqAt (vs := its.toArray) (show ReadsAll s.heap its.toArray.toList ds as from h4) r1 lay (SeqAt.canLay_of_shaped sd) room, ?_⟩
      · show PyData.eqv (SeqAt.readOf s.heap its.toArray[j]) d = true
        rw [here j hj z hz]
        exact hzj
      · intro m hm hmj
        have hmd : m < ds.length := by omega
        have hw : ds[m]? = some ds[m] := List.getElem?_eq_getElem hmd
        show PyData.eqv (SeqAt.readOf s.heap its.toArray[m]) d = false
        rw [here m hm _ hw]
        exact hno m _ hmj hw
      · exact ⟨.int (j : Nat), H, I.tok _, ⟨_, rfl⟩, q⟩
def tIdxF (K : PySem.W.Frag) (to : TE) (t : TA) : TE := fun σ H Q => to σ H fun x H1 => (∃ (a : Addr) (ob : Obj) (vs : List V), x = .ref a ∧ H1 a = some (.frz ob (.tup vs)) ∧ ob.dict = none) ∧ t σ H1 fun xs H2 => rIndexT K x xs H2 Q
theorem pe_idxF {o : Expr} {to : TE} {t : TA} {apos : Pos} (hu : X.A.units + 65 < cLine) (ho : PE X o to) (ha : PA X (e :: []) t)
    (hbase : attributeBase o "index" X.env (eval o X.env) = eval o X.env := by rfl)
    (hfew : ((backTo pos (starEach (e :: []) X.env)).all (fun x => !x.1) && (backToKw pos (keywordEach [] X.env)).all (fun x => x.1.isSome)
      && decide ((e :: ([] : List Expr)).length + ([] : List Keyword).length + (if ([] : List Keyword).isEmpty then 0 else 1) < 30)) = true := by rfl)
    (hline : (apos.endLine == pos.line) = true := by rfl) (hs : starEach (e :: []) X.env = (false, eval e X.env) :: starEach [] X.env := by rfl) (hpl : (backTo pos (starEach [] X.env)).any (·.1) = false := by rfl) :
    PE X (.Call (.Attribute o "index" apos) (e :: []) [] pos) (tIdxF X.K to t) := by
  refine ⟨fun pins s σ H Q I h => ?_⟩
  refine wpAny_Call_method_late hbase hfew hline rfl (thn (ho.run pins s σ H _ I h) fun v s1 ⟨x, H1, I1, r1, ⟨a, ob, vs, ex, hf, hd⟩, q1⟩ => ?_)
  subst ex
  cases r1
  obtain ⟨e0, _, its, _, ⟨ob2, e2, c2, _⟩⟩ := I1.hok a _ hf
  rw [e0] at e2
  cases e2
  refine ⟨"tuple", "tuple.index", PySem.F.plainAttrs_tuple, PySem.F.slot_tuple_index, PySem.F.type_tuple_index, ⟨ob, e0, c2⟩, fun b eb => by cases eb; exact ⟨ob, e0, hd⟩, ?_⟩
  have hA := ha.run pos pins s1 σ H1 _ I1 q1
  rw [hs] at hA ⊢
  refine Calls.callWith_builtin (by show (false || (backTo pos (starEach [] X.env)).any (·.1)) = false; rw [hpl] <;> rfl) (Calls.evalArgs_plain ?_)
  exact thn hA fun us s2 ⟨ws, H2, I2, r2, q2⟩ => mt_indexT hu pins s2 σ H2 (.ref a) ws (.ref a) us Q I2 rfl r2 q2
def xIdxF (f : Ex) (g : Ax) : Ex := fun env st => (f env st).bind fun x st => match x with
  | .fz ds => (g env st).bind fun as st => match as with
    | [y] => match view st y with
      | some d => if (SeqAt.shaped d && SeqAt.shaped (.tuple ds)) = true then match ds.findIdx? (fun z => PyData.eqv z d) with
          | some j => .ok (.d (.int (j : Nat))) st
          | none => .stuck
        else .stuck
      | none => .stuck
    | _ => .stuck
  | _ => .stuck
theorem se_idxF {o : Expr} {apos : Pos} (hu : X.A.units + 65 < cLine) (ho : SE X C o f) (ha : SA X C (e :: []) fa) (hbase : attributeBase o "index" X.env (eval o X.env) = eval o X.env := by rfl)
    (hfew : ((backTo pos (starEach (e :: []) X.env)).all (fun x => !x.1) && (backToKw pos (keywordEach [] X.env)).all (fun x => x.1.isSome)
      && decide ((e :: ([] : List Expr)).length + ([] : List Keyword).length + (if ([] : List Keyword).isEmpty then 0 else 1) < 30)) = true := by rfl)
    (hline : (apos.endLine == pos.line) = true := by rfl) (hs : starEach (e :: []) X.env = (false, eval e X.env) :: starEach [] X.env := by rfl) (hpl : (backTo pos (starEach [] X.env)).any (·.1) = false := by rfl) :
    SE X C (.Call (.Attribute o "index" apos) (e :: []) [] pos) (xIdxF f fa) :=
  pe_imp (pe_idxF hu ho ha hbase hfew hline hs hpl) fun σ H Q ⟨I, ι, env, st, s, re, ok⟩ => ⟨I, ι, env, st, s, re, (OK.bind ok).mono fun x st1 H1 I1 ι1 x1 s1 ok1 v rv => by
    split at ok1
    · next ds =>
      obtain ⟨a, ob, vs, rfl, hf, hd, hv⟩ := rv
      refine ⟨⟨a, ob, vs, rfl, s1.im _ _ hf, hd⟩, I1, ι1, env, st1, s1, re.ext x1, (OK.bind ok1).mono fun as st2 H2 I2 ι2 x2 s2 ok2 ws rws => ?_⟩
      split at ok2
      · next y =>
        obtain ⟨w, rfl, rw'⟩ := rvs1 rws
        split at ok2
        · next d hd2 =>
          split at ok2
          · next hsh =>
            obtain ⟨a1, a2⟩ := Bool.and_eq_true_iff.mp hsh
            split at ok2
            · next j hj =>
              obtain ⟨hjl, hp, hno⟩ := List.findIdx?_eq_some_iff_getElem.mp hj
              refine ⟨a, w, d, ds, j, ds[j], rfl, rfl, .tup (.inl (.inr ⟨ob, s2.im _ _ (x2.same _ _ hf)⟩)) (dpAll_mono (fun b o q => s2.im _ _ (x2.same _ _ q)) _ _ hv), view_dp s2 rw' hd2, a2, a1, List.getElem?_eq_getElem hjl, hp, fun m z hm hz => ?_, ok2 _ _ _ (Ext.refl _ _) s2 _ (.int _)⟩
              obtain ⟨hml, rfl⟩ := List.getElem?_eq_some_iff.mp hz
              simpa using hno m hm
            · exact ok2.elim
          · exact ok2.elim
        · exact ok2.elim
      · exact ok2.elim
    · exact ok1.elim⟩

/-! ### a list from its end -/
theorem dpAll_rev {K : PySem.W.Frag} {I : Hp} : ∀ {vs : List V} {ds : List PyData}, DpAll K I vs ds → DpAll K I vs.reverse ds.reverse
  | [], _, h => by cases h; exact .nil
  | v :: vs, _, h => by
    cases h with
    | cons a b =>
      rw [List.reverse_cons, List.reverse_cons]
      exact dpAll_append (dpAll_rev b) (.cons a .nil)
def xRev (f : Ex) : Ex := fun env st => (f env st).bind fun x st => match view st x with
  | some (.list ds) => .ok (.d (.list ds.reverse)) st
  | _ => .stuck
theorem se_rev {k : Nat} {p1 p2 p3 : Pos} (h : SE X C e f) : SE X C (.Subscript e (.Slice none none (some (.UnaryOp .USub (.Constant (.int 1) k p1) p2)) p3) pos) (xRev f) :=
  pe_imp (pe_revL h) fun σ H Q ⟨I, ι, env, st, s, re, ok⟩ => ⟨I, ι, env, st, s, re, (OK.bind ok).mono fun x st1 H1 I1 ι1 x1 s1 ok1 v rv => by
    split at ok1
    · next ds h1 =>
      obtain ⟨a, vs, rfl, g1, g2⟩ := view_list s1 rv h1
      refine ⟨a, vs, rfl, g1, fun p hp => ?_⟩
      exact ok1 _ _ _ (s1.allocExt hp _) (s1.alloc hp (.lst vs.reverse)) _ (.lst (.inl (.inl upd_same)) (dpAll_mono (Same_upd (s1.free hp)) _ _ (dpAll_rev g2)))
    · exact ok1.elim⟩

/-! ### is True, is False; list + list to an own list; a, b, c = x, y, z -/
def oIsB (n : Bool) : EV → EV → Store → Out EV := fun x y st => match x, y with
  | .d (.bool a), .d (.bool b) => .ok (.d (.bool (n != decide (a = b)))) st
  | _, _ => .stuck
theorem cm_isB : Op2 X C rIsB (oIsB false) := by
  intro EX H I ι st x y v u Q s rx ry ok
  unfold oIsB at ok
  split at ok
  · exact ⟨_, _, dp_bool rx, dp_bool ry, by simpa using ok H I ι (Ext.refl _ _) s _ (.bl _)⟩
  · exact ok.elim
theorem cm_isntB : Op2 X C rNotB (oIsB true) := by
  intro EX H I ι st x y v u Q s rx ry ok
  unfold oIsB at ok
  split at ok
  · exact ⟨_, _, dp_bool rx, dp_bool ry, by simpa using ok H I ι (Ext.refl _ _) s _ (.bl _)⟩
  · exact ok.elim
def oAddLR : EV → EV → Store → Out EV := fun x y st => match view st x, view st y with
  | some (.list xs), some (.list ys) => if xs.length + ys.length ≤ 1000 then .ok (.ref st.length) (st ++ [some (xs ++ ys)]) else .stuck
  | _, _ => .stuck
theorem se_addLR (ha : SE X C a f) (hb : SE X C b g) : SE X C (.BinOp a .Add b pos) (xOp oAddLR f g) := se_op op_catL (by
  intro EX H I ι st x y v u Q s rx ry ok
  unfold oAddLR at ok
  split at ok
  · next xs ys h1 h2 =>
    split at ok
    · next hl =>
      obtain ⟨p, vs, rfl, g1, g2⟩ := view_list s rx h1
      obtain ⟨q, us, rfl, g3, g4⟩ := view_list s ry h2
      refine ⟨p, q, vs, us, rfl, rfl, g1, g3, by rw [dpAll_len g2, dpAll_len g4]; exact le_line hl, fun r hr => ?_⟩
      exact ok _ _ _ (push_ext _ _ r) (s.push hr (dpAll_append g2 g4)) _ (rv_last s.len)
    · exact ok.elim
  · exact ok.elim) ha hb
theorem rvs3 {K : PySem.W.Frag} {mg : Mx} {I : Hp} {ι : List Addr} {x y z : EV} {vs : List V} (h : RVs K mg I ι [x, y, z] vs) : ∃ v u w, vs = [v, u, w] ∧ RV K mg I ι x v ∧ RV K mg I ι y u ∧ RV K mg I ι z w := by
  cases h with
  | cons a b => obtain ⟨u, w, rfl, c, d⟩ := rvs2 b; exact ⟨_, _, _, rfl, a, c, d⟩
def sPar3 (i j l : Nat) (f : Ax) : Sx := fun env st => sb env (f env st) fun as st => match as with
  | [a, b, c] => .ok (.nx (((env.set i (some a)).set j (some b)).set l (some c))) st
  | _ => .stuck
theorem ss_par3 {i j l : Nat} {s1 : Stmt} (h : PS X s1 (tPar3 i j l (rA X.K (mk X C) C fa))) : SS X C s1 (sPar3 i j l fa) := ps_imp h fun D σ H ⟨I, ι, env, st, s, re, ok⟩ =>
  ⟨I, ι, env, st, s, re, (OK.sb re ok).mono fun as st1 H1 I1 ι1 x1 s1 ok1 vs rv => by
    split at ok1
    · next a b c =>
      obtain ⟨v, u, w, rfl, r1, r2, r3⟩ := rvs3 rv
      exact ⟨v, u, w, rfl, ok1 H1 I1 ι1 (Ext.refl _ _) s1 _ ((((re.ext x1).set i r1).set j r2).set l r3)⟩
    · exact ok1.elim⟩
end
end Nz

end
section
set_option Elab.async false
set_option linter.all false
set_option maxRecDepth 100000
set_option maxHeartbeats 4000000
/-! methods and slices of texts -/
namespace Nz
open PySem PySem.Spec PyProof.Rows L2
open LamX (Tabs TabS CodeO TabB)
section
variable {X : Cx} {C : Cfg} {tg e a b c o : Expr} {es : List Expr} {f g h : Ex} {fa fk : Ax} {pos p0 kpos apos : Pos} {x : Str}
/-- a text's method of a text -/
def xM1 (k : Str → Str → PyData) (f g : Ex) : Ex := fun env st => (f env st).bind fun x st => match x with
  | .d (.str z) => (g env st).bind fun y st => match y with
    | .d (.str w) => .ok (.d (k z w)) st
    | _ => .stuck
  | _ => .stuck
theorem se_rfind (ho : SE X C o f) (he : SE X C e g) (hs : starEach [e] X.env = [(false, eval e X.env)] := by rfl) (hbase : attributeBase o "rfind" X.env (eval o X.env) = eval o X.env := by rfl) (hline : (apos.endLine == pos.line) = true := by rfl) :
    SE X C (.Call (.Attribute o "rfind" apos) [e] [] pos) (xM1 (fun z w => .int (Txt.rfind z w)) f g) :=
  pe_imp (pe_m1 PySem.F.slot_str_rfind PySem.F.type_str_rfind mt_rfind ho he hs hbase hline) fun σ H Q ⟨I, ι, env, st, s, re, ok⟩ => ⟨I, ι, env, st, s, re, (OK.bind ok).mono fun x st1 H1 I1 ι1 x1 s1 ok1 v rv => by
    split at ok1
    · next z =>
      refine ⟨⟨z, dp_str rv⟩, I1, ι1, env, st1, s1, re.ext x1, (OK.bind ok1).mono fun y st2 H2 I2 ι2 x2 s2 ok2 w rw' => ?_⟩
      split at ok2
      · next u => exact ⟨z, u, dp_str rv, by rw [dp_str rw'], ok2 _ _ _ (Ext.refl _ _) s2 _ (.int _)⟩
      · exact ok2.elim
    · exact ok1.elim⟩
def strsOf : List PyData → Option (List Str)
  | [] => some []
  | .str z :: ds => match strsOf ds with
    | some zs => some (z :: zs)
    | none => none
  | _ :: _ => none
theorem strs_dp {K : PySem.W.Frag} {I : Hp} : ∀ {ds : List PyData} {vs : List V} {zs : List Str}, DpAll K I vs ds → strsOf ds = some zs → vs = zs.map V.str
  | [], _, zs, h, e => by
    cases h
    cases e
    rfl
  | .str z :: ds, _, zs, h, e => by
    cases h with
    | cons a b =>
      unfold strsOf at e
      split at e
      · next zs' hz =>
        cases e
        rw [dp_str a, strs_dp b hz]
        rfl
      · cases e
  | .none :: _, _, _, _, e => by cases e
  | .bool _ :: _, _, _, _, e => by cases e
  | .int _ :: _, _, _, _, e => by cases e
  | .list _ :: _, _, _, _, e => by cases e
  | .tuple _ :: _, _, _, _, e => by cases e
  | .dict _ :: _, _, _, _, e => by cases e
def xJoin (f g : Ex) : Ex := fun env st => (f env st).bind fun x st => match x with
  | .d (.str z) => (g env st).bind fun y st => match seqOf st y with
    | some ds => match strsOf ds with
      | some zs => if (zs.map (·.length)).sum + zs.length * z.length ≤ 16777216 then .ok (.d (.str (Txt.join z zs))) st else .stuck
      | none => .stuck
    | none => .stuck
  | _ => .stuck
theorem se_join (ho : SE X C o f) (he : SE X C e g) (hs : starEach [e] X.env = [(false, eval e X.env)] := by rfl) (hbase : attributeBase o "join" X.env (eval o X.env) = eval o X.env := by rfl) (hline : (apos.endLine == pos.line) = true := by rfl) :
    SE X C (.Call (.Attribute o "join" apos) [e] [] pos) (xJoin f g) :=
  pe_imp (pe_join ho he hs hbase hline) fun σ H Q ⟨I, ι, env, st, s, re, ok⟩ => ⟨I, ι, env, st, s, re, (OK.bind ok).mono fun x st1 H1 I1 ι1 x1 s1 ok1 v rv => by
    split at ok1
    · next z =>
      refine ⟨⟨z, dp_str rv⟩, I1, ι1, env, st1, s1, re.ext x1, (OK.bind ok1).mono fun y st2 H2 I2 ι2 x2 s2 ok2 w rw' => ?_⟩
      split at ok2
      · next ds hds =>
        split at ok2
        · next zs hzs =>
          split at ok2
          · next hz =>
            obtain ⟨p, vs, e1, e2, e3⟩ : ∃ p vs, w = V.ref p ∧ (SqL X.K H2 p vs ∨ SqT X.K H2 p vs) ∧ DpAll X.K I2 vs ds := by
              unfold seqOf at hds
              split at hds
              · next ds' hv =>
                cases hds
                obtain ⟨p, vs, q1, q2, q3⟩ := view_list s2 rw' hv
                exact ⟨p, vs, q1, .inl q2, q3⟩
              · next ds' hv =>
                cases hds
                obtain ⟨p, vs, q1, q2, q3⟩ := view_tup s2 rw' hv
                exact ⟨p, vs, q1, .inr q2, q3⟩
              · cases hds
            subst e1
            rw [strs_dp e3 hzs] at e2
            exact ⟨z, p, zs, dp_str rv, rfl, e2, hz, ok2 _ _ _ (Ext.refl _ _) s2 _ (.str _)⟩
          · exact ok2.elim
        · exact ok2.elim
      · exact ok2.elim
    · exact ok1.elim⟩
/-- z[lo:hi] of a text -/
def xSlS (f : Ex) (l u : Px) : Ex := fun env st => (f env st).bind fun x st => (l env st).bind fun lo st => (u env st).bind fun hi st => match x with
  | .d (.str z) => if z.length ≤ sizeLine then .ok (.d (.str (cutS z lo hi))) st else .stuck
  | _ => .stuck
theorem se_slS {l u : Px} {lo hi : Option Expr} {p2 : Pos} (ha : SE X C a f) (hl : SO X C lo l) (hu : SO X C hi u) : SE X C (.Subscript a (.Slice lo hi none p2) pos) (xSlS f l u) :=
  pe_imp (pe_slice sl_str ha hl hu) fun σ H Q ⟨I, ι, env, st, s, re, ok⟩ =>
    ⟨I, ι, env, st, s, re, (OK.bind ok).mono fun x st1 H1 I1 ι1 x1 s1 ok1 v rv => ⟨I1, ι1, env, st1, s1, re.ext x1, (OK.bind ok1).mono fun lo st2 H2 I2 ι2 x2 s2 ok2 =>
      ⟨I2, ι2, env, st2, s2, re.ext (x1.trans x2), (OK.bind ok2).mono fun hi st3 H3 I3 ι3 x3 s3 ok3 => by
        split at ok3
        · next z =>
          split at ok3
          · next hz => exact ⟨z, dp_str rv, hz, ok3 _ _ _ (Ext.refl _ _) s3 _ (.str _)⟩
          · exact ok3.elim
        · exact ok3.elim⟩⟩⟩

/-! ### a, b, c, d = x, y, z, u: an own list may stand among them -/
theorem rvs4 {K : PySem.W.Frag} {mg : Mx} {I : Hp} {ι : List Addr} {x y z u : EV} {vs : List V} (h : RVs K mg I ι [x, y, z, u] vs) : ∃ v1 v2 v3 v4, vs = [v1, v2, v3, v4] ∧ RV K mg I ι x v1 ∧ RV K mg I ι y v2 ∧ RV K mg I ι z v3 ∧ RV K mg I ι u v4 := by
  cases h with
  | cons a b => obtain ⟨v2, v3, v4, rfl, c, d, e⟩ := rvs3 b; exact ⟨_, _, _, _, rfl, a, c, d, e⟩
def sPar4 (i j l m : Nat) (f : Ax) : Sx := fun env st => sb env (f env st) fun as st => match as with
  | [a, b, c, d] => .ok (.nx ((((env.set i (some a)).set j (some b)).set l (some c)).set m (some d))) st
  | _ => .stuck
theorem ss_par4 {i j l m kt k2 : Nat} {e1 e2 e3 e4 : Expr} {tp : Pos} (hc : X.calm = true) (n1 : PG X e1 (gName i)) (n2 : PG X e2 (gName j)) (n3 : PG X e3 (gName l)) (n4 : PG X e4 (gName m)) (ha : SA X C es fa)
    (hn : (assignEach [e1, e2, e3, e4] X.env).length = 4 := by rfl) (hst : (assignEach [e1, e2, e3, e4] X.env).findIdx? (·.1) = none := by rfl)
    (q1 : (assignEach [e1, e2, e3, e4] X.env).map (·.2) = assign e1 X.env :: (assignEach [e2, e3, e4] X.env).map (·.2) := by rfl) (q2 : (assignEach [e2, e3, e4] X.env).map (·.2) = assign e2 X.env :: (assignEach [e3, e4] X.env).map (·.2) := by rfl)
    (q3 : (assignEach [e3, e4] X.env).map (·.2) = assign e3 X.env :: (assignEach [e4] X.env).map (·.2) := by rfl) (q4 : (assignEach [e4] X.env).map (·.2) = assign e4 X.env :: (assignEach [] X.env).map (·.2) := by rfl)
    (hs : swapsWithSole [.Tuple [e1, e2, e3, e4] kt tp] (.Tuple es k2 p0) pos.line X.env = pure false := by rfl) (hw : swappedStores [.Tuple [e1, e2, e3, e4] kt tp] (.Tuple es k2 p0) X.env = pure none := by rfl)
    (h1 : (assignEach [.Tuple [e1, e2, e3, e4] kt tp] X.env).map (·.2) = [assign (.Tuple [e1, e2, e3, e4] kt tp) X.env] := by rfl) :
    SS X C (.Assign [.Tuple [e1, e2, e3, e4] kt tp] (.Tuple es k2 p0) pos) (sPar4 i j l m fa) :=
  ps_imp (ps_asg (pe_tup ha) (pg_tup hc (pgs_cons n1 (pgs_cons n2 (pgs_cons n3 (pgs_cons n4 pgs_nil q4) q3) q2) q1) hn hst) hs hw h1) fun D σ H ⟨I, ι, env, st, s, re, ok⟩ =>
    ⟨I, ι, env, st, s, re, (OK.sb re ok).mono fun as st1 H1 I1 ι1 x1 s1 ok1 vs rv => by
      split at ok1
      · next a b c d =>
        obtain ⟨v1, v2, v3, v4, rfl, r1, r2, r3, r4⟩ := rvs4 rv
        refine ⟨by have := sizeLine_eq; simp only [List.length_cons, List.length_nil]; omega, fun p hp => ⟨p, _, rfl, .inl (.inl upd_same), rfl, ?_⟩⟩
        exact ⟨_, _, rfl, _, _, rfl, _, _, rfl, _, _, rfl, rfl, ok1 _ I1 ι1 (Ext.refl _ _) (s1.junk hp _) _ (((((re.ext x1).set i r1).set j r2).set l r3).set m r4)⟩
      · exact ok1.elim⟩
end
end Nz

end
section
set_option Elab.async false
set_option linter.all false
set_option maxRecDepth 100000
set_option maxHeartbeats 4000000
/-! the program's text as plain functions -/
namespace Nz
open PySem PySem.Spec PyProof.Rows L2
open LamX (Tabs TabS CodeO TabB)
abbrev topS (i : Nat) : Stmt := PySem.Challenge.pw_nestsay_k00_forests_and_standings.main.body.getD i (.Pass ⟨0, 0, 0, 0⟩)
def q_is_number : { s : Stmt // topS 8 = s } := ⟨.FunctionDef _ _ _ _ _ _ _ _ _ _, rfl⟩
abbrev s_is_number : Stmt := q_is_number.1
abbrev N_is_number : List Str := ["thing"]
theorem sc_is_number : FnScope N_is_number ["thing"] (defScope s_is_number) := ⟨rfl, rfl, rfl, by decide +kernel, rfl, by decide +kernel, by decide +kernel⟩
def q_is_pair : { s : Stmt // topS 9 = s } := ⟨.FunctionDef _ _ _ _ _ _ _ _ _ _, rfl⟩
abbrev s_is_pair : Stmt := q_is_pair.1
abbrev N_is_pair : List Str := ["thing"]
theorem sc_is_pair : FnScope N_is_pair ["thing"] (defScope s_is_pair) := ⟨rfl, rfl, rfl, by decide +kernel, rfl, by decide +kernel, by decide +kernel⟩
def q_has_thing : { s : Stmt // topS 10 = s } := ⟨.FunctionDef _ _ _ _ _ _ _ _ _ _, rfl⟩
abbrev s_has_thing : Stmt := q_has_thing.1
abbrev N_has_thing : List Str := ["rooms", "x"]
theorem sc_has_thing : FnScope N_has_thing ["rooms", "x"] (defScope s_has_thing) := ⟨rfl, rfl, rfl, by decide +kernel, rfl, by decide +kernel, by decide +kernel⟩
def q_has_room : { s : Stmt // topS 11 = s } := ⟨.FunctionDef _ _ _ _ _ _ _ _ _ _, rfl⟩
abbrev s_has_room : Stmt := q_has_room.1
abbrev N_has_room : List Str := ["rooms", "holder", "room"]
theorem sc_has_room : FnScope N_has_room ["rooms", "holder", "room"] (defScope s_has_room) := ⟨rfl, rfl, rfl, by decide +kernel, rfl, by decide +kernel, by decide +kernel⟩
def q_check_thing : { s : Stmt // topS 12 = s } := ⟨.FunctionDef _ _ _ _ _ _ _ _ _ _, rfl⟩
abbrev s_check_thing : Stmt := q_check_thing.1
abbrev N_check_thing : List Str := ["rooms", "x"]
theorem sc_check_thing : FnScope N_check_thing ["rooms", "x"] (defScope s_check_thing) := ⟨rfl, rfl, rfl, by decide +kernel, rfl, by decide +kernel, by decide +kernel⟩
def q_check_two : { s : Stmt // topS 13 = s } := ⟨.FunctionDef _ _ _ _ _ _ _ _ _ _, rfl⟩
abbrev s_check_two : Stmt := q_check_two.1
abbrev N_check_two : List Str := ["rooms", "x", "y"]
theorem sc_check_two : FnScope N_check_two ["rooms", "x", "y"] (defScope s_check_two) := ⟨rfl, rfl, rfl, by decide +kernel, rfl, by decide +kernel, by decide +kernel⟩
def q_made_rooms : { s : Stmt // topS 17 = s } := ⟨.FunctionDef _ _ _ _ _ _ _ _ _ _, rfl⟩
abbrev s_made_rooms : Stmt := q_made_rooms.1
abbrev N_made_rooms : List Str := ["thing", "x", "many"]
theorem sc_made_rooms : FnScope N_made_rooms ["thing"] (defScope s_made_rooms) := ⟨rfl, rfl, rfl, by decide +kernel, rfl, by decide +kernel, by decide +kernel⟩
def q_made_forest : { s : Stmt // topS 19 = s } := ⟨.FunctionDef _ _ _ _ _ _ _ _ _ _, rfl⟩
abbrev s_made_forest : Stmt := q_made_forest.1
abbrev N_made_forest : List Str := ["rooms", "forest", "x", "place"]
theorem sc_made_forest : FnScope N_made_forest ["rooms", "forest"] (defScope s_made_forest) := ⟨rfl, rfl, rfl, by decide +kernel, rfl, by decide +kernel, by decide +kernel⟩
def q_is_forest : { s : Stmt // topS 20 = s } := ⟨.FunctionDef _ _ _ _ _ _ _ _ _ _, rfl⟩
abbrev s_is_forest : Stmt := q_is_forest.1
abbrev N_is_forest : List Str := ["rooms", "forest"]
theorem sc_is_forest : FnScope N_is_forest ["rooms", "forest"] (defScope s_is_forest) := ⟨rfl, rfl, rfl, by decide +kernel, rfl, by decide +kernel, by decide +kernel⟩
def q_room_within : { s : Stmt // topS 21 = s } := ⟨.FunctionDef _ _ _ _ _ _ _ _ _ _, rfl⟩
abbrev s_room_within : Stmt := q_room_within.1
abbrev N_room_within : List Str := ["forest", "x", "y", "place"]
theorem sc_room_within : FnScope N_room_within ["forest", "x", "y"] (defScope s_room_within) := ⟨rfl, rfl, rfl, by decide +kernel, rfl, by decide +kernel, by decide +kernel⟩
def q__may_have : { s : Stmt // topS 22 = s } := ⟨.FunctionDef _ _ _ _ _ _ _ _ _ _, rfl⟩
abbrev s__may_have : Stmt := q__may_have.1
abbrev N__may_have : List Str := ["rooms", "x", "place"]
theorem sc__may_have : FnScope N__may_have ["rooms", "x", "place"] (defScope s__may_have) := ⟨rfl, rfl, rfl, by decide +kernel, rfl, by decide +kernel, by decide +kernel⟩
def q__within_itself : { s : Stmt // topS 23 = s } := ⟨.FunctionDef _ _ _ _ _ _ _ _ _ _, rfl⟩
abbrev s__within_itself : Stmt := q__within_itself.1
abbrev N__within_itself : List Str := ["forest", "x", "place", "_"]
theorem sc__within_itself : FnScope N__within_itself ["forest", "x"] (defScope s__within_itself) := ⟨rfl, rfl, rfl, by decide +kernel, rfl, by decide +kernel, by decide +kernel⟩
def q_standings : { s : Stmt // topS 26 = s } := ⟨.FunctionDef _ _ _ _ _ _ _ _ _ _, rfl⟩
abbrev s_standings : Stmt := q_standings.1
abbrev N_standings : List Str := ["rooms", "x", "y"]
theorem sc_standings : FnScope N_standings ["rooms", "x", "y"] (defScope s_standings) := ⟨rfl, rfl, rfl, by decide +kernel, rfl, by decide +kernel, by decide +kernel⟩
def q_turned : { s : Stmt // topS 27 = s } := ⟨.FunctionDef _ _ _ _ _ _ _ _ _ _, rfl⟩
abbrev s_turned : Stmt := q_turned.1
abbrev N_turned : List Str := ["standing", "kind", "room"]
theorem sc_turned : FnScope N_turned ["standing"] (defScope s_turned) := ⟨rfl, rfl, rfl, by decide +kernel, rfl, by decide +kernel, by decide +kernel⟩
def q_standing : { s : Stmt // topS 28 = s } := ⟨.FunctionDef _ _ _ _ _ _ _ _ _ _, rfl⟩
abbrev s_standing : Stmt := q_standing.1
abbrev N_standing : List Str := ["rooms", "forest", "x", "y"]
theorem sc_standing : FnScope N_standing ["rooms", "forest", "x", "y"] (defScope s_standing) := ⟨rfl, rfl, rfl, by decide +kernel, rfl, by decide +kernel, by decide +kernel⟩
def q_standing_in : { s : Stmt // topS 29 = s } := ⟨.FunctionDef _ _ _ _ _ _ _ _ _ _, rfl⟩
abbrev s_standing_in : Stmt := q_standing_in.1
abbrev N_standing_in : List Str := ["forest", "x", "y", "room"]
theorem sc_standing_in : FnScope N_standing_in ["forest", "x", "y"] (defScope s_standing_in) := ⟨rfl, rfl, rfl, by decide +kernel, rfl, by decide +kernel, by decide +kernel⟩
def q_every_standing : { s : Stmt // topS 30 = s } := ⟨.FunctionDef _ _ _ _ _ _ _ _ _ _, rfl⟩
abbrev s_every_standing : Stmt := q_every_standing.1
abbrev N_every_standing : List Str := ["rooms", "x", "y", "inside", "outside", "room"]
theorem sc_every_standing : FnScope N_every_standing ["rooms", "x", "y"] (defScope s_every_standing) := ⟨rfl, rfl, rfl, by decide +kernel, rfl, by decide +kernel, by decide +kernel⟩
def q__law_pool : { s : Stmt // topS 32 = s } := ⟨.FunctionDef _ _ _ _ _ _ _ _ _ _, rfl⟩
abbrev s__law_pool : Stmt := q__law_pool.1
abbrev N__law_pool : List Str := ["script", "k", "cell", "big", "mixed"]
theorem sc__law_pool : FnScope N__law_pool ["script", "k"] (defScope s__law_pool) := ⟨rfl, rfl, rfl, by decide +kernel, rfl, by decide +kernel, by decide +kernel⟩
def q__law_take : { s : Stmt // topS 33 = s } := ⟨.FunctionDef _ _ _ _ _ _ _ _ _ _, rfl⟩
abbrev s__law_take : Stmt := q__law_take.1
abbrev N__law_take : List Str := ["source", "top", "drawn"]
theorem sc__law_take : FnScope N__law_take ["source", "top"] (defScope s__law_take) := ⟨rfl, rfl, rfl, by decide +kernel, rfl, by decide +kernel, by decide +kernel⟩
def q__law_one : { s : Stmt // topS 34 = s } := ⟨.FunctionDef _ _ _ _ _ _ _ _ _ _, rfl⟩
abbrev s__law_one : Stmt := q__law_one.1
abbrev N__law_one : List Str := ["source", "things"]
theorem sc__law_one : FnScope N__law_one ["source", "things"] (defScope s__law_one) := ⟨rfl, rfl, rfl, by decide +kernel, rfl, by decide +kernel, by decide +kernel⟩
def q__law_mixed : { s : Stmt // topS 35 = s } := ⟨.FunctionDef _ _ _ _ _ _ _ _ _ _, rfl⟩
abbrev s__law_mixed : Stmt := q__law_mixed.1
abbrev N__law_mixed : List Str := ["source", "things", "left", "found", "turn"]
theorem sc__law_mixed : FnScope N__law_mixed ["source", "things"] (defScope s__law_mixed) := ⟨rfl, rfl, rfl, by decide +kernel, rfl, by decide +kernel, by decide +kernel⟩
def q__law_climb : { s : Stmt // topS 36 = s } := ⟨.FunctionDef _ _ _ _ _ _ _ _ _ _, rfl⟩
abbrev s__law_climb : Stmt := q__law_climb.1
abbrev N__law_climb : List Str := ["forest", "x", "found", "here", "turn"]
theorem sc__law_climb : FnScope N__law_climb ["forest", "x"] (defScope s__law_climb) := ⟨rfl, rfl, rfl, by decide +kernel, rfl, by decide +kernel, by decide +kernel⟩
def q__law_standing : { s : Stmt // topS 37 = s } := ⟨.FunctionDef _ _ _ _ _ _ _ _ _ _, rfl⟩
abbrev s__law_standing : Stmt := q__law_standing.1
abbrev N__law_standing : List Str := ["forest", "x", "y", "holder", "room"]
theorem sc__law_standing : FnScope N__law_standing ["forest", "x", "y"] (defScope s__law_standing) := ⟨rfl, rfl, rfl, by decide +kernel, rfl, by decide +kernel, by decide +kernel⟩
def q__law_turned : { s : Stmt // topS 38 = s } := ⟨.FunctionDef _ _ _ _ _ _ _ _ _ _, rfl⟩
abbrev s__law_turned : Stmt := q__law_turned.1
abbrev N__law_turned : List Str := ["pair"]
theorem sc__law_turned : FnScope N__law_turned ["pair"] (defScope s__law_turned) := ⟨rfl, rfl, rfl, by decide +kernel, rfl, by decide +kernel, by decide +kernel⟩
def q__law_every : { s : Stmt // topS 39 = s } := ⟨.FunctionDef _ _ _ _ _ _ _ _ _ _, rfl⟩
abbrev s__law_every : Stmt := q__law_every.1
abbrev N__law_every : List Str := ["rooms", "x", "y", "inner", "outer", "j", "i"]
theorem sc__law_every : FnScope N__law_every ["rooms", "x", "y"] (defScope s__law_every) := ⟨rfl, rfl, rfl, by decide +kernel, rfl, by decide +kernel, by decide +kernel⟩
def q__law_number : { s : Stmt // topS 40 = s } := ⟨.FunctionDef _ _ _ _ _ _ _ _ _ _, rfl⟩
abbrev s__law_number : Stmt := q__law_number.1
abbrev N__law_number : List Str := ["thing", "most"]
theorem sc__law_number : FnScope N__law_number ["thing", "most"] (defScope s__law_number) := ⟨rfl, rfl, rfl, by decide +kernel, rfl, by decide +kernel, by decide +kernel⟩
def q__law_grown : { s : Stmt // topS 41 = s } := ⟨.FunctionDef _ _ _ _ _ _ _ _ _ _, rfl⟩
abbrev s__law_grown : Stmt := q__law_grown.1
abbrev N__law_grown : List Str := ["source", "rooms", "order", "places", "at", "some", "holder", "x", "y"]
theorem sc__law_grown : FnScope N__law_grown ["source", "rooms"] (defScope s__law_grown) := ⟨rfl, rfl, rfl, by decide +kernel, rfl, by decide +kernel, by decide +kernel⟩
def q__law_heard : { s : Stmt // topS 42 = s } := ⟨.FunctionDef _ _ _ _ _ _ _ _ _ _, rfl⟩
abbrev s__law_heard : Stmt := q__law_heard.1
abbrev N__law_heard : List Str := ["call", "error", "sorts"]
theorem sc__law_heard : FnScope N__law_heard ["call"] (defScope s__law_heard) := ⟨rfl, rfl, rfl, by decide +kernel, rfl, by decide +kernel, by decide +kernel⟩
def q__law_refused : { s : Stmt // topS 43 = s } := ⟨.FunctionDef _ _ _ _ _ _ _ _ _ _, rfl⟩
abbrev s__law_refused : Stmt := q__law_refused.1
abbrev N__law_refused : List Str := ["sort", "what"]
theorem sc__law_refused : FnScope N__law_refused ["sort", "what"] (defScope s__law_refused) := ⟨rfl, rfl, rfl, by decide +kernel, rfl, by decide +kernel, by decide +kernel⟩
def q__law_is_place : { s : Stmt // topS 44 = s } := ⟨.FunctionDef _ _ _ _ _ _ _ _ _ _, rfl⟩
abbrev s__law_is_place : Stmt := q__law_is_place.1
abbrev N__law_is_place : List Str := ["rooms", "x", "place"]
theorem sc__law_is_place : FnScope N__law_is_place ["rooms", "x", "place"] (defScope s__law_is_place) := ⟨rfl, rfl, rfl, by decide +kernel, rfl, by decide +kernel, by decide +kernel⟩
def q__law_due : { s : Stmt // topS 45 = s } := ⟨.FunctionDef _ _ _ _ _ _ _ _ _ _, rfl⟩
abbrev s__law_due : Stmt := q__law_due.1
abbrev N__law_due : List Str := ["rooms", "forest", "x", "place"]
theorem sc__law_due : FnScope N__law_due ["rooms", "forest"] (defScope s__law_due) := ⟨rfl, rfl, rfl, by decide +kernel, rfl, by decide +kernel, by decide +kernel⟩
def q__law_is_made_right : { s : Stmt // topS 46 = s } := ⟨.FunctionDef _ _ _ _ _ _ _ _ _ _, rfl⟩
abbrev s__law_is_made_right : Stmt := q__law_is_made_right.1
abbrev N__law_is_made_right : List Str := ["rooms", "forest", "due"]
theorem sc__law_is_made_right : FnScope N__law_is_made_right ["rooms", "forest"] (defScope s__law_is_made_right) := ⟨rfl, rfl, rfl, by decide +kernel, rfl, by decide +kernel, by decide +kernel⟩
def q__law_odd : { s : Stmt // topS 47 = s } := ⟨.FunctionDef _ _ _ _ _ _ _ _ _ _, rfl⟩
abbrev s__law_odd : Stmt := q__law_odd.1
abbrev N__law_odd : List Str := ["source", "rooms", "y", "room", "way"]
theorem sc__law_odd : FnScope N__law_odd ["source", "rooms"] (defScope s__law_odd) := ⟨rfl, rfl, rfl, by decide +kernel, rfl, by decide +kernel, by decide +kernel⟩
def q__law_bent_right : { s : Stmt // topS 48 = s } := ⟨.FunctionDef _ _ _ _ _ _ _ _ _ _, rfl⟩
abbrev s__law_bent_right : Stmt := q__law_bent_right.1
abbrev N__law_bent_right : List Str := ["source", "rooms", "forest", "many", "places", "turn", "some", "y", "other"]
theorem sc__law_bent_right : FnScope N__law_bent_right ["source", "rooms", "forest"] (defScope s__law_bent_right) := ⟨rfl, rfl, rfl, by decide +kernel, rfl, by decide +kernel, by decide +kernel⟩
def q__law_pair_right : { s : Stmt // topS 49 = s } := ⟨.FunctionDef _ _ _ _ _ _ _ _ _ _, rfl⟩
abbrev s__law_pair_right : Stmt := q__law_pair_right.1
abbrev N__law_pair_right : List Str := ["rooms", "forest", "x", "y", "due"]
theorem sc__law_pair_right : FnScope N__law_pair_right ["rooms", "forest", "x", "y"] (defScope s__law_pair_right) := ⟨rfl, rfl, rfl, by decide +kernel, rfl, by decide +kernel, by decide +kernel⟩
def q__law_things_right : { s : Stmt // topS 50 = s } := ⟨.FunctionDef _ _ _ _ _ _ _ _ _ _, rfl⟩
abbrev s__law_things_right : Stmt := q__law_things_right.1
abbrev N__law_things_right : List Str := ["source", "rooms", "forest", "many", "far", "x", "one", "other", "due", "bent"]
theorem sc__law_things_right : FnScope N__law_things_right ["source", "rooms", "forest"] (defScope s__law_things_right) := ⟨rfl, rfl, rfl, by decide +kernel, rfl, by decide +kernel, by decide +kernel⟩
def q_law : { s : Stmt // topS 51 = s } := ⟨.FunctionDef _ _ _ _ _ _ _ _ _ _, rfl⟩
abbrev s_law : Stmt := q_law.1
abbrev N_law : List Str := ["script", "source", "many", "rooms", "forest", "turn", "x", "y"]
theorem sc_law : FnScope N_law ["script"] (defScope s_law) := ⟨rfl, rfl, rfl, by decide +kernel, rfl, by decide +kernel, by decide +kernel⟩
def errN : List Str := ["BadRooms", "BadThing", "BadForest", "Ring", "TooMany"]
def ctE : Catch := fun c => if c ∈ errN then some true else none
def knE : Str → Bool := fun c => decide (c ∈ errN)
def tabE (d : Str) : Str → Option Bool := fun c => if c ∈ errN then some (c == d) else none
def tabT : Str → Option Bool := fun c => if c ∈ errN then some true else none
theorem tabE_kn {d c : Str} {b : Bool} (h : tabE d c = some b) : knE c = true := by
  unfold tabE at h
  split at h
  · next hc => exact decide_eq_true hc
  · cases h
theorem tabT_kn {c : Str} {b : Bool} (h : tabT c = some b) : knE c = true := by
  unfold tabT at h
  split at h
  · next hc => exact decide_eq_true hc
  · cases h
/-- what is written where the law begins -/
structure TX (K : PySem.W.Frag) (mg : Str → Option Value) : Prop where
  n_ValueError : mg "ValueError" = none
  n_bool : mg "bool" = none
  n_enumerate : mg "enumerate" = none
  n_int : mg "int" = none
  n_isinstance : mg "isinstance" = none
  n_len : mg "len" = none
  n_list : mg "list" = none
  n_max : mg "max" = none
  n_range : mg "range" = none
  n_repr : mg "repr" = none
  n_tuple : mg "tuple" = none
  c_MOST_THINGS : ∃ t, mg "MOST_THINGS" = some (.int 24 t)
  c_MOST_ROOMS : ∃ t, mg "MOST_ROOMS" = some (.int 4 t)
  c_APART : GTup K mg "APART" [.str "apart", .int 0]
  e_BadRooms : ∃ C fI, PySem.NzX.LowTxt K mg "BadRooms" C fI
  e_BadThing : ∃ C fI, PySem.NzX.LowTxt K mg "BadThing" C fI
  e_BadForest : ∃ C fI, PySem.NzX.LowTxt K mg "BadForest" C fI
  e_Ring : ∃ C fI, PySem.NzX.LowTxt K mg "Ring" C fI
  e_TooMany : ∃ C fI, PySem.NzX.LowTxt K mg "TooMany" C fI
  x_ex : ∀ c D, knE c = true → mg c = some (.ref D) → ExK K D
  x_ct : ∃ R, mg "Refused" = some (.ref R) ∧ ∀ c D b, mg c = some (.ref D) → ctE c = some b → PySem.W.exmOne K (.ref D) (.ref R) = some b
  x_is : ∀ d ∈ errN, ∃ R, mg d = some (.ref R) ∧ ∀ c D b, tabE d c = some b → mg c = some (.ref D) → PySem.W.kitOne K (.ref D) (.ref R) = some b
  x_ve : ∀ c D b, tabT c = some b → mg c = some (.ref D) → PySem.W.kitOne K (.ref D) (.type "ValueError") = some b
  p_is_number : ∃ f fd, DefK K mg "is_number" s_is_number ["thing"] f fd
  p_is_pair : ∃ f fd, DefK K mg "is_pair" s_is_pair ["thing"] f fd
  p_has_thing : ∃ f fd, DefK K mg "has_thing" s_has_thing ["rooms", "x"] f fd
  p_has_room : ∃ f fd, DefK K mg "has_room" s_has_room ["rooms", "holder", "room"] f fd
  p_check_thing : ∃ f fd, DefK K mg "check_thing" s_check_thing ["rooms", "x"] f fd
  p_check_two : ∃ f fd, DefK K mg "check_two" s_check_two ["rooms", "x", "y"] f fd
  p_made_rooms : ∃ f fd, DefK K mg "made_rooms" s_made_rooms ["thing"] f fd
  p_made_forest : ∃ f fd, DefK K mg "made_forest" s_made_forest ["rooms", "forest"] f fd
  p_is_forest : ∃ f fd, DefK K mg "is_forest" s_is_forest ["rooms", "forest"] f fd
  p_room_within : ∃ f fd, DefK K mg "room_within" s_room_within ["forest", "x", "y"] f fd
  p__may_have : ∃ f fd, DefK K mg "_may_have" s__may_have ["rooms", "x", "place"] f fd
  p__within_itself : ∃ f fd, DefK K mg "_within_itself" s__within_itself ["forest", "x"] f fd
  p_standings : ∃ f fd, DefK K mg "standings" s_standings ["rooms", "x", "y"] f fd
  p_turned : ∃ f fd, DefK K mg "turned" s_turned ["standing"] f fd
  p_standing : ∃ f fd, DefK K mg "standing" s_standing ["rooms", "forest", "x", "y"] f fd
  p_standing_in : ∃ f fd, DefK K mg "standing_in" s_standing_in ["forest", "x", "y"] f fd
  p_every_standing : ∃ f fd, DefK K mg "every_standing" s_every_standing ["rooms", "x", "y"] f fd
  p__law_pool : ∃ f fd, DefK K mg "_law_pool" s__law_pool ["script", "k"] f fd
  p__law_take : ∃ f fd, DefK K mg "_law_take" s__law_take ["source", "top"] f fd
  p__law_one : ∃ f fd, DefK K mg "_law_one" s__law_one ["source", "things"] f fd
  p__law_mixed : ∃ f fd, DefK K mg "_law_mixed" s__law_mixed ["source", "things"] f fd
  p__law_climb : ∃ f fd, DefK K mg "_law_climb" s__law_climb ["forest", "x"] f fd
  p__law_standing : ∃ f fd, DefK K mg "_law_standing" s__law_standing ["forest", "x", "y"] f fd
  p__law_turned : ∃ f fd, DefK K mg "_law_turned" s__law_turned ["pair"] f fd
  p__law_every : ∃ f fd, DefK K mg "_law_every" s__law_every ["rooms", "x", "y"] f fd
  p__law_number : ∃ f fd, DefK K mg "_law_number" s__law_number ["thing", "most"] f fd
  p__law_grown : ∃ f fd, DefK K mg "_law_grown" s__law_grown ["source", "rooms"] f fd
  p__law_heard : ∃ f fd, DefK K mg "_law_heard" s__law_heard ["call"] f fd
  p__law_refused : ∃ f fd, DefK K mg "_law_refused" s__law_refused ["sort", "what"] f fd
  p__law_is_place : ∃ f fd, DefK K mg "_law_is_place" s__law_is_place ["rooms", "x", "place"] f fd
  p__law_due : ∃ f fd, DefK K mg "_law_due" s__law_due ["rooms", "forest"] f fd
  p__law_is_made_right : ∃ f fd, DefK K mg "_law_is_made_right" s__law_is_made_right ["rooms", "forest"] f fd
  p__law_odd : ∃ f fd, DefK K mg "_law_odd" s__law_odd ["source", "rooms"] f fd
  p__law_bent_right : ∃ f fd, DefK K mg "_law_bent_right" s__law_bent_right ["source", "rooms", "forest"] f fd
  p__law_pair_right : ∃ f fd, DefK K mg "_law_pair_right" s__law_pair_right ["rooms", "forest", "x", "y"] f fd
  p__law_things_right : ∃ f fd, DefK K mg "_law_things_right" s__law_things_right ["source", "rooms", "forest"] f fd
  p_law : ∃ f fd, DefK K mg "law" s_law ["script"] f fd
theorem kb_standing {K : PySem.W.Frag} {mg : Str → Option Value} {f : Addr} {fd : FuncData} (D : DefK K mg "standing" s_standing ["rooms", "forest", "x", "y"] f fd) : KB K fd ["rooms", "forest", "x", "y"] ["rooms", "forest", "x", "y"] := by
  obtain ⟨oc, od, kV, doc, pm, an, cdv, ct, osl, rfl, lk, hcd⟩ := D.F.ex
  exact fun s ws _ hl => match ws, hl with | [_, _, _, _], _ => .of_eq rfl
/-- .. and of the lambdas -/
structure TL (K : PySem.W.Frag) (mg : Str → Option Value) (base : Heap) (T : List (Addr × Str)) : Prop where
  l__law_is_made_right : LamT K mg base T "_law_is_made_right" ((envOfC "_law_is_made_right" (defScope s__law_is_made_right) 0 0 .none).qual ++ "<lambda>")
  l__law_things_right : LamT K mg base T "_law_things_right" ((envOfC "_law_things_right" (defScope s__law_things_right) 0 0 .none).qual ++ "<lambda>")
  l_law : LamT K mg base T "law" ((envOfC "law" (defScope s_law) 0 0 .none).qual ++ "<lambda>")
section
variable {P : Program} {w : World} {K : PySem.W.Frag} {mg : Str → Option Value} {base : Heap} {T : List (Addr × Str)}
noncomputable def u_is_number : Sx :=
    (sRet (xAn (xIsi "int" (xVar 0)) (xNt (xIsi "bool" (xVar 0)))))
noncomputable def f_is_number : Fn := fnO false 1 u_is_number
theorem g_is_number (t : TX K mg) (tl : TL K mg base T) : ∃ f fd, DefK K mg "is_number" s_is_number ["thing"] f fd ∧ FnG P w K mg base 1 f fd ["thing"] (spF K mg T 1 f_is_number) := by
  obtain ⟨f, fd, D⟩ := t.p_is_number
  exact ⟨f, fd, D, def_okN (k := 0) N_is_number ["thing"] 1 1 false u_is_number D.F sc_is_number rfl rfl fun cv A outer s H E ax hr hgd =>
    (sb_one (ss_ret (se_an (se_isi (ty := "int") (by decide) (by rfl) t.n_isinstance (se_v (pv 0)) (pe_bty (by rfl) t.n_int bb_int)) (se_one (se_not (se_isi (ty := "bool") (by decide) (by rfl) t.n_isinstance (se_v (pv 0)) (pe_bty (by rfl) t.n_bool bb_bool)))))))⟩
noncomputable def u_is_pair : Sx :=
    (sRet (xAn (xIsi "tuple" (xVar 0)) (xOp oEqS (xFn kLen (xCons (xVar 0) xNil)) (xC (.int 2)))))
noncomputable def f_is_pair : Fn := fnO false 1 u_is_pair
theorem g_is_pair (t : TX K mg) (tl : TL K mg base T) : ∃ f fd, DefK K mg "is_pair" s_is_pair ["thing"] f fd ∧ FnG P w K mg base 1 f fd ["thing"] (spF K mg T 1 f_is_pair) := by
  obtain ⟨f, fd, D⟩ := t.p_is_pair
  exact ⟨f, fd, D, def_okN (k := 0) N_is_pair ["thing"] 1 1 false u_is_pair D.F sc_is_pair rfl rfl fun cv A outer s H E ax hr hgd =>
    (sb_one (ss_ret (se_an (se_isi (ty := "tuple") (by decide) (by rfl) t.n_isinstance (se_v (pv 0)) (pe_bty (by rfl) t.n_tuple bb_tuple)) (se_one (se_cmp (op_eq.or (op_eqD (hu64 hr))) cm_eqS (se_len (by rfl) t.n_len (sa_cons (se_v (pv 0)) sa_nil)) se_int)))))⟩
noncomputable def u_has_thing : Sx :=
    (sRet (xAn (xCall 1 f_is_number (xCons (xVar 1) xNil)) (xChain oLe oLt (xC (.int 0)) (xVar 1) (xFn kLen (xCons (xVar 0) xNil)))))
noncomputable def f_has_thing : Fn := fnO false 2 u_has_thing
theorem g_has_thing (t : TX K mg) (tl : TL K mg base T) : ∃ f fd, DefK K mg "has_thing" s_has_thing ["rooms", "x"] f fd ∧ FnG P w K mg base 2 f fd ["rooms", "x"] (spF K mg T 2 f_has_thing) := by
  obtain ⟨f, fd, D⟩ := t.p_has_thing
  obtain ⟨f_is_number, d_is_number, D_is_number, G_is_number⟩ := g_is_number (P := P) (w := w) (base := base) (T := T) t tl
  exact ⟨f, fd, D, def_okN (k := 1) N_has_thing ["rooms", "x"] 2 2 false u_has_thing D.F sc_has_thing rfl rfl fun cv A outer s H E ax hr hgd =>
    (sb_one (ss_ret (se_an (se_call (G_is_number.mono (k := 1) (by decide)) hr hgd (by rfl) D_is_number.g D_is_number.F.kp D_is_number.b (L2N.takes_of rfl rfl rfl rfl) (sa_cons (se_v (pv 1)) sa_nil)) (se_one (se_chain op_le cm_le op_lt cm_lt se_int (se_v (pv 1)) (se_len (by rfl) t.n_len (sa_cons (se_v (pv 0)) sa_nil)))))))⟩
noncomputable def u_has_room : Sx :=
    (sRet (xAn (xCall 2 f_has_thing (xCons (xVar 0) (xCons (xVar 1) xNil))) (xAn (xCall 1 f_is_number (xCons (xVar 2) xNil)) (xChain oLe oLt (xC (.int 0)) (xVar 2) (xOp oIx (xVar 0) (xVar 1))))))
noncomputable def f_has_room : Fn := fnO false 3 u_has_room
theorem g_has_room (t : TX K mg) (tl : TL K mg base T) : ∃ f fd, DefK K mg "has_room" s_has_room ["rooms", "holder", "room"] f fd ∧ FnG P w K mg base 3 f fd ["rooms", "holder", "room"] (spF K mg T 3 f_has_room) := by
  obtain ⟨f, fd, D⟩ := t.p_has_room
  obtain ⟨f_has_thing, d_has_thing, D_has_thing, G_has_thing⟩ := g_has_thing (P := P) (w := w) (base := base) (T := T) t tl
  obtain ⟨f_is_number, d_is_number, D_is_number, G_is_number⟩ := g_is_number (P := P) (w := w) (base := base) (T := T) t tl
  exact ⟨f, fd, D, def_okN (k := 2) N_has_room ["rooms", "holder", "room"] 3 3 false u_has_room D.F sc_has_room rfl rfl fun cv A outer s H E ax hr hgd =>
    (sb_one (ss_ret (se_an (se_call (G_has_thing.mono (k := 2) (by decide)) hr hgd (by rfl) D_has_thing.g D_has_thing.F.kp D_has_thing.b (L2N.takes_of rfl rfl rfl rfl) (sa_cons (se_v (pv 0)) (sa_cons (se_v (pv 1)) sa_nil))) (se_an (se_call (G_is_number.mono (k := 2) (by decide)) hr hgd (by rfl) D_is_number.g D_is_number.F.kp D_is_number.b (L2N.takes_of rfl rfl rfl rfl) (sa_cons (se_v (pv 2)) sa_nil)) (se_one (se_chain op_le cm_le op_lt cm_lt se_int (se_v (pv 2)) (se_ix (se_v (pv 0)) (se_v (pv 1)))))))))⟩
noncomputable def u_check_thing : Sx :=
    (sIf (tNt (xB (xCall 2 f_has_thing (xCons (xVar 0) (xCons (xVar 1) xNil))))) (sRaise "BadThing" (xCons (xVar 1) xNil)) bNil)
noncomputable def f_check_thing : Fn := fnO false 2 u_check_thing
theorem g_check_thing (t : TX K mg) (tl : TL K mg base T) : ∃ f fd, DefK K mg "check_thing" s_check_thing ["rooms", "x"] f fd ∧ FnG P w K mg base 3 f fd ["rooms", "x"] (spF K mg T 2 f_check_thing) := by
  obtain ⟨f, fd, D⟩ := t.p_check_thing
  obtain ⟨f_has_thing, d_has_thing, D_has_thing, G_has_thing⟩ := g_has_thing (P := P) (w := w) (base := base) (T := T) t tl
  obtain ⟨C_BadThing, i_BadThing, L_BadThing⟩ := t.e_BadThing
  exact ⟨f, fd, D, def_okN (k := 2) N_check_thing ["rooms", "x"] 2 2 false u_check_thing D.F sc_check_thing rfl rfl fun cv A outer s H E ax hr hgd =>
    (sb_one (ss_if (st_not (st_val (se_call (G_has_thing.mono (k := 2) (by decide)) hr hgd (by rfl) D_has_thing.g D_has_thing.F.kp D_has_thing.b (L2N.takes_of rfl rfl rfl rfl) (sa_cons (se_v (pv 0)) (sa_cons (se_v (pv 1)) sa_nil))))) (sb_one (ss_raise rfl L_BadThing hr (L2N.takes_of rfl rfl rfl rfl) (sa_cons (se_v (pv 1)) sa_nil))) sb_nil))⟩
noncomputable def u_check_two : Sx :=
    (bCons (sExp (xCall 2 f_check_thing (xCons (xVar 0) (xCons (xVar 1) xNil))))
    (sIf (tOrr (tNt (xB (xCall 2 f_has_thing (xCons (xVar 0) (xCons (xVar 2) xNil))))) (xB (xOp oEqS (xVar 1) (xVar 2)))) (sRaise "BadThing" (xCons (xVar 2) xNil)) bNil))
noncomputable def f_check_two : Fn := fnO false 3 u_check_two
theorem g_check_two (t : TX K mg) (tl : TL K mg base T) : ∃ f fd, DefK K mg "check_two" s_check_two ["rooms", "x", "y"] f fd ∧ FnG P w K mg base 4 f fd ["rooms", "x", "y"] (spF K mg T 3 f_check_two) := by
  obtain ⟨f, fd, D⟩ := t.p_check_two
  obtain ⟨f_check_thing, d_check_thing, D_check_thing, G_check_thing⟩ := g_check_thing (P := P) (w := w) (base := base) (T := T) t tl
  obtain ⟨f_has_thing, d_has_thing, D_has_thing, G_has_thing⟩ := g_has_thing (P := P) (w := w) (base := base) (T := T) t tl
  obtain ⟨C_BadThing, i_BadThing, L_BadThing⟩ := t.e_BadThing
  exact ⟨f, fd, D, def_okN (k := 3) N_check_two ["rooms", "x", "y"] 3 3 false u_check_two D.F sc_check_two rfl rfl fun cv A outer s H E ax hr hgd =>
    (sb_cons (ss_expr (se_call (G_check_thing.mono (k := 3) (by decide)) hr hgd (by rfl) D_check_thing.g D_check_thing.F.kp D_check_thing.b (L2N.takes_of rfl rfl rfl rfl) (sa_cons (se_v (pv 0)) (sa_cons (se_v (pv 1)) sa_nil))))
      (sb_one (ss_if (st_w (sw_or (st_not (st_val (se_call (G_has_thing.mono (k := 3) (by decide)) hr hgd (by rfl) D_has_thing.g D_has_thing.F.kp D_has_thing.b (L2N.takes_of rfl rfl rfl rfl) (sa_cons (se_v (pv 0)) (sa_cons (se_v (pv 2)) sa_nil))))) (sw_or1 (st_cmp (op_eq.or (op_eqD (hu64 hr))) cm_eqS (se_v (pv 1)) (se_v (pv 2)))))) (sb_one (ss_raise rfl L_BadThing hr (L2N.takes_of rfl rfl rfl rfl) (sa_cons (se_v (pv 2)) sa_nil))) sb_nil)))⟩
noncomputable def fb_made_rooms_1 : Sx :=
    (sIf (tOrr (tNt (xB (xCall 1 f_is_number (xCons (xVar 2) xNil)))) (tNt (xB (xChain oLe oLe (xC (.int 0)) (xVar 2) (xC (.int 4)))))) (sRaise "BadRooms" (xCons (xVar 1) xNil)) bNil)
noncomputable def fl_made_rooms_2 : Sx :=
    sFor (wEnm (xVar 0)) (gT 2 (gs1 1 (gs1 2 gs0))) fb_made_rooms_1
noncomputable def u_made_rooms : Sx :=
    (bCons (sIf (tNt (xB (xIsi "tuple" (xVar 0)))) (sRaise "BadRooms" (xCons (xUn oNeg (xC (.int 1))) xNil)) bNil)
    (bCons (sIf (xB (xOp oGt (xFn kLen (xCons (xVar 0) xNil)) (xC (.int 24)))) (sRaise "TooMany" (xCons (xFn kLen (xCons (xVar 0) xNil)) xNil)) bNil)
    (bCons fl_made_rooms_2
    (sRet (xVar 0)))))
noncomputable def f_made_rooms : Fn := fnO false 3 u_made_rooms
theorem g_made_rooms (t : TX K mg) (tl : TL K mg base T) : ∃ f fd, DefK K mg "made_rooms" s_made_rooms ["thing"] f fd ∧ FnG P w K mg base 2 f fd ["thing"] (spF K mg T 1 f_made_rooms) := by
  obtain ⟨f, fd, D⟩ := t.p_made_rooms
  obtain ⟨f_is_number, d_is_number, D_is_number, G_is_number⟩ := g_is_number (P := P) (w := w) (base := base) (T := T) t tl
  obtain ⟨C_BadRooms, i_BadRooms, L_BadRooms⟩ := t.e_BadRooms
  obtain ⟨C_TooMany, i_TooMany, L_TooMany⟩ := t.e_TooMany
  exact ⟨f, fd, D, def_okN (k := 1) N_made_rooms ["thing"] 3 1 false u_made_rooms D.F sc_made_rooms rfl rfl fun cv A outer s H E ax hr hgd =>
    (sb_cons (ss_if (st_not (st_val (se_isi (ty := "tuple") (by decide) (by rfl) t.n_isinstance (se_v (pv 0)) (pe_bty (by rfl) t.n_tuple bb_tuple)))) (sb_one (ss_raise rfl L_BadRooms hr (L2N.takes_of rfl rfl rfl rfl) (sa_cons (se_neg se_int) sa_nil))) sb_nil)
      (sb_cons (ss_if (st_cmp op_gt cm_gt (se_len (by rfl) t.n_len (sa_cons (se_v (pv 0)) sa_nil)) (se_gint (by rfl) t.c_MOST_THINGS)) (sb_one (ss_raise rfl L_TooMany hr (L2N.takes_of rfl rfl rfl rfl) (sa_cons (se_len (by rfl) t.n_len (sa_cons (se_v (pv 0)) sa_nil)) sa_nil))) sb_nil)
      (sb_cons (ss_for (sl := [1, 2]) (passes_of rfl) rfl (si_enm (by rfl) t.n_enumerate (se_v (pv 0))) (sg_t rfl (sgs_cons (pg_name (i := 1) sc_made_rooms.nd rfl (by first | exact .inl rfl | exact .inr rfl)) (sgs_cons (pg_name (i := 2) sc_made_rooms.nd rfl (by first | exact .inl rfl | exact .inr rfl)) sgs_nil))) (sb_one (ss_if (st_w (sw_or (st_not (st_val (se_call (G_is_number.mono (k := 1) (by decide)) hr hgd (by rfl) D_is_number.g D_is_number.F.kp D_is_number.b (L2N.takes_of rfl rfl rfl rfl) (sa_cons (se_v (pv 2)) sa_nil)))) (sw_or1 (st_not (st_chain op_le cm_le op_le cm_le se_int (se_v (pv 2)) (se_gint (by rfl) t.c_MOST_ROOMS)))))) (sb_one (ss_raise rfl L_BadRooms hr (L2N.takes_of rfl rfl rfl rfl) (sa_cons (se_v (pv 1)) sa_nil))) sb_nil)))
      (sb_one (ss_ret (se_v (pv 0)))))))⟩
noncomputable def u__may_have : Sx :=
    (bCons (sIf (xB (xOp (oIs false) (xVar 2) (xC .none))) (sRet (xC (.bool true))) bNil)
    (sRet (xAn (xCall 1 f_is_pair (xCons (xVar 2) xNil)) (xAn (xCall 3 f_has_room (xCons (xVar 0) (xCons (xOp oIx (xVar 2) (xC (.int 0))) (xCons (xOp oIx (xVar 2) (xC (.int 1))) xNil)))) (xOp oNeS (xOp oIx (xVar 2) (xC (.int 0))) (xVar 1))))))
noncomputable def f__may_have : Fn := fnO false 3 u__may_have
theorem g__may_have (t : TX K mg) (tl : TL K mg base T) : ∃ f fd, DefK K mg "_may_have" s__may_have ["rooms", "x", "place"] f fd ∧ FnG P w K mg base 4 f fd ["rooms", "x", "place"] (spF K mg T 3 f__may_have) := by
  obtain ⟨f, fd, D⟩ := t.p__may_have
  obtain ⟨f_has_room, d_has_room, D_has_room, G_has_room⟩ := g_has_room (P := P) (w := w) (base := base) (T := T) t tl
  obtain ⟨f_is_pair, d_is_pair, D_is_pair, G_is_pair⟩ := g_is_pair (P := P) (w := w) (base := base) (T := T) t tl
  exact ⟨f, fd, D, def_okN (k := 3) N__may_have ["rooms", "x", "place"] 3 3 false u__may_have D.F sc__may_have rfl rfl fun cv A outer s H E ax hr hgd =>
    (sb_cons (ss_if (st_cmp op_isN cm_is (se_v (pv 2)) se_non) (sb_one (ss_ret se_bl)) sb_nil)
      (sb_one (ss_ret (se_an (se_call (G_is_pair.mono (k := 3) (by decide)) hr hgd (by rfl) D_is_pair.g D_is_pair.F.kp D_is_pair.b (L2N.takes_of rfl rfl rfl rfl) (sa_cons (se_v (pv 2)) sa_nil)) (se_an (se_call (G_has_room.mono (k := 3) (by decide)) hr hgd (by rfl) D_has_room.g D_has_room.F.kp D_has_room.b (L2N.takes_of rfl rfl rfl rfl) (sa_cons (se_v (pv 0)) (sa_cons (se_ix (se_v (pv 2)) se_int) (sa_cons (se_ix (se_v (pv 2)) se_int) sa_nil)))) (se_one (se_cmp (op_ne.or (op_neD (hu64 hr))) cm_neS (se_ix (se_v (pv 2)) se_int) (se_v (pv 1)))))))))⟩
noncomputable def fb__within_itself_1 : Sx :=
    (bCons (sIf (xB (xOp (oIs false) (xVar 2) (xC .none))) (sRet (xC (.bool false))) bNil)
    (bCons (sIf (xB (xOp oEqS (xOp oIx (xVar 2) (xC (.int 0))) (xVar 1))) (sRet (xC (.bool true))) bNil)
    (sSet 2 (xOp oIx (xVar 0) (xOp oIx (xVar 2) (xC (.int 0)))))))
noncomputable def fl__within_itself_2 : Sx :=
    sFor (wSeq (xVar 0)) (gN 3) fb__within_itself_1
noncomputable def u__within_itself : Sx :=
    (bCons (sSet 2 (xOp oIx (xVar 0) (xVar 1)))
    (bCons fl__within_itself_2
    (sRet (xC (.bool false)))))
noncomputable def f__within_itself : Fn := fnO false 4 u__within_itself
theorem g__within_itself (t : TX K mg) (tl : TL K mg base T) : ∃ f fd, DefK K mg "_within_itself" s__within_itself ["forest", "x"] f fd ∧ FnG P w K mg base 1 f fd ["forest", "x"] (spF K mg T 2 f__within_itself) := by
  obtain ⟨f, fd, D⟩ := t.p__within_itself
  exact ⟨f, fd, D, def_okN (k := 0) N__within_itself ["forest", "x"] 4 2 false u__within_itself D.F sc__within_itself rfl rfl fun cv A outer s H E ax hr hgd =>
    (sb_cons (ss_set (ps_set (i := 2) sc__within_itself.nd rfl (by first | exact .inl rfl | exact .inr rfl) (se_ix (se_v (pv 0)) (se_v (pv 1)))))
      (sb_cons (ss_for (sl := [3]) (passes_of rfl) rfl (si_seq (se_v (pv 0))) (sg_n (pg_name (i := 3) sc__within_itself.nd rfl (by first | exact .inl rfl | exact .inr rfl))) (sb_cons (ss_if (st_cmp op_isN cm_is (se_v (pv 2)) se_non) (sb_one (ss_ret se_bl)) sb_nil)
      (sb_cons (ss_if (st_cmp (op_eq.or (op_eqD (hu64 hr))) cm_eqS (se_ix (se_v (pv 2)) se_int) (se_v (pv 1))) (sb_one (ss_ret se_bl)) sb_nil)
      (sb_one (ss_set (ps_set (i := 2) sc__within_itself.nd rfl (by first | exact .inl rfl | exact .inr rfl) (se_ix (se_v (pv 0)) (se_ix (se_v (pv 2)) se_int))))))))
      (sb_one (ss_ret se_bl))))⟩
noncomputable def fb_made_forest_1 : Sx :=
    (sIf (tNt (xB (xCall 3 f__may_have (xCons (xVar 0) (xCons (xVar 2) (xCons (xVar 3) xNil)))))) (sRaise "BadForest" (xCons (xVar 2) xNil)) bNil)
noncomputable def fl_made_forest_2 : Sx :=
    sFor (wEnm (xVar 1)) (gT 2 (gs1 2 (gs1 3 gs0))) fb_made_forest_1
noncomputable def fb_made_forest_3 : Sx :=
    (sIf (xB (xCall 2 f__within_itself (xCons (xVar 1) (xCons (xVar 2) xNil)))) (sRaise "Ring" (xCons (xVar 2) xNil)) bNil)
noncomputable def fl_made_forest_4 : Sx :=
    sFor (wRng1 (xFn kLen (xCons (xVar 1) xNil))) (gN 2) fb_made_forest_3
noncomputable def u_made_forest : Sx :=
    (bCons (sExp (xCall 1 f_made_rooms (xCons (xVar 0) xNil)))
    (bCons (sIf (tOrr (tNt (xB (xIsi "tuple" (xVar 1)))) (xB (xOp oNeS (xFn kLen (xCons (xVar 1) xNil)) (xFn kLen (xCons (xVar 0) xNil))))) (sRaise "BadForest" (xCons (xUn oNeg (xC (.int 1))) xNil)) bNil)
    (bCons fl_made_forest_2
    (bCons fl_made_forest_4
    (sRet (xVar 1))))))
noncomputable def f_made_forest : Fn := fnO false 4 u_made_forest
theorem g_made_forest (t : TX K mg) (tl : TL K mg base T) : ∃ f fd, DefK K mg "made_forest" s_made_forest ["rooms", "forest"] f fd ∧ FnG P w K mg base 5 f fd ["rooms", "forest"] (spF K mg T 2 f_made_forest) := by
  obtain ⟨f, fd, D⟩ := t.p_made_forest
  obtain ⟨f__may_have, d__may_have, D__may_have, G__may_have⟩ := g__may_have (P := P) (w := w) (base := base) (T := T) t tl
  obtain ⟨f__within_itself, d__within_itself, D__within_itself, G__within_itself⟩ := g__within_itself (P := P) (w := w) (base := base) (T := T) t tl
  obtain ⟨f_made_rooms, d_made_rooms, D_made_rooms, G_made_rooms⟩ := g_made_rooms (P := P) (w := w) (base := base) (T := T) t tl
  obtain ⟨C_BadForest, i_BadForest, L_BadForest⟩ := t.e_BadForest
  obtain ⟨C_Ring, i_Ring, L_Ring⟩ := t.e_Ring
  exact ⟨f, fd, D, def_okN (k := 4) N_made_forest ["rooms", "forest"] 4 2 false u_made_forest D.F sc_made_forest rfl rfl fun cv A outer s H E ax hr hgd =>
    (sb_cons (ss_expr (se_call (G_made_rooms.mono (k := 4) (by decide)) hr hgd (by rfl) D_made_rooms.g D_made_rooms.F.kp D_made_rooms.b (L2N.takes_of rfl rfl rfl rfl) (sa_cons (se_v (pv 0)) sa_nil)))
      (sb_cons (ss_if (st_w (sw_or (st_not (st_val (se_isi (ty := "tuple") (by decide) (by rfl) t.n_isinstance (se_v (pv 1)) (pe_bty (by rfl) t.n_tuple bb_tuple)))) (sw_or1 (st_cmp (op_ne.or (op_neD (hu64 hr))) cm_neS (se_len (by rfl) t.n_len (sa_cons (se_v (pv 1)) sa_nil)) (se_len (by rfl) t.n_len (sa_cons (se_v (pv 0)) sa_nil)))))) (sb_one (ss_raise rfl L_BadForest hr (L2N.takes_of rfl rfl rfl rfl) (sa_cons (se_neg se_int) sa_nil))) sb_nil)
      (sb_cons (ss_for (sl := [2, 3]) (passes_of rfl) rfl (si_enm (by rfl) t.n_enumerate (se_v (pv 1))) (sg_t rfl (sgs_cons (pg_name (i := 2) sc_made_forest.nd rfl (by first | exact .inl rfl | exact .inr rfl)) (sgs_cons (pg_name (i := 3) sc_made_forest.nd rfl (by first | exact .inl rfl | exact .inr rfl)) sgs_nil))) (sb_one (ss_if (st_not (st_val (se_call (G__may_have.mono (k := 4) (by decide)) hr hgd (by rfl) D__may_have.g D__may_have.F.kp D__may_have.b (L2N.takes_of rfl rfl rfl rfl) (sa_cons (se_v (pv 0)) (sa_cons (se_v (pv 2)) (sa_cons (se_v (pv 3)) sa_nil)))))) (sb_one (ss_raise rfl L_BadForest hr (L2N.takes_of rfl rfl rfl rfl) (sa_cons (se_v (pv 2)) sa_nil))) sb_nil)))
      (sb_cons (ss_for (sl := [2]) (passes_of rfl) rfl (si_rng1 (by rfl) t.n_range (se_len (by rfl) t.n_len (sa_cons (se_v (pv 1)) sa_nil))) (sg_n (pg_name (i := 2) sc_made_forest.nd rfl (by first | exact .inl rfl | exact .inr rfl))) (sb_one (ss_if (st_val (se_call (G__within_itself.mono (k := 4) (by decide)) hr hgd (by rfl) D__within_itself.g D__within_itself.F.kp D__within_itself.b (L2N.takes_of rfl rfl rfl rfl) (sa_cons (se_v (pv 1)) (sa_cons (se_v (pv 2)) sa_nil)))) (sb_one (ss_raise rfl L_Ring hr (L2N.takes_of rfl rfl rfl rfl) (sa_cons (se_v (pv 2)) sa_nil))) sb_nil)))
      (sb_one (ss_ret (se_v (pv 1))))))))⟩
noncomputable def u_is_forest : Sx :=
    (bCons (sTry ctE (sExp (xCall 2 f_made_forest (xCons (xVar 0) (xCons (xVar 1) xNil)))) (sRet (xC (.bool false))))
    (sRet (xC (.bool true))))
noncomputable def f_is_forest : Fn := fnO false 2 u_is_forest
theorem g_is_forest (t : TX K mg) (tl : TL K mg base T) : ∃ f fd, DefK K mg "is_forest" s_is_forest ["rooms", "forest"] f fd ∧ FnG P w K mg base 6 f fd ["rooms", "forest"] (spF K mg T 2 f_is_forest) := by
  obtain ⟨f, fd, D⟩ := t.p_is_forest
  obtain ⟨f_made_forest, d_made_forest, D_made_forest, G_made_forest⟩ := g_made_forest (P := P) (w := w) (base := base) (T := T) t tl
  obtain ⟨C_Refused, g_Refused, hct⟩ := t.x_ct
  exact ⟨f, fd, D, def_okN (k := 5) N_is_forest ["rooms", "forest"] 2 2 false u_is_forest D.F sc_is_forest rfl rfl fun cv A outer s H E ax hr hgd =>
    (sb_cons (ss_tryO (ct := ctE) rfl rfl ⟨by rfl, by decide, .inl g_Refused⟩ (L2N.takes_of rfl rfl rfl rfl) hct (fun C2 pn xe e1 e2 tk po => by obtain ⟨T2, EX2, ax2⟩ := C2; obtain rfl : T2 = T := e1; exact (sb_one (ss_expr (se_call (G_made_forest.mono (k := 5) (by decide)) hr hgd (by rfl) D_made_forest.g D_made_forest.F.kp D_made_forest.b tk (sa_cons (se_v (pv 0)) (sa_cons (se_v (pv 1)) sa_nil)))))) (fun a oe cls d pn hz hfl => (sb_one (ss_ret se_bl))))
      (sb_one (ss_ret se_bl)))⟩
noncomputable def wt_room_within_1 : Tx :=
    (tAn (xB (xOp (oIs true) (xVar 3) (xC .none))) (xB (xOp oNeS (xOp oIx (xVar 3) (xC (.int 0))) (xVar 2))))
noncomputable def wb_room_within_2 : Sx :=
    (sSet 3 (xOp oIx (xVar 0) (xOp oIx (xVar 3) (xC (.int 0)))))
noncomputable def wl_room_within_3 : Sx :=
    sWhl wt_room_within_1 wb_room_within_2
noncomputable def u_room_within : Sx :=
    (bCons (sSet 3 (xOp oIx (xVar 0) (xVar 1)))
    (bCons wl_room_within_3
    (sRet (xIf (xB (xOp (oIs false) (xVar 3) (xC .none))) (xC .none) (xOp oIx (xVar 3) (xC (.int 1)))))))
noncomputable def f_room_within : Fn := fnO false 4 u_room_within
theorem g_room_within (t : TX K mg) (tl : TL K mg base T) : ∃ f fd, DefK K mg "room_within" s_room_within ["forest", "x", "y"] f fd ∧ FnG P w K mg base 1 f fd ["forest", "x", "y"] (spF K mg T 3 f_room_within) := by
  obtain ⟨f, fd, D⟩ := t.p_room_within
  exact ⟨f, fd, D, def_okN (k := 0) N_room_within ["forest", "x", "y"] 4 3 false u_room_within D.F sc_room_within rfl rfl fun cv A outer s H E ax hr hgd =>
    (sb_cons (ss_set (ps_set (i := 3) sc_room_within.nd rfl (by first | exact .inl rfl | exact .inr rfl) (se_ix (se_v (pv 0)) (se_v (pv 1)))))
      (sb_cons (ss_while (passes_of rfl) (st_w (sw_an (st_cmp op_notN cm_isnt (se_v (pv 3)) se_non) (sw_an1 (st_cmp (op_ne.or (op_neD (hu64 hr))) cm_neS (se_ix (se_v (pv 3)) se_int) (se_v (pv 2)))))) (sb_one (ss_set (ps_set (i := 3) sc_room_within.nd rfl (by first | exact .inl rfl | exact .inr rfl) (se_ix (se_v (pv 0)) (se_ix (se_v (pv 3)) se_int))))))
      (sb_one (ss_ret (se_if (st_cmp op_isN cm_is (se_v (pv 3)) se_non) se_non (se_ix (se_v (pv 3)) se_int))))))⟩
noncomputable def lc_every_standing_1 : Ex :=
    xLc false (wRng1 (xOp oIx (xVar 0) (xVar 2))) (gN 5) yes (xTup (xCons (xC (.str "in")) (xCons (xVar 5) xNil))) [5]
noncomputable def lc_every_standing_2 : Ex :=
    xLc false (wRng1 (xOp oIx (xVar 0) (xVar 1))) (gN 5) yes (xTup (xCons (xC (.str "around")) (xCons (xVar 5) xNil))) [5]
noncomputable def u_every_standing : Sx :=
    (bCons (sSet 3 lc_every_standing_1)
    (bCons (sSet 4 lc_every_standing_2)
    (sRet (xTup (xCons (xC (.tuple [.str "apart", .int 0])) (xStar (xVar 3) (xStar (xVar 4) xNil)))))))
noncomputable def f_every_standing : Fn := fnO false 6 u_every_standing
theorem g_every_standing (t : TX K mg) (tl : TL K mg base T) : ∃ f fd, DefK K mg "every_standing" s_every_standing ["rooms", "x", "y"] f fd ∧ FnG P w K mg base 1 f fd ["rooms", "x", "y"] (spF K mg T 3 f_every_standing) := by
  obtain ⟨f, fd, D⟩ := t.p_every_standing
  exact ⟨f, fd, D, def_okN (k := 0) N_every_standing ["rooms", "x", "y"] 6 3 false u_every_standing D.F sc_every_standing rfl rfl fun cv A outer s H E ax hr hgd =>
    (sb_cons (ps_lc (i := 3) (keep := false) (own := [("room", 5)]) rfl sc_every_standing.nd rfl rfl (by rfl) (si_rng1 (by rfl) t.n_range (se_ix (se_v (pv 0)) (se_v (pv 2)))) (blk_ok (by rfl)) (fun _ _ _ _ _ => (sg_n (pg_name (i := 5) sc_every_standing.nd rfl (by first | exact .inl rfl | exact .inr rfl)))) (fun _ _ _ _ _ => sts_nil) (fun _ _ _ _ _ => (se_tup (sa_cons se_str (sa_cons (se_v (pv 5)) sa_nil)))))
      (sb_cons (ps_lc (i := 4) (keep := false) (own := [("room", 5)]) rfl sc_every_standing.nd rfl rfl (by rfl) (si_rng1 (by rfl) t.n_range (se_ix (se_v (pv 0)) (se_v (pv 1)))) (blk_ok (by rfl)) (fun _ _ _ _ _ => (sg_n (pg_name (i := 5) sc_every_standing.nd rfl (by first | exact .inl rfl | exact .inr rfl)))) (fun _ _ _ _ _ => sts_nil) (fun _ _ _ _ _ => (se_tup (sa_cons se_str (sa_cons (se_v (pv 5)) sa_nil)))))
      (sb_one (ss_ret (se_tup (sa_cons (se_gtup (by rfl) t.c_APART) (sa_star (se_v (pv 3)) (sa_star (se_v (pv 4)) sa_nil))))))))⟩
noncomputable def u_standings : Sx :=
    (bCons (sExp (xCall 1 f_made_rooms (xCons (xVar 0) xNil)))
    (bCons (sExp (xCall 3 f_check_two (xCons (xVar 0) (xCons (xVar 1) (xCons (xVar 2) xNil)))))
    (sRet (xCall 3 f_every_standing (xCons (xVar 0) (xCons (xVar 1) (xCons (xVar 2) xNil)))))))
noncomputable def f_standings : Fn := fnO false 3 u_standings
theorem g_standings (t : TX K mg) (tl : TL K mg base T) : ∃ f fd, DefK K mg "standings" s_standings ["rooms", "x", "y"] f fd ∧ FnG P w K mg base 5 f fd ["rooms", "x", "y"] (spF K mg T 3 f_standings) := by
  obtain ⟨f, fd, D⟩ := t.p_standings
  obtain ⟨f_check_two, d_check_two, D_check_two, G_check_two⟩ := g_check_two (P := P) (w := w) (base := base) (T := T) t tl
  obtain ⟨f_every_standing, d_every_standing, D_every_standing, G_every_standing⟩ := g_every_standing (P := P) (w := w) (base := base) (T := T) t tl
  obtain ⟨f_made_rooms, d_made_rooms, D_made_rooms, G_made_rooms⟩ := g_made_rooms (P := P) (w := w) (base := base) (T := T) t tl
  exact ⟨f, fd, D, def_okN (k := 4) N_standings ["rooms", "x", "y"] 3 3 false u_standings D.F sc_standings rfl rfl fun cv A outer s H E ax hr hgd =>
    (sb_cons (ss_expr (se_call (G_made_rooms.mono (k := 4) (by decide)) hr hgd (by rfl) D_made_rooms.g D_made_rooms.F.kp D_made_rooms.b (L2N.takes_of rfl rfl rfl rfl) (sa_cons (se_v (pv 0)) sa_nil)))
      (sb_cons (ss_expr (se_call (G_check_two.mono (k := 4) (by decide)) hr hgd (by rfl) D_check_two.g D_check_two.F.kp D_check_two.b (L2N.takes_of rfl rfl rfl rfl) (sa_cons (se_v (pv 0)) (sa_cons (se_v (pv 1)) (sa_cons (se_v (pv 2)) sa_nil)))))
      (sb_one (ss_ret (se_call (G_every_standing.mono (k := 4) (by decide)) hr hgd (by rfl) D_every_standing.g D_every_standing.F.kp D_every_standing.b (L2N.takes_of rfl rfl rfl rfl) (sa_cons (se_v (pv 0)) (sa_cons (se_v (pv 1)) (sa_cons (se_v (pv 2)) sa_nil))))))))⟩
noncomputable def u_turned : Sx :=
    (bCons (sTup (gT 2 (gs1 1 (gs1 2 gs0))) (xVar 0))
    (bCons (sIf (xB (xOp oEqS (xVar 1) (xC (.str "in")))) (sRet (xTup (xCons (xC (.str "around")) (xCons (xVar 2) xNil)))) bNil)
    (bCons (sIf (xB (xOp oEqS (xVar 1) (xC (.str "around")))) (sRet (xTup (xCons (xC (.str "in")) (xCons (xVar 2) xNil)))) bNil)
    (sRet (xVar 0)))))
noncomputable def f_turned : Fn := fnO false 3 u_turned
theorem g_turned (t : TX K mg) (tl : TL K mg base T) : ∃ f fd, DefK K mg "turned" s_turned ["standing"] f fd ∧ FnG P w K mg base 1 f fd ["standing"] (spF K mg T 1 f_turned) := by
  obtain ⟨f, fd, D⟩ := t.p_turned
  exact ⟨f, fd, D, def_okN (k := 0) N_turned ["standing"] 3 1 false u_turned D.F sc_turned rfl rfl fun cv A outer s H E ax hr hgd =>
    (sb_cons (ss_tup (sl := [1, 2]) (se_v (pv 0)) (sg_t rfl (sgs_cons (pg_name (i := 1) sc_turned.nd rfl (by first | exact .inl rfl | exact .inr rfl)) (sgs_cons (pg_name (i := 2) sc_turned.nd rfl (by first | exact .inl rfl | exact .inr rfl)) sgs_nil))))
      (sb_cons (ss_if (st_cmp (op_eq.or (op_eqD (hu64 hr))) cm_eqS (se_v (pv 1)) se_str) (sb_one (ss_ret (se_tup (sa_cons se_str (sa_cons (se_v (pv 2)) sa_nil))))) sb_nil)
      (sb_cons (ss_if (st_cmp (op_eq.or (op_eqD (hu64 hr))) cm_eqS (se_v (pv 1)) se_str) (sb_one (ss_ret (se_tup (sa_cons se_str (sa_cons (se_v (pv 2)) sa_nil))))) sb_nil)
      (sb_one (ss_ret (se_v (pv 0)))))))⟩
noncomputable def u_standing_in : Sx :=
    (bCons (sSet 3 (xCall 3 f_room_within (xCons (xVar 0) (xCons (xVar 1) (xCons (xVar 2) xNil)))))
    (bCons (sIf (xB (xOp (oIs true) (xVar 3) (xC .none))) (sRet (xTup (xCons (xC (.str "in")) (xCons (xVar 3) xNil)))) bNil)
    (bCons (sSet 3 (xCall 3 f_room_within (xCons (xVar 0) (xCons (xVar 2) (xCons (xVar 1) xNil)))))
    (bCons (sIf (xB (xOp (oIs true) (xVar 3) (xC .none))) (sRet (xTup (xCons (xC (.str "around")) (xCons (xVar 3) xNil)))) bNil)
    (sRet (xC (.tuple [.str "apart", .int 0])))))))
noncomputable def f_standing_in : Fn := fnO false 4 u_standing_in
theorem g_standing_in (t : TX K mg) (tl : TL K mg base T) : ∃ f fd, DefK K mg "standing_in" s_standing_in ["forest", "x", "y"] f fd ∧ FnG P w K mg base 2 f fd ["forest", "x", "y"] (spF K mg T 3 f_standing_in) := by
  obtain ⟨f, fd, D⟩ := t.p_standing_in
  obtain ⟨f_room_within, d_room_within, D_room_within, G_room_within⟩ := g_room_within (P := P) (w := w) (base := base) (T := T) t tl
  exact ⟨f, fd, D, def_okN (k := 1) N_standing_in ["forest", "x", "y"] 4 3 false u_standing_in D.F sc_standing_in rfl rfl fun cv A outer s H E ax hr hgd =>
    (sb_cons (ss_set (ps_set (i := 3) sc_standing_in.nd rfl (by first | exact .inl rfl | exact .inr rfl) (se_call (G_room_within.mono (k := 1) (by decide)) hr hgd (by rfl) D_room_within.g D_room_within.F.kp D_room_within.b (L2N.takes_of rfl rfl rfl rfl) (sa_cons (se_v (pv 0)) (sa_cons (se_v (pv 1)) (sa_cons (se_v (pv 2)) sa_nil))))))
      (sb_cons (ss_if (st_cmp op_notN cm_isnt (se_v (pv 3)) se_non) (sb_one (ss_ret (se_tup (sa_cons se_str (sa_cons (se_v (pv 3)) sa_nil))))) sb_nil)
      (sb_cons (ss_set (ps_set (i := 3) sc_standing_in.nd rfl (by first | exact .inl rfl | exact .inr rfl) (se_call (G_room_within.mono (k := 1) (by decide)) hr hgd (by rfl) D_room_within.g D_room_within.F.kp D_room_within.b (L2N.takes_of rfl rfl rfl rfl) (sa_cons (se_v (pv 0)) (sa_cons (se_v (pv 2)) (sa_cons (se_v (pv 1)) sa_nil))))))
      (sb_cons (ss_if (st_cmp op_notN cm_isnt (se_v (pv 3)) se_non) (sb_one (ss_ret (se_tup (sa_cons se_str (sa_cons (se_v (pv 3)) sa_nil))))) sb_nil)
      (sb_one (ss_ret (se_gtup (by rfl) t.c_APART)))))))⟩
noncomputable def u_standing : Sx :=
    (bCons (sExp (xCall 2 f_made_forest (xCons (xVar 0) (xCons (xVar 1) xNil))))
    (bCons (sExp (xCall 3 f_check_two (xCons (xVar 0) (xCons (xVar 2) (xCons (xVar 3) xNil)))))
    (sRet (xCall 3 f_standing_in (xCons (xVar 1) (xCons (xVar 2) (xCons (xVar 3) xNil)))))))
noncomputable def f_standing : Fn := fnO false 4 u_standing
theorem g_standing (t : TX K mg) (tl : TL K mg base T) : ∃ f fd, DefK K mg "standing" s_standing ["rooms", "forest", "x", "y"] f fd ∧ FnG P w K mg base 6 f fd ["rooms", "forest", "x", "y"] (spF K mg T 4 f_standing) := by
  obtain ⟨f, fd, D⟩ := t.p_standing
  obtain ⟨f_check_two, d_check_two, D_check_two, G_check_two⟩ := g_check_two (P := P) (w := w) (base := base) (T := T) t tl
  obtain ⟨f_made_forest, d_made_forest, D_made_forest, G_made_forest⟩ := g_made_forest (P := P) (w := w) (base := base) (T := T) t tl
  obtain ⟨f_standing_in, d_standing_in, D_standing_in, G_standing_in⟩ := g_standing_in (P := P) (w := w) (base := base) (T := T) t tl
  exact ⟨f, fd, D, def_okN (k := 5) N_standing ["rooms", "forest", "x", "y"] 4 4 false u_standing D.F sc_standing rfl rfl fun cv A outer s H E ax hr hgd =>
    (sb_cons (ss_expr (se_call (G_made_forest.mono (k := 5) (by decide)) hr hgd (by rfl) D_made_forest.g D_made_forest.F.kp D_made_forest.b (L2N.takes_of rfl rfl rfl rfl) (sa_cons (se_v (pv 0)) (sa_cons (se_v (pv 1)) sa_nil))))
      (sb_cons (ss_expr (se_call (G_check_two.mono (k := 5) (by decide)) hr hgd (by rfl) D_check_two.g D_check_two.F.kp D_check_two.b (L2N.takes_of rfl rfl rfl rfl) (sa_cons (se_v (pv 0)) (sa_cons (se_v (pv 2)) (sa_cons (se_v (pv 3)) sa_nil)))))
      (sb_one (ss_ret (se_call (G_standing_in.mono (k := 5) (by decide)) hr hgd (by rfl) D_standing_in.g D_standing_in.F.kp D_standing_in.b (L2N.takes_of rfl rfl rfl rfl) (sa_cons (se_v (pv 1)) (sa_cons (se_v (pv 2)) (sa_cons (se_v (pv 3)) sa_nil))))))))⟩
noncomputable def u__law_pool : Sx :=
    (bCons (sSet 2 (xC (.int 0)))
    (bCons (sIf (xB (xOp oLt (xVar 1) (xFn kLen (xCons (xVar 0) xNil)))) (sSet 2 (xOp oIx (xVar 0) (xVar 1))) (sIf (xB (xOp oNeS (xVar 0) (xLst xNil))) (sSet 2 (xOp oIx (xVar 0) (xC (.int 0)))) bNil))
    (bCons (sSet 3 (xFn kMax2 (xCons (xFn kInt (xCons (xVar 2) xNil)) (xCons (xFn kInt (xCons (xOp oSub (xUn oNeg (xC (.int 1))) (xVar 2)) xNil)) xNil))))
    (bCons (sSet 4 (xOp oMod (xFn kInt (xCons (xOp oMul (xOp oAdd (xOp oAdd (xOp oAdd (xOp oMod (xFn kInt (xCons (xVar 3) xNil)) (xC (.int 2147483629))) (xOp oMul (xOp oMul (xC (.int 7919)) (xVar 1)) (xVar 1))) (xOp oMul (xC (.int 31)) (xVar 1))) (xC (.int 17))) (xC (.int 48271))) xNil)) (xC (.int 2147483647))))
    (sRet (xLstR (xCons (xOp oMul (xVar 3) (xFn kInt (xCons (xAn (xOp oGe (xVar 3) (xOp oPow (xC (.int 10)) (xC (.int 18)))) (xOp oLt (xVar 1) (xFn kLen (xCons (xVar 0) xNil)))) xNil))) (xCons (xVar 4) xNil))))))))
noncomputable def f__law_pool : Fn := fnO true 5 u__law_pool
theorem g__law_pool (t : TX K mg) (tl : TL K mg base T) : ∃ f fd, DefK K mg "_law_pool" s__law_pool ["script", "k"] f fd ∧ FnG P w K mg base 1 f fd ["script", "k"] (spF K mg T 2 f__law_pool) := by
  obtain ⟨f, fd, D⟩ := t.p__law_pool
  exact ⟨f, fd, D, def_okN (k := 0) N__law_pool ["script", "k"] 5 2 true u__law_pool D.F sc__law_pool rfl rfl fun cv A outer s H E ax hr hgd =>
    (sb_cons (ss_set (ps_set (i := 2) sc__law_pool.nd rfl (by first | exact .inl rfl | exact .inr rfl) se_int))
      (sb_cons (ss_if (st_cmp op_lt cm_lt (se_v (pv 1)) (se_len (by rfl) t.n_len (sa_cons (se_v (pv 0)) sa_nil))) (sb_one (ss_set (ps_set (i := 2) sc__law_pool.nd rfl (by first | exact .inl rfl | exact .inr rfl) (se_ix (se_v (pv 0)) (se_v (pv 1)))))) (sb_one (ss_if (st_cmp (op_ne.or (op_neD (hu64 hr))) cm_neS (se_v (pv 0)) (se_lst sa_nil)) (sb_one (ss_set (ps_set (i := 2) sc__law_pool.nd rfl (by first | exact .inl rfl | exact .inr rfl) (se_ix (se_v (pv 0)) se_int)))) sb_nil)))
      (sb_cons (ss_set (ps_set (i := 3) sc__law_pool.nd rfl (by first | exact .inl rfl | exact .inr rfl) (se_max2 rfl (by rfl) t.n_max (sa_cons (se_intc (by rfl) t.n_int (sa_cons (se_v (pv 2)) sa_nil)) (sa_cons (se_intc (by rfl) t.n_int (sa_cons (se_sub (se_neg se_int) (se_v (pv 2))) sa_nil)) sa_nil)))))
      (sb_cons (ss_set (ps_set (i := 4) sc__law_pool.nd rfl (by first | exact .inl rfl | exact .inr rfl) (se_mod (se_intc (by rfl) t.n_int (sa_cons (se_mul (se_add (se_add (se_add (se_mod (se_intc (by rfl) t.n_int (sa_cons (se_v (pv 3)) sa_nil)) se_int) (se_mul (se_mul se_int (se_v (pv 1))) (se_v (pv 1)))) (se_mul se_int (se_v (pv 1)))) se_int) se_int) sa_nil)) se_int)))
      (sb_one (ss_ret (se_lstR (sa_cons (se_mul (se_v (pv 3)) (se_intc (by rfl) t.n_int (sa_cons (se_an (se_cmp op_ge cm_ge (se_v (pv 3)) (se_pow se_int se_int)) (se_one (se_cmp op_lt cm_lt (se_v (pv 1)) (se_len (by rfl) t.n_len (sa_cons (se_v (pv 0)) sa_nil))))) sa_nil))) (sa_cons (se_v (pv 4)) sa_nil)))))))))⟩
noncomputable def u__law_take : Sx :=
    (bCons (sIf (xB (xOp oGt (xOp oIx (xVar 0) (xC (.int 0))) (xC (.int 0)))) (bCons (sSet 2 (xOp oMod (xFn kInt (xCons (xOp oIx (xVar 0) (xC (.int 0))) xNil)) (xVar 1)))
    (bCons (sSub (xOp oDivW (xOp oIx (xVar 0) (xC (.int 0))) (xVar 1)) (xVar 0) (xC (.int 0)))
    (sRet (xVar 2)))) bNil)
    (bCons (sSub (xOp oMod (xFn kInt (xCons (xOp oAdd (xOp oMul (xOp oIx (xVar 0) (xC (.int 1))) (xC (.int 39373))) (xC (.int 7))) xNil)) (xC (.int 2147483647))) (xVar 0) (xC (.int 1)))
    (sRet (xOp oMod (xFn kInt (xCons (xOp oDivW (xOp oMod (xFn kInt (xCons (xOp oMul (xOp oIx (xVar 0) (xC (.int 1))) (xOp oIx (xVar 0) (xC (.int 1)))) xNil)) (xC (.int 2147483629))) (xC (.int 32))) xNil)) (xVar 1)))))
noncomputable def f__law_take : Fn := fnO false 3 u__law_take
theorem g__law_take (t : TX K mg) (tl : TL K mg base T) : ∃ f fd, DefK K mg "_law_take" s__law_take ["source", "top"] f fd ∧ FnG P w K mg base 1 f fd ["source", "top"] (spF K mg T 2 f__law_take) := by
  obtain ⟨f, fd, D⟩ := t.p__law_take
  exact ⟨f, fd, D, def_okN (k := 0) N__law_take ["source", "top"] 3 2 false u__law_take D.F sc__law_take rfl rfl fun cv A outer s H E ax hr hgd =>
    (sb_cons (ss_if (st_cmp op_gt cm_gt (se_ix (se_v (pv 0)) se_int) se_int) (sb_cons (ss_set (ps_set (i := 2) sc__law_take.nd rfl (by first | exact .inl rfl | exact .inr rfl) (se_mod (se_intc (by rfl) t.n_int (sa_cons (se_ix (se_v (pv 0)) se_int) sa_nil)) (se_v (pv 1)))))
      (sb_cons (ss_sub (se_divW (se_ix (se_v (pv 0)) se_int) (se_v (pv 1))) (pg_sub (se_v (pv 0)) se_int set_list))
      (sb_one (ss_ret (se_v (pv 2)))))) sb_nil)
      (sb_cons (ss_sub (se_mod (se_intc (by rfl) t.n_int (sa_cons (se_add (se_mul (se_ix (se_v (pv 0)) se_int) se_int) se_int) sa_nil)) se_int) (pg_sub (se_v (pv 0)) se_int set_list))
      (sb_one (ss_ret (se_mod (se_intc (by rfl) t.n_int (sa_cons (se_divW (se_mod (se_intc (by rfl) t.n_int (sa_cons (se_mul (se_ix (se_v (pv 0)) se_int) (se_ix (se_v (pv 0)) se_int)) sa_nil)) se_int) se_int) sa_nil)) (se_v (pv 1)))))))⟩
noncomputable def u__law_one : Sx :=
    (sRet (xOp oIx (xVar 1) (xCall 2 f__law_take (xCons (xVar 0) (xCons (xFn kLen (xCons (xVar 1) xNil)) xNil)))))
noncomputable def f__law_one : Fn := fnO false 2 u__law_one
theorem g__law_one (t : TX K mg) (tl : TL K mg base T) : ∃ f fd, DefK K mg "_law_one" s__law_one ["source", "things"] f fd ∧ FnG P w K mg base 2 f fd ["source", "things"] (spF K mg T 2 f__law_one) := by
  obtain ⟨f, fd, D⟩ := t.p__law_one
  obtain ⟨f__law_take, d__law_take, D__law_take, G__law_take⟩ := g__law_take (P := P) (w := w) (base := base) (T := T) t tl
  exact ⟨f, fd, D, def_okN (k := 1) N__law_one ["source", "things"] 2 2 false u__law_one D.F sc__law_one rfl rfl fun cv A outer s H E ax hr hgd =>
    (sb_one (ss_ret (se_ix (se_v (pv 1)) (se_call (G__law_take.mono (k := 1) (by decide)) hr hgd (by rfl) D__law_take.g D__law_take.F.kp D__law_take.b (L2N.takes_of rfl rfl rfl rfl) (sa_cons (se_v (pv 0)) (sa_cons (se_len (by rfl) t.n_len (sa_cons (se_v (pv 1)) sa_nil)) sa_nil))))))⟩
noncomputable def fb__law_mixed_1 : Sx :=
    (sExp (xApp (xVar 3) (xCons (xPopAt (xVar 2) (xCons (xCall 2 f__law_take (xCons (xVar 0) (xCons (xFn kLen (xCons (xVar 2) xNil)) xNil))) xNil)) xNil)))
noncomputable def fl__law_mixed_2 : Sx :=
    sFor (wRng1 (xFn kLen (xCons (xVar 1) xNil))) (gN 4) fb__law_mixed_1
noncomputable def u__law_mixed : Sx :=
    (bCons (sPar 2 3 (xCons (xFn kListR (xCons (xVar 1) xNil)) (xCons (xLstR xNil) xNil)))
    (bCons fl__law_mixed_2
    (sRet (xVar 3))))
noncomputable def f__law_mixed : Fn := fnO false 5 u__law_mixed
theorem g__law_mixed (t : TX K mg) (tl : TL K mg base T) : ∃ f fd, DefK K mg "_law_mixed" s__law_mixed ["source", "things"] f fd ∧ FnG P w K mg base 2 f fd ["source", "things"] (spF K mg T 2 f__law_mixed) := by
  obtain ⟨f, fd, D⟩ := t.p__law_mixed
  obtain ⟨f__law_take, d__law_take, D__law_take, G__law_take⟩ := g__law_take (P := P) (w := w) (base := base) (T := T) t tl
  exact ⟨f, fd, D, def_okN (k := 1) N__law_mixed ["source", "things"] 5 2 false u__law_mixed D.F sc__law_mixed rfl rfl fun cv A outer s H E ax hr hgd =>
    (sb_cons (ss_par (ps_par (i := 2) (j := 3) rfl sc__law_mixed.nd rfl rfl (by decide) rfl rfl (sa_cons (se_listcR (by rfl) t.n_list (sa_cons (se_v (pv 1)) sa_nil)) (sa_cons (se_lstR sa_nil) sa_nil)) (by rfl)))
      (sb_cons (ss_for (sl := [4]) (passes_of rfl) rfl (si_rng1 (by rfl) t.n_range (se_len (by rfl) t.n_len (sa_cons (se_v (pv 1)) sa_nil))) (sg_n (pg_name (i := 4) sc__law_mixed.nd rfl (by first | exact .inl rfl | exact .inr rfl))) (sb_one (ss_expr (se_app (se_v (pv 3)) (sa_cons (se_popAt (se_v (pv 2)) (sa_cons (se_call (G__law_take.mono (k := 1) (by decide)) hr hgd (by rfl) D__law_take.g D__law_take.F.kp D__law_take.b (L2N.takes_of rfl rfl rfl rfl) (sa_cons (se_v (pv 0)) (sa_cons (se_len (by rfl) t.n_len (sa_cons (se_v (pv 2)) sa_nil)) sa_nil))) sa_nil)) sa_nil)))))
      (sb_one (ss_ret (se_v (pv 3))))))⟩
noncomputable def fb__law_climb_1 : Sx :=
    (bCons (sIf (xB (xOp (oIs false) (xVar 3) (xC .none))) (fun env st => .ok (.bk env) st) bNil)
    (bCons (sExp (xApp (xVar 2) (xCons (xVar 3) xNil)))
    (sSet 3 (xOp oIx (xVar 0) (xOp oIx (xVar 3) (xC (.int 0)))))))
noncomputable def fl__law_climb_2 : Sx :=
    sFor (wRng1 (xFn kLen (xCons (xVar 0) xNil))) (gN 4) fb__law_climb_1
noncomputable def u__law_climb : Sx :=
    (bCons (sPar 2 3 (xCons (xLstR xNil) (xCons (xOp oIx (xVar 0) (xVar 1)) xNil)))
    (bCons fl__law_climb_2
    (sRet (xVar 2))))
noncomputable def f__law_climb : Fn := fnO false 5 u__law_climb
theorem g__law_climb (t : TX K mg) (tl : TL K mg base T) : ∃ f fd, DefK K mg "_law_climb" s__law_climb ["forest", "x"] f fd ∧ FnG P w K mg base 1 f fd ["forest", "x"] (spF K mg T 2 f__law_climb) := by
  obtain ⟨f, fd, D⟩ := t.p__law_climb
  exact ⟨f, fd, D, def_okN (k := 0) N__law_climb ["forest", "x"] 5 2 false u__law_climb D.F sc__law_climb rfl rfl fun cv A outer s H E ax hr hgd =>
    (sb_cons (ss_par (ps_par (i := 2) (j := 3) rfl sc__law_climb.nd rfl rfl (by decide) rfl rfl (sa_cons (se_lstR sa_nil) (sa_cons (se_ix (se_v (pv 0)) (se_v (pv 1))) sa_nil)) (by rfl)))
      (sb_cons (ss_for (sl := [4]) (passes_of rfl) rfl (si_rng1 (by rfl) t.n_range (se_len (by rfl) t.n_len (sa_cons (se_v (pv 0)) sa_nil))) (sg_n (pg_name (i := 4) sc__law_climb.nd rfl (by first | exact .inl rfl | exact .inr rfl))) (sb_cons (ss_if (st_cmp op_isN cm_is (se_v (pv 3)) se_non) (sb_one ss_break) sb_nil)
      (sb_cons (ss_expr (se_app (se_v (pv 2)) (sa_cons (se_v (pv 3)) sa_nil)))
      (sb_one (ss_set (ps_set (i := 3) sc__law_climb.nd rfl (by first | exact .inl rfl | exact .inr rfl) (se_ix (se_v (pv 0)) (se_ix (se_v (pv 3)) se_int))))))))
      (sb_one (ss_ret (se_v (pv 2))))))⟩
noncomputable def fb__law_standing_1 : Sx :=
    (sIf (xB (xOp oEqS (xVar 3) (xVar 2))) (sRet (xTup (xCons (xC (.str "in")) (xCons (xVar 4) xNil)))) bNil)
noncomputable def fl__law_standing_2 : Sx :=
    sFor (wSeq (xCall 2 f__law_climb (xCons (xVar 0) (xCons (xVar 1) xNil)))) (gT 2 (gs1 3 (gs1 4 gs0))) fb__law_standing_1
noncomputable def fb__law_standing_3 : Sx :=
    (sIf (xB (xOp oEqS (xVar 3) (xVar 1))) (sRet (xTup (xCons (xC (.str "around")) (xCons (xVar 4) xNil)))) bNil)
noncomputable def fl__law_standing_4 : Sx :=
    sFor (wSeq (xCall 2 f__law_climb (xCons (xVar 0) (xCons (xVar 2) xNil)))) (gT 2 (gs1 3 (gs1 4 gs0))) fb__law_standing_3
noncomputable def u__law_standing : Sx :=
    (bCons fl__law_standing_2
    (bCons fl__law_standing_4
    (sRet (xTup (xCons (xC (.str "apart")) (xCons (xC (.int 0)) xNil))))))
noncomputable def f__law_standing : Fn := fnO false 5 u__law_standing
theorem g__law_standing (t : TX K mg) (tl : TL K mg base T) : ∃ f fd, DefK K mg "_law_standing" s__law_standing ["forest", "x", "y"] f fd ∧ FnG P w K mg base 2 f fd ["forest", "x", "y"] (spF K mg T 3 f__law_standing) := by
  obtain ⟨f, fd, D⟩ := t.p__law_standing
  obtain ⟨f__law_climb, d__law_climb, D__law_climb, G__law_climb⟩ := g__law_climb (P := P) (w := w) (base := base) (T := T) t tl
  exact ⟨f, fd, D, def_okN (k := 1) N__law_standing ["forest", "x", "y"] 5 3 false u__law_standing D.F sc__law_standing rfl rfl fun cv A outer s H E ax hr hgd =>
    (sb_cons (ss_for (sl := [3, 4]) (passes_of rfl) rfl (si_seq (se_call (G__law_climb.mono (k := 1) (by decide)) hr hgd (by rfl) D__law_climb.g D__law_climb.F.kp D__law_climb.b (L2N.takes_of rfl rfl rfl rfl) (sa_cons (se_v (pv 0)) (sa_cons (se_v (pv 1)) sa_nil)))) (sg_t rfl (sgs_cons (pg_name (i := 3) sc__law_standing.nd rfl (by first | exact .inl rfl | exact .inr rfl)) (sgs_cons (pg_name (i := 4) sc__law_standing.nd rfl (by first | exact .inl rfl | exact .inr rfl)) sgs_nil))) (sb_one (ss_if (st_cmp (op_eq.or (op_eqD (hu64 hr))) cm_eqS (se_v (pv 3)) (se_v (pv 2))) (sb_one (ss_ret (se_tup (sa_cons se_str (sa_cons (se_v (pv 4)) sa_nil))))) sb_nil)))
      (sb_cons (ss_for (sl := [3, 4]) (passes_of rfl) rfl (si_seq (se_call (G__law_climb.mono (k := 1) (by decide)) hr hgd (by rfl) D__law_climb.g D__law_climb.F.kp D__law_climb.b (L2N.takes_of rfl rfl rfl rfl) (sa_cons (se_v (pv 0)) (sa_cons (se_v (pv 2)) sa_nil)))) (sg_t rfl (sgs_cons (pg_name (i := 3) sc__law_standing.nd rfl (by first | exact .inl rfl | exact .inr rfl)) (sgs_cons (pg_name (i := 4) sc__law_standing.nd rfl (by first | exact .inl rfl | exact .inr rfl)) sgs_nil))) (sb_one (ss_if (st_cmp (op_eq.or (op_eqD (hu64 hr))) cm_eqS (se_v (pv 3)) (se_v (pv 1))) (sb_one (ss_ret (se_tup (sa_cons se_str (sa_cons (se_v (pv 4)) sa_nil))))) sb_nil)))
      (sb_one (ss_ret (se_tup (sa_cons se_str (sa_cons se_int sa_nil)))))))⟩
noncomputable def u__law_turned : Sx :=
    (sRet (xTup (xCons (xDsub [("in", "around"), ("around", "in"), ("apart", "apart")] (xOp oIx (xVar 0) (xC (.int 0)))) (xCons (xOp oIx (xVar 0) (xC (.int 1))) xNil))))
noncomputable def f__law_turned : Fn := fnO false 1 u__law_turned
theorem g__law_turned (t : TX K mg) (tl : TL K mg base T) : ∃ f fd, DefK K mg "_law_turned" s__law_turned ["pair"] f fd ∧ FnG P w K mg base 1 f fd ["pair"] (spF K mg T 1 f__law_turned) := by
  obtain ⟨f, fd, D⟩ := t.p__law_turned
  exact ⟨f, fd, D, def_okN (k := 0) N__law_turned ["pair"] 1 1 false u__law_turned D.F sc__law_turned rfl rfl fun cv A outer s H E ax hr hgd =>
    (sb_one (ss_ret (se_tup (sa_cons (se_dsub (kvs := [("in", "around"), ("around", "in"), ("apart", "apart")]) (hu1 hr) (pps_cons pe_str pe_str (pps_cons pe_str pe_str (pps_cons pe_str pe_str pps_nil))) (se_ix (se_v (pv 0)) se_int)) (sa_cons (se_ix (se_v (pv 0)) se_int) sa_nil)))))⟩
noncomputable def lc__law_every_1 : Ex :=
    xLc false (wRng1 (xOp oIx (xVar 0) (xVar 2))) (gN 5) yes (xTup (xCons (xC (.str "in")) (xCons (xVar 5) xNil))) [5]
noncomputable def lc__law_every_2 : Ex :=
    xLc false (wRng1 (xOp oIx (xVar 0) (xVar 1))) (gN 6) yes (xTup (xCons (xC (.str "around")) (xCons (xVar 6) xNil))) [6]
noncomputable def u__law_every : Sx :=
    (bCons (sPar 3 4 (xCons lc__law_every_1 (xCons lc__law_every_2 xNil)))
    (sRet (xOp oAddL (xOp oAddL (xLst (xCons (xTup (xCons (xC (.str "apart")) (xCons (xC (.int 0)) xNil))) xNil)) (xVar 3)) (xVar 4))))
noncomputable def f__law_every : Fn := fnO false 7 u__law_every
theorem g__law_every (t : TX K mg) (tl : TL K mg base T) : ∃ f fd, DefK K mg "_law_every" s__law_every ["rooms", "x", "y"] f fd ∧ FnG P w K mg base 1 f fd ["rooms", "x", "y"] (spF K mg T 3 f__law_every) := by
  obtain ⟨f, fd, D⟩ := t.p__law_every
  exact ⟨f, fd, D, def_okN (k := 0) N__law_every ["rooms", "x", "y"] 7 3 false u__law_every D.F sc__law_every rfl rfl fun cv A outer s H E ax hr hgd =>
    (sb_cons (ss_par (ps_par (i := 3) (j := 4) rfl sc__law_every.nd rfl rfl (by decide) rfl rfl (sa_cons (se_lc (keep := false) (own := [("j", 5)]) rfl sc__law_every.nd (si_rng1 (by rfl) t.n_range (se_ix (se_v (pv 0)) (se_v (pv 2)))) (blk_ok (by rfl)) (fun _ _ _ _ _ => (sg_n (pg_name (i := 5) sc__law_every.nd rfl (by first | exact .inl rfl | exact .inr rfl)))) (fun _ _ _ _ _ => sts_nil) (fun _ _ _ _ _ => (se_tup (sa_cons se_str (sa_cons (se_v (pv 5)) sa_nil))))) (sa_cons (se_lc (keep := false) (own := [("i", 6)]) rfl sc__law_every.nd (si_rng1 (by rfl) t.n_range (se_ix (se_v (pv 0)) (se_v (pv 1)))) (blk_ok (by rfl)) (fun _ _ _ _ _ => (sg_n (pg_name (i := 6) sc__law_every.nd rfl (by first | exact .inl rfl | exact .inr rfl)))) (fun _ _ _ _ _ => sts_nil) (fun _ _ _ _ _ => (se_tup (sa_cons se_str (sa_cons (se_v (pv 6)) sa_nil))))) sa_nil)) (by rfl)))
      (sb_one (ss_ret (se_addL (se_addL (se_lst (sa_cons (se_tup (sa_cons se_str (sa_cons se_int sa_nil))) sa_nil)) (se_v (pv 3))) (se_v (pv 4))))))⟩
noncomputable def u__law_number : Sx :=
    (sRet (xAn (xIsi "int" (xVar 0)) (xAn (xNt (xIsi "bool" (xVar 0))) (xChain oLe oLt (xC (.int 0)) (xVar 0) (xVar 1)))))
noncomputable def f__law_number : Fn := fnO false 2 u__law_number
theorem g__law_number (t : TX K mg) (tl : TL K mg base T) : ∃ f fd, DefK K mg "_law_number" s__law_number ["thing", "most"] f fd ∧ FnG P w K mg base 1 f fd ["thing", "most"] (spF K mg T 2 f__law_number) := by
  obtain ⟨f, fd, D⟩ := t.p__law_number
  exact ⟨f, fd, D, def_okN (k := 0) N__law_number ["thing", "most"] 2 2 false u__law_number D.F sc__law_number rfl rfl fun cv A outer s H E ax hr hgd =>
    (sb_one (ss_ret (se_an (se_isi (ty := "int") (by decide) (by rfl) t.n_isinstance (se_v (pv 0)) (pe_bty (by rfl) t.n_int bb_int)) (se_an (se_not (se_isi (ty := "bool") (by decide) (by rfl) t.n_isinstance (se_v (pv 0)) (pe_bty (by rfl) t.n_bool bb_bool))) (se_one (se_chain op_le cm_le op_lt cm_lt se_int (se_v (pv 0)) (se_v (pv 1))))))))⟩
noncomputable def lc__law_grown_1 : Ex :=
    xLc false (wRng1 (xFn kLen (xCons (xVar 1) xNil))) (gN 7) yes (xVar 7) [7]
noncomputable def lc__law_grown_2 : Ex :=
    xLc true (wRng1 (xFn kLen (xCons (xVar 1) xNil))) (gN 7) yes (xC .none) [7]
noncomputable def lc__law_grown_3 : Ex :=
    xLc false (wSeq (xSl (xVar 2) pNo (pAt (xVar 4)))) (gN 8) (xB (xOp oGt (xOp oIx (xVar 1) (xVar 8)) (xC (.int 0)))) (xVar 8) [8]
noncomputable def fb__law_grown_4 : Sx :=
    (bCons (sSet 5 lc__law_grown_3)
    (sIf (tAn (xB (xOp oNeS (xVar 5) (xLst xNil))) (xB (xOp oGt (xCall 2 f__law_take (xCons (xVar 0) (xCons (xC (.int 4)) xNil))) (xC (.int 0))))) (bCons (sSet 6 (xCall 2 f__law_one (xCons (xVar 0) (xCons (xVar 5) xNil))))
    (sSub (xTup (xCons (xVar 6) (xCons (xCall 2 f__law_take (xCons (xVar 0) (xCons (xOp oIx (xVar 1) (xVar 6)) xNil))) xNil))) (xVar 3) (xOp oIx (xVar 2) (xVar 4)))) bNil))
noncomputable def fl__law_grown_5 : Sx :=
    sFor (wRng1 (xFn kLen (xCons (xVar 2) xNil))) (gN 4) fb__law_grown_4
noncomputable def u__law_grown : Sx :=
    (bCons (sSet 2 (xCall 2 f__law_mixed (xCons (xVar 0) (xCons lc__law_grown_1 xNil))))
    (bCons (sSet 3 lc__law_grown_2)
    (bCons fl__law_grown_5
    (sRet (xFn kTuple (xCons (xVar 3) xNil))))))
noncomputable def f__law_grown : Fn := fnO false 9 u__law_grown
theorem g__law_grown (t : TX K mg) (tl : TL K mg base T) : ∃ f fd, DefK K mg "_law_grown" s__law_grown ["source", "rooms"] f fd ∧ FnG P w K mg base 3 f fd ["source", "rooms"] (spF K mg T 2 f__law_grown) := by
  obtain ⟨f, fd, D⟩ := t.p__law_grown
  obtain ⟨f__law_mixed, d__law_mixed, D__law_mixed, G__law_mixed⟩ := g__law_mixed (P := P) (w := w) (base := base) (T := T) t tl
  obtain ⟨f__law_one, d__law_one, D__law_one, G__law_one⟩ := g__law_one (P := P) (w := w) (base := base) (T := T) t tl
  obtain ⟨f__law_take, d__law_take, D__law_take, G__law_take⟩ := g__law_take (P := P) (w := w) (base := base) (T := T) t tl
  exact ⟨f, fd, D, def_okN (k := 2) N__law_grown ["source", "rooms"] 9 2 false u__law_grown D.F sc__law_grown rfl rfl fun cv A outer s H E ax hr hgd =>
    (sb_cons (ss_set (ps_set (i := 2) sc__law_grown.nd rfl (by first | exact .inl rfl | exact .inr rfl) (se_call (G__law_mixed.mono (k := 2) (by decide)) hr hgd (by rfl) D__law_mixed.g D__law_mixed.F.kp D__law_mixed.b (L2N.takes_of rfl rfl rfl rfl) (sa_cons (se_v (pv 0)) (sa_cons (se_lc (keep := false) (own := [("x", 7)]) rfl sc__law_grown.nd (si_rng1 (by rfl) t.n_range (se_len (by rfl) t.n_len (sa_cons (se_v (pv 1)) sa_nil))) (blk_ok (by rfl)) (fun _ _ _ _ _ => (sg_n (pg_name (i := 7) sc__law_grown.nd rfl (by first | exact .inl rfl | exact .inr rfl)))) (fun _ _ _ _ _ => sts_nil) (fun _ _ _ _ _ => (se_v (pv 7)))) sa_nil)))))
      (sb_cons (ps_lc (i := 3) (keep := true) (own := [("x", 7)]) rfl sc__law_grown.nd rfl rfl (by rfl) (si_rng1 (by rfl) t.n_range (se_len (by rfl) t.n_len (sa_cons (se_v (pv 1)) sa_nil))) (blk_ok (by rfl)) (fun _ _ _ _ _ => (sg_n (pg_name (i := 7) sc__law_grown.nd rfl (by first | exact .inl rfl | exact .inr rfl)))) (fun _ _ _ _ _ => sts_nil) (fun _ _ _ _ _ => se_non))
      (sb_cons (ss_for (sl := [4]) (passes_of rfl) rfl (si_rng1 (by rfl) t.n_range (se_len (by rfl) t.n_len (sa_cons (se_v (pv 2)) sa_nil))) (sg_n (pg_name (i := 4) sc__law_grown.nd rfl (by first | exact .inl rfl | exact .inr rfl))) (sb_cons (ps_lc (i := 5) (keep := false) (own := [("y", 8)]) rfl sc__law_grown.nd rfl rfl (by rfl) (si_seq (se_sl (se_v (pv 2)) so_no (so_at (se_v (pv 4))))) (blk_ok (by rfl)) (fun _ _ _ _ _ => (sg_n (pg_name (i := 8) sc__law_grown.nd rfl (by first | exact .inl rfl | exact .inr rfl)))) (fun _ _ _ _ _ => (sts_one (st_cmp op_gt cm_gt (se_ix (se_v (pv 1)) (se_v (pv 8))) se_int))) (fun _ _ _ _ _ => (se_v (pv 8))))
      (sb_one (ss_if (st_w (sw_an (st_cmp (op_ne.or (op_neD (hu64 hr))) cm_neS (se_v (pv 5)) (se_lst sa_nil)) (sw_an1 (st_cmp op_gt cm_gt (se_call (G__law_take.mono (k := 2) (by decide)) hr hgd (by rfl) D__law_take.g D__law_take.F.kp D__law_take.b (L2N.takes_of rfl rfl rfl rfl) (sa_cons (se_v (pv 0)) (sa_cons se_int sa_nil))) se_int)))) (sb_cons (ss_set (ps_set (i := 6) sc__law_grown.nd rfl (by first | exact .inl rfl | exact .inr rfl) (se_call (G__law_one.mono (k := 2) (by decide)) hr hgd (by rfl) D__law_one.g D__law_one.F.kp D__law_one.b (L2N.takes_of rfl rfl rfl rfl) (sa_cons (se_v (pv 0)) (sa_cons (se_v (pv 5)) sa_nil)))))
      (sb_one (ss_sub (se_tup (sa_cons (se_v (pv 6)) (sa_cons (se_call (G__law_take.mono (k := 2) (by decide)) hr hgd (by rfl) D__law_take.g D__law_take.F.kp D__law_take.b (L2N.takes_of rfl rfl rfl rfl) (sa_cons (se_v (pv 0)) (sa_cons (se_ix (se_v (pv 1)) (se_v (pv 6))) sa_nil))) sa_nil))) (pg_sub (se_v (pv 3)) (se_ix (se_v (pv 2)) (se_v (pv 4))) set_list)))) sb_nil))))
      (sb_one (ss_ret (se_tuplec (by rfl) t.n_tuple (sa_cons (se_v (pv 3)) sa_nil)))))))⟩
noncomputable def u__law_heard (g0 : Store → Out EV) : Sx :=
  (sTryA 1 ctE (sRet (xTup (xCons (xC (.str "told")) (xCons (xClo 0 g0) xNil)))) (bCons (sSet 2 (xLst (xCons (xIsX (tabE "BadForest") (xVar 1)) (xCons (xIsX (tabE "Ring") (xVar 1)) (xCons (xIsX (tabE "BadThing") (xVar 1)) xNil)))))
    (sRet (xTup (xCons (xC (.str "refused")) (xCons (xWhat knE (xVar 1)) (xCons (xVar 2) (xCons (xIsX tabT (xVar 1)) xNil))))))))
theorem b__law_heard (t : TX K mg) {k : Nat} {gad : Addr} {cdv : Value} {A : Around} {stack : List Env} {s : Shared} {H : Hp} {E : XK} {x0 : Aux} {g0 : Store → Out EV} (hk1 : 1 ≤ k) (hgd : A.guards = some []) (hr : Room k (A.deeper (envOfC "_law_heard" (defScope s__law_heard) s.heap.objs.size gad cdv)))
    (hcall : ∀ (C2 : Cfg) (pn : List (Addr × Obj)) (xe : Value → Shared → Prop) (p1 p2 : Pos), C2.T = T → C2.x = x0 → Tk ((cxOf (L2N.CX P w) P w K mg base N__law_heard "_law_heard" (defScope s__law_heard) gad cdv A stack s H E).tr pn xe) C2 →
      SE ((cxOf (L2N.CX P w) P w K mg base N__law_heard "_law_heard" (defScope s__law_heard) gad cdv A stack s H E).tr pn xe) C2 (.Call (.Name "call" p1) [] [] p2) (xClo 0 g0)) :
    SB (cxOf (L2N.CX P w) P w K mg base N__law_heard "_law_heard" (defScope s__law_heard) gad cdv A stack s H E) ⟨T, fun _ => E, x0⟩ (defBody s__law_heard) (u__law_heard g0) := by
  obtain ⟨C_Refused, g_Refused, hct⟩ := t.x_ct
  have hkn := t.x_ex
  obtain ⟨C_BadForest, g_BadForest, k_BadForest⟩ := t.x_is "BadForest" (by decide +kernel)
  have hk_BadForest : ∀ c D b, tabE "BadForest" c = some b → mg c = some (.ref D) → ExK K D ∧ PySem.W.kitOne K (.ref D) (.ref C_BadForest) = some b := fun c D b h1 h2 => ⟨hkn c D (tabE_kn h1) h2, k_BadForest c D b h1 h2⟩
  obtain ⟨C_BadThing, g_BadThing, k_BadThing⟩ := t.x_is "BadThing" (by decide +kernel)
  have hk_BadThing : ∀ c D b, tabE "BadThing" c = some b → mg c = some (.ref D) → ExK K D ∧ PySem.W.kitOne K (.ref D) (.ref C_BadThing) = some b := fun c D b h1 h2 => ⟨hkn c D (tabE_kn h1) h2, k_BadThing c D b h1 h2⟩
  obtain ⟨C_Ring, g_Ring, k_Ring⟩ := t.x_is "Ring" (by decide +kernel)
  have hk_Ring : ∀ c D b, tabE "Ring" c = some b → mg c = some (.ref D) → ExK K D ∧ PySem.W.kitOne K (.ref D) (.ref C_Ring) = some b := fun c D b h1 h2 => ⟨hkn c D (tabE_kn h1) h2, k_Ring c D b h1 h2⟩
  have hk_ValueError : ∀ c D b, tabT c = some b → mg c = some (.ref D) → ExK K D ∧ PySem.W.kitOne K (.ref D) (.type "ValueError") = some b := fun c D b h1 h2 => ⟨hkn c D (tabT_kn h1) h2, t.x_ve c D b h1 h2⟩
  exact (sb_one (ss_tryA (i := 1) (ct := ctE) rfl rfl sc__law_heard.nd rfl rfl ⟨by rfl, by decide, .inl g_Refused⟩ (L2N.takes_of rfl rfl rfl rfl) hct (fun C2 pn xe e1 e2 tk po => (sb_one (ss_ret (se_tup (sa_cons se_str (sa_cons (hcall _ _ _ _ _ e1 e2 tk) sa_nil)))))) (fun a oe D dd pn hz hf => (sb_cons (ss_set (ps_set (i := 2) sc__law_heard.nd rfl (by first | exact .inl rfl | exact .inr rfl) (se_lst (sa_cons (se_isX hz hf ⟨rfl, rfl, rfl⟩ (tv := .ref C_BadForest) (fun u h => h) (tab := tabE "BadForest") (hk_BadForest) (by rfl) t.n_isinstance (se_v (pv 1)) (pe_glob (by rfl) g_BadForest rfl)) (sa_cons (se_isX hz hf ⟨rfl, rfl, rfl⟩ (tv := .ref C_Ring) (fun u h => h) (tab := tabE "Ring") (hk_Ring) (by rfl) t.n_isinstance (se_v (pv 1)) (pe_glob (by rfl) g_Ring rfl)) (sa_cons (se_isX hz hf ⟨rfl, rfl, rfl⟩ (tv := .ref C_BadThing) (fun u h => h) (tab := tabE "BadThing") (hk_BadThing) (by rfl) t.n_isinstance (se_v (pv 1)) (pe_glob (by rfl) g_BadThing rfl)) sa_nil))))))
      (sb_one (ss_ret (se_tup (sa_cons se_str (sa_cons (se_what hz hf ⟨rfl, rfl, rfl⟩ (kn := knE) hkn (se_v (pv 1))) (sa_cons (se_v (pv 2)) (sa_cons (se_isX hz hf ⟨rfl, rfl, rfl⟩ (tv := .ty "ValueError") (fun u h => h) (tab := tabT) (hk_ValueError) (by rfl) t.n_isinstance (se_v (pv 1)) (pe_bty (by rfl) t.n_ValueError bb_ValueError)) sa_nil)))))))))))
noncomputable def u__law_refused : Sx :=
    (sRet (xTup (xCons (xC (.str "refused")) (xCons (xVar 1) (xCons (xLst (xCons (xOp oEqS (xVar 0) (xC (.str "forest"))) (xCons (xOp oEqS (xVar 0) (xC (.str "ring"))) (xCons (xOp oEqS (xVar 0) (xC (.str "thing"))) xNil)))) (xCons (xC (.bool true)) xNil))))))
noncomputable def f__law_refused : Fn := fnO false 2 u__law_refused
theorem g__law_refused (t : TX K mg) (tl : TL K mg base T) : ∃ f fd, DefK K mg "_law_refused" s__law_refused ["sort", "what"] f fd ∧ FnG P w K mg base 1 f fd ["sort", "what"] (spF K mg T 2 f__law_refused) := by
  obtain ⟨f, fd, D⟩ := t.p__law_refused
  exact ⟨f, fd, D, def_okN (k := 0) N__law_refused ["sort", "what"] 2 2 false u__law_refused D.F sc__law_refused rfl rfl fun cv A outer s H E ax hr hgd =>
    (sb_one (ss_ret (se_tup (sa_cons se_str (sa_cons (se_v (pv 1)) (sa_cons (se_lst (sa_cons (se_cmp (op_eq.or (op_eqD (hu64 hr))) cm_eqS (se_v (pv 0)) se_str) (sa_cons (se_cmp (op_eq.or (op_eqD (hu64 hr))) cm_eqS (se_v (pv 0)) se_str) (sa_cons (se_cmp (op_eq.or (op_eqD (hu64 hr))) cm_eqS (se_v (pv 0)) se_str) sa_nil)))) (sa_cons se_bl sa_nil)))))))⟩
noncomputable def u__law_is_place : Sx :=
    (bCons (sIf (xB (xOp (oIs false) (xVar 2) (xC .none))) (sRet (xC (.bool true))) bNil)
    (bCons (sIf (tOrr (tNt (xB (xIsi "tuple" (xVar 2)))) (tOrr (xB (xOp oNeS (xFn kLen (xCons (xVar 2) xNil)) (xC (.int 2)))) (tNt (xB (xCall 2 f__law_number (xCons (xOp oIx (xVar 2) (xC (.int 0))) (xCons (xFn kLen (xCons (xVar 0) xNil)) xNil))))))) (sRet (xC (.bool false))) bNil)
    (sRet (xAn (xOp oNeS (xOp oIx (xVar 2) (xC (.int 0))) (xVar 1)) (xCall 2 f__law_number (xCons (xOp oIx (xVar 2) (xC (.int 1))) (xCons (xOp oIx (xVar 0) (xOp oIx (xVar 2) (xC (.int 0)))) xNil)))))))
noncomputable def f__law_is_place : Fn := fnO false 3 u__law_is_place
theorem g__law_is_place (t : TX K mg) (tl : TL K mg base T) : ∃ f fd, DefK K mg "_law_is_place" s__law_is_place ["rooms", "x", "place"] f fd ∧ FnG P w K mg base 2 f fd ["rooms", "x", "place"] (spF K mg T 3 f__law_is_place) := by
  obtain ⟨f, fd, D⟩ := t.p__law_is_place
  obtain ⟨f__law_number, d__law_number, D__law_number, G__law_number⟩ := g__law_number (P := P) (w := w) (base := base) (T := T) t tl
  exact ⟨f, fd, D, def_okN (k := 1) N__law_is_place ["rooms", "x", "place"] 3 3 false u__law_is_place D.F sc__law_is_place rfl rfl fun cv A outer s H E ax hr hgd =>
    (sb_cons (ss_if (st_cmp op_isN cm_is (se_v (pv 2)) se_non) (sb_one (ss_ret se_bl)) sb_nil)
      (sb_cons (ss_if (st_w (sw_or (st_not (st_val (se_isi (ty := "tuple") (by decide) (by rfl) t.n_isinstance (se_v (pv 2)) (pe_bty (by rfl) t.n_tuple bb_tuple)))) (sw_or (st_cmp (op_ne.or (op_neD (hu64 hr))) cm_neS (se_len (by rfl) t.n_len (sa_cons (se_v (pv 2)) sa_nil)) se_int) (sw_or1 (st_not (st_val (se_call (G__law_number.mono (k := 1) (by decide)) hr hgd (by rfl) D__law_number.g D__law_number.F.kp D__law_number.b (L2N.takes_of rfl rfl rfl rfl) (sa_cons (se_ix (se_v (pv 2)) se_int) (sa_cons (se_len (by rfl) t.n_len (sa_cons (se_v (pv 0)) sa_nil)) sa_nil))))))))) (sb_one (ss_ret se_bl)) sb_nil)
      (sb_one (ss_ret (se_an (se_cmp (op_ne.or (op_neD (hu64 hr))) cm_neS (se_ix (se_v (pv 2)) se_int) (se_v (pv 1))) (se_one (se_call (G__law_number.mono (k := 1) (by decide)) hr hgd (by rfl) D__law_number.g D__law_number.F.kp D__law_number.b (L2N.takes_of rfl rfl rfl rfl) (sa_cons (se_ix (se_v (pv 2)) se_int) (sa_cons (se_ix (se_v (pv 0)) (se_ix (se_v (pv 2)) se_int)) sa_nil)))))))))⟩
noncomputable def fb__law_due_1 : Sx :=
    (sIf (tNt (xB (xCall 3 f__law_is_place (xCons (xVar 0) (xCons (xVar 2) (xCons (xOp oIx (xVar 1) (xVar 2)) xNil)))))) (sRet (xCall 2 f__law_refused (xCons (xC (.str "forest")) (xCons (xVar 2) xNil)))) bNil)
noncomputable def fl__law_due_2 : Sx :=
    sFor (wRng1 (xFn kLen (xCons (xVar 1) xNil))) (gN 2) fb__law_due_1
noncomputable def lc__law_due_3 : Ex :=
    xLc false (wSeq (xCall 2 f__law_climb (xCons (xVar 1) (xCons (xVar 2) xNil)))) (gN 3) yes (xOp oIx (xVar 3) (xC (.int 0))) [3]
noncomputable def fb__law_due_4 : Sx :=
    (sIf (xB (xOp (oIn false) (xVar 2) lc__law_due_3)) (sRet (xCall 2 f__law_refused (xCons (xC (.str "ring")) (xCons (xVar 2) xNil)))) bNil)
noncomputable def fl__law_due_5 : Sx :=
    sFor (wRng1 (xFn kLen (xCons (xVar 1) xNil))) (gN 2) fb__law_due_4
noncomputable def u__law_due : Sx :=
    (bCons (sIf (tOrr (tNt (xB (xIsi "tuple" (xVar 1)))) (xB (xOp oNeS (xFn kLen (xCons (xVar 1) xNil)) (xFn kLen (xCons (xVar 0) xNil))))) (sRet (xCall 2 f__law_refused (xCons (xC (.str "forest")) (xCons (xUn oNeg (xC (.int 1))) xNil)))) bNil)
    (bCons fl__law_due_2
    (bCons fl__law_due_5
    (sRet (xTup (xCons (xC (.str "told")) (xCons (xVar 1) xNil)))))))
noncomputable def f__law_due : Fn := fnO false 4 u__law_due
theorem g__law_due (t : TX K mg) (tl : TL K mg base T) : ∃ f fd, DefK K mg "_law_due" s__law_due ["rooms", "forest"] f fd ∧ FnG P w K mg base 3 f fd ["rooms", "forest"] (spF K mg T 2 f__law_due) := by
  obtain ⟨f, fd, D⟩ := t.p__law_due
  obtain ⟨f__law_climb, d__law_climb, D__law_climb, G__law_climb⟩ := g__law_climb (P := P) (w := w) (base := base) (T := T) t tl
  obtain ⟨f__law_is_place, d__law_is_place, D__law_is_place, G__law_is_place⟩ := g__law_is_place (P := P) (w := w) (base := base) (T := T) t tl
  obtain ⟨f__law_refused, d__law_refused, D__law_refused, G__law_refused⟩ := g__law_refused (P := P) (w := w) (base := base) (T := T) t tl
  exact ⟨f, fd, D, def_okN (k := 2) N__law_due ["rooms", "forest"] 4 2 false u__law_due D.F sc__law_due rfl rfl fun cv A outer s H E ax hr hgd =>
    (sb_cons (ss_if (st_w (sw_or (st_not (st_val (se_isi (ty := "tuple") (by decide) (by rfl) t.n_isinstance (se_v (pv 1)) (pe_bty (by rfl) t.n_tuple bb_tuple)))) (sw_or1 (st_cmp (op_ne.or (op_neD (hu64 hr))) cm_neS (se_len (by rfl) t.n_len (sa_cons (se_v (pv 1)) sa_nil)) (se_len (by rfl) t.n_len (sa_cons (se_v (pv 0)) sa_nil)))))) (sb_one (ss_ret (se_call (G__law_refused.mono (k := 2) (by decide)) hr hgd (by rfl) D__law_refused.g D__law_refused.F.kp D__law_refused.b (L2N.takes_of rfl rfl rfl rfl) (sa_cons se_str (sa_cons (se_neg se_int) sa_nil))))) sb_nil)
      (sb_cons (ss_for (sl := [2]) (passes_of rfl) rfl (si_rng1 (by rfl) t.n_range (se_len (by rfl) t.n_len (sa_cons (se_v (pv 1)) sa_nil))) (sg_n (pg_name (i := 2) sc__law_due.nd rfl (by first | exact .inl rfl | exact .inr rfl))) (sb_one (ss_if (st_not (st_val (se_call (G__law_is_place.mono (k := 2) (by decide)) hr hgd (by rfl) D__law_is_place.g D__law_is_place.F.kp D__law_is_place.b (L2N.takes_of rfl rfl rfl rfl) (sa_cons (se_v (pv 0)) (sa_cons (se_v (pv 2)) (sa_cons (se_ix (se_v (pv 1)) (se_v (pv 2))) sa_nil)))))) (sb_one (ss_ret (se_call (G__law_refused.mono (k := 2) (by decide)) hr hgd (by rfl) D__law_refused.g D__law_refused.F.kp D__law_refused.b (L2N.takes_of rfl rfl rfl rfl) (sa_cons se_str (sa_cons (se_v (pv 2)) sa_nil))))) sb_nil)))
      (sb_cons (ss_for (sl := [2]) (passes_of rfl) rfl (si_rng1 (by rfl) t.n_range (se_len (by rfl) t.n_len (sa_cons (se_v (pv 1)) sa_nil))) (sg_n (pg_name (i := 2) sc__law_due.nd rfl (by first | exact .inl rfl | exact .inr rfl))) (sb_one (ss_if (st_cmp ((op_inD (hu65 hr)).or (op_inT (hu65 hr))) cm_in (se_v (pv 2)) (se_lc (keep := false) (own := [("place", 3)]) rfl sc__law_due.nd (si_seq (se_call (G__law_climb.mono (k := 2) (by decide)) hr hgd (by rfl) D__law_climb.g D__law_climb.F.kp D__law_climb.b (L2N.takes_of rfl rfl rfl rfl) (sa_cons (se_v (pv 1)) (sa_cons (se_v (pv 2)) sa_nil)))) (blk_ok (by rfl)) (fun _ _ _ _ _ => (sg_n (pg_name (i := 3) sc__law_due.nd rfl (by first | exact .inl rfl | exact .inr rfl)))) (fun _ _ _ _ _ => sts_nil) (fun _ _ _ _ _ => (se_ix (se_v (pv 3)) se_int)))) (sb_one (ss_ret (se_call (G__law_refused.mono (k := 2) (by decide)) hr hgd (by rfl) D__law_refused.g D__law_refused.F.kp D__law_refused.b (L2N.takes_of rfl rfl rfl rfl) (sa_cons se_str (sa_cons (se_v (pv 2)) sa_nil))))) sb_nil)))
      (sb_one (ss_ret (se_tup (sa_cons se_str (sa_cons (se_v (pv 1)) sa_nil))))))))⟩
noncomputable def u__law_is_made_right : Sx :=
    (bCons (sSet 2 (xCall 2 f__law_due (xCons (xVar 0) (xCons (xVar 1) xNil))))
    (bCons (sIf (xB (xOp oNeS (xFn kRepr (xCons (xHeard false 3 (fun g0 => u__law_heard g0) (xCall 2 f_made_forest (xCons (xVar 0) (xCons (xVar 1) xNil)))) xNil)) (xFn kRepr (xCons (xVar 2) xNil)))) (sRet (xC (.bool false))) bNil)
    (sRet (xOp oEqS (xFn kRepr (xCons (xCall 2 f_is_forest (xCons (xVar 0) (xCons (xVar 1) xNil))) xNil)) (xFn kRepr (xCons (xOp oEqS (xOp oIx (xVar 2) (xC (.int 0))) (xC (.str "told"))) xNil))))))
noncomputable def f__law_is_made_right : Fn := fnO false 3 u__law_is_made_right
theorem g__law_is_made_right (t : TX K mg) (tl : TL K mg base T) : ∃ f fd, DefK K mg "_law_is_made_right" s__law_is_made_right ["rooms", "forest"] f fd ∧ FnG P w K mg base 9 f fd ["rooms", "forest"] (spF K mg T 2 f__law_is_made_right) := by
  obtain ⟨f, fd, D⟩ := t.p__law_is_made_right
  obtain ⟨f__law_due, d__law_due, D__law_due, G__law_due⟩ := g__law_due (P := P) (w := w) (base := base) (T := T) t tl
  obtain ⟨f__law_heard, d__law_heard, D__law_heard⟩ := t.p__law_heard
  obtain ⟨oc2, od2, kV2, doc2, pm2, an2, cd2, ct2, sl2, rfl, lkH, cgH⟩ := D__law_heard.F.ex
  obtain ⟨f_is_forest, d_is_forest, D_is_forest, G_is_forest⟩ := g_is_forest (P := P) (w := w) (base := base) (T := T) t tl
  obtain ⟨f_made_forest, d_made_forest, D_made_forest, G_made_forest⟩ := g_made_forest (P := P) (w := w) (base := base) (T := T) t tl
  obtain ⟨c0, P0, hmT, huT, TB, hco⟩ := tl.l__law_is_made_right.ex
  refine ⟨f, fd, D, def_okCN (k := 8) N__law_is_made_right ["rooms", "forest"] 3 2 false u__law_is_made_right D.F sc__law_is_made_right rfl rfl fun oc od kV doc pm an cv ct osl efd lk A outer s H E ax hr hgd => ?_⟩
  subst efd
  have hcd : cv = .ref c0 := hco f _ _ _ _ D.g lk
  exact (sb_cons (ss_set (ps_set (i := 2) sc__law_is_made_right.nd rfl (by first | exact .inl rfl | exact .inr rfl) (se_call (G__law_due.mono (k := 8) (by decide)) hr hgd (by rfl) D__law_due.g D__law_due.F.kp D__law_due.b (L2N.takes_of rfl rfl rfl rfl) (sa_cons (se_v (pv 0)) (sa_cons (se_v (pv 1)) sa_nil)))))
      (sb_cons (ss_if (st_cmp (op_ne.or (op_neD (hu64 hr))) cm_neS (se_repr hgd (by have z := hu66 hr; exact z) (by rfl) t.n_repr (sa_cons (se_heard (k := 6) (keep := false) (Ng := N__law_heard) (u := fun g0 => u__law_heard g0) (by rfl) D__law_heard.g D__law_heard.F.kp lkH cgH D__law_heard.b sc__law_heard rfl (Or.inl rfl) (fun s H E x0 g0 hr2 hcall => b__law_heard t (Nat.succ_le_succ (Nat.zero_le _)) hgd hr2 hcall) TB hcd hmT huT hr hgd (L2N.takes_of rfl rfl rfl rfl) (LamX.lamS_by (by rfl)) rfl (fun _ _ _ _ _ => rfl) (fun A outer s H E f c hr hgd => (se_call (G_made_forest.mono (k := 6) (by decide)) hr hgd (by rfl) D_made_forest.g D_made_forest.F.kp D_made_forest.b (L2N.takes_of rfl rfl rfl rfl) (sa_cons (se_v (pv 0)) (sa_cons (se_v (pv 1)) sa_nil))))) sa_nil)) (se_repr hgd (by have z := hu66 hr; exact z) (by rfl) t.n_repr (sa_cons (se_v (pv 2)) sa_nil))) (sb_one (ss_ret se_bl)) sb_nil)
      (sb_one (ss_ret (se_cmp (op_eq.or (op_eqD (hu64 hr))) cm_eqS (se_repr hgd (by have z := hu66 hr; exact z) (by rfl) t.n_repr (sa_cons (se_call (G_is_forest.mono (k := 8) (by decide)) hr hgd (by rfl) D_is_forest.g D_is_forest.F.kp D_is_forest.b (L2N.takes_of rfl rfl rfl rfl) (sa_cons (se_v (pv 0)) (sa_cons (se_v (pv 1)) sa_nil))) sa_nil)) (se_repr hgd (by have z := hu66 hr; exact z) (by rfl) t.n_repr (sa_cons (se_cmp (op_eq.or (op_eqD (hu64 hr))) cm_eqS (se_ix (se_v (pv 2)) se_int) se_str) sa_nil)))))))
noncomputable def u__law_odd : Sx :=
    (bCons (sSet 2 (xOp oSub (xCall 2 f__law_take (xCons (xVar 0) (xCons (xOp oAdd (xFn kLen (xCons (xVar 1) xNil)) (xC (.int 1))) xNil))) (xFn kInt (xCons (xOp oEqS (xCall 2 f__law_take (xCons (xVar 0) (xCons (xC (.int 3)) xNil))) (xC (.int 0))) xNil))))
    (bCons (sPar 3 4 (xCons (xCall 2 f__law_take (xCons (xVar 0) (xCons (xC (.int 5)) xNil))) (xCons (xCall 2 f__law_take (xCons (xVar 0) (xCons (xC (.int 10)) xNil))) xNil)))
    (bCons (sIf (xB (xOp oLt (xVar 4) (xC (.int 4)))) (sRet (xTup (xCons (xVar 2) (xCons (xVar 3) xNil)))) bNil)
    (bCons (sIf (xB (xOp oEqS (xVar 4) (xC (.int 4)))) (sRet (xCall 2 f__law_one (xCons (xVar 0) (xCons (xLst (xCons (xC .none) (xCons (xTup (xCons (xVar 2) (xCons (xUn oNeg (xC (.int 1))) xNil))) (xCons (xTup (xCons (xUn oNeg (xC (.int 1))) (xCons (xVar 3) xNil))) xNil)))) xNil)))) bNil)
    (bCons (sIf (xB (xOp oEqS (xVar 4) (xC (.int 5)))) (sRet (xCall 2 f__law_one (xCons (xVar 0) (xCons (xLst (xCons (xTup (xCons (xVar 2) xNil)) (xCons (xTup (xCons (xVar 2) (xCons (xVar 3) (xCons (xVar 3) xNil)))) (xCons (xTup xNil) xNil)))) xNil)))) bNil)
    (bCons (sIf (xB (xOp oEqS (xVar 4) (xC (.int 6)))) (sRet (xCall 2 f__law_one (xCons (xVar 0) (xCons (xLst (xCons (xC (.str "")) (xCons (xVar 2) (xCons (xC (.str "01")) (xCons (xTup (xCons (xTup (xCons (xVar 2) (xCons (xVar 3) xNil))) xNil)) xNil))))) xNil)))) bNil)
    (bCons (sIf (xB (xOp oEqS (xVar 4) (xC (.int 7)))) (sRet (xCall 2 f__law_one (xCons (xVar 0) (xCons (xLst (xCons (xTup (xCons (xC (.bool true)) (xCons (xC (.int 0)) xNil))) (xCons (xTup (xCons (xC (.bool false)) (xCons (xC (.int 0)) xNil))) (xCons (xTup (xCons (xVar 2) (xCons (xC (.bool false)) xNil))) (xCons (xTup (xCons (xVar 2) (xCons (xC (.bool true)) xNil))) xNil))))) xNil)))) bNil)
    (bCons (sIf (xB (xOp oEqS (xVar 4) (xC (.int 8)))) (sRet (xCall 2 f__law_one (xCons (xVar 0) (xCons (xLst (xCons (xTup (xCons (xVar 2) (xCons (xC .none) xNil))) (xCons (xTup (xCons (xC .none) (xCons (xVar 3) xNil))) (xCons (xTup (xCons (xC (.str "0")) (xCons (xVar 3) xNil))) (xCons (xTup (xCons (xVar 2) (xCons (xC (.str "0")) xNil))) xNil))))) xNil)))) bNil)
    (sRet (xCall 2 f__law_one (xCons (xVar 0) (xCons (xLst (xCons (xTup (xCons (xVar 2) (xCons (xOp oPow (xC (.int 10)) (xC (.int 30))) xNil))) (xCons (xTup (xCons (xOp oAdd (xVar 2) (xOp oPow (xC (.int 10)) (xC (.int 30)))) (xCons (xVar 3) xNil))) (xCons (xTup (xCons (xVar 2) (xCons (xOp oSub (xVar 3) (xOp oPow (xC (.int 10)) (xC (.int 30)))) xNil))) xNil)))) xNil))))))))))))
noncomputable def f__law_odd : Fn := fnO false 5 u__law_odd
theorem g__law_odd (t : TX K mg) (tl : TL K mg base T) : ∃ f fd, DefK K mg "_law_odd" s__law_odd ["source", "rooms"] f fd ∧ FnG P w K mg base 3 f fd ["source", "rooms"] (spF K mg T 2 f__law_odd) := by
  obtain ⟨f, fd, D⟩ := t.p__law_odd
  obtain ⟨f__law_one, d__law_one, D__law_one, G__law_one⟩ := g__law_one (P := P) (w := w) (base := base) (T := T) t tl
  obtain ⟨f__law_take, d__law_take, D__law_take, G__law_take⟩ := g__law_take (P := P) (w := w) (base := base) (T := T) t tl
  exact ⟨f, fd, D, def_okN (k := 2) N__law_odd ["source", "rooms"] 5 2 false u__law_odd D.F sc__law_odd rfl rfl fun cv A outer s H E ax hr hgd =>
    (sb_cons (ss_set (ps_set (i := 2) sc__law_odd.nd rfl (by first | exact .inl rfl | exact .inr rfl) (se_sub (se_call (G__law_take.mono (k := 2) (by decide)) hr hgd (by rfl) D__law_take.g D__law_take.F.kp D__law_take.b (L2N.takes_of rfl rfl rfl rfl) (sa_cons (se_v (pv 0)) (sa_cons (se_add (se_len (by rfl) t.n_len (sa_cons (se_v (pv 1)) sa_nil)) se_int) sa_nil))) (se_intc (by rfl) t.n_int (sa_cons (se_cmp (op_eq.or (op_eqD (hu64 hr))) cm_eqS (se_call (G__law_take.mono (k := 2) (by decide)) hr hgd (by rfl) D__law_take.g D__law_take.F.kp D__law_take.b (L2N.takes_of rfl rfl rfl rfl) (sa_cons (se_v (pv 0)) (sa_cons se_int sa_nil))) se_int) sa_nil)))))
      (sb_cons (ss_par (ps_par (i := 3) (j := 4) rfl sc__law_odd.nd rfl rfl (by decide) rfl rfl (sa_cons (se_call (G__law_take.mono (k := 2) (by decide)) hr hgd (by rfl) D__law_take.g D__law_take.F.kp D__law_take.b (L2N.takes_of rfl rfl rfl rfl) (sa_cons (se_v (pv 0)) (sa_cons se_int sa_nil))) (sa_cons (se_call (G__law_take.mono (k := 2) (by decide)) hr hgd (by rfl) D__law_take.g D__law_take.F.kp D__law_take.b (L2N.takes_of rfl rfl rfl rfl) (sa_cons (se_v (pv 0)) (sa_cons se_int sa_nil))) sa_nil)) (by rfl)))
      (sb_cons (ss_if (st_cmp op_lt cm_lt (se_v (pv 4)) se_int) (sb_one (ss_ret (se_tup (sa_cons (se_v (pv 2)) (sa_cons (se_v (pv 3)) sa_nil))))) sb_nil)
      (sb_cons (ss_if (st_cmp (op_eq.or (op_eqD (hu64 hr))) cm_eqS (se_v (pv 4)) se_int) (sb_one (ss_ret (se_call (G__law_one.mono (k := 2) (by decide)) hr hgd (by rfl) D__law_one.g D__law_one.F.kp D__law_one.b (L2N.takes_of rfl rfl rfl rfl) (sa_cons (se_v (pv 0)) (sa_cons (se_lst (sa_cons se_non (sa_cons (se_tup (sa_cons (se_v (pv 2)) (sa_cons (se_neg se_int) sa_nil))) (sa_cons (se_tup (sa_cons (se_neg se_int) (sa_cons (se_v (pv 3)) sa_nil))) sa_nil)))) sa_nil))))) sb_nil)
      (sb_cons (ss_if (st_cmp (op_eq.or (op_eqD (hu64 hr))) cm_eqS (se_v (pv 4)) se_int) (sb_one (ss_ret (se_call (G__law_one.mono (k := 2) (by decide)) hr hgd (by rfl) D__law_one.g D__law_one.F.kp D__law_one.b (L2N.takes_of rfl rfl rfl rfl) (sa_cons (se_v (pv 0)) (sa_cons (se_lst (sa_cons (se_tup (sa_cons (se_v (pv 2)) sa_nil)) (sa_cons (se_tup (sa_cons (se_v (pv 2)) (sa_cons (se_v (pv 3)) (sa_cons (se_v (pv 3)) sa_nil)))) (sa_cons (se_tup sa_nil) sa_nil)))) sa_nil))))) sb_nil)
      (sb_cons (ss_if (st_cmp (op_eq.or (op_eqD (hu64 hr))) cm_eqS (se_v (pv 4)) se_int) (sb_one (ss_ret (se_call (G__law_one.mono (k := 2) (by decide)) hr hgd (by rfl) D__law_one.g D__law_one.F.kp D__law_one.b (L2N.takes_of rfl rfl rfl rfl) (sa_cons (se_v (pv 0)) (sa_cons (se_lst (sa_cons se_str (sa_cons (se_v (pv 2)) (sa_cons se_str (sa_cons (se_tup (sa_cons (se_tup (sa_cons (se_v (pv 2)) (sa_cons (se_v (pv 3)) sa_nil))) sa_nil)) sa_nil))))) sa_nil))))) sb_nil)
      (sb_cons (ss_if (st_cmp (op_eq.or (op_eqD (hu64 hr))) cm_eqS (se_v (pv 4)) se_int) (sb_one (ss_ret (se_call (G__law_one.mono (k := 2) (by decide)) hr hgd (by rfl) D__law_one.g D__law_one.F.kp D__law_one.b (L2N.takes_of rfl rfl rfl rfl) (sa_cons (se_v (pv 0)) (sa_cons (se_lst (sa_cons (se_tup (sa_cons se_bl (sa_cons se_int sa_nil))) (sa_cons (se_tup (sa_cons se_bl (sa_cons se_int sa_nil))) (sa_cons (se_tup (sa_cons (se_v (pv 2)) (sa_cons se_bl sa_nil))) (sa_cons (se_tup (sa_cons (se_v (pv 2)) (sa_cons se_bl sa_nil))) sa_nil))))) sa_nil))))) sb_nil)
      (sb_cons (ss_if (st_cmp (op_eq.or (op_eqD (hu64 hr))) cm_eqS (se_v (pv 4)) se_int) (sb_one (ss_ret (se_call (G__law_one.mono (k := 2) (by decide)) hr hgd (by rfl) D__law_one.g D__law_one.F.kp D__law_one.b (L2N.takes_of rfl rfl rfl rfl) (sa_cons (se_v (pv 0)) (sa_cons (se_lst (sa_cons (se_tup (sa_cons (se_v (pv 2)) (sa_cons se_non sa_nil))) (sa_cons (se_tup (sa_cons se_non (sa_cons (se_v (pv 3)) sa_nil))) (sa_cons (se_tup (sa_cons se_str (sa_cons (se_v (pv 3)) sa_nil))) (sa_cons (se_tup (sa_cons (se_v (pv 2)) (sa_cons se_str sa_nil))) sa_nil))))) sa_nil))))) sb_nil)
      (sb_one (ss_ret (se_call (G__law_one.mono (k := 2) (by decide)) hr hgd (by rfl) D__law_one.g D__law_one.F.kp D__law_one.b (L2N.takes_of rfl rfl rfl rfl) (sa_cons (se_v (pv 0)) (sa_cons (se_lst (sa_cons (se_tup (sa_cons (se_v (pv 2)) (sa_cons (se_pow se_int se_int) sa_nil))) (sa_cons (se_tup (sa_cons (se_add (se_v (pv 2)) (se_pow se_int se_int)) (sa_cons (se_v (pv 3)) sa_nil))) (sa_cons (se_tup (sa_cons (se_v (pv 2)) (sa_cons (se_sub (se_v (pv 3)) (se_pow se_int se_int)) sa_nil))) sa_nil)))) sa_nil)))))))))))))⟩
noncomputable def fb__law_bent_right_1 : Sx :=
    (sSub (xCall 2 f__law_odd (xCons (xVar 0) (xCons (xVar 1) xNil))) (xVar 4) (xCall 2 f__law_take (xCons (xVar 0) (xCons (xFn kLen (xCons (xVar 1) xNil)) xNil))))
noncomputable def fl__law_bent_right_2 : Sx :=
    sFor (wRng1 (xVar 3)) (gN 5) fb__law_bent_right_1
noncomputable def fb__law_bent_right_3 : Sx :=
    (bCons (sSet 4 (xFn kListR (xCons (xVar 2) xNil)))
    (bCons fl__law_bent_right_2
    (sIf (tNt (xB (xCall 2 f__law_is_made_right (xCons (xVar 1) (xCons (xFn kTuple (xCons (xVar 4) xNil)) xNil))))) (sRet (xC (.bool false))) bNil)))
noncomputable def fl__law_bent_right_4 : Sx :=
    sFor (wSeq (xLst (xCons (xC (.int 1)) (xCons (xC (.int 2)) xNil)))) (gN 3) fb__law_bent_right_3
noncomputable def lc__law_bent_right_5 : Ex :=
    xLc false (wRng1 (xFn kLen (xCons (xVar 1) xNil))) (gN 7) (xB (xOp oGt (xOp oIx (xVar 1) (xVar 7)) (xC (.int 0)))) (xVar 7) [7]
noncomputable def fb__law_bent_right_6 : Sx :=
    (sIf (xB (xOp oNeS (xVar 6) (xLst xNil))) (bCons (sSet 7 (xCall 2 f__law_one (xCons (xVar 0) (xCons (xVar 6) xNil))))
    (bCons (sSub (xTup (xCons (xVar 7) (xCons (xCall 2 f__law_take (xCons (xVar 0) (xCons (xOp oIx (xVar 1) (xVar 7)) xNil))) xNil))) (xVar 4) (xCall 2 f__law_take (xCons (xVar 0) (xCons (xFn kLen (xCons (xVar 1) xNil)) xNil))))
    (sIf (tNt (xB (xCall 2 f__law_is_made_right (xCons (xVar 1) (xCons (xFn kTuple (xCons (xVar 4) xNil)) xNil))))) (sRet (xC (.bool false))) bNil))) bNil)
noncomputable def fl__law_bent_right_7 : Sx :=
    sFor (wRng1 (xC (.int 2))) (gN 5) fb__law_bent_right_6
noncomputable def fb__law_bent_right_8 : Sx :=
    (sIf (tNt (xB (xCall 2 f__law_is_made_right (xCons (xVar 1) (xCons (xVar 8) xNil))))) (sRet (xC (.bool false))) bNil)
noncomputable def fl__law_bent_right_9 : Sx :=
    sFor (wSeq (xLst (xCons (xSl (xVar 2) (pAt (xC (.int 1))) pNo) (xCons (xOp oAdd (xVar 2) (xTup (xCons (xC .none) xNil))) (xCons (xC .none) (xCons (xOp oMulS (xC (.str "0")) (xFn kLen (xCons (xVar 1) xNil))) (xCons (xFn kLen (xCons (xVar 1) xNil)) xNil))))))) (gN 8) fb__law_bent_right_8
noncomputable def u__law_bent_right : Sx :=
    (bCons fl__law_bent_right_4
    (bCons (sPar 4 6 (xCons (xFn kListR (xCons (xVar 2) xNil)) (xCons lc__law_bent_right_5 xNil)))
    (bCons fl__law_bent_right_7
    (bCons fl__law_bent_right_9
    (sRet (xC (.bool true)))))))
noncomputable def f__law_bent_right : Fn := fnO false 9 u__law_bent_right
theorem g__law_bent_right (t : TX K mg) (tl : TL K mg base T) : ∃ f fd, DefK K mg "_law_bent_right" s__law_bent_right ["source", "rooms", "forest"] f fd ∧ FnG P w K mg base 10 f fd ["source", "rooms", "forest"] (spF K mg T 3 f__law_bent_right) := by
  obtain ⟨f, fd, D⟩ := t.p__law_bent_right
  obtain ⟨f__law_is_made_right, d__law_is_made_right, D__law_is_made_right, G__law_is_made_right⟩ := g__law_is_made_right (P := P) (w := w) (base := base) (T := T) t tl
  obtain ⟨f__law_odd, d__law_odd, D__law_odd, G__law_odd⟩ := g__law_odd (P := P) (w := w) (base := base) (T := T) t tl
  obtain ⟨f__law_one, d__law_one, D__law_one, G__law_one⟩ := g__law_one (P := P) (w := w) (base := base) (T := T) t tl
  obtain ⟨f__law_take, d__law_take, D__law_take, G__law_take⟩ := g__law_take (P := P) (w := w) (base := base) (T := T) t tl
  exact ⟨f, fd, D, def_okN (k := 9) N__law_bent_right ["source", "rooms", "forest"] 9 3 false u__law_bent_right D.F sc__law_bent_right rfl rfl fun cv A outer s H E ax hr hgd =>
    (sb_cons (ss_for (sl := [3]) (passes_of rfl) rfl (si_seq (se_lst (sa_cons se_int (sa_cons se_int sa_nil)))) (sg_n (pg_name (i := 3) sc__law_bent_right.nd rfl (by first | exact .inl rfl | exact .inr rfl))) (sb_cons (ss_set (ps_set (i := 4) sc__law_bent_right.nd rfl (by first | exact .inl rfl | exact .inr rfl) (se_listcR (by rfl) t.n_list (sa_cons (se_v (pv 2)) sa_nil))))
      (sb_cons (ss_for (sl := [5]) (passes_of rfl) rfl (si_rng1 (by rfl) t.n_range (se_v (pv 3))) (sg_n (pg_name (i := 5) sc__law_bent_right.nd rfl (by first | exact .inl rfl | exact .inr rfl))) (sb_one (ss_sub (se_call (G__law_odd.mono (k := 9) (by decide)) hr hgd (by rfl) D__law_odd.g D__law_odd.F.kp D__law_odd.b (L2N.takes_of rfl rfl rfl rfl) (sa_cons (se_v (pv 0)) (sa_cons (se_v (pv 1)) sa_nil))) (pg_sub (se_v (pv 4)) (se_call (G__law_take.mono (k := 9) (by decide)) hr hgd (by rfl) D__law_take.g D__law_take.F.kp D__law_take.b (L2N.takes_of rfl rfl rfl rfl) (sa_cons (se_v (pv 0)) (sa_cons (se_len (by rfl) t.n_len (sa_cons (se_v (pv 1)) sa_nil)) sa_nil))) set_list))))
      (sb_one (ss_if (st_not (st_val (se_call (G__law_is_made_right.mono (k := 9) (by decide)) hr hgd (by rfl) D__law_is_made_right.g D__law_is_made_right.F.kp D__law_is_made_right.b (L2N.takes_of rfl rfl rfl rfl) (sa_cons (se_v (pv 1)) (sa_cons (se_tuplec (by rfl) t.n_tuple (sa_cons (se_v (pv 4)) sa_nil)) sa_nil))))) (sb_one (ss_ret se_bl)) sb_nil)))))
      (sb_cons (ss_par (ps_par (i := 4) (j := 6) rfl sc__law_bent_right.nd rfl rfl (by decide) rfl rfl (sa_cons (se_listcR (by rfl) t.n_list (sa_cons (se_v (pv 2)) sa_nil)) (sa_cons (se_lc (keep := false) (own := [("y", 7)]) rfl sc__law_bent_right.nd (si_rng1 (by rfl) t.n_range (se_len (by rfl) t.n_len (sa_cons (se_v (pv 1)) sa_nil))) (blk_ok (by rfl)) (fun _ _ _ _ _ => (sg_n (pg_name (i := 7) sc__law_bent_right.nd rfl (by first | exact .inl rfl | exact .inr rfl)))) (fun _ _ _ _ _ => (sts_one (st_cmp op_gt cm_gt (se_ix (se_v (pv 1)) (se_v (pv 7))) se_int))) (fun _ _ _ _ _ => (se_v (pv 7)))) sa_nil)) (by rfl)))
      (sb_cons (ss_for (sl := [5]) (passes_of rfl) rfl (si_rng1 (by rfl) t.n_range se_int) (sg_n (pg_name (i := 5) sc__law_bent_right.nd rfl (by first | exact .inl rfl | exact .inr rfl))) (sb_one (ss_if (st_cmp (op_ne.or (op_neD (hu64 hr))) cm_neS (se_v (pv 6)) (se_lst sa_nil)) (sb_cons (ss_set (ps_set (i := 7) sc__law_bent_right.nd rfl (by first | exact .inl rfl | exact .inr rfl) (se_call (G__law_one.mono (k := 9) (by decide)) hr hgd (by rfl) D__law_one.g D__law_one.F.kp D__law_one.b (L2N.takes_of rfl rfl rfl rfl) (sa_cons (se_v (pv 0)) (sa_cons (se_v (pv 6)) sa_nil)))))
      (sb_cons (ss_sub (se_tup (sa_cons (se_v (pv 7)) (sa_cons (se_call (G__law_take.mono (k := 9) (by decide)) hr hgd (by rfl) D__law_take.g D__law_take.F.kp D__law_take.b (L2N.takes_of rfl rfl rfl rfl) (sa_cons (se_v (pv 0)) (sa_cons (se_ix (se_v (pv 1)) (se_v (pv 7))) sa_nil))) sa_nil))) (pg_sub (se_v (pv 4)) (se_call (G__law_take.mono (k := 9) (by decide)) hr hgd (by rfl) D__law_take.g D__law_take.F.kp D__law_take.b (L2N.takes_of rfl rfl rfl rfl) (sa_cons (se_v (pv 0)) (sa_cons (se_len (by rfl) t.n_len (sa_cons (se_v (pv 1)) sa_nil)) sa_nil))) set_list))
      (sb_one (ss_if (st_not (st_val (se_call (G__law_is_made_right.mono (k := 9) (by decide)) hr hgd (by rfl) D__law_is_made_right.g D__law_is_made_right.F.kp D__law_is_made_right.b (L2N.takes_of rfl rfl rfl rfl) (sa_cons (se_v (pv 1)) (sa_cons (se_tuplec (by rfl) t.n_tuple (sa_cons (se_v (pv 4)) sa_nil)) sa_nil))))) (sb_one (ss_ret se_bl)) sb_nil)))) sb_nil)))
      (sb_cons (ss_for (sl := [8]) (passes_of rfl) rfl (si_seq (se_lst (sa_cons (se_sl (se_v (pv 2)) (so_at se_int) so_no) (sa_cons (se_add (se_v (pv 2)) (se_tup (sa_cons se_non sa_nil))) (sa_cons se_non (sa_cons (se_mulS se_str (se_len (by rfl) t.n_len (sa_cons (se_v (pv 1)) sa_nil))) (sa_cons (se_len (by rfl) t.n_len (sa_cons (se_v (pv 1)) sa_nil)) sa_nil))))))) (sg_n (pg_name (i := 8) sc__law_bent_right.nd rfl (by first | exact .inl rfl | exact .inr rfl))) (sb_one (ss_if (st_not (st_val (se_call (G__law_is_made_right.mono (k := 9) (by decide)) hr hgd (by rfl) D__law_is_made_right.g D__law_is_made_right.F.kp D__law_is_made_right.b (L2N.takes_of rfl rfl rfl rfl) (sa_cons (se_v (pv 1)) (sa_cons (se_v (pv 8)) sa_nil))))) (sb_one (ss_ret se_bl)) sb_nil)))
      (sb_one (ss_ret se_bl))))))⟩
noncomputable def u__law_pair_right : Sx :=
    (bCons (sSet 4 (xCall 3 f__law_standing (xCons (xVar 1) (xCons (xVar 2) (xCons (xVar 3) xNil)))))
    (bCons (sIf (tOrr (xB (xOp oNeS (xFn kRepr (xCons (xCall 4 f_standing (xCons (xVar 0) (xCons (xVar 1) (xCons (xVar 2) (xCons (xVar 3) xNil))))) xNil)) (xFn kRepr (xCons (xVar 4) xNil)))) (xB (xOp oNeS (xFn kRepr (xCons (xCall 1 f_turned (xCons (xVar 4) xNil)) xNil)) (xFn kRepr (xCons (xCall 1 f__law_turned (xCons (xVar 4) xNil)) xNil))))) (sRet (xC (.bool false))) bNil)
    (bCons (sIf (xB (xOp oNeS (xFn kRepr (xCons (xCall 4 f_standing (xCons (xVar 0) (xCons (xVar 1) (xCons (xVar 3) (xCons (xVar 2) xNil))))) xNil)) (xFn kRepr (xCons (xCall 1 f__law_turned (xCons (xVar 4) xNil)) xNil)))) (sRet (xC (.bool false))) bNil)
    (sRet (xOp oEqS (xFn kRepr (xCons (xCall 3 f_standings (xCons (xVar 0) (xCons (xVar 2) (xCons (xVar 3) xNil)))) xNil)) (xFn kRepr (xCons (xFn kTuple (xCons (xCall 3 f__law_every (xCons (xVar 0) (xCons (xVar 2) (xCons (xVar 3) xNil)))) xNil)) xNil)))))))
noncomputable def f__law_pair_right : Fn := fnO false 5 u__law_pair_right
theorem g__law_pair_right (t : TX K mg) (tl : TL K mg base T) : ∃ f fd, DefK K mg "_law_pair_right" s__law_pair_right ["rooms", "forest", "x", "y"] f fd ∧ FnG P w K mg base 7 f fd ["rooms", "forest", "x", "y"] (spF K mg T 4 f__law_pair_right) := by
  obtain ⟨f, fd, D⟩ := t.p__law_pair_right
  obtain ⟨f__law_every, d__law_every, D__law_every, G__law_every⟩ := g__law_every (P := P) (w := w) (base := base) (T := T) t tl
  obtain ⟨f__law_standing, d__law_standing, D__law_standing, G__law_standing⟩ := g__law_standing (P := P) (w := w) (base := base) (T := T) t tl
  obtain ⟨f__law_turned, d__law_turned, D__law_turned, G__law_turned⟩ := g__law_turned (P := P) (w := w) (base := base) (T := T) t tl
  obtain ⟨f_standing, d_standing, D_standing, G_standing⟩ := g_standing (P := P) (w := w) (base := base) (T := T) t tl
  obtain ⟨f_standings, d_standings, D_standings, G_standings⟩ := g_standings (P := P) (w := w) (base := base) (T := T) t tl
  obtain ⟨f_turned, d_turned, D_turned, G_turned⟩ := g_turned (P := P) (w := w) (base := base) (T := T) t tl
  have KB_standing := kb_standing D_standing
  exact ⟨f, fd, D, def_okN (k := 6) N__law_pair_right ["rooms", "forest", "x", "y"] 5 4 false u__law_pair_right D.F sc__law_pair_right rfl rfl fun cv A outer s H E ax hr hgd =>
    (sb_cons (ss_set (ps_set (i := 4) sc__law_pair_right.nd rfl (by first | exact .inl rfl | exact .inr rfl) (se_call (G__law_standing.mono (k := 6) (by decide)) hr hgd (by rfl) D__law_standing.g D__law_standing.F.kp D__law_standing.b (L2N.takes_of rfl rfl rfl rfl) (sa_cons (se_v (pv 1)) (sa_cons (se_v (pv 2)) (sa_cons (se_v (pv 3)) sa_nil))))))
      (sb_cons (ss_if (st_w (sw_or (st_cmp (op_ne.or (op_neD (hu64 hr))) cm_neS (se_repr hgd (by have z := hu66 hr; exact z) (by rfl) t.n_repr (sa_cons (se_call (G_standing.mono (k := 6) (by decide)) hr hgd (by rfl) D_standing.g D_standing.F.kp D_standing.b (L2N.takes_of rfl rfl rfl rfl) (sa_cons (se_v (pv 0)) (sa_cons (se_v (pv 1)) (sa_cons (se_v (pv 2)) (sa_cons (se_v (pv 3)) sa_nil))))) sa_nil)) (se_repr hgd (by have z := hu66 hr; exact z) (by rfl) t.n_repr (sa_cons (se_v (pv 4)) sa_nil))) (sw_or1 (st_cmp (op_ne.or (op_neD (hu64 hr))) cm_neS (se_repr hgd (by have z := hu66 hr; exact z) (by rfl) t.n_repr (sa_cons (se_call (G_turned.mono (k := 6) (by decide)) hr hgd (by rfl) D_turned.g D_turned.F.kp D_turned.b (L2N.takes_of rfl rfl rfl rfl) (sa_cons (se_v (pv 4)) sa_nil)) sa_nil)) (se_repr hgd (by have z := hu66 hr; exact z) (by rfl) t.n_repr (sa_cons (se_call (G__law_turned.mono (k := 6) (by decide)) hr hgd (by rfl) D__law_turned.g D__law_turned.F.kp D__law_turned.b (L2N.takes_of rfl rfl rfl rfl) (sa_cons (se_v (pv 4)) sa_nil)) sa_nil)))))) (sb_one (ss_ret se_bl)) sb_nil)
      (sb_cons (ss_if (st_cmp (op_ne.or (op_neD (hu64 hr))) cm_neS (se_repr hgd (by have z := hu66 hr; exact z) (by rfl) t.n_repr (sa_cons (se_callK0 (G_standing.mono (k := 6) (by decide)) hr hgd (by rfl) D_standing.g D_standing.F.kp KB_standing (L2N.takes_of rfl rfl rfl rfl) (sk_cons (se_v (pv 0)) (sk_cons (se_v (pv 1)) (sk_cons (se_v (pv 3)) (sk_cons (se_v (pv 2)) sk_nil))))) sa_nil)) (se_repr hgd (by have z := hu66 hr; exact z) (by rfl) t.n_repr (sa_cons (se_call (G__law_turned.mono (k := 6) (by decide)) hr hgd (by rfl) D__law_turned.g D__law_turned.F.kp D__law_turned.b (L2N.takes_of rfl rfl rfl rfl) (sa_cons (se_v (pv 4)) sa_nil)) sa_nil))) (sb_one (ss_ret se_bl)) sb_nil)
      (sb_one (ss_ret (se_cmp (op_eq.or (op_eqD (hu64 hr))) cm_eqS (se_repr hgd (by have z := hu66 hr; exact z) (by rfl) t.n_repr (sa_cons (se_call (G_standings.mono (k := 6) (by decide)) hr hgd (by rfl) D_standings.g D_standings.F.kp D_standings.b (L2N.takes_of rfl rfl rfl rfl) (sa_cons (se_v (pv 0)) (sa_cons (se_v (pv 2)) (sa_cons (se_v (pv 3)) sa_nil)))) sa_nil)) (se_repr hgd (by have z := hu66 hr; exact z) (by rfl) t.n_repr (sa_cons (se_tuplec (by rfl) t.n_tuple (sa_cons (se_call (G__law_every.mono (k := 6) (by decide)) hr hgd (by rfl) D__law_every.g D__law_every.F.kp D__law_every.b (L2N.takes_of rfl rfl rfl rfl) (sa_cons (se_v (pv 0)) (sa_cons (se_v (pv 2)) (sa_cons (se_v (pv 3)) sa_nil)))) sa_nil)) sa_nil))))))))⟩
noncomputable def fb__law_things_right_1 : Sx :=
    (bCons (sIf (xB (xOp oNeS (xFn kRepr (xCons (xHeard false 3 (fun g0 => u__law_heard g0) (xCall 4 f_standing (xCons (xVar 1) (xCons (xVar 2) (xCons (xVar 6) (xCons (xVar 7) xNil)))))) xNil)) (xFn kRepr (xCons (xCall 2 f__law_refused (xCons (xC (.str "thing")) (xCons (xVar 8) xNil))) xNil)))) (sRet (xC (.bool false))) bNil)
    (sIf (xB (xOp oNeS (xFn kRepr (xCons (xHeard false 3 (fun g0 => u__law_heard g0) (xCall 3 f_standings (xCons (xVar 1) (xCons (xVar 6) (xCons (xVar 7) xNil))))) xNil)) (xFn kRepr (xCons (xCall 2 f__law_refused (xCons (xC (.str "thing")) (xCons (xVar 8) xNil))) xNil)))) (sRet (xC (.bool false))) bNil))
noncomputable def fl__law_things_right_2 : Sx :=
    sFor (wSeq (xLst (xCons (xTup (xCons (xVar 4) (xCons (xVar 5) (xCons (xVar 4) xNil)))) (xCons (xTup (xCons (xVar 5) (xCons (xVar 4) (xCons (xVar 4) xNil)))) (xCons (xTup (xCons (xVar 4) (xCons (xVar 3) (xCons (xVar 4) xNil)))) (xCons (xTup (xCons (xVar 5) (xCons (xVar 5) (xCons (xVar 5) xNil)))) (xCons (xTup (xCons (xVar 4) (xCons (xVar 4) (xCons (xVar 4) xNil)))) xNil))))))) (gT 3 (gs1 6 (gs1 7 (gs1 8 gs0)))) fb__law_things_right_1
noncomputable def u__law_things_right : Sx :=
    (bCons (sSet 3 (xFn kLen (xCons (xVar 1) xNil)))
    (bCons (sSet 4 (xCall 2 f__law_one (xCons (xVar 0) (xCons (xLst (xCons (xUn oNeg (xC (.int 1))) (xCons (xVar 3) (xCons (xOp oAdd (xVar 3) (xC (.int 1))) (xCons (xOp oSub (xUn oNeg (xVar 3)) (xC (.int 1))) (xCons (xOp oAdd (xVar 3) (xOp oPow (xC (.int 10)) (xC (.int 25)))) xNil)))))) xNil))))
    (bCons (sSet 5 (xCall 2 f__law_take (xCons (xVar 0) (xCons (xVar 3) xNil))))
    (bCons fl__law_things_right_2
    (bCons (sSet 9 (xOp oAdd (xOp oAdd (xSl (xVar 2) pNo (pAt (xVar 5))) (xTup (xCons (xTup (xCons (xVar 5) (xCons (xC (.int 0)) xNil))) xNil))) (xSl (xVar 2) (pAt (xOp oAdd (xVar 5) (xC (.int 1)))) pNo)))
    (sRet (xOp oEqS (xFn kRepr (xCons (xHeard false 3 (fun g0 => u__law_heard g0) (xCall 4 f_standing (xCons (xVar 1) (xCons (xVar 9) (xCons (xVar 4) (xCons (xVar 4) xNil)))))) xNil)) (xFn kRepr (xCons (xCall 2 f__law_refused (xCons (xC (.str "forest")) (xCons (xVar 5) xNil))) xNil)))))))))
noncomputable def f__law_things_right : Fn := fnO false 10 u__law_things_right
theorem g__law_things_right (t : TX K mg) (tl : TL K mg base T) : ∃ f fd, DefK K mg "_law_things_right" s__law_things_right ["source", "rooms", "forest"] f fd ∧ FnG P w K mg base 9 f fd ["source", "rooms", "forest"] (spF K mg T 3 f__law_things_right) := by
  obtain ⟨f, fd, D⟩ := t.p__law_things_right
  obtain ⟨f__law_heard, d__law_heard, D__law_heard⟩ := t.p__law_heard
  obtain ⟨oc2, od2, kV2, doc2, pm2, an2, cd2, ct2, sl2, rfl, lkH, cgH⟩ := D__law_heard.F.ex
  obtain ⟨f__law_one, d__law_one, D__law_one, G__law_one⟩ := g__law_one (P := P) (w := w) (base := base) (T := T) t tl
  obtain ⟨f__law_refused, d__law_refused, D__law_refused, G__law_refused⟩ := g__law_refused (P := P) (w := w) (base := base) (T := T) t tl
  obtain ⟨f__law_take, d__law_take, D__law_take, G__law_take⟩ := g__law_take (P := P) (w := w) (base := base) (T := T) t tl
  obtain ⟨f_standing, d_standing, D_standing, G_standing⟩ := g_standing (P := P) (w := w) (base := base) (T := T) t tl
  obtain ⟨f_standings, d_standings, D_standings, G_standings⟩ := g_standings (P := P) (w := w) (base := base) (T := T) t tl
  have KB_standing := kb_standing D_standing
  obtain ⟨c0, P0, hmT, huT, TB, hco⟩ := tl.l__law_things_right.ex
  refine ⟨f, fd, D, def_okCN (k := 8) N__law_things_right ["source", "rooms", "forest"] 10 3 false u__law_things_right D.F sc__law_things_right rfl rfl fun oc od kV doc pm an cv ct osl efd lk A outer s H E ax hr hgd => ?_⟩
  subst efd
  have hcd : cv = .ref c0 := hco f _ _ _ _ D.g lk
  exact (sb_cons (ss_set (ps_set (i := 3) sc__law_things_right.nd rfl (by first | exact .inl rfl | exact .inr rfl) (se_len (by rfl) t.n_len (sa_cons (se_v (pv 1)) sa_nil))))
      (sb_cons (ss_set (ps_set (i := 4) sc__law_things_right.nd rfl (by first | exact .inl rfl | exact .inr rfl) (se_call (G__law_one.mono (k := 8) (by decide)) hr hgd (by rfl) D__law_one.g D__law_one.F.kp D__law_one.b (L2N.takes_of rfl rfl rfl rfl) (sa_cons (se_v (pv 0)) (sa_cons (se_lst (sa_cons (se_neg se_int) (sa_cons (se_v (pv 3)) (sa_cons (se_add (se_v (pv 3)) se_int) (sa_cons (se_sub (se_neg (se_v (pv 3))) se_int) (sa_cons (se_add (se_v (pv 3)) (se_pow se_int se_int)) sa_nil)))))) sa_nil)))))
      (sb_cons (ss_set (ps_set (i := 5) sc__law_things_right.nd rfl (by first | exact .inl rfl | exact .inr rfl) (se_call (G__law_take.mono (k := 8) (by decide)) hr hgd (by rfl) D__law_take.g D__law_take.F.kp D__law_take.b (L2N.takes_of rfl rfl rfl rfl) (sa_cons (se_v (pv 0)) (sa_cons (se_v (pv 3)) sa_nil)))))
      (sb_cons (ss_for (sl := [6, 7, 8]) (passes_of rfl) rfl (si_seq (se_lst (sa_cons (se_tup (sa_cons (se_v (pv 4)) (sa_cons (se_v (pv 5)) (sa_cons (se_v (pv 4)) sa_nil)))) (sa_cons (se_tup (sa_cons (se_v (pv 5)) (sa_cons (se_v (pv 4)) (sa_cons (se_v (pv 4)) sa_nil)))) (sa_cons (se_tup (sa_cons (se_v (pv 4)) (sa_cons (se_v (pv 3)) (sa_cons (se_v (pv 4)) sa_nil)))) (sa_cons (se_tup (sa_cons (se_v (pv 5)) (sa_cons (se_v (pv 5)) (sa_cons (se_v (pv 5)) sa_nil)))) (sa_cons (se_tup (sa_cons (se_v (pv 4)) (sa_cons (se_v (pv 4)) (sa_cons (se_v (pv 4)) sa_nil)))) sa_nil))))))) (sg_t rfl (sgs_cons (pg_name (i := 6) sc__law_things_right.nd rfl (by first | exact .inl rfl | exact .inr rfl)) (sgs_cons (pg_name (i := 7) sc__law_things_right.nd rfl (by first | exact .inl rfl | exact .inr rfl)) (sgs_cons (pg_name (i := 8) sc__law_things_right.nd rfl (by first | exact .inl rfl | exact .inr rfl)) sgs_nil)))) (sb_cons (ss_if (st_cmp (op_ne.or (op_neD (hu64 hr))) cm_neS (se_repr hgd (by have z := hu66 hr; exact z) (by rfl) t.n_repr (sa_cons (se_heard (k := 6) (keep := false) (Ng := N__law_heard) (u := fun g0 => u__law_heard g0) (by rfl) D__law_heard.g D__law_heard.F.kp lkH cgH D__law_heard.b sc__law_heard rfl (Or.inl rfl) (fun s H E x0 g0 hr2 hcall => b__law_heard t (Nat.succ_le_succ (Nat.zero_le _)) hgd hr2 hcall) TB hcd hmT huT hr hgd (L2N.takes_of rfl rfl rfl rfl) (LamX.lamS_by (by rfl)) rfl (fun _ _ _ _ _ => rfl) (fun A outer s H E f c hr hgd => (se_call (G_standing.mono (k := 6) (by decide)) hr hgd (by rfl) D_standing.g D_standing.F.kp D_standing.b (L2N.takes_of rfl rfl rfl rfl) (sa_cons (se_v (pv 1)) (sa_cons (se_v (pv 2)) (sa_cons (se_v (pv 6)) (sa_cons (se_v (pv 7)) sa_nil))))))) sa_nil)) (se_repr hgd (by have z := hu66 hr; exact z) (by rfl) t.n_repr (sa_cons (se_call (G__law_refused.mono (k := 8) (by decide)) hr hgd (by rfl) D__law_refused.g D__law_refused.F.kp D__law_refused.b (L2N.takes_of rfl rfl rfl rfl) (sa_cons se_str (sa_cons (se_v (pv 8)) sa_nil))) sa_nil))) (sb_one (ss_ret se_bl)) sb_nil)
      (sb_one (ss_if (st_cmp (op_ne.or (op_neD (hu64 hr))) cm_neS (se_repr hgd (by have z := hu66 hr; exact z) (by rfl) t.n_repr (sa_cons (se_heard (k := 6) (keep := false) (Ng := N__law_heard) (u := fun g0 => u__law_heard g0) (by rfl) D__law_heard.g D__law_heard.F.kp lkH cgH D__law_heard.b sc__law_heard rfl (Or.inl rfl) (fun s H E x0 g0 hr2 hcall => b__law_heard t (Nat.succ_le_succ (Nat.zero_le _)) hgd hr2 hcall) TB hcd hmT huT hr hgd (L2N.takes_of rfl rfl rfl rfl) (LamX.lamS_by (by rfl)) rfl (fun _ _ _ _ _ => rfl) (fun A outer s H E f c hr hgd => (se_call (G_standings.mono (k := 6) (by decide)) hr hgd (by rfl) D_standings.g D_standings.F.kp D_standings.b (L2N.takes_of rfl rfl rfl rfl) (sa_cons (se_v (pv 1)) (sa_cons (se_v (pv 6)) (sa_cons (se_v (pv 7)) sa_nil)))))) sa_nil)) (se_repr hgd (by have z := hu66 hr; exact z) (by rfl) t.n_repr (sa_cons (se_call (G__law_refused.mono (k := 8) (by decide)) hr hgd (by rfl) D__law_refused.g D__law_refused.F.kp D__law_refused.b (L2N.takes_of rfl rfl rfl rfl) (sa_cons se_str (sa_cons (se_v (pv 8)) sa_nil))) sa_nil))) (sb_one (ss_ret se_bl)) sb_nil))))
      (sb_cons (ss_set (ps_set (i := 9) sc__law_things_right.nd rfl (by first | exact .inl rfl | exact .inr rfl) (se_add (se_add (se_sl (se_v (pv 2)) so_no (so_at (se_v (pv 5)))) (se_tup (sa_cons (se_tup (sa_cons (se_v (pv 5)) (sa_cons se_int sa_nil))) sa_nil))) (se_sl (se_v (pv 2)) (so_at (se_add (se_v (pv 5)) se_int)) so_no))))
      (sb_one (ss_ret (se_cmp (op_eq.or (op_eqD (hu64 hr))) cm_eqS (se_repr hgd (by have z := hu66 hr; exact z) (by rfl) t.n_repr (sa_cons (se_heard (k := 6) (keep := false) (Ng := N__law_heard) (u := fun g0 => u__law_heard g0) (by rfl) D__law_heard.g D__law_heard.F.kp lkH cgH D__law_heard.b sc__law_heard rfl (Or.inl rfl) (fun s H E x0 g0 hr2 hcall => b__law_heard t (Nat.succ_le_succ (Nat.zero_le _)) hgd hr2 hcall) TB hcd hmT huT hr hgd (L2N.takes_of rfl rfl rfl rfl) (LamX.lamS_by (by rfl)) rfl (fun _ _ _ _ _ => rfl) (fun A outer s H E f c hr hgd => (se_call (G_standing.mono (k := 6) (by decide)) hr hgd (by rfl) D_standing.g D_standing.F.kp D_standing.b (L2N.takes_of rfl rfl rfl rfl) (sa_cons (se_v (pv 1)) (sa_cons (se_v (pv 9)) (sa_cons (se_v (pv 4)) (sa_cons (se_v (pv 4)) sa_nil))))))) sa_nil)) (se_repr hgd (by have z := hu66 hr; exact z) (by rfl) t.n_repr (sa_cons (se_call (G__law_refused.mono (k := 8) (by decide)) hr hgd (by rfl) D__law_refused.g D__law_refused.F.kp D__law_refused.b (L2N.takes_of rfl rfl rfl rfl) (sa_cons se_str (sa_cons (se_v (pv 5)) sa_nil))) sa_nil))))))))))
noncomputable def lc_law_1 : Ex :=
    xLc false (wRng1 (xVar 2)) (gN 6) yes (xCall 2 f__law_one (xCons (xVar 1) (xCons (xLst (xCons (xC (.int 1)) (xCons (xC (.int 2)) (xCons (xC (.int 0)) (xCons (xC (.int 3)) (xCons (xC (.int 4)) xNil)))))) xNil))) [6]
noncomputable def fb_law_2 : Sx :=
    (bCons (sPar 6 7 (xCons (xCall 2 f__law_take (xCons (xVar 1) (xCons (xVar 2) xNil))) (xCons (xCall 2 f__law_take (xCons (xVar 1) (xCons (xVar 2) xNil))) xNil)))
    (sIf (tAn (xB (xOp oNeS (xVar 6) (xVar 7))) (tNt (xB (xCall 4 f__law_pair_right (xCons (xVar 3) (xCons (xVar 4) (xCons (xVar 6) (xCons (xVar 7) xNil)))))))) (sRet (xC (.bool false))) bNil))
noncomputable def fl_law_3 : Sx :=
    sFor (wRng1 (xC (.int 12))) (gN 5) fb_law_2
noncomputable def u_law : Sx :=
    (bCons (sSet 1 (xCall 2 f__law_pool (xCons (xVar 0) (xCons (xC (.int 0)) xNil))))
    (bCons (sSet 2 (xCall 2 f__law_one (xCons (xVar 1) (xCons (xLst (xCons (xC (.int 2)) (xCons (xC (.int 3)) (xCons (xC (.int 5)) (xCons (xC (.int 8)) (xCons (xC (.int 24)) (xCons (xC (.int 1)) (xCons (xC (.int 0)) (xCons (xOp oAdd (xC (.int 1)) (xCall 2 f__law_take (xCons (xVar 1) (xCons (xC (.int 24)) xNil)))) xNil))))))))) xNil))))
    (bCons (sSet 3 (xFn kTuple (xCons lc_law_1 xNil)))
    (bCons (sSet 4 (xCall 2 f__law_grown (xCons (xVar 1) (xCons (xVar 3) xNil))))
    (bCons (sIf (tNt (xB (xCall 2 f__law_is_made_right (xCons (xVar 3) (xCons (xVar 4) xNil))))) (sRet (xC (.bool false))) bNil)
    (bCons (sIf (xB (xOp oEqS (xVar 2) (xC (.int 0)))) (sRet (xOp oEqS (xFn kRepr (xCons (xHeard false 3 (fun g0 => u__law_heard g0) (xCall 4 f_standing (xCons (xTup xNil) (xCons (xTup xNil) (xCons (xC (.int 0)) (xCons (xC (.int 0)) xNil)))))) xNil)) (xFn kRepr (xCons (xCall 2 f__law_refused (xCons (xC (.str "thing")) (xCons (xC (.int 0)) xNil))) xNil)))) bNil)
    (bCons fl_law_3
    (sRet (xAn (xCall 3 f__law_bent_right (xCons (xVar 1) (xCons (xVar 3) (xCons (xVar 4) xNil)))) (xCall 3 f__law_things_right (xCons (xVar 1) (xCons (xVar 3) (xCons (xVar 4) xNil)))))))))))))
noncomputable def f_law : Fn := fnO false 8 u_law
theorem g_law (t : TX K mg) (tl : TL K mg base T) : ∃ f fd, DefK K mg "law" s_law ["script"] f fd ∧ FnG P w K mg base 13 f fd ["script"] (spF K mg T 1 f_law) := by
  obtain ⟨f, fd, D⟩ := t.p_law
  obtain ⟨f__law_bent_right, d__law_bent_right, D__law_bent_right, G__law_bent_right⟩ := g__law_bent_right (P := P) (w := w) (base := base) (T := T) t tl
  obtain ⟨f__law_grown, d__law_grown, D__law_grown, G__law_grown⟩ := g__law_grown (P := P) (w := w) (base := base) (T := T) t tl
  obtain ⟨f__law_heard, d__law_heard, D__law_heard⟩ := t.p__law_heard
  obtain ⟨oc2, od2, kV2, doc2, pm2, an2, cd2, ct2, sl2, rfl, lkH, cgH⟩ := D__law_heard.F.ex
  obtain ⟨f__law_is_made_right, d__law_is_made_right, D__law_is_made_right, G__law_is_made_right⟩ := g__law_is_made_right (P := P) (w := w) (base := base) (T := T) t tl
  obtain ⟨f__law_one, d__law_one, D__law_one, G__law_one⟩ := g__law_one (P := P) (w := w) (base := base) (T := T) t tl
  obtain ⟨f__law_pair_right, d__law_pair_right, D__law_pair_right, G__law_pair_right⟩ := g__law_pair_right (P := P) (w := w) (base := base) (T := T) t tl
  obtain ⟨f__law_pool, d__law_pool, D__law_pool, G__law_pool⟩ := g__law_pool (P := P) (w := w) (base := base) (T := T) t tl
  obtain ⟨f__law_refused, d__law_refused, D__law_refused, G__law_refused⟩ := g__law_refused (P := P) (w := w) (base := base) (T := T) t tl
  obtain ⟨f__law_take, d__law_take, D__law_take, G__law_take⟩ := g__law_take (P := P) (w := w) (base := base) (T := T) t tl
  obtain ⟨f__law_things_right, d__law_things_right, D__law_things_right, G__law_things_right⟩ := g__law_things_right (P := P) (w := w) (base := base) (T := T) t tl
  obtain ⟨f_standing, d_standing, D_standing, G_standing⟩ := g_standing (P := P) (w := w) (base := base) (T := T) t tl
  have KB_standing := kb_standing D_standing
  obtain ⟨c0, P0, hmT, huT, TB, hco⟩ := tl.l_law.ex
  refine ⟨f, fd, D, def_okCN (k := 12) N_law ["script"] 8 1 false u_law D.F sc_law rfl rfl fun oc od kV doc pm an cv ct osl efd lk A outer s H E ax hr hgd => ?_⟩
  subst efd
  have hcd : cv = .ref c0 := hco f _ _ _ _ D.g lk
  exact (sb_cons (ss_set (ps_set (i := 1) sc_law.nd rfl (by first | exact .inl rfl | exact .inr rfl) (se_call (G__law_pool.mono (k := 12) (by decide)) hr hgd (by rfl) D__law_pool.g D__law_pool.F.kp D__law_pool.b (L2N.takes_of rfl rfl rfl rfl) (sa_cons (se_v (pv 0)) (sa_cons se_int sa_nil)))))
      (sb_cons (ss_set (ps_set (i := 2) sc_law.nd rfl (by first | exact .inl rfl | exact .inr rfl) (se_call (G__law_one.mono (k := 12) (by decide)) hr hgd (by rfl) D__law_one.g D__law_one.F.kp D__law_one.b (L2N.takes_of rfl rfl rfl rfl) (sa_cons (se_v (pv 1)) (sa_cons (se_lst (sa_cons se_int (sa_cons se_int (sa_cons se_int (sa_cons se_int (sa_cons se_int (sa_cons se_int (sa_cons se_int (sa_cons (se_add se_int (se_call (G__law_take.mono (k := 12) (by decide)) hr hgd (by rfl) D__law_take.g D__law_take.F.kp D__law_take.b (L2N.takes_of rfl rfl rfl rfl) (sa_cons (se_v (pv 1)) (sa_cons se_int sa_nil)))) sa_nil))))))))) sa_nil)))))
      (sb_cons (ss_set (ps_set (i := 3) sc_law.nd rfl (by first | exact .inl rfl | exact .inr rfl) (se_tuplec (by rfl) t.n_tuple (sa_cons (se_lc (keep := false) (own := [("x", 6)]) rfl sc_law.nd (si_rng1 (by rfl) t.n_range (se_v (pv 2))) (blk_ok (by rfl)) (fun _ _ _ _ _ => (sg_n (pg_name (i := 6) sc_law.nd rfl (by first | exact .inl rfl | exact .inr rfl)))) (fun _ _ _ _ _ => sts_nil) (fun _ _ _ _ _ => (se_call (G__law_one.mono (k := 12) (by decide)) hr hgd (by rfl) D__law_one.g D__law_one.F.kp D__law_one.b tk_no (sa_cons (se_v (pv 1)) (sa_cons (se_lst (sa_cons se_int (sa_cons se_int (sa_cons se_int (sa_cons se_int (sa_cons se_int sa_nil)))))) sa_nil))))) sa_nil))))
      (sb_cons (ss_set (ps_set (i := 4) sc_law.nd rfl (by first | exact .inl rfl | exact .inr rfl) (se_call (G__law_grown.mono (k := 12) (by decide)) hr hgd (by rfl) D__law_grown.g D__law_grown.F.kp D__law_grown.b (L2N.takes_of rfl rfl rfl rfl) (sa_cons (se_v (pv 1)) (sa_cons (se_v (pv 3)) sa_nil)))))
      (sb_cons (ss_if (st_not (st_val (se_call (G__law_is_made_right.mono (k := 12) (by decide)) hr hgd (by rfl) D__law_is_made_right.g D__law_is_made_right.F.kp D__law_is_made_right.b (L2N.takes_of rfl rfl rfl rfl) (sa_cons (se_v (pv 3)) (sa_cons (se_v (pv 4)) sa_nil))))) (sb_one (ss_ret se_bl)) sb_nil)
      (sb_cons (ss_if (st_cmp (op_eq.or (op_eqD (hu64 hr))) cm_eqS (se_v (pv 2)) se_int) (sb_one (ss_ret (se_cmp (op_eq.or (op_eqD (hu64 hr))) cm_eqS (se_repr hgd (by have z := hu66 hr; exact z) (by rfl) t.n_repr (sa_cons (se_heard (k := 10) (keep := false) (Ng := N__law_heard) (u := fun g0 => u__law_heard g0) (by rfl) D__law_heard.g D__law_heard.F.kp lkH cgH D__law_heard.b sc__law_heard rfl (Or.inl rfl) (fun s H E x0 g0 hr2 hcall => b__law_heard t (Nat.succ_le_succ (Nat.zero_le _)) hgd hr2 hcall) TB hcd hmT huT hr hgd (L2N.takes_of rfl rfl rfl rfl) (LamX.lamS_by (by rfl)) rfl (fun _ _ _ _ _ => rfl) (fun A outer s H E f c hr hgd => (se_call (G_standing.mono (k := 10) (by decide)) hr hgd (by rfl) D_standing.g D_standing.F.kp D_standing.b (L2N.takes_of rfl rfl rfl rfl) (sa_cons (se_tup sa_nil) (sa_cons (se_tup sa_nil) (sa_cons se_int (sa_cons se_int sa_nil))))))) sa_nil)) (se_repr hgd (by have z := hu66 hr; exact z) (by rfl) t.n_repr (sa_cons (se_call (G__law_refused.mono (k := 12) (by decide)) hr hgd (by rfl) D__law_refused.g D__law_refused.F.kp D__law_refused.b (L2N.takes_of rfl rfl rfl rfl) (sa_cons se_str (sa_cons se_int sa_nil))) sa_nil))))) sb_nil)
      (sb_cons (ss_for (sl := [5]) (passes_of rfl) rfl (si_rng1 (by rfl) t.n_range se_int) (sg_n (pg_name (i := 5) sc_law.nd rfl (by first | exact .inl rfl | exact .inr rfl))) (sb_cons (ss_par (ps_par (i := 6) (j := 7) rfl sc_law.nd rfl rfl (by decide) rfl rfl (sa_cons (se_call (G__law_take.mono (k := 12) (by decide)) hr hgd (by rfl) D__law_take.g D__law_take.F.kp D__law_take.b (L2N.takes_of rfl rfl rfl rfl) (sa_cons (se_v (pv 1)) (sa_cons (se_v (pv 2)) sa_nil))) (sa_cons (se_call (G__law_take.mono (k := 12) (by decide)) hr hgd (by rfl) D__law_take.g D__law_take.F.kp D__law_take.b (L2N.takes_of rfl rfl rfl rfl) (sa_cons (se_v (pv 1)) (sa_cons (se_v (pv 2)) sa_nil))) sa_nil)) (by rfl)))
      (sb_one (ss_if (st_w (sw_an (st_cmp (op_ne.or (op_neD (hu64 hr))) cm_neS (se_v (pv 6)) (se_v (pv 7))) (sw_an1 (st_not (st_val (se_call (G__law_pair_right.mono (k := 12) (by decide)) hr hgd (by rfl) D__law_pair_right.g D__law_pair_right.F.kp D__law_pair_right.b (L2N.takes_of rfl rfl rfl rfl) (sa_cons (se_v (pv 3)) (sa_cons (se_v (pv 4)) (sa_cons (se_v (pv 6)) (sa_cons (se_v (pv 7)) sa_nil)))))))))) (sb_one (ss_ret se_bl)) sb_nil))))
      (sb_one (ss_ret (se_an (se_call (G__law_bent_right.mono (k := 12) (by decide)) hr hgd (by rfl) D__law_bent_right.g D__law_bent_right.F.kp D__law_bent_right.b (L2N.takes_of rfl rfl rfl rfl) (sa_cons (se_v (pv 1)) (sa_cons (se_v (pv 3)) (sa_cons (se_v (pv 4)) sa_nil)))) (se_one (se_call (G__law_things_right.mono (k := 12) (by decide)) hr hgd (by rfl) D__law_things_right.g D__law_things_right.F.kp D__law_things_right.b (L2N.takes_of rfl rfl rfl rfl) (sa_cons (se_v (pv 1)) (sa_cons (se_v (pv 3)) (sa_cons (se_v (pv 4)) sa_nil)))))))))))))))
end
end Nz

end
section
set_option Elab.async false
set_option linter.all false
set_option maxRecDepth 100000
set_option maxHeartbeats 2000000
namespace Nz
open PySem PySem.Spec PyProof.Rows L2
/-! ### the tests of the package -/
theorem is_number_int {i : Int} {st : Store} : f_is_number [.d (.int i)] st = .ok (.d (.bool true)) st := by
  simp [xVar, xC, xNil, xCons, xTup, xLst, xLstR, disp, xOp, xChain, iOp, oSub, oMod, oLt, oLe, oGt, oGe, oAdd, oEqS, oNeS, oIn, oIs, xB, xTru, tNt, tAn, tOrr, xNt, xAn, xOr, xIf, xUn, oNeg, oIx, xSl, pNo, pAt, oSl, xFn, kLen, kInt, kMax2, kTuple, kList, kListR, kRepr, xIsi, isN, tyN, view, frz, frzAll, wSeq, wEnm, gN, gs0, gs1, gT, bNil, bCons, thenB, sExp, sRet, sIf, sSet, sTup, sPar, sSub, sSub2, putAt, sRaise, fin, retV, entry, fnO, xCall, xApp, xPopAt, yes, sb, tru, isNon, ownOf, oAddL, f_is_number, u_is_number]
theorem is_pair_tup {xs : List PyData} {st : Store} : f_is_pair [.d (.tuple xs)] st = .ok (.d (.bool (decide (xs.length = 2)))) st := by
  simp [xVar, xC, xNil, xCons, xTup, xLst, xLstR, disp, xOp, xChain, iOp, oSub, oMod, oLt, oLe, oGt, oGe, oAdd, oEqS, oNeS, oIn, oIs, xB, xTru, tNt, tAn, tOrr, xNt, xAn, xOr, xIf, xUn, oNeg, oIx, xSl, pNo, pAt, oSl, xFn, kLen, kInt, kMax2, kTuple, kList, kListR, kRepr, xIsi, isN, tyN, view, frz, frzAll, wSeq, wEnm, gN, gs0, gs1, gT, bNil, bCons, thenB, sExp, sRet, sIf, sSet, sTup, sPar, sSub, sSub2, putAt, sRaise, fin, retV, entry, fnO, xCall, xApp, xPopAt, yes, sb, tru, isNon, ownOf, oAddL, f_is_pair, u_is_pair]
  by_cases h : (xs.length : Int) = 2
  · have h' : xs.length = 2 := by omega
    simp [h, h']
  · have h' : ¬ xs.length = 2 := by omega
    simp [h, h']
theorem has_thing_int {rs : List PyData} {i : Int} {st : Store} : f_has_thing [.d (.tuple rs), .d (.int i)] st = .ok (.d (.bool (decide (0 ≤ i ∧ i < rs.length)))) st := by
  by_cases h1 : 0 ≤ i <;> by_cases h2 : i < rs.length <;> simp [xVar, xC, xNil, xCons, xTup, xLst, xLstR, disp, xOp, xChain, iOp, oSub, oMod, oLt, oLe, oGt, oGe, oAdd, oEqS, oNeS, oIn, oIs, xB, xTru, tNt, tAn, tOrr, xNt, xAn, xOr, xIf, xUn, oNeg, oIx, xSl, pNo, pAt, oSl, xFn, kLen, kInt, kMax2, kTuple, kList, kListR, kRepr, xIsi, isN, tyN, view, frz, frzAll, wSeq, wEnm, gN, gs0, gs1, gT, bNil, bCons, thenB, sExp, sRet, sIf, sSet, sTup, sPar, sSub, sSub2, putAt, sRaise, fin, retV, entry, fnO, xCall, xApp, xPopAt, yes, sb, tru, isNon, ownOf, oAddL, f_has_thing, u_has_thing, is_number_int, h1, h2]
theorem atI_at {α : Type} {xs : List α} {i : Int} (h1 : 0 ≤ i) (h2 : i < xs.length) : atI xs i = xs[i.toNat]? := by
  obtain ⟨n, rfl⟩ := Int.eq_ofNat_of_zero_le h1
  have h : n < xs.length := by omega
  rw [Int.toNat_natCast, List.getElem?_eq_getElem h]
  exact atI_nat (List.getElem?_eq_getElem h)
theorem atI_n {α : Type} {xs : List α} {n : Nat} {x : α} (h : xs[n]? = some x) : atI xs (n : Int) = some x := atI_nat h
theorem has_room_ok {rs : List Int} {h r : Int} {st : Store} : f_has_room [.d (.tuple (rs.map .int)), .d (.int h), .d (.int r)] st = .ok (.d (.bool (decide (0 ≤ h ∧ h < rs.length ∧ 0 ≤ r ∧ ∃ m, rs[h.toNat]? = some m ∧ r < m)))) st := by
  by_cases h1 : 0 ≤ h ∧ h < rs.length
  · obtain ⟨a, b⟩ := h1
    have hl : h.toNat < rs.length := by omega
    have e : atI (rs.map PyData.int) h = some (.int rs[h.toNat]) := by
      rw [atI_at a (by rw [List.length_map]; exact b), List.getElem?_map, List.getElem?_eq_getElem hl]
      rfl
    by_cases h2 : 0 ≤ r <;> by_cases h3 : r < rs[h.toNat] <;> simp [xVar, xC, xNil, xCons, xTup, xLst, xLstR, disp, xOp, xChain, iOp, oSub, oMod, oLt, oLe, oGt, oGe, oAdd, oEqS, oNeS, oIn, oIs, xB, xTru, tNt, tAn, tOrr, xNt, xAn, xOr, xIf, xUn, oNeg, oIx, xSl, pNo, pAt, oSl, xFn, kLen, kInt, kMax2, kTuple, kList, kListR, kRepr, xIsi, isN, tyN, view, frz, frzAll, wSeq, wEnm, gN, gs0, gs1, gT, bNil, bCons, thenB, sExp, sRet, sIf, sSet, sTup, sPar, sSub, sSub2, putAt, sRaise, fin, retV, entry, fnO, xCall, xApp, xPopAt, yes, sb, tru, isNon, ownOf, oAddL, f_has_room, u_has_room, has_thing_int, is_number_int, a, b, e, h2, h3, hl]
  · have h1' : ¬ (0 ≤ h ∧ h < (rs.map PyData.int).length) := by rw [List.length_map]; exact h1
    have h1'' : ¬ (0 ≤ h ∧ h < rs.length ∧ 0 ≤ r ∧ ∃ m, rs[h.toNat]? = some m ∧ r < m) := fun z => h1 ⟨z.1, z.2.1⟩
    have e : f_has_thing [.d (.tuple (rs.map .int)), .d (.int h)] st = .ok (.d (.bool false)) st := by
      rw [has_thing_int, decide_eq_false h1']
    rw [decide_eq_false h1'']
    simp [xVar, xC, xNil, xCons, xTup, xLst, xLstR, disp, xOp, xChain, iOp, oSub, oMod, oLt, oLe, oGt, oGe, oAdd, oEqS, oNeS, oIn, oIs, xB, xTru, tNt, tAn, tOrr, xNt, xAn, xOr, xIf, xUn, oNeg, oIx, xSl, pNo, pAt, oSl, xFn, kLen, kInt, kMax2, kTuple, kList, kListR, kRepr, xIsi, isN, tyN, view, frz, frzAll, wSeq, wEnm, gN, gs0, gs1, gT, bNil, bCons, thenB, sExp, sRet, sIf, sSet, sTup, sPar, sSub, sSub2, putAt, sRaise, fin, retV, entry, fnO, xCall, xApp, xPopAt, yes, sb, tru, isNon, ownOf, oAddL, f_has_room, u_has_room, e]
theorem check_ok {rs : List PyData} {i : Int} {st : Store} : f_check_thing [.d (.tuple rs), .d (.int i)] st = if 0 ≤ i ∧ i < rs.length then .ok (.d .none) st else .exc "BadThing" (.int i) st := by
  by_cases h : 0 ≤ i ∧ i < rs.length <;> simp [xVar, xC, xNil, xCons, xTup, xLst, xLstR, disp, xOp, xChain, iOp, oSub, oMod, oLt, oLe, oGt, oGe, oAdd, oEqS, oNeS, oIn, oIs, xB, xTru, tNt, tAn, tOrr, xNt, xAn, xOr, xIf, xUn, oNeg, oIx, xSl, pNo, pAt, oSl, xFn, kLen, kInt, kMax2, kTuple, kList, kListR, kRepr, xIsi, isN, tyN, view, frz, frzAll, wSeq, wEnm, gN, gs0, gs1, gT, bNil, bCons, thenB, sExp, sRet, sIf, sSet, sTup, sPar, sSub, sSub2, putAt, sRaise, fin, retV, entry, fnO, xCall, xApp, xPopAt, yes, sb, tru, isNon, ownOf, oAddL, f_check_thing, u_check_thing, has_thing_int, h]
end Nz

end
section
set_option Elab.async false
set_option linter.all false
set_option maxRecDepth 100000
set_option maxHeartbeats 2000000
namespace Nz
open PySem PySem.Spec PyProof.Rows L2
/-! ### loops, as plain functions -/
/-- what a turn leaves -/
def Turn (G : Env' → Store → Prop) (R : Fl → Store → Prop) (r : Fl) (st : Store) : Prop := match r with
  | .nx e => G e st
  | .ct e => G e st
  | .bk e => R (.nx e) st
  | .rt a => R (.rt a) st
  | .ex e c x => R (.ex e c x) st
theorem forL_run {t : Tg} {u : Sx} {xs : List PyData} {R : Fl → Store → Prop} (Pr : Nat → Env' → Store → Prop)
    (step : ∀ i d env st, xs[i]? = some d → Pr i env st → ∃ env1, t (.d d) env = some env1 ∧ ∃ r st2, u env1 st = .ok r st2 ∧ Turn (Pr (i + 1)) R r st2)
    (done : ∀ env st, Pr xs.length env st → R (.nx env) st) {env : Env'} {st : Store} (h : Pr 0 env st) : ∃ r st', forL t u (xs, none) xs env st = .ok r st' ∧ R r st' := by
  have key : ∀ (ys : List PyData) (i : Nat) (env : Env') (st : Store), xs.drop i = ys → i ≤ xs.length → Pr i env st → ∃ r st', forL t u (xs, none) ys env st = .ok r st' ∧ R r st' := by
    intro ys
    induction ys with
    | nil =>
      intro i env st e hi hp
      have hi : i = xs.length := by
        have := congrArg List.length e
        simp at this
        omega
      subst hi
      refine ⟨.nx env, st, ?_, done env st hp⟩
      unfold forL
      rw [if_pos (show okOwn (xs, none) st from trivial)]
    | cons d ds ih =>
      intro i env st e hi hp
      have hd : xs[i]? = some d := by
        have z := congrArg (fun l => l[0]?) e
        simpa using z
      obtain ⟨env1, ht, r, st2, hu, hr⟩ := step i d env st hd hp
      have hlt : i < xs.length := (List.getElem?_eq_some_iff.mp hd).1
      have e2 : xs.drop (i + 1) = ds := by
        have z := congrArg List.tail e
        simpa using z
      unfold forL
      rw [if_pos (show okOwn (xs, none) st from trivial), ht]
      dsimp only
      rw [hu, bind_ok]
      cases r with
      | nx e => exact ih (i + 1) e st2 e2 hlt hr
      | ct e => exact ih (i + 1) e st2 e2 hlt hr
      | bk e => exact ⟨_, _, rfl, hr⟩
      | rt a => exact ⟨_, _, rfl, hr⟩
      | ex e c x => exact ⟨_, _, rfl, hr⟩
  exact key xs 0 env st rfl (Nat.zero_le _) h
theorem sFor_run {w : Ix'} {t : Tg} {u : Sx} {xs : List PyData} {env : Env'} {st : Store} {R : Fl → Store → Prop} (hw : w env st = .ok (xs, none) st) (Pr : Nat → Env' → Store → Prop) (h : Pr 0 env st)
    (step : ∀ i d env st, xs[i]? = some d → Pr i env st → ∃ env1, t (.d d) env = some env1 ∧ ∃ r st2, u env1 st = .ok r st2 ∧ Turn (Pr (i + 1)) R r st2)
    (done : ∀ env st, Pr xs.length env st → R (.nx env) st) : ∃ r st', sFor w t u env st = .ok r st' ∧ R r st' := by
  unfold sFor
  rw [hw, sb_ok]
  exact forL_run Pr step done h
theorem whl_run {p : Tx} {u : Sx} {R : Fl → Store → Prop} (Pr : Nat → Env' → Store → Prop)
    (step : ∀ m env st, Pr m env st → (∃ st', p env st = .ok false st' ∧ R (.nx env) st') ∨ ∃ st1, p env st = .ok true st1 ∧ ∃ r st2, u env st1 = .ok r st2 ∧ Turn (fun e s => ∃ m', m' < m ∧ Pr m' e s) R r st2)
    {m : Nat} {env : Env'} {st : Store} (hm : m < fuel) (h : Pr m env st) : ∃ r st', sWhl p u env st = .ok r st' ∧ R r st' := by
  have key : ∀ (n m : Nat) (env : Env') (st : Store), m < n → Pr m env st → ∃ r st', whl p u n env st = .ok r st' ∧ R r st' := by
    intro n
    induction n with
    | zero => intro m env st h; omega
    | succ n ih =>
      intro m env st hm h
      unfold whl
      rcases step m env st h with ⟨st', e, hr⟩ | ⟨st1, e, r, st2, hu, hr⟩
      · rw [e, sb_ok, if_neg Bool.false_ne_true]
        exact ⟨_, _, rfl, hr⟩
      · rw [e, sb_ok, if_pos rfl, hu, bind_ok]
        cases r with
        | nx e => obtain ⟨m', h1, h2⟩ := hr; exact ih m' e st2 (by omega) h2
        | ct e => obtain ⟨m', h1, h2⟩ := hr; exact ih m' e st2 (by omega) h2
        | bk e => exact ⟨_, _, rfl, hr⟩
        | rt a => exact ⟨_, _, rfl, hr⟩
        | ex e c x => exact ⟨_, _, rfl, hr⟩
  exact key fuel m env st hm h
theorem sz_line : 1000 < sizeLine := small1000 (Nat.le_refl _)
/-- a comprehension: each turn, what it adds -/
theorem lc_run {keep : Bool} {w : Ix'} {t : Tg} {p : Tx} {f : Ex} {vs : List Nat} {env : Env'} {st : Store} {xs : List PyData} (Pr : Nat → List PyData → Store → Prop) (hw : w env st = .ok (xs, none) st) (small : xs.length ≤ 1000)
    (step : ∀ i d acc base, xs[i]? = some d → base.length = st.length → Pr i acc base → ∃ env1, t (.d d) (wipeE env vs) = some env1 ∧
      ((p env1 (base ++ [some acc]) = .ok false (base ++ [some acc]) ∧ Pr (i + 1) acc base) ∨
       (p env1 (base ++ [some acc]) = .ok true (base ++ [some acc]) ∧ ∃ x base', base'.length = st.length ∧ f env1 (base ++ [some acc]) = .ok (.d x) (base' ++ [some acc]) ∧ Pr (i + 1) (acc ++ [x]) base')))
    (h : Pr 0 [] st) : ∃ acc base, xLc keep w t p f vs env st = (if keep = true then .ok (.ref st.length) (base ++ [some acc]) else .ok (.d (.list acc)) base) ∧ base.length = st.length ∧ Pr xs.length acc base := by
  have key : ∀ (ys : List PyData) (i : Nat) (acc : List PyData) (base : Store), xs.drop i = ys → i ≤ xs.length → acc.length ≤ i → base.length = st.length → Pr i acc base →
      ∃ acc' base', lcL t p f vs (xs, none) st.length env ys (base ++ [some acc]) = .ok () (base' ++ [some acc']) ∧ base'.length = st.length ∧ Pr xs.length acc' base' := by
    intro ys
    induction ys with
    | nil =>
      intro i acc base e hi ha hb hp
      have hi : i = xs.length := by
        have := congrArg List.length e
        simp at this
        omega
      subst hi
      refine ⟨acc, base, ?_, hb, hp⟩
      unfold lcL
      rw [if_pos (show okOwn (xs, none) _ from trivial)]
    | cons d ds ih =>
      intro i acc base e hi ha hb hp
      have hd : xs[i]? = some d := by
        have z := congrArg (fun l => l[0]?) e
        simpa using z
      have hlt : i < xs.length := (List.getElem?_eq_some_iff.mp hd).1
      have e2 : xs.drop (i + 1) = ds := by
        have z := congrArg List.tail e
        simpa using z
      obtain ⟨env1, ht, q⟩ := step i d acc base hd hb hp
      unfold lcL
      rw [if_pos (show okOwn (xs, none) _ from trivial), ht]
      dsimp only
      rcases q with ⟨q1, q2⟩ | ⟨q1, x, base', hb', q2, q3⟩
      · rw [q1, safe_ok, bind_ok, if_neg Bool.false_ne_true]
        exact ih (i + 1) acc base e2 hlt (by omega) hb q2
      · rw [q1, safe_ok, bind_ok, if_pos rfl, q2, safe_ok, bind_ok]
        have g : (base' ++ [some acc])[st.length]? = some (some acc) := by
          rw [← hb', List.getElem?_append_right (Nat.le_refl _), Nat.sub_self]
          rfl
        have s : (base' ++ [some acc]).set st.length (some (acc ++ [x])) = base' ++ [some (acc ++ [x])] := by
          rw [← hb', List.set_append_right _ _ (Nat.le_refl _), Nat.sub_self]
          rfl
        simp only [frz]
        rw [g]
        dsimp only
        rw [if_pos (show acc.length < sizeLine from Nat.lt_of_le_of_lt (by omega) sz_line), s]
        exact ih (i + 1) (acc ++ [x]) base' e2 hlt (by rw [List.length_append]; simp; omega) hb' q3
  obtain ⟨acc, base, e, hb, hp⟩ := key xs 0 [] st rfl (Nat.zero_le _) (Nat.le_refl _) rfl h
  refine ⟨acc, base, ?_, hb, hp⟩
  unfold xLc
  rw [hw, bind_ok, e, bind_ok]
  unfold lcEnd
  have g : (base ++ [some acc])[st.length]? = some (some acc) := by
    rw [← hb, List.getElem?_append_right (Nat.le_refl _), Nat.sub_self]
    rfl
  rw [g]
  dsimp only
  split
  · rw [List.take_of_length_le (by rw [List.length_append, hb]; exact Nat.le_refl _)]
  · rw [← hb, List.take_left]
/-- a comprehension that changes nothing -/
theorem lc_map {w : Ix'} {t : Tg} {p : Tx} {f : Ex} {vs : List Nat} {env : Env'} {st : Store} {xs : List PyData} (q : PyData → Bool) (g : PyData → PyData) (hw : w env st = .ok (xs, none) st) (small : xs.length ≤ 1000)
    (step : ∀ d acc, d ∈ xs → ∃ env1, t (.d d) (wipeE env vs) = some env1 ∧ p env1 (st ++ [some acc]) = .ok (q d) (st ++ [some acc]) ∧ (q d = true → f env1 (st ++ [some acc]) = .ok (.d (g d)) (st ++ [some acc]))) (keep : Bool) :
    xLc keep w t p f vs env st = (if keep = true then .ok (.ref st.length) (st ++ [some ((xs.filter q).map g)]) else .ok (.d (.list ((xs.filter q).map g))) st) := by
  obtain ⟨acc, base, e, hb, h1, h2⟩ := lc_run (keep := keep) (w := w) (t := t) (p := p) (f := f) (vs := vs) (env := env) (fun i acc base => base = st ∧ acc = ((xs.take i).filter q).map g) hw small (fun i d acc base hd hb ⟨h1, h2⟩ => by
    subst h1
    have hm : d ∈ xs := List.mem_of_getElem? hd
    obtain ⟨env1, ht, hp, hf⟩ := step d acc hm
    have tk : xs.take (i + 1) = xs.take i ++ [d] := by
      rw [List.take_add_one, hd]
      rfl
    refine ⟨env1, ht, ?_⟩
    cases hq : q d with
    | false =>
      refine .inl ⟨by rw [hp, hq], rfl, ?_⟩
      rw [h2, tk, List.filter_append]
      simp [hq]
    | true =>
      refine .inr ⟨by rw [hp, hq], g d, base, rfl, hf hq, rfl, ?_⟩
      rw [h2, tk, List.filter_append]
      simp [hq]) ⟨rfl, rfl⟩
  rw [e, h1, h2, List.take_length]
theorem e62 : (2 : Int) ^ 62 = 4611686018427387904 := rfl
theorem in62 {j : Int} (h0 : 0 ≤ j) (h : j ≤ 1000) : -(2 ^ 62) ≤ j ∧ j < 2 ^ 62 := by
  rw [e62]
  omega
theorem wRng1_ok {f : Ex} {env : Env'} {st st' : Store} {j : Int} (hf : f env st = .ok (.d (.int j)) st') (h0 : 0 ≤ j) (h : j ≤ 1000) : wRng1 f env st = .ok (rng 0 j.toNat, none) st' := by
  unfold wRng1
  rw [hf, bind_ok]
  dsimp only
  rw [if_pos (in62 h0 h)]
theorem wRng2_ok {f g : Ex} {env : Env'} {st st' st2 : Store} {i j : Int} (hf : f env st = .ok (.d (.int i)) st') (hg : g env st' = .ok (.d (.int j)) st2) (i0 : 0 ≤ i) (i1 : i ≤ 1000) (h0 : 0 ≤ j) (h : j ≤ 1000) : wRng2 f g env st = .ok (rng i (j - i).toNat, none) st2 := by
  unfold wRng2
  rw [hf, bind_ok, hg, bind_ok]
  dsimp only
  have a := in62 i0 i1
  have b := in62 h0 h
  rw [if_pos ⟨a.1, a.2, b.1, b.2⟩]
/-! statement by statement -/
theorem bc_nx {u v : Sx} {env env2 : Env'} {st st2 : Store} (h : u env st = .ok (.nx env2) st2) : bCons u v env st = v env2 st2 := by
  unfold bCons; rw [h]; rfl
theorem bc_rt {u v : Sx} {env : Env'} {a : EV} {st st2 : Store} (h : u env st = .ok (.rt a) st2) : bCons u v env st = .ok (.rt a) st2 := by
  unfold bCons; rw [h]; rfl
theorem bc_ex {u v : Sx} {env e : Env'} {c : Str} {x : PyData} {st st2 : Store} (h : u env st = .ok (.ex e c x) st2) : bCons u v env st = .ok (.ex e c x) st2 := by
  unfold bCons; rw [h]; rfl
theorem fn_rt {keep : Bool} {n : Nat} {u : Sx} {args : List EV} {st st2 : Store} {d : PyData} (h : u (entry n args) st = .ok (.rt (.d d)) st2) : fnO keep n u args st = .ok (.d d) (st2.take st.length) := by
  unfold fnO; rw [h]; rfl
theorem fn_nx {keep : Bool} {n : Nat} {u : Sx} {args : List EV} {st st2 : Store} {e : Env'} (h : u (entry n args) st = .ok (.nx e) st2) : fnO keep n u args st = .ok (.d .none) (st2.take st.length) := by
  unfold fnO; rw [h]; rfl
theorem fn_ex {keep : Bool} {n : Nat} {u : Sx} {args : List EV} {st st2 : Store} {e : Env'} {c : Str} {x : PyData} (h : u (entry n args) st = .ok (.ex e c x) st2) : fnO keep n u args st = .exc c x (st2.take st.length) := by
  unfold fnO; rw [h]; rfl
/-- an own list made by the call is given back -/
theorem fn_own {n : Nat} {u : Sx} {args : List EV} {st base : Store} {ds : List PyData} {more : Store} (h : u (entry n args) st = .ok (.rt (.ref st.length)) (base ++ some ds :: more)) (hb : base.length = st.length) : fnO false n u args st = .ok (.d (.list ds)) base := by
  unfold fnO; rw [h]
  unfold fin retV
  dsimp only
  rw [if_neg (Nat.lt_irrefl _)]
  have g : (base ++ some ds :: more)[st.length]? = some (some ds) := by
    rw [← hb, List.getElem?_append_right (Nat.le_refl _), Nat.sub_self]
    rfl
  rw [g]
  dsimp only
  rw [if_neg Bool.false_ne_true, ← hb, List.take_left]
theorem s_exp {f : Ex} {env : Env'} {st st2 : Store} {a : EV} (h : f env st = .ok a st2) : sExp f env st = .ok (.nx env) st2 := by unfold sExp; rw [h]; rfl
theorem s_expX {f : Ex} {env : Env'} {st st2 : Store} {c : Str} {x : PyData} (h : f env st = .exc c x st2) : sExp f env st = .ok (.ex env c x) st2 := by unfold sExp; rw [h]; rfl
theorem s_ret {f : Ex} {env : Env'} {st st2 : Store} {a : EV} (h : f env st = .ok a st2) : sRet f env st = .ok (.rt a) st2 := by unfold sRet; rw [h]; rfl
theorem s_set {i : Nat} {f : Ex} {env : Env'} {st st2 : Store} {a : EV} (h : f env st = .ok a st2) : sSet i f env st = .ok (.nx (env.set i (some a))) st2 := by unfold sSet; rw [h]; rfl
theorem s_ifT {p : Tx} {u v : Sx} {env : Env'} {st st2 : Store} (h : p env st = .ok true st2) : sIf p u v env st = u env st2 := by unfold sIf; rw [h]; rfl
theorem s_ifF {p : Tx} {u v : Sx} {env : Env'} {st st2 : Store} (h : p env st = .ok false st2) : sIf p u v env st = v env st2 := by unfold sIf; rw [h]; rfl
theorem x_cons {f : Ex} {g : Ax} {env : Env'} {st st1 st2 : Store} {a : EV} {as : List EV} (h1 : f env st = .ok a st1) (h2 : g env st1 = .ok as st2) : xCons f g env st = .ok (a :: as) st2 := by
  unfold xCons; rw [h1, bind_ok, h2, bind_ok]
theorem x_op {k : EV → EV → Store → Out EV} {f g : Ex} {env : Env'} {st st1 st2 st3 : Store} {a b c : EV} (h1 : f env st = .ok a st1) (h2 : g env st1 = .ok b st2) (h3 : k a b st2 = .ok c st3) : xOp k f g env st = .ok c st3 := by
  unfold xOp; rw [h1, bind_ok, h2, bind_ok, h3]
theorem x_fn {k : List EV → Store → Out EV} {f : Ax} {env : Env'} {st st1 st2 : Store} {as : List EV} {c : EV} (h1 : f env st = .ok as st1) (h2 : k as st1 = .ok c st2) : xFn k f env st = .ok c st2 := by
  unfold xFn; rw [h1, bind_ok, h2]
theorem x_call {n : Nat} {k : Fn} {f : Ax} {env : Env'} {st st1 st2 : Store} {as : List EV} {c : EV} (h1 : f env st = .ok as st1) (hn : as.length = n) (h2 : k as st1 = .ok c st2) : xCall n k f env st = .ok c st2 := by
  unfold xCall; rw [h1, bind_ok, if_pos hn, h2]
end Nz

end
section
set_option Elab.async false
set_option linter.all false
set_option maxRecDepth 100000
set_option maxHeartbeats 2000000
namespace Nz
open PySem PySem.Spec PyProof.Rows L2
/-! ### rooms, forests -/
/-- rooms as numbers -/
def RoomsOk (rs : List Int) : Prop := rs.length ≤ 24 ∧ ∀ m ∈ rs, 0 ≤ m ∧ m ≤ 4
abbrev pR (rs : List Int) : PyData := .tuple (rs.map .int)
abbrev Pl := Option (Int × Int)
def pP : Pl → PyData
  | none => .none
  | some (h, r) => .tuple [.int h, .int r]
abbrev pF (fo : List Pl) : PyData := .tuple (fo.map pP)
theorem made_rooms_ok {rs : List Int} {st : Store} (h : RoomsOk rs) : f_made_rooms [.d (pR rs)] st = .ok (.d (pR rs)) st := by
  obtain ⟨h1, h2⟩ := h
  have hl : ¬ (24 < (rs.length : Int)) := by omega
  obtain ⟨r, st', e, ⟨a, b, hr⟩, hs⟩ := sFor_run (w := wEnm (xVar 0)) (t := gT 2 (gs1 1 (gs1 2 gs0))) (u := fb_made_rooms_1) (xs := enm (rs.map .int)) (env := [some (.d (pR rs)), none, none]) (st := st)
    (R := fun r st' => (∃ a b, r = .nx [some (.d (pR rs)), a, b]) ∧ st' = st) (by simp [xVar, xC, xNil, xCons, xTup, xLst, xLstR, disp, xOp, xChain, iOp, oSub, oMod, oLt, oLe, oGt, oGe, oAdd, oEqS, oNeS, oIn, oIs, xB, xTru, tNt, tAn, tOrr, xNt, xAn, xOr, xIf, xUn, oNeg, oIx, xSl, pNo, pAt, oSl, xFn, kLen, kInt, kMax2, kTuple, kList, kListR, kRepr, xIsi, isN, tyN, view, frz, frzAll, wSeq, wEnm, gN, gs0, gs1, gT, bNil, bCons, thenB, sExp, sRet, sIf, sSet, sTup, sPar, sSub, sSub2, putAt, sRaise, fin, retV, entry, fnO, xCall, xApp, xPopAt, yes, sb, tru, isNon, ownOf, oAddL]) (fun _ env st' => (∃ a b, env = [some (.d (pR rs)), a, b]) ∧ st' = st) ⟨⟨_, _, rfl⟩, rfl⟩
    (fun i d env st2 hd ⟨⟨a, b, he⟩, hs⟩ => by
      subst he hs
      obtain ⟨x, hx, rfl⟩ := enm_get hd
      rw [List.getElem?_map] at hx
      obtain ⟨m, hm, rfl⟩ := Option.map_eq_some_iff.mp hx
      obtain ⟨m1, m2⟩ := h2 m (List.mem_of_getElem? hm)
      refine ⟨[some (.d (pR rs)), some (.d (.int i)), some (.d (.int m))], by simp [xVar, xC, xNil, xCons, xTup, xLst, xLstR, disp, xOp, xChain, iOp, oSub, oMod, oLt, oLe, oGt, oGe, oAdd, oEqS, oNeS, oIn, oIs, xB, xTru, tNt, tAn, tOrr, xNt, xAn, xOr, xIf, xUn, oNeg, oIx, xSl, pNo, pAt, oSl, xFn, kLen, kInt, kMax2, kTuple, kList, kListR, kRepr, xIsi, isN, tyN, view, frz, frzAll, wSeq, wEnm, gN, gs0, gs1, gT, bNil, bCons, thenB, sExp, sRet, sIf, sSet, sTup, sPar, sSub, sSub2, putAt, sRaise, fin, retV, entry, fnO, xCall, xApp, xPopAt, yes, sb, tru, isNon, ownOf, oAddL], .nx [some (.d (pR rs)), some (.d (.int i)), some (.d (.int m))], st2, ?_, ⟨_, _, rfl⟩, rfl⟩
      simp [xVar, xC, xNil, xCons, xTup, xLst, xLstR, disp, xOp, xChain, iOp, oSub, oMod, oLt, oLe, oGt, oGe, oAdd, oEqS, oNeS, oIn, oIs, xB, xTru, tNt, tAn, tOrr, xNt, xAn, xOr, xIf, xUn, oNeg, oIx, xSl, pNo, pAt, oSl, xFn, kLen, kInt, kMax2, kTuple, kList, kListR, kRepr, xIsi, isN, tyN, view, frz, frzAll, wSeq, wEnm, gN, gs0, gs1, gT, bNil, bCons, thenB, sExp, sRet, sIf, sSet, sTup, sPar, sSub, sSub2, putAt, sRaise, fin, retV, entry, fnO, xCall, xApp, xPopAt, yes, sb, tru, isNon, ownOf, oAddL, fb_made_rooms_1, is_number_int, m1, m2])
    (fun env st2 ⟨⟨a, b, he⟩, hs⟩ => ⟨⟨a, b, by rw [he]⟩, hs⟩)
  subst hr hs
  have e2 : fl_made_rooms_2 [some (.d (pR rs)), none, none] st' = _ := e
  simp [xVar, xC, xNil, xCons, xTup, xLst, xLstR, disp, xOp, xChain, iOp, oSub, oMod, oLt, oLe, oGt, oGe, oAdd, oEqS, oNeS, oIn, oIs, xB, xTru, tNt, tAn, tOrr, xNt, xAn, xOr, xIf, xUn, oNeg, oIx, xSl, pNo, pAt, oSl, xFn, kLen, kInt, kMax2, kTuple, kList, kListR, kRepr, xIsi, isN, tyN, view, frz, frzAll, wSeq, wEnm, gN, gs0, gs1, gT, bNil, bCons, thenB, sExp, sRet, sIf, sSet, sTup, sPar, sSub, sSub2, putAt, sRaise, fin, retV, entry, fnO, xCall, xApp, xPopAt, yes, sb, tru, isNon, ownOf, oAddL, f_made_rooms, u_made_rooms, hl, e2]
/-- a place that thing x may have -/
def plOk (rs : List Int) (x : Int) : Pl → Bool
  | none => true
  | some (h, r) => decide (0 ≤ h ∧ h < rs.length ∧ 0 ≤ r ∧ ∃ m, rs[h.toNat]? = some m ∧ r < m) && decide (h ≠ x)
theorem at0 {a b : PyData} : atI [a, b] 0 = some a := rfl
theorem at1 {a b : PyData} : atI [a, b] 1 = some b := rfl
theorem may_have_eq {rs : List Int} {x : Int} {p : Pl} {st : Store} : f__may_have [.d (pR rs), .d (.int x), .d (pP p)] st = .ok (.d (.bool (plOk rs x p))) st := by
  cases p with
  | none => simp [xVar, xC, xNil, xCons, xTup, xLst, xLstR, disp, xOp, xChain, iOp, oSub, oMod, oLt, oLe, oGt, oGe, oAdd, oEqS, oNeS, oIn, oIs, xB, xTru, tNt, tAn, tOrr, xNt, xAn, xOr, xIf, xUn, oNeg, oIx, xSl, pNo, pAt, oSl, xFn, kLen, kInt, kMax2, kTuple, kList, kListR, kRepr, xIsi, isN, tyN, view, frz, frzAll, wSeq, wEnm, gN, gs0, gs1, gT, bNil, bCons, thenB, sExp, sRet, sIf, sSet, sTup, sPar, sSub, sSub2, putAt, sRaise, fin, retV, entry, fnO, xCall, xApp, xPopAt, yes, sb, tru, isNon, ownOf, oAddL, f__may_have, u__may_have, pP, plOk]
  | some q =>
    obtain ⟨h, r⟩ := q
    cases hb : decide (0 ≤ h ∧ h < rs.length ∧ 0 ≤ r ∧ ∃ m, rs[h.toNat]? = some m ∧ r < m) with
    | false =>
      have e : f_has_room [.d (pR rs), .d (.int h), .d (.int r)] st = .ok (.d (.bool false)) st := by rw [has_room_ok, hb]
      have g : plOk rs x (some (h, r)) = false := by unfold plOk; dsimp only; rw [hb]; rfl
      rw [g]
      simp [xVar, xC, xNil, xCons, xTup, xLst, xLstR, disp, xOp, xChain, iOp, oSub, oMod, oLt, oLe, oGt, oGe, oAdd, oEqS, oNeS, oIn, oIs, xB, xTru, tNt, tAn, tOrr, xNt, xAn, xOr, xIf, xUn, oNeg, oIx, xSl, pNo, pAt, oSl, xFn, kLen, kInt, kMax2, kTuple, kList, kListR, kRepr, xIsi, isN, tyN, view, frz, frzAll, wSeq, wEnm, gN, gs0, gs1, gT, bNil, bCons, thenB, sExp, sRet, sIf, sSet, sTup, sPar, sSub, sSub2, putAt, sRaise, fin, retV, entry, fnO, xCall, xApp, xPopAt, yes, sb, tru, isNon, ownOf, oAddL, f__may_have, u__may_have, pP, is_pair_tup, at0, at1, e]
    | true =>
      have e : f_has_room [.d (pR rs), .d (.int h), .d (.int r)] st = .ok (.d (.bool true)) st := by rw [has_room_ok, hb]
      have g : plOk rs x (some (h, r)) = decide (h ≠ x) := by unfold plOk; dsimp only; rw [hb]; rfl
      rw [g]
      simp [xVar, xC, xNil, xCons, xTup, xLst, xLstR, disp, xOp, xChain, iOp, oSub, oMod, oLt, oLe, oGt, oGe, oAdd, oEqS, oNeS, oIn, oIs, xB, xTru, tNt, tAn, tOrr, xNt, xAn, xOr, xIf, xUn, oNeg, oIx, xSl, pNo, pAt, oSl, xFn, kLen, kInt, kMax2, kTuple, kList, kListR, kRepr, xIsi, isN, tyN, view, frz, frzAll, wSeq, wEnm, gN, gs0, gs1, gT, bNil, bCons, thenB, sExp, sRet, sIf, sSet, sTup, sPar, sSub, sSub2, putAt, sRaise, fin, retV, entry, fnO, xCall, xApp, xPopAt, yes, sb, tru, isNon, ownOf, oAddL, f__may_have, u__may_have, pP, is_pair_tup, at0, at1, e]
/-- climbing from a place -/
def climb (fo : List Pl) : Nat → Pl → List (Int × Int)
  | 0, _ => []
  | _ + 1, none => []
  | n + 1, some (h, r) => (h, r) :: climb fo n (fo[h.toNat]?.getD none)
/-- holders are things -/
def Inside (fo : List Pl) : Prop := ∀ h r, some (h, r) ∈ fo → 0 ≤ h ∧ h < fo.length
theorem fo_at {fo : List Pl} {h : Int} (h1 : 0 ≤ h) (h2 : h < fo.length) : atI (fo.map pP) h = some (pP (fo[h.toNat]?.getD none)) := by
  have hl : h.toNat < fo.length := by omega
  rw [atI_at h1 (by rw [List.length_map]; exact h2), List.getElem?_map, List.getElem?_eq_getElem hl]
  rfl
theorem pP_none {p : Pl} : (pP p = PyData.none) ↔ p = none := by
  cases p with
  | none => simp [pP]
  | some q => simp [pP]
theorem inside_next {fo : List Pl} (hi : Inside fo) {p : Pl} (hp : p = none ∨ p ∈ fo) {h r : Int} (e : p = some (h, r)) : 0 ≤ h ∧ h < fo.length ∧ (fo[h.toNat]?.getD none = none ∨ fo[h.toNat]?.getD none ∈ fo) := by
  subst e
  have hm : some (h, r) ∈ fo := by
    rcases hp with z | z
    · cases z
    · exact z
  obtain ⟨a, b⟩ := hi h r hm
  have hl : h.toNat < fo.length := by omega
  exact ⟨a, b, .inr (by rw [List.getElem?_eq_getElem hl]; exact List.getElem_mem hl)⟩
theorem within_eq {fo : List Pl} {x : Int} {st : Store} (hi : Inside fo) (h1 : 0 ≤ x) (h2 : x < fo.length) :
    f__within_itself [.d (pF fo), .d (.int x)] st = .ok (.d (.bool (decide (x ∈ (climb fo fo.length (fo[x.toNat]?.getD none)).map (·.1))))) st := by
  obtain ⟨r, st', e, hr, hs⟩ := sFor_run (w := wSeq (xVar 0)) (t := gN 3) (u := fb__within_itself_1) (xs := fo.map pP) (env := [some (.d (pF fo)), some (.d (.int x)), some (.d (pP (fo[x.toNat]?.getD none))), none]) (st := st)
    (R := fun r st' => (if x ∈ (climb fo fo.length (fo[x.toNat]?.getD none)).map (·.1) then r = .rt (.d (.bool true)) else (r = .rt (.d (.bool false)) ∨ ∃ e, r = .nx e)) ∧ st' = st) (by simp [xVar, xC, xNil, xCons, xTup, xLst, xLstR, disp, xOp, xChain, iOp, oSub, oMod, oLt, oLe, oGt, oGe, oAdd, oEqS, oNeS, oIn, oIs, xB, xTru, tNt, tAn, tOrr, xNt, xAn, xOr, xIf, xUn, oNeg, oIx, xSl, pNo, pAt, oSl, xFn, kLen, kInt, kMax2, kTuple, kList, kListR, kRepr, xIsi, isN, tyN, view, frz, frzAll, wSeq, wEnm, gN, gs0, gs1, gT, bNil, bCons, thenB, sExp, sRet, sIf, sSet, sTup, sPar, sSub, sSub2, putAt, sRaise, fin, retV, entry, fnO, xCall, xApp, xPopAt, yes, sb, tru, isNon, ownOf, oAddL])
    (fun i env st' => st' = st ∧ ∃ p a, (p = none ∨ p ∈ fo) ∧ env = [some (.d (pF fo)), some (.d (.int x)), some (.d (pP p)), a] ∧ (x ∈ (climb fo fo.length (fo[x.toNat]?.getD none)).map (·.1) ↔ x ∈ (climb fo (fo.length - i) p).map (·.1)))
    ⟨rfl, fo[x.toNat]?.getD none, none, by
      have hl : x.toNat < fo.length := by omega
      rw [List.getElem?_eq_getElem hl]
      exact .inr (List.getElem_mem hl), rfl, Iff.rfl⟩
    (fun i d env st2 hd ⟨hs, p, a, hp, he, hc⟩ => by
      subst he hs
      have hlt : i < fo.length := by
        have := (List.getElem?_eq_some_iff.mp hd).1
        simpa using this
      refine ⟨[some (.d (pF fo)), some (.d (.int x)), some (.d (pP p)), some (.d d)], by simp [xVar, xC, xNil, xCons, xTup, xLst, xLstR, disp, xOp, xChain, iOp, oSub, oMod, oLt, oLe, oGt, oGe, oAdd, oEqS, oNeS, oIn, oIs, xB, xTru, tNt, tAn, tOrr, xNt, xAn, xOr, xIf, xUn, oNeg, oIx, xSl, pNo, pAt, oSl, xFn, kLen, kInt, kMax2, kTuple, kList, kListR, kRepr, xIsi, isN, tyN, view, frz, frzAll, wSeq, wEnm, gN, gs0, gs1, gT, bNil, bCons, thenB, sExp, sRet, sIf, sSet, sTup, sPar, sSub, sSub2, putAt, sRaise, fin, retV, entry, fnO, xCall, xApp, xPopAt, yes, sb, tru, isNon, ownOf, oAddL], ?_⟩
      have el : fo.length - i = (fo.length - (i + 1)) + 1 := by omega
      cases p with
      | none =>
        refine ⟨.rt (.d (.bool false)), st2, by simp [xVar, xC, xNil, xCons, xTup, xLst, xLstR, disp, xOp, xChain, iOp, oSub, oMod, oLt, oLe, oGt, oGe, oAdd, oEqS, oNeS, oIn, oIs, xB, xTru, tNt, tAn, tOrr, xNt, xAn, xOr, xIf, xUn, oNeg, oIx, xSl, pNo, pAt, oSl, xFn, kLen, kInt, kMax2, kTuple, kList, kListR, kRepr, xIsi, isN, tyN, view, frz, frzAll, wSeq, wEnm, gN, gs0, gs1, gT, bNil, bCons, thenB, sExp, sRet, sIf, sSet, sTup, sPar, sSub, sSub2, putAt, sRaise, fin, retV, entry, fnO, xCall, xApp, xPopAt, yes, sb, tru, isNon, ownOf, oAddL, fb__within_itself_1, pP], ?_⟩
        have n : ¬ x ∈ (climb fo fo.length (fo[x.toNat]?.getD none)).map (·.1) := by
          rw [hc, el]
          simp [climb]
        exact ⟨by rw [if_neg n]; exact .inl rfl, rfl⟩
      | some q =>
        obtain ⟨h, r⟩ := q
        obtain ⟨a1, a2, a3⟩ := inside_next hi hp rfl
        by_cases hx : h = x
        · subst hx
          refine ⟨.rt (.d (.bool true)), st2, by simp [xVar, xC, xNil, xCons, xTup, xLst, xLstR, disp, xOp, xChain, iOp, oSub, oMod, oLt, oLe, oGt, oGe, oAdd, oEqS, oNeS, oIn, oIs, xB, xTru, tNt, tAn, tOrr, xNt, xAn, xOr, xIf, xUn, oNeg, oIx, xSl, pNo, pAt, oSl, xFn, kLen, kInt, kMax2, kTuple, kList, kListR, kRepr, xIsi, isN, tyN, view, frz, frzAll, wSeq, wEnm, gN, gs0, gs1, gT, bNil, bCons, thenB, sExp, sRet, sIf, sSet, sTup, sPar, sSub, sSub2, putAt, sRaise, fin, retV, entry, fnO, xCall, xApp, xPopAt, yes, sb, tru, isNon, ownOf, oAddL, fb__within_itself_1, pP, at0], ?_⟩
          have n : h ∈ (climb fo fo.length (fo[h.toNat]?.getD none)).map (·.1) := by
            rw [hc, el]
            simp [climb]
          exact ⟨by rw [if_pos n], rfl⟩
        · refine ⟨.nx [some (.d (pF fo)), some (.d (.int x)), some (.d (pP (fo[h.toNat]?.getD none))), some (.d d)], st2, ?_, rfl, _, _, a3, rfl, ?_⟩
          · have := fo_at a1 a2
            simp [xVar, xC, xNil, xCons, xTup, xLst, xLstR, disp, xOp, xChain, iOp, oSub, oMod, oLt, oLe, oGt, oGe, oAdd, oEqS, oNeS, oIn, oIs, xB, xTru, tNt, tAn, tOrr, xNt, xAn, xOr, xIf, xUn, oNeg, oIx, xSl, pNo, pAt, oSl, xFn, kLen, kInt, kMax2, kTuple, kList, kListR, kRepr, xIsi, isN, tyN, view, frz, frzAll, wSeq, wEnm, gN, gs0, gs1, gT, bNil, bCons, thenB, sExp, sRet, sIf, sSet, sTup, sPar, sSub, sSub2, putAt, sRaise, fin, retV, entry, fnO, xCall, xApp, xPopAt, yes, sb, tru, isNon, ownOf, oAddL, fb__within_itself_1, pP, at0, hx, this]
          · rw [hc, el]
            simp only [climb, List.map_cons, List.mem_cons]
            constructor
            · rintro (z | z)
              · exact absurd z.symm hx
              · exact z
            · exact .inr)
    (fun env st2 ⟨hs, p, a, hp, he, hc⟩ => by
      have n : ¬ x ∈ (climb fo fo.length (fo[x.toNat]?.getD none)).map (·.1) := by
        rw [hc, List.length_map, Nat.sub_self]
        simp [climb]
      exact ⟨by rw [if_neg n]; exact .inr ⟨_, rfl⟩, hs⟩)
  subst hs
  have hx := fo_at h1 h2
  have e3 : fl__within_itself_2 [some (.d (pF fo)), some (.d (.int x)), some (.d (pP (fo[x.toNat]?.getD none))), none] st' = _ := e
  by_cases hm : x ∈ (climb fo fo.length (fo[x.toNat]?.getD none)).map (·.1)
  · rw [if_pos hm] at hr
    subst hr
    rw [decide_eq_true hm]
    simp [xVar, xC, xNil, xCons, xTup, xLst, xLstR, disp, xOp, xChain, iOp, oSub, oMod, oLt, oLe, oGt, oGe, oAdd, oEqS, oNeS, oIn, oIs, xB, xTru, tNt, tAn, tOrr, xNt, xAn, xOr, xIf, xUn, oNeg, oIx, xSl, pNo, pAt, oSl, xFn, kLen, kInt, kMax2, kTuple, kList, kListR, kRepr, xIsi, isN, tyN, view, frz, frzAll, wSeq, wEnm, gN, gs0, gs1, gT, bNil, bCons, thenB, sExp, sRet, sIf, sSet, sTup, sPar, sSub, sSub2, putAt, sRaise, fin, retV, entry, fnO, xCall, xApp, xPopAt, yes, sb, tru, isNon, ownOf, oAddL, f__within_itself, u__within_itself, hx, e3]
  · rw [if_neg hm] at hr
    rw [decide_eq_false hm]
    rcases hr with hr | ⟨e2, hr⟩ <;> subst hr <;> simp [xVar, xC, xNil, xCons, xTup, xLst, xLstR, disp, xOp, xChain, iOp, oSub, oMod, oLt, oLe, oGt, oGe, oAdd, oEqS, oNeS, oIn, oIs, xB, xTru, tNt, tAn, tOrr, xNt, xAn, xOr, xIf, xUn, oNeg, oIx, xSl, pNo, pAt, oSl, xFn, kLen, kInt, kMax2, kTuple, kList, kListR, kRepr, xIsi, isN, tyN, view, frz, frzAll, wSeq, wEnm, gN, gs0, gs1, gT, bNil, bCons, thenB, sExp, sRet, sIf, sSet, sTup, sPar, sSub, sSub2, putAt, sRaise, fin, retV, entry, fnO, xCall, xApp, xPopAt, yes, sb, tru, isNon, ownOf, oAddL, f__within_itself, u__within_itself, hx, e3]
end Nz

end
section
set_option Elab.async false
set_option linter.all false
set_option maxRecDepth 100000
set_option maxHeartbeats 2000000
namespace Nz
open PySem PySem.Spec PyProof.Rows L2
/-! ### forests let and refused -/
def upOf (fo : List Pl) (x : Nat) : Pl := fo[x]?.getD none
/-- thing x lies within itself -/
def ringB (fo : List Pl) (x : Nat) : Bool := decide ((x : Int) ∈ (climb fo fo.length (upOf fo x)).map (·.1))
theorem pl_inside {rs : List Int} {fo : List Pl} (h : ∀ (x : Nat) (p : Pl), fo[x]? = some p → plOk rs x p = true) (hl : fo.length = rs.length) : Inside fo := fun a b hm => by
  obtain ⟨i, hi, e⟩ := List.getElem_of_mem hm
  have z := h i (some (a, b)) (by rw [List.getElem?_eq_getElem hi, e])
  unfold plOk at z
  simp at z
  omega
/-- the first loop: up to the first wrong place -/
theorem mf_loop1 {rs : List Int} {fo : List Pl} {st : Store} : ∃ r st', fl_made_forest_2 [some (.d (pR rs)), some (.d (pF fo)), none, none] st = .ok r st' ∧ st' = st ∧
    ((∀ (x : Nat) (p : Pl), fo[x]? = some p → plOk rs x p = true) → ∃ a b, r = .nx [some (.d (pR rs)), some (.d (pF fo)), a, b]) ∧
    (∀ (x : Nat) (p : Pl), fo[x]? = some p → plOk rs x p = false → (∀ (y : Nat) (q : Pl), y < x → fo[y]? = some q → plOk rs y q = true) → ∃ e, r = .ex e "BadForest" (.int x)) := by
  obtain ⟨r, st', e, hs, h1, h2⟩ := sFor_run (w := wEnm (xVar 1)) (t := gT 2 (gs1 2 (gs1 3 gs0))) (u := fb_made_forest_1) (xs := enm (fo.map pP)) (env := [some (.d (pR rs)), some (.d (pF fo)), none, none]) (st := st)
    (R := fun r st' => st' = st ∧ ((∀ (x : Nat) (p : Pl), fo[x]? = some p → plOk rs x p = true) → ∃ a b, r = .nx [some (.d (pR rs)), some (.d (pF fo)), a, b]) ∧
      (∀ (x : Nat) (p : Pl), fo[x]? = some p → plOk rs x p = false → (∀ (y : Nat) (q : Pl), y < x → fo[y]? = some q → plOk rs y q = true) → ∃ e, r = .ex e "BadForest" (.int x)))
    (by simp [xVar, xC, xNil, xCons, xTup, xLst, xLstR, disp, xOp, xChain, iOp, oSub, oMod, oLt, oLe, oGt, oGe, oAdd, oEqS, oNeS, oIn, oIs, xB, xTru, tNt, tAn, tOrr, xNt, xAn, xOr, xIf, xUn, oNeg, oIx, xSl, pNo, pAt, oSl, xFn, kLen, kInt, kMax2, kTuple, kList, kListR, kRepr, xIsi, isN, tyN, view, frz, frzAll, wSeq, wEnm, gN, gs0, gs1, gT, bNil, bCons, thenB, sExp, sRet, sIf, sSet, sTup, sPar, sSub, sSub2, putAt, sRaise, fin, retV, entry, fnO, xCall, xApp, xPopAt, yes, sb, tru, isNon, ownOf, oAddL]) (fun i env st' => st' = st ∧ (∃ a b, env = [some (.d (pR rs)), some (.d (pF fo)), a, b]) ∧ ∀ (y : Nat) (q : Pl), y < i → fo[y]? = some q → plOk rs y q = true) ⟨rfl, ⟨_, _, rfl⟩, fun y q h => absurd h (Nat.not_lt_zero _)⟩
    (fun i d env st2 hd ⟨hs, ⟨a, b, he⟩, hall⟩ => by
      subst he hs
      obtain ⟨z, hz, rfl⟩ := enm_get hd
      rw [List.getElem?_map] at hz
      obtain ⟨p, hp, rfl⟩ := Option.map_eq_some_iff.mp hz
      refine ⟨[some (.d (pR rs)), some (.d (pF fo)), some (.d (.int i)), some (.d (pP p))], by simp [xVar, xC, xNil, xCons, xTup, xLst, xLstR, disp, xOp, xChain, iOp, oSub, oMod, oLt, oLe, oGt, oGe, oAdd, oEqS, oNeS, oIn, oIs, xB, xTru, tNt, tAn, tOrr, xNt, xAn, xOr, xIf, xUn, oNeg, oIx, xSl, pNo, pAt, oSl, xFn, kLen, kInt, kMax2, kTuple, kList, kListR, kRepr, xIsi, isN, tyN, view, frz, frzAll, wSeq, wEnm, gN, gs0, gs1, gT, bNil, bCons, thenB, sExp, sRet, sIf, sSet, sTup, sPar, sSub, sSub2, putAt, sRaise, fin, retV, entry, fnO, xCall, xApp, xPopAt, yes, sb, tru, isNon, ownOf, oAddL], ?_⟩
      have ep : f__may_have [.d (pR rs), .d (.int i), .d (pP p)] st2 = .ok (.d (.bool (plOk rs i p))) st2 := may_have_eq
      cases hq : plOk rs i p with
      | true =>
        rw [hq] at ep
        refine ⟨.nx [some (.d (pR rs)), some (.d (pF fo)), some (.d (.int i)), some (.d (pP p))], st2, by simp [xVar, xC, xNil, xCons, xTup, xLst, xLstR, disp, xOp, xChain, iOp, oSub, oMod, oLt, oLe, oGt, oGe, oAdd, oEqS, oNeS, oIn, oIs, xB, xTru, tNt, tAn, tOrr, xNt, xAn, xOr, xIf, xUn, oNeg, oIx, xSl, pNo, pAt, oSl, xFn, kLen, kInt, kMax2, kTuple, kList, kListR, kRepr, xIsi, isN, tyN, view, frz, frzAll, wSeq, wEnm, gN, gs0, gs1, gT, bNil, bCons, thenB, sExp, sRet, sIf, sSet, sTup, sPar, sSub, sSub2, putAt, sRaise, fin, retV, entry, fnO, xCall, xApp, xPopAt, yes, sb, tru, isNon, ownOf, oAddL, fb_made_forest_1, ep], rfl, ⟨_, _, rfl⟩, fun y q hy e => ?_⟩
        by_cases h : y < i
        · exact hall y q h e
        · have : y = i := by omega
          subst this
          rw [hp] at e
          cases e
          exact hq
      | false =>
        rw [hq] at ep
        refine ⟨.ex [some (.d (pR rs)), some (.d (pF fo)), some (.d (.int i)), some (.d (pP p))] "BadForest" (.int i), st2, by simp [xVar, xC, xNil, xCons, xTup, xLst, xLstR, disp, xOp, xChain, iOp, oSub, oMod, oLt, oLe, oGt, oGe, oAdd, oEqS, oNeS, oIn, oIs, xB, xTru, tNt, tAn, tOrr, xNt, xAn, xOr, xIf, xUn, oNeg, oIx, xSl, pNo, pAt, oSl, xFn, kLen, kInt, kMax2, kTuple, kList, kListR, kRepr, xIsi, isN, tyN, view, frz, frzAll, wSeq, wEnm, gN, gs0, gs1, gT, bNil, bCons, thenB, sExp, sRet, sIf, sSet, sTup, sPar, sSub, sSub2, putAt, sRaise, fin, retV, entry, fnO, xCall, xApp, xPopAt, yes, sb, tru, isNon, ownOf, oAddL, fb_made_forest_1, ep], rfl, fun h => ?_, fun x q hx hb hall2 => ?_⟩
        · have := h i p hp
          rw [hq] at this
          cases this
        · have : x = i := by
            rcases Nat.lt_trichotomy x i with z | z | z
            · have := hall x q z hx
              rw [hb] at this
              cases this
            · exact z
            · have := hall2 i p z hp
              rw [hq] at this
              cases this
          subst this
          exact ⟨_, rfl⟩)
    (fun env st2 ⟨hs, ⟨a, b, he⟩, hall⟩ => by
      refine ⟨hs, fun _ => ⟨a, b, by rw [he]⟩, fun x p hx hb _ => ?_⟩
      have hlt : x < fo.length := (List.getElem?_eq_some_iff.mp hx).1
      have := hall x p (by rw [enm_len, List.length_map]; exact hlt) hx
      rw [hb] at this
      cases this)
  exact ⟨r, st', e, hs, h1, h2⟩
theorem rng_get {lo : Int} {n i : Nat} {d : PyData} (h : (rng lo n)[i]? = some d) : i < n ∧ d = .int (lo + i) := by
  unfold rng at h
  rw [List.getElem?_map] at h
  obtain ⟨j, hj, rfl⟩ := Option.map_eq_some_iff.mp h
  obtain ⟨hn, e⟩ := List.getElem?_eq_some_iff.mp hj
  rw [List.length_range] at hn
  rw [List.getElem_range] at e
  subst e
  exact ⟨hn, rfl⟩
theorem rng_len {lo : Int} {n : Nat} : (rng lo n).length = n := by unfold rng; rw [List.length_map, List.length_range]
theorem mf_loop2 {rs : List Int} {fo : List Pl} {st : Store} {a b : Option EV} (hl : fo.length ≤ 1000) (hi : Inside fo) : ∃ r st', fl_made_forest_4 [some (.d (pR rs)), some (.d (pF fo)), a, b] st = .ok r st' ∧ st' = st ∧
    ((∀ x : Nat, x < fo.length → ringB fo x = false) → ∃ a b, r = .nx [some (.d (pR rs)), some (.d (pF fo)), a, b]) ∧
    (∀ x : Nat, x < fo.length → ringB fo x = true → (∀ y : Nat, y < x → ringB fo y = false) → ∃ e, r = .ex e "Ring" (.int x)) := by
  have hw : wRng1 (xFn kLen (xCons (xVar 1) xNil)) [some (.d (pR rs)), some (.d (pF fo)), a, b] st = .ok (rng 0 fo.length, none) st := by
    have z := wRng1_ok (f := xFn kLen (xCons (xVar 1) xNil)) (env := [some (.d (pR rs)), some (.d (pF fo)), a, b]) (st := st) (st' := st) (j := fo.length) (by simp [xVar, xC, xNil, xCons, xTup, xLst, xLstR, disp, xOp, xChain, iOp, oSub, oMod, oLt, oLe, oGt, oGe, oAdd, oEqS, oNeS, oIn, oIs, xB, xTru, tNt, tAn, tOrr, xNt, xAn, xOr, xIf, xUn, oNeg, oIx, xSl, pNo, pAt, oSl, xFn, kLen, kInt, kMax2, kTuple, kList, kListR, kRepr, xIsi, isN, tyN, view, frz, frzAll, wSeq, wEnm, gN, gs0, gs1, gT, bNil, bCons, thenB, sExp, sRet, sIf, sSet, sTup, sPar, sSub, sSub2, putAt, sRaise, fin, retV, entry, fnO, xCall, xApp, xPopAt, yes, sb, tru, isNon, ownOf, oAddL]) (by omega) (by omega)
    rw [Int.toNat_natCast] at z
    exact z
  obtain ⟨r, st', e, hs, h1, h2⟩ := sFor_run (u := fb_made_forest_3) (t := gN 2)
    (R := fun r st' => st' = st ∧ ((∀ x : Nat, x < fo.length → ringB fo x = false) → ∃ a b, r = .nx [some (.d (pR rs)), some (.d (pF fo)), a, b]) ∧
      (∀ x : Nat, x < fo.length → ringB fo x = true → (∀ y : Nat, y < x → ringB fo y = false) → ∃ e, r = .ex e "Ring" (.int x)))
    hw (fun i env st' => st' = st ∧ (∃ a b, env = [some (.d (pR rs)), some (.d (pF fo)), a, b]) ∧ ∀ y : Nat, y < i → ringB fo y = false) ⟨rfl, ⟨_, _, rfl⟩, fun y h => absurd h (Nat.not_lt_zero _)⟩
    (fun i d env st2 hd ⟨hs, ⟨a, b, he⟩, hall⟩ => by
      subst he hs
      obtain ⟨hlt, rfl⟩ := rng_get hd
      rw [Int.zero_add]
      have ep : f__within_itself [.d (pF fo), .d (.int i)] st2 = .ok (.d (.bool (ringB fo i))) st2 := within_eq hi (by omega) (by omega)
      refine ⟨[some (.d (pR rs)), some (.d (pF fo)), some (.d (.int i)), b], by simp [xVar, xC, xNil, xCons, xTup, xLst, xLstR, disp, xOp, xChain, iOp, oSub, oMod, oLt, oLe, oGt, oGe, oAdd, oEqS, oNeS, oIn, oIs, xB, xTru, tNt, tAn, tOrr, xNt, xAn, xOr, xIf, xUn, oNeg, oIx, xSl, pNo, pAt, oSl, xFn, kLen, kInt, kMax2, kTuple, kList, kListR, kRepr, xIsi, isN, tyN, view, frz, frzAll, wSeq, wEnm, gN, gs0, gs1, gT, bNil, bCons, thenB, sExp, sRet, sIf, sSet, sTup, sPar, sSub, sSub2, putAt, sRaise, fin, retV, entry, fnO, xCall, xApp, xPopAt, yes, sb, tru, isNon, ownOf, oAddL], ?_⟩
      cases hq : ringB fo i with
      | false =>
        rw [hq] at ep
        refine ⟨.nx [some (.d (pR rs)), some (.d (pF fo)), some (.d (.int i)), b], st2, by simp [xVar, xC, xNil, xCons, xTup, xLst, xLstR, disp, xOp, xChain, iOp, oSub, oMod, oLt, oLe, oGt, oGe, oAdd, oEqS, oNeS, oIn, oIs, xB, xTru, tNt, tAn, tOrr, xNt, xAn, xOr, xIf, xUn, oNeg, oIx, xSl, pNo, pAt, oSl, xFn, kLen, kInt, kMax2, kTuple, kList, kListR, kRepr, xIsi, isN, tyN, view, frz, frzAll, wSeq, wEnm, gN, gs0, gs1, gT, bNil, bCons, thenB, sExp, sRet, sIf, sSet, sTup, sPar, sSub, sSub2, putAt, sRaise, fin, retV, entry, fnO, xCall, xApp, xPopAt, yes, sb, tru, isNon, ownOf, oAddL, fb_made_forest_3, ep], rfl, ⟨_, _, rfl⟩, fun y hy => ?_⟩
        by_cases h : y < i
        · exact hall y h
        · have : y = i := by omega
          subst this
          exact hq
      | true =>
        rw [hq] at ep
        refine ⟨.ex [some (.d (pR rs)), some (.d (pF fo)), some (.d (.int i)), b] "Ring" (.int i), st2, by simp [xVar, xC, xNil, xCons, xTup, xLst, xLstR, disp, xOp, xChain, iOp, oSub, oMod, oLt, oLe, oGt, oGe, oAdd, oEqS, oNeS, oIn, oIs, xB, xTru, tNt, tAn, tOrr, xNt, xAn, xOr, xIf, xUn, oNeg, oIx, xSl, pNo, pAt, oSl, xFn, kLen, kInt, kMax2, kTuple, kList, kListR, kRepr, xIsi, isN, tyN, view, frz, frzAll, wSeq, wEnm, gN, gs0, gs1, gT, bNil, bCons, thenB, sExp, sRet, sIf, sSet, sTup, sPar, sSub, sSub2, putAt, sRaise, fin, retV, entry, fnO, xCall, xApp, xPopAt, yes, sb, tru, isNon, ownOf, oAddL, fb_made_forest_3, ep], rfl, fun h => ?_, fun x hx hb hall2 => ?_⟩
        · have := h i hlt
          rw [hq] at this
          cases this
        · have : x = i := by
            rcases Nat.lt_trichotomy x i with z | z | z
            · have := hall x z
              rw [hb] at this
              cases this
            · exact z
            · have := hall2 i z
              rw [hq] at this
              cases this
          subst this
          exact ⟨_, rfl⟩)
    (fun env st2 ⟨hs, ⟨a, b, he⟩, hall⟩ => by
      refine ⟨hs, fun _ => ⟨a, b, by rw [he]⟩, fun x hx hb _ => ?_⟩
      have := hall x (by rw [rng_len]; exact hx)
      rw [hb] at this
      cases this)
  exact ⟨r, st', e, hs, h1, h2⟩
/-- a right forest -/
structure FoOk (rs : List Int) (fo : List Pl) : Prop where
  rooms : RoomsOk rs
  len : fo.length = rs.length
  pl : ∀ (x : Nat) (p : Pl), fo[x]? = some p → plOk rs x p = true
  noring : ∀ x : Nat, x < fo.length → ringB fo x = false
theorem FoOk.inside {rs : List Int} {fo : List Pl} (h : FoOk rs fo) : Inside fo := pl_inside h.pl h.len
theorem mf_s1 {rs : List Int} {fo : List Pl} {st : Store} (h : RoomsOk rs) : sExp (xCall 1 f_made_rooms (xCons (xVar 0) xNil)) [some (.d (pR rs)), some (.d (pF fo)), none, none] st = .ok (.nx [some (.d (pR rs)), some (.d (pF fo)), none, none]) st :=
  s_exp (a := .d (pR rs)) (by simp [xVar, xC, xNil, xCons, xTup, xLst, xLstR, disp, xOp, xChain, iOp, oSub, oMod, oLt, oLe, oGt, oGe, oAdd, oEqS, oNeS, oIn, oIs, xB, xTru, tNt, tAn, tOrr, xNt, xAn, xOr, xIf, xUn, oNeg, oIx, xSl, pNo, pAt, oSl, xFn, kLen, kInt, kMax2, kTuple, kList, kListR, kRepr, xIsi, isN, tyN, view, frz, frzAll, wSeq, wEnm, gN, gs0, gs1, gT, bNil, bCons, thenB, sExp, sRet, sIf, sSet, sTup, sPar, sSub, sSub2, putAt, sRaise, fin, retV, entry, fnO, xCall, xApp, xPopAt, yes, sb, tru, isNon, ownOf, oAddL, made_rooms_ok h])
theorem mf_s2 {rs : List Int} {fo : List Pl} {st : Store} (h : fo.length = rs.length) : sIf (tOrr (tNt (xB (xIsi "tuple" (xVar 1)))) (xB (xOp oNeS (xFn kLen (xCons (xVar 1) xNil)) (xFn kLen (xCons (xVar 0) xNil))))) (sRaise "BadForest" (xCons (xUn oNeg (xC (.int 1))) xNil)) bNil [some (.d (pR rs)), some (.d (pF fo)), none, none] st = .ok (.nx [some (.d (pR rs)), some (.d (pF fo)), none, none]) st :=
  s_ifF (by simp [xVar, xC, xNil, xCons, xTup, xLst, xLstR, disp, xOp, xChain, iOp, oSub, oMod, oLt, oLe, oGt, oGe, oAdd, oEqS, oNeS, oIn, oIs, xB, xTru, tNt, tAn, tOrr, xNt, xAn, xOr, xIf, xUn, oNeg, oIx, xSl, pNo, pAt, oSl, xFn, kLen, kInt, kMax2, kTuple, kList, kListR, kRepr, xIsi, isN, tyN, view, frz, frzAll, wSeq, wEnm, gN, gs0, gs1, gT, bNil, bCons, thenB, sExp, sRet, sIf, sSet, sTup, sPar, sSub, sSub2, putAt, sRaise, fin, retV, entry, fnO, xCall, xApp, xPopAt, yes, sb, tru, isNon, ownOf, oAddL, h])
theorem mf_ok {rs : List Int} {fo : List Pl} {st : Store} (h : FoOk rs fo) : f_made_forest [.d (pR rs), .d (pF fo)] st = .ok (.d (pF fo)) st := by
  obtain ⟨r1, s1, e1, hs1, g1, _⟩ := mf_loop1 (rs := rs) (fo := fo) (st := st)
  obtain ⟨a, b, rfl⟩ := g1 h.pl
  subst hs1
  obtain ⟨r2, s2, e2, hs2, g2, _⟩ := mf_loop2 (rs := rs) (fo := fo) (st := s1) (a := a) (b := b) (by have := h.len; have := h.rooms.1; omega) h.inside
  obtain ⟨c, d, rfl⟩ := g2 h.noring
  subst hs2
  have z : f_made_forest [.d (pR rs), .d (pF fo)] s2 = .ok (.d (pF fo)) (s2.take s2.length) := fn_rt (by
    unfold u_made_forest
    exact (bc_nx (mf_s1 h.rooms)).trans ((bc_nx (mf_s2 h.len)).trans ((bc_nx e1).trans ((bc_nx e2).trans (s_ret (by simp [xVar, xC, xNil, xCons, xTup, xLst, xLstR, disp, xOp, xChain, iOp, oSub, oMod, oLt, oLe, oGt, oGe, oAdd, oEqS, oNeS, oIn, oIs, xB, xTru, tNt, tAn, tOrr, xNt, xAn, xOr, xIf, xUn, oNeg, oIx, xSl, pNo, pAt, oSl, xFn, kLen, kInt, kMax2, kTuple, kList, kListR, kRepr, xIsi, isN, tyN, view, frz, frzAll, wSeq, wEnm, gN, gs0, gs1, gT, bNil, bCons, thenB, sExp, sRet, sIf, sSet, sTup, sPar, sSub, sSub2, putAt, sRaise, fin, retV, entry, fnO, xCall, xApp, xPopAt, yes, sb, tru, isNon, ownOf, oAddL]))))))
  rw [List.take_length] at z
  exact z
theorem mf_bad {rs : List Int} {fo : List Pl} {st : Store} {x : Nat} {p : Pl} (h : RoomsOk rs) (hl : fo.length = rs.length) (hx : fo[x]? = some p) (hb : plOk rs x p = false) (hall : ∀ (y : Nat) (q : Pl), y < x → fo[y]? = some q → plOk rs y q = true) :
    f_made_forest [.d (pR rs), .d (pF fo)] st = .exc "BadForest" (.int x) st := by
  obtain ⟨r1, s1, e1, hs1, _, g1⟩ := mf_loop1 (rs := rs) (fo := fo) (st := st)
  obtain ⟨e, rfl⟩ := g1 x p hx hb hall
  subst hs1
  have z : f_made_forest [.d (pR rs), .d (pF fo)] s1 = .exc "BadForest" (.int x) (s1.take s1.length) := fn_ex (by
    unfold u_made_forest
    exact (bc_nx (mf_s1 h)).trans ((bc_nx (mf_s2 hl)).trans (bc_ex e1)))
  rw [List.take_length] at z
  exact z
theorem mf_ring {rs : List Int} {fo : List Pl} {st : Store} {x : Nat} (h : RoomsOk rs) (hl : fo.length = rs.length) (hp : ∀ (x : Nat) (p : Pl), fo[x]? = some p → plOk rs x p = true) (hx : x < fo.length) (hb : ringB fo x = true) (hall : ∀ y : Nat, y < x → ringB fo y = false) :
    f_made_forest [.d (pR rs), .d (pF fo)] st = .exc "Ring" (.int x) st := by
  obtain ⟨r1, s1, e1, hs1, g1, _⟩ := mf_loop1 (rs := rs) (fo := fo) (st := st)
  obtain ⟨a, b, rfl⟩ := g1 hp
  subst hs1
  obtain ⟨r2, s2, e2, hs2, _, g2⟩ := mf_loop2 (rs := rs) (fo := fo) (st := s1) (a := a) (b := b) (by have := h.1; omega) (pl_inside hp hl)
  obtain ⟨e, rfl⟩ := g2 x hx hb hall
  subst hs2
  have z : f_made_forest [.d (pR rs), .d (pF fo)] s2 = .exc "Ring" (.int x) (s2.take s2.length) := fn_ex (by
    unfold u_made_forest
    exact (bc_nx (mf_s1 h)).trans ((bc_nx (mf_s2 hl)).trans ((bc_nx e1).trans (bc_ex e2))))
  rw [List.take_length] at z
  exact z
end Nz

end
section
set_option Elab.async false
set_option linter.all false
set_option maxRecDepth 100000
set_option maxHeartbeats 2000000
namespace Nz
open PySem PySem.Spec PyProof.Rows L2
/-! ### climbing that ends -/
/-- from p the floor is met within m steps -/
def Ends (fo : List Pl) : Nat → Pl → Prop
  | _, none => True
  | 0, some _ => False
  | m + 1, some (h, _) => (0 ≤ h ∧ h < fo.length) ∧ Ends fo m (upOf fo h.toNat)
theorem climb_none {fo : List Pl} {n : Nat} : climb fo n none = [] := by cases n <;> rfl
theorem climb_ends {fo : List Pl} : ∀ {m n : Nat} {p : Pl}, Ends fo m p → m ≤ n → climb fo n p = climb fo m p
  | m, n, none, _, _ => by rw [climb_none, climb_none]
  | 0, n, some _, h, _ => h.elim
  | m + 1, 0, some _, _, h => by omega
  | m + 1, n + 1, some (a, b), h, hn => by
    show (a, b) :: climb fo n _ = (a, b) :: climb fo m _
    have := climb_ends (n := n) h.2 (by omega)
    unfold upOf at this
    rw [this]
theorem ends_mono {fo : List Pl} : ∀ {m n : Nat} {p : Pl}, Ends fo m p → m ≤ n → Ends fo n p
  | m, n, none, _, _ => by cases n <;> trivial
  | 0, n, some _, h, _ => h.elim
  | m + 1, 0, some _, _, h => by omega
  | m + 1, n + 1, some (a, b), h, hn => ⟨h.1, ends_mono h.2 (by omega)⟩
/-- a right forest, by heights -/
structure Tree (rs : List Int) (fo : List Pl) : Prop where
  rooms : RoomsOk rs
  len : fo.length = rs.length
  pl : ∀ (x : Nat) (p : Pl), fo[x]? = some p → plOk rs x p = true
  high : ∃ rk : Nat → Nat, (∀ x, x < fo.length → rk x < fo.length) ∧ ∀ (x : Nat) (h r : Int), fo[x]? = some (some (h, r)) → rk h.toNat < rk x
theorem up_some {fo : List Pl} {x : Nat} {q : Int × Int} (h : upOf fo x = some q) : fo[x]? = some (some q) := by
  unfold upOf at h
  cases e : fo[x]? with
  | none => rw [e] at h; cases h
  | some p =>
    rw [e] at h
    have h : p = some q := h
    rw [h]
theorem Tree.inside {rs : List Int} {fo : List Pl} (t : Tree rs fo) : Inside fo := pl_inside t.pl t.len
theorem high_ends {fo : List Pl} {rk : Nat → Nat} (hi : Inside fo) (hr : ∀ (x : Nat) (h r : Int), fo[x]? = some (some (h, r)) → rk h.toNat < rk x) : ∀ (m x : Nat), rk x ≤ m → Ends fo m (upOf fo x)
  | m, x, hm => by
    cases e : upOf fo x with
    | none => cases m <;> trivial
    | some q =>
      obtain ⟨h, r⟩ := q
      have hx := up_some e
      have lt := hr x h r hx
      cases m with
      | zero => omega
      | succ m => exact ⟨hi h r (List.mem_of_getElem? hx), high_ends hi hr m h.toNat (by omega)⟩
theorem climb_high {fo : List Pl} {rk : Nat → Nat} (hr : ∀ (x : Nat) (h r : Int), fo[x]? = some (some (h, r)) → rk h.toNat < rk x) : ∀ (n x : Nat) (h r : Int), (h, r) ∈ climb fo n (upOf fo x) → rk h.toNat < rk x
  | 0, x, h, r, hm => by simp [climb] at hm
  | n + 1, x, h, r, hm => by
    cases e : upOf fo x with
    | none => rw [e] at hm; simp [climb] at hm
    | some q =>
      obtain ⟨a, b⟩ := q
      have hx := up_some e
      have lt := hr x a b hx
      rw [e] at hm
      rcases List.mem_cons.mp hm with z | z
      · cases z; exact lt
      · have := climb_high hr n a.toNat h r z
        omega
theorem Tree.ends {rs : List Int} {fo : List Pl} (t : Tree rs fo) {x : Nat} (hx : x < fo.length) : Ends fo fo.length (upOf fo x) := by
  obtain ⟨rk, h1, h2⟩ := t.high
  exact ends_mono (high_ends t.inside h2 (rk x) x (Nat.le_refl _)) (Nat.le_of_lt (h1 x hx))
theorem Tree.ok {rs : List Int} {fo : List Pl} (t : Tree rs fo) : FoOk rs fo := ⟨t.rooms, t.len, t.pl, fun x hx => by
  obtain ⟨rk, h1, h2⟩ := t.high
  refine decide_eq_false fun hm => ?_
  obtain ⟨⟨h, r⟩, hq, e⟩ := List.mem_map.mp hm
  have := climb_high h2 _ x h r hq
  have e : h = (x : Int) := e
  rw [e, Int.toNat_natCast] at this
  omega⟩
/-- what lies around thing x, from its own place outward -/
def above (fo : List Pl) (x : Nat) : List (Int × Int) := climb fo fo.length (upOf fo x)
/-! ### around_of -/
theorem small_fuel {m : Nat} (h : m ≤ 1000) : m < fuel := by unfold fuel; omega
theorem set_last {base : Store} {a b : List PyData} {L : Nat} (h : base.length = L) : (base ++ [some a]).set L (some b) = base ++ [some b] := by
  subst h
  rw [List.set_append_right _ _ (Nat.le_refl _), Nat.sub_self]
  rfl
theorem get_last {base : Store} {a : List PyData} {L : Nat} (h : base.length = L) : (base ++ [some a])[L]? = some (some a) := by
  subst h
  rw [List.getElem?_append_right (Nat.le_refl _), Nat.sub_self]
  rfl
theorem rs_len {rs : List Int} : ((rs.map PyData.int).length : Int) = rs.length := by rw [List.length_map]
end Nz

end
section
set_option Elab.async false
set_option linter.all false
set_option maxRecDepth 100000
set_option maxHeartbeats 2000000
namespace Nz
open PySem PySem.Spec PyProof.Rows L2
/-! ### room_within -/
def hits (y : Int) (qs : List (Int × Int)) : Pl := qs.find? fun q => decide (q.1 = y)
theorem within_loop {fo : List Pl} {X : EV} {y : Int} {st : Store} {p : Pl} {m : Nat} (hm : m ≤ 24) (he : Ends fo m p) : ∃ r st', wl_room_within_3 [some (.d (pF fo)), some X, some (.d (.int y)), some (.d (pP p))] st = .ok r st' ∧
    r = .nx [some (.d (pF fo)), some X, some (.d (.int y)), some (.d (pP (hits y (climb fo m p))))] ∧ st' = st := by
  unfold wl_room_within_3
  refine whl_run (fun k env s => k ≤ m ∧ ∃ p' : Pl, Ends fo k p' ∧ env = [some (.d (pF fo)), some X, some (.d (.int y)), some (.d (pP p'))] ∧ s = st ∧ hits y (climb fo k p') = hits y (climb fo m p)) (fun k env s ⟨hk, p', h1, h2, h3, h4⟩ => ?_)
    (small_fuel (by omega : m ≤ 1000)) ⟨Nat.le_refl _, p, he, rfl, rfl, rfl⟩
  subst h2 h3
  cases p' with
  | none =>
    refine .inl ⟨s, by simp [xVar, xC, xNil, xCons, xTup, xLst, xLstR, disp, xOp, xChain, iOp, oSub, oMod, oLt, oLe, oGt, oGe, oAdd, oEqS, oNeS, oIn, oIs, xB, xTru, tNt, tAn, tOrr, xNt, xAn, xOr, xIf, xUn, oNeg, oIx, xSl, pNo, pAt, oSl, xFn, kLen, kInt, kMax2, kTuple, kList, kListR, kRepr, xIsi, isN, tyN, view, frz, frzAll, wSeq, wEnm, gN, gs0, gs1, gT, bNil, bCons, thenB, sExp, sRet, sIf, sSet, sTup, sPar, sSub, sSub2, putAt, sRaise, fin, retV, entry, fnO, xCall, xApp, xPopAt, yes, sb, tru, isNon, ownOf, oAddL, wt_room_within_1, pP], ?_, rfl⟩
    rw [← h4, climb_none]
    rfl
  | some q =>
    obtain ⟨h, r⟩ := q
    cases k with
    | zero => exact h1.elim
    | succ k =>
      obtain ⟨⟨a1, a2⟩, a3⟩ := h1
      by_cases hy : h = y
      · refine .inl ⟨s, by simp [xVar, xC, xNil, xCons, xTup, xLst, xLstR, disp, xOp, xChain, iOp, oSub, oMod, oLt, oLe, oGt, oGe, oAdd, oEqS, oNeS, oIn, oIs, xB, xTru, tNt, tAn, tOrr, xNt, xAn, xOr, xIf, xUn, oNeg, oIx, xSl, pNo, pAt, oSl, xFn, kLen, kInt, kMax2, kTuple, kList, kListR, kRepr, xIsi, isN, tyN, view, frz, frzAll, wSeq, wEnm, gN, gs0, gs1, gT, bNil, bCons, thenB, sExp, sRet, sIf, sSet, sTup, sPar, sSub, sSub2, putAt, sRaise, fin, retV, entry, fnO, xCall, xApp, xPopAt, yes, sb, tru, isNon, ownOf, oAddL, wt_room_within_1, pP, at0, hy], ?_, rfl⟩
        rw [← h4]
        simp [climb, hits, hy]
      · refine .inr ⟨s, by simp [xVar, xC, xNil, xCons, xTup, xLst, xLstR, disp, xOp, xChain, iOp, oSub, oMod, oLt, oLe, oGt, oGe, oAdd, oEqS, oNeS, oIn, oIs, xB, xTru, tNt, tAn, tOrr, xNt, xAn, xOr, xIf, xUn, oNeg, oIx, xSl, pNo, pAt, oSl, xFn, kLen, kInt, kMax2, kTuple, kList, kListR, kRepr, xIsi, isN, tyN, view, frz, frzAll, wSeq, wEnm, gN, gs0, gs1, gT, bNil, bCons, thenB, sExp, sRet, sIf, sSet, sTup, sPar, sSub, sSub2, putAt, sRaise, fin, retV, entry, fnO, xCall, xApp, xPopAt, yes, sb, tru, isNon, ownOf, oAddL, wt_room_within_1, pP, at0, hy], .nx [some (.d (pF fo)), some X, some (.d (.int y)), some (.d (pP (upOf fo h.toNat)))], s, ?_, k, Nat.lt_succ_self k, by omega, upOf fo h.toNat, a3, rfl, rfl, ?_⟩
        · have z := fo_at a1 a2
          simp [xVar, xC, xNil, xCons, xTup, xLst, xLstR, disp, xOp, xChain, iOp, oSub, oMod, oLt, oLe, oGt, oGe, oAdd, oEqS, oNeS, oIn, oIs, xB, xTru, tNt, tAn, tOrr, xNt, xAn, xOr, xIf, xUn, oNeg, oIx, xSl, pNo, pAt, oSl, xFn, kLen, kInt, kMax2, kTuple, kList, kListR, kRepr, xIsi, isN, tyN, view, frz, frzAll, wSeq, wEnm, gN, gs0, gs1, gT, bNil, bCons, thenB, sExp, sRet, sIf, sSet, sTup, sPar, sSub, sSub2, putAt, sRaise, fin, retV, entry, fnO, xCall, xApp, xPopAt, yes, sb, tru, isNon, ownOf, oAddL, wb_room_within_2, pP, at0, z, upOf]
        · rw [← h4]
          simp [climb, upOf, hits, hy]
theorem room_within_ok {rs : List Int} {fo : List Pl} {x : Nat} {y : Int} {st : Store} (t : Tree rs fo) (hx : x < fo.length) : f_room_within [.d (pF fo), .d (.int x), .d (.int y)] st = .ok (.d (match hits y (above fo x) with | none => .none | some q => .int q.2)) st := by
  have h24 : fo.length ≤ 24 := by have := t.len; have := t.rooms.1; omega
  have z := fo_at (fo := fo) (h := (x : Int)) (by omega) (by omega)
  rw [Int.toNat_natCast] at z
  obtain ⟨r, s', e, rfl, rfl⟩ := within_loop (X := .d (.int x)) (y := y) (st := st) h24 (t.ends hx)
  have w := fn_rt (keep := false) (n := 4) (u := u_room_within) (args := [.d (pF fo), .d (.int x), .d (.int y)]) (st := s') (st2 := s') (d := match hits y (above fo x) with | none => .none | some q => .int q.2) (by
    unfold u_room_within
    refine (bc_nx (env2 := [some (.d (pF fo)), some (.d (.int x)), some (.d (.int y)), some (.d (pP (upOf fo x)))]) (st2 := s') (by simp [xVar, xC, xNil, xCons, xTup, xLst, xLstR, disp, xOp, xChain, iOp, oSub, oMod, oLt, oLe, oGt, oGe, oAdd, oEqS, oNeS, oIn, oIs, xB, xTru, tNt, tAn, tOrr, xNt, xAn, xOr, xIf, xUn, oNeg, oIx, xSl, pNo, pAt, oSl, xFn, kLen, kInt, kMax2, kTuple, kList, kListR, kRepr, xIsi, isN, tyN, view, frz, frzAll, wSeq, wEnm, gN, gs0, gs1, gT, bNil, bCons, thenB, sExp, sRet, sIf, sSet, sTup, sPar, sSub, sSub2, putAt, sRaise, fin, retV, entry, fnO, xCall, xApp, xPopAt, yes, sb, tru, isNon, ownOf, oAddL, z, upOf])).trans ?_
    refine (bc_nx e).trans (s_ret ?_)
    show xIf _ _ _ _ _ = _
    unfold above
    cases hits y (climb fo fo.length (upOf fo x)) with
    | none => simp [xVar, xC, xNil, xCons, xTup, xLst, xLstR, disp, xOp, xChain, iOp, oSub, oMod, oLt, oLe, oGt, oGe, oAdd, oEqS, oNeS, oIn, oIs, xB, xTru, tNt, tAn, tOrr, xNt, xAn, xOr, xIf, xUn, oNeg, oIx, xSl, pNo, pAt, oSl, xFn, kLen, kInt, kMax2, kTuple, kList, kListR, kRepr, xIsi, isN, tyN, view, frz, frzAll, wSeq, wEnm, gN, gs0, gs1, gT, bNil, bCons, thenB, sExp, sRet, sIf, sSet, sTup, sPar, sSub, sSub2, putAt, sRaise, fin, retV, entry, fnO, xCall, xApp, xPopAt, yes, sb, tru, isNon, ownOf, oAddL, pP]
    | some q => obtain ⟨a, b⟩ := q; simp [xVar, xC, xNil, xCons, xTup, xLst, xLstR, disp, xOp, xChain, iOp, oSub, oMod, oLt, oLe, oGt, oGe, oAdd, oEqS, oNeS, oIn, oIs, xB, xTru, tNt, tAn, tOrr, xNt, xAn, xOr, xIf, xUn, oNeg, oIx, xSl, pNo, pAt, oSl, xFn, kLen, kInt, kMax2, kTuple, kList, kListR, kRepr, xIsi, isN, tyN, view, frz, frzAll, wSeq, wEnm, gN, gs0, gs1, gT, bNil, bCons, thenB, sExp, sRet, sIf, sSet, sTup, sPar, sSub, sSub2, putAt, sRaise, fin, retV, entry, fnO, xCall, xApp, xPopAt, yes, sb, tru, isNon, ownOf, oAddL, pP, at1])
  rw [List.take_length] at w
  exact w
/-! ### beneath -/
def isUnder (fo : List Pl) (x : Int) (y : Nat) : Bool := decide (x ∈ (above fo y).map (·.1))
theorem hits_under {fo : List Pl} {x : Int} {y : Nat} : (hits x (above fo y)).isSome = isUnder fo x y := by
  unfold hits isUnder
  rw [Bool.eq_iff_iff, List.find?_isSome]
  simp
def qInt (g : Nat → Bool) : PyData → Bool
  | .int i => g i.toNat
  | _ => false
theorem rng_mem {n : Nat} {d : PyData} (h : d ∈ rng 0 n) : ∃ i : Nat, i < n ∧ d = .int i := by
  obtain ⟨i, hi, e⟩ := List.getElem_of_mem h
  have := rng_get (List.getElem?_eq_getElem hi)
  rw [e] at this
  exact ⟨i, this.1, by rw [this.2]; simp⟩
/-! ### refused -/
end Nz

end
section
set_option Elab.async false
set_option linter.all false
set_option maxRecDepth 100000
set_option maxHeartbeats 2000000
namespace Nz
open PySem PySem.Spec PyProof.Rows L2
/-! ### the law's own numbers -/
theorem e64 : (2 : Int) ^ 64 = 18446744073709551616 := rfl
theorem mulR {i j : Int} {st : Store} (h1 : -1000000000000 < j) (h2 : j < 1000000000000) : oMul (.d (.int i)) (.d (.int j)) st = .ok (.d (.int (i * j))) st := by
  unfold oMul iOp
  dsimp only
  rw [if_pos]
  rw [Bool.or_eq_true]
  refine .inr (decide_eq_true ?_)
  rw [e64]
  omega
theorem mulL {i j : Int} {st : Store} (h1 : -1000000000000 < i) (h2 : i < 1000000000000) : oMul (.d (.int i)) (.d (.int j)) st = .ok (.d (.int (i * j))) st := by
  unfold oMul iOp
  dsimp only
  rw [if_pos]
  rw [Bool.or_eq_true]
  refine .inl (decide_eq_true ?_)
  rw [e64]
  omega
theorem divW {i j : Int} {st : Store} (h : 0 < j ∧ j.natAbs.log2 < 9000) : oDivW (.d (.int i)) (.d (.int j)) st = .ok (.d (.int (i / j))) st := by
  unfold oDivW iOp
  dsimp only
  rw [if_pos (decide_eq_true h)]
theorem pow18 {st : Store} : oPow (.d (.int 10)) (.d (.int 18)) st = .ok (.d (.int 1000000000000000000)) st := rfl
theorem pow20 {st : Store} : oPow (.d (.int 10)) (.d (.int 20)) st = .ok (.d (.int 100000000000000000000)) st := rfl
theorem ix20 : ixN 2 0 = some 0 := rfl
theorem ix21 : ixN 2 1 = some 1 := rfl
/-- the source stands at n -/
def Src (st : Store) (n : Nat) : Prop := ∃ a b : Int, st[n]? = some (some [.int a, .int b]) ∧ 0 ≤ a ∧ 0 ≤ b ∧ b < 2147483647
/-- a number below which may be drawn -/
def Top (t : Int) : Prop := 0 < t ∧ t.natAbs.log2 < 9000
theorem top_small {t : Int} (h1 : 0 < t) (h2 : t ≤ 1000000) : Top t := by
  refine ⟨h1, ?_⟩
  have h : t.natAbs < 2 ^ 9000 := Nat.lt_of_lt_of_le (show t.natAbs < 2 ^ 20 by omega) (Nat.pow_le_pow_right (by decide) (by decide))
  by_cases z : t.natAbs = 0
  · omega
  · exact (Nat.log2_lt z).mpr h
/-- a call that draws: the source alone is changed -/
def Draw (st st' : Store) (n : Nat) : Prop := ∃ v, st' = st.set n v ∧ Src st' n
theorem set_at {st : Store} {n : Nat} {v w : Option (List PyData)} (h : st[n]? = some w) : (st.set n v)[n]? = some v := List.getElem?_set_self (List.getElem?_eq_some_iff.mp h).1
theorem take_ok {st : Store} {n : Nat} {t : Int} (hs : Src st n) (ht : Top t) : ∃ r st', f__law_take [.ref n, .d (.int t)] st = .ok (.d (.int r)) st' ∧ Draw st st' n ∧ 0 ≤ r ∧ r < t := by
  obtain ⟨a, b, hs, ha, hb, hb2⟩ := hs
  obtain ⟨t1, t2⟩ := ht
  have l32 : (0 : Int) < 32 ∧ (32 : Int).natAbs.log2 < 9000 := by decide
  by_cases hp : 0 < a
  · have g := set_at (v := some [.int (a / t), .int b]) hs
    refine ⟨a % t, st.set n (some [.int (a / t), .int b]), ?_, ⟨_, rfl, a / t, b, g, Int.ediv_nonneg ha (by omega), hb, hb2⟩, Int.emod_nonneg _ (by omega), Int.emod_lt_of_pos _ t1⟩
    have w := fn_rt (keep := false) (n := 3) (u := u__law_take) (args := [.ref n, .d (.int t)]) (st := st) (st2 := st.set n (some [.int (a / t), .int b])) (d := .int (a % t)) (by
      unfold u__law_take
      refine bc_rt ?_
      refine (s_ifT (st2 := st) (by simp [xVar, xC, xNil, xCons, xTup, xLst, xLstR, disp, xOp, xChain, iOp, oSub, oMod, oLt, oLe, oGt, oGe, oAdd, oEqS, oNeS, oIn, oIs, xB, xTru, tNt, tAn, tOrr, xNt, xAn, xOr, xIf, xUn, oNeg, oIx, xSl, pNo, pAt, oSl, xFn, kLen, kInt, kMax2, kTuple, kList, kListR, kRepr, xIsi, isN, tyN, view, frz, frzAll, wSeq, wEnm, gN, gs0, gs1, gT, bNil, bCons, thenB, sExp, sRet, sIf, sSet, sTup, sPar, sSub, sSub2, putAt, sRaise, fin, retV, entry, fnO, xCall, xApp, xPopAt, yes, sb, tru, isNon, ownOf, oAddL, hs, at0, hp])).trans ?_
      refine (bc_nx (env2 := [some (.ref n), some (.d (.int t)), some (.d (.int (a % t)))]) (st2 := st) (by simp [xVar, xC, xNil, xCons, xTup, xLst, xLstR, disp, xOp, xChain, iOp, oSub, oMod, oLt, oLe, oGt, oGe, oAdd, oEqS, oNeS, oIn, oIs, xB, xTru, tNt, tAn, tOrr, xNt, xAn, xOr, xIf, xUn, oNeg, oIx, xSl, pNo, pAt, oSl, xFn, kLen, kInt, kMax2, kTuple, kList, kListR, kRepr, xIsi, isN, tyN, view, frz, frzAll, wSeq, wEnm, gN, gs0, gs1, gT, bNil, bCons, thenB, sExp, sRet, sIf, sSet, sTup, sPar, sSub, sSub2, putAt, sRaise, fin, retV, entry, fnO, xCall, xApp, xPopAt, yes, sb, tru, isNon, ownOf, oAddL, hs, at0, t1])).trans ?_
      refine (bc_nx (env2 := [some (.ref n), some (.d (.int t)), some (.d (.int (a % t)))]) (st2 := st.set n (some [.int (a / t), .int b])) (by simp [xVar, xC, xNil, xCons, xTup, xLst, xLstR, disp, xOp, xChain, iOp, oSub, oMod, oLt, oLe, oGt, oGe, oAdd, oEqS, oNeS, oIn, oIs, xB, xTru, tNt, tAn, tOrr, xNt, xAn, xOr, xIf, xUn, oNeg, oIx, xSl, pNo, pAt, oSl, xFn, kLen, kInt, kMax2, kTuple, kList, kListR, kRepr, xIsi, isN, tyN, view, frz, frzAll, wSeq, wEnm, gN, gs0, gs1, gT, bNil, bCons, thenB, sExp, sRet, sIf, sSet, sTup, sPar, sSub, sSub2, putAt, sRaise, fin, retV, entry, fnO, xCall, xApp, xPopAt, yes, sb, tru, isNon, ownOf, oAddL, hs, at0, divW ⟨t1, t2⟩, ix20])).trans ?_
      exact s_ret (by simp [xVar, xC, xNil, xCons, xTup, xLst, xLstR, disp, xOp, xChain, iOp, oSub, oMod, oLt, oLe, oGt, oGe, oAdd, oEqS, oNeS, oIn, oIs, xB, xTru, tNt, tAn, tOrr, xNt, xAn, xOr, xIf, xUn, oNeg, oIx, xSl, pNo, pAt, oSl, xFn, kLen, kInt, kMax2, kTuple, kList, kListR, kRepr, xIsi, isN, tyN, view, frz, frzAll, wSeq, wEnm, gN, gs0, gs1, gT, bNil, bCons, thenB, sExp, sRet, sIf, sSet, sTup, sPar, sSub, sSub2, putAt, sRaise, fin, retV, entry, fnO, xCall, xApp, xPopAt, yes, sb, tru, isNon, ownOf, oAddL]))
    rw [List.take_of_length_le (by rw [List.length_set]; exact Nat.le_refl _)] at w
    exact w
  · obtain ⟨b2, hb'⟩ : ∃ b2 : Int, b2 = (b * 39373 + 7) % 2147483647 := ⟨_, rfl⟩
    have p1 : 0 ≤ b2 := by rw [hb']; exact Int.emod_nonneg _ (by decide)
    have p2 : b2 < 2147483647 := by rw [hb']; exact Int.emod_lt_of_pos _ (by decide)
    have g := set_at (v := some [.int a, .int b2]) hs
    have m1 : ∀ s : Store, oMul (.d (.int b)) (.d (.int 39373)) s = .ok (.d (.int (b * 39373))) s := fun s => mulR (by decide) (by decide)
    have m2 : ∀ s : Store, oMul (.d (.int b2)) (.d (.int b2)) s = .ok (.d (.int (b2 * b2))) s := fun s => mulR (by omega) (by omega)
    refine ⟨((b2 * b2) % 2147483629 / 32) % t, st.set n (some [.int a, .int b2]), ?_, ⟨_, rfl, a, b2, g, ha, p1, p2⟩, Int.emod_nonneg _ (by omega), Int.emod_lt_of_pos _ t1⟩
    have w := fn_rt (keep := false) (n := 3) (u := u__law_take) (args := [.ref n, .d (.int t)]) (st := st) (st2 := st.set n (some [.int a, .int b2])) (d := .int (((b2 * b2) % 2147483629 / 32) % t)) (by
      unfold u__law_take
      refine (bc_nx (env2 := [some (.ref n), some (.d (.int t)), none]) (st2 := st) ((s_ifF (st2 := st) (by simp [xVar, xC, xNil, xCons, xTup, xLst, xLstR, disp, xOp, xChain, iOp, oSub, oMod, oLt, oLe, oGt, oGe, oAdd, oEqS, oNeS, oIn, oIs, xB, xTru, tNt, tAn, tOrr, xNt, xAn, xOr, xIf, xUn, oNeg, oIx, xSl, pNo, pAt, oSl, xFn, kLen, kInt, kMax2, kTuple, kList, kListR, kRepr, xIsi, isN, tyN, view, frz, frzAll, wSeq, wEnm, gN, gs0, gs1, gT, bNil, bCons, thenB, sExp, sRet, sIf, sSet, sTup, sPar, sSub, sSub2, putAt, sRaise, fin, retV, entry, fnO, xCall, xApp, xPopAt, yes, sb, tru, isNon, ownOf, oAddL, hs, at0, hp])).trans rfl)).trans ?_
      refine (bc_nx (env2 := [some (.ref n), some (.d (.int t)), none]) (st2 := st.set n (some [.int a, .int b2])) (by simp [xVar, xC, xNil, xCons, xTup, xLst, xLstR, disp, xOp, xChain, iOp, oSub, oMod, oLt, oLe, oGt, oGe, oAdd, oEqS, oNeS, oIn, oIs, xB, xTru, tNt, tAn, tOrr, xNt, xAn, xOr, xIf, xUn, oNeg, oIx, xSl, pNo, pAt, oSl, xFn, kLen, kInt, kMax2, kTuple, kList, kListR, kRepr, xIsi, isN, tyN, view, frz, frzAll, wSeq, wEnm, gN, gs0, gs1, gT, bNil, bCons, thenB, sExp, sRet, sIf, sSet, sTup, sPar, sSub, sSub2, putAt, sRaise, fin, retV, entry, fnO, xCall, xApp, xPopAt, yes, sb, tru, isNon, ownOf, oAddL, hs, at1, m1, ix21, hb'])).trans ?_
      exact s_ret (by simp [xVar, xC, xNil, xCons, xTup, xLst, xLstR, disp, xOp, xChain, iOp, oSub, oMod, oLt, oLe, oGt, oGe, oAdd, oEqS, oNeS, oIn, oIs, xB, xTru, tNt, tAn, tOrr, xNt, xAn, xOr, xIf, xUn, oNeg, oIx, xSl, pNo, pAt, oSl, xFn, kLen, kInt, kMax2, kTuple, kList, kListR, kRepr, xIsi, isN, tyN, view, frz, frzAll, wSeq, wEnm, gN, gs0, gs1, gT, bNil, bCons, thenB, sExp, sRet, sIf, sSet, sTup, sPar, sSub, sSub2, putAt, sRaise, fin, retV, entry, fnO, xCall, xApp, xPopAt, yes, sb, tru, isNon, ownOf, oAddL, g, at1, m2, divW l32, t1]))
    rw [List.take_of_length_le (by rw [List.length_set]; exact Nat.le_refl _)] at w
    exact w
theorem Draw.len {st st' : Store} {n : Nat} (h : Draw st st' n) : st'.length = st.length := by
  obtain ⟨v, rfl, _⟩ := h
  rw [List.length_set]
theorem Draw.src {st st' : Store} {n : Nat} (h : Draw st st' n) : Src st' n := by obtain ⟨v, _, h⟩ := h; exact h
theorem Draw.trans {st st1 st2 : Store} {n : Nat} (h : Draw st st1 n) (k : Draw st1 st2 n) : Draw st st2 n := by
  obtain ⟨v, rfl, _⟩ := h
  obtain ⟨w, rfl, h⟩ := k
  rw [List.set_set] at h ⊢
  exact ⟨w, rfl, h⟩
theorem Draw.refl {st : Store} {n : Nat} (h : Src st n) : Draw st st n := by
  obtain ⟨a, b, e, h1⟩ := h
  refine ⟨some [.int a, .int b], ?_, a, b, e, h1⟩
  obtain ⟨hn, he⟩ := List.getElem?_eq_some_iff.mp e
  rw [← he, List.set_getElem_self]
theorem src_app {st more : Store} {n : Nat} (h : Src st n) : Src (st ++ more) n := by
  obtain ⟨a, b, e, h1⟩ := h
  exact ⟨a, b, by rw [List.getElem?_append_left (List.getElem?_eq_some_iff.mp e).1]; exact e, h1⟩
theorem src_lt {st : Store} {n : Nat} (h : Src st n) : n < st.length := by
  obtain ⟨a, b, e, _⟩ := h
  exact (List.getElem?_eq_some_iff.mp e).1
/-- drawn while more lists stand behind -/
theorem draw_app {st more st' : Store} {n : Nat} (hs : Src st n) (h : Draw (st ++ more) st' n) : ∃ st1, st' = st1 ++ more ∧ Draw st st1 n := by
  obtain ⟨v, rfl, h⟩ := h
  have hn := src_lt hs
  rw [List.set_append_left _ _ hn] at h ⊢
  refine ⟨_, rfl, v, rfl, ?_⟩
  obtain ⟨a, b, e, h1⟩ := h
  exact ⟨a, b, by rw [List.getElem?_append_left (by rw [List.length_set]; exact hn)] at e; exact e, h1⟩
theorem one_ok {st : Store} {n : Nat} {xs : List PyData} (hs : Src st n) (h0 : 0 < xs.length) (h1 : xs.length ≤ 1000) : ∃ (r : Nat) (d : PyData) (st' : Store), f__law_one [.ref n, .d (.list xs)] st = .ok (.d d) st' ∧ Draw st st' n ∧ xs[r]? = some d := by
  obtain ⟨r, st', e, dr, r0, r1⟩ := take_ok (t := xs.length) hs (top_small (by omega) (by omega))
  have hl : r.toNat < xs.length := by omega
  have ea : atI xs r = some xs[r.toNat] := by rw [atI_at r0 r1, List.getElem?_eq_getElem hl]
  refine ⟨r.toNat, xs[r.toNat], st', ?_, dr, List.getElem?_eq_getElem hl⟩
  have w := fn_rt (keep := false) (n := 2) (u := u__law_one) (args := [.ref n, .d (.list xs)]) (st := st) (st2 := st') (d := xs[r.toNat]) (by
    unfold u__law_one
    exact s_ret (by simp [xVar, xC, xNil, xCons, xTup, xLst, xLstR, disp, xOp, xChain, iOp, oSub, oMod, oLt, oLe, oGt, oGe, oAdd, oEqS, oNeS, oIn, oIs, xB, xTru, tNt, tAn, tOrr, xNt, xAn, xOr, xIf, xUn, oNeg, oIx, xSl, pNo, pAt, oSl, xFn, kLen, kInt, kMax2, kTuple, kList, kListR, kRepr, xIsi, isN, tyN, view, frz, frzAll, wSeq, wEnm, gN, gs0, gs1, gT, bNil, bCons, thenB, sExp, sRet, sIf, sSet, sTup, sPar, sSub, sSub2, putAt, sRaise, fin, retV, entry, fnO, xCall, xApp, xPopAt, yes, sb, tru, isNon, ownOf, oAddL, e, ea]))
  rw [List.take_of_length_le (by rw [dr.len]; exact Nat.le_refl _)] at w
  exact w
theorem pool_ok {ns : List Int} {st : Store} : ∃ a b : Int, f__law_pool [.d (.list (ns.map .int)), .d (.int 0)] st = .ok (.ref st.length) (st ++ [some [.int a, .int b]]) ∧ 0 ≤ a ∧ 0 ≤ b ∧ b < 2147483647 := by
  obtain ⟨c, s2⟩ : ∃ c : Int, sIf (xB (xOp oLt (xVar 1) (xFn kLen (xCons (xVar 0) xNil)))) (sSet 2 (xOp oIx (xVar 0) (xVar 1))) (sIf (xB (xOp oNeS (xVar 0) (xLst xNil))) (sSet 2 (xOp oIx (xVar 0) (xC (.int 0)))) bNil)
      [some (.d (.list (ns.map .int))), some (.d (.int 0)), some (.d (.int 0)), none, none] st = .ok (.nx [some (.d (.list (ns.map .int))), some (.d (.int 0)), some (.d (.int c)), none, none]) st := by
    cases ns with
    | nil =>
      refine ⟨0, ?_⟩
      refine (s_ifF (st2 := st) (by simp [xVar, xC, xNil, xCons, xTup, xLst, xLstR, disp, xOp, xChain, iOp, oSub, oMod, oLt, oLe, oGt, oGe, oAdd, oEqS, oNeS, oIn, oIs, xB, xTru, tNt, tAn, tOrr, xNt, xAn, xOr, xIf, xUn, oNeg, oIx, xSl, pNo, pAt, oSl, xFn, kLen, kInt, kMax2, kTuple, kList, kListR, kRepr, xIsi, isN, tyN, view, frz, frzAll, wSeq, wEnm, gN, gs0, gs1, gT, bNil, bCons, thenB, sExp, sRet, sIf, sSet, sTup, sPar, sSub, sSub2, putAt, sRaise, fin, retV, entry, fnO, xCall, xApp, xPopAt, yes, sb, tru, isNon, ownOf, oAddL])).trans ((s_ifF (st2 := st) ?_).trans rfl)
      have e : oNe (.d (.list [])) (.d (.list [])) st = .ok (.d (.bool false)) st := rfl
      simp [xVar, xC, xNil, xCons, xTup, xLst, xLstR, disp, xOp, xChain, iOp, oSub, oMod, oLt, oLe, oGt, oGe, oAdd, oEqS, oNeS, oIn, oIs, xB, xTru, tNt, tAn, tOrr, xNt, xAn, xOr, xIf, xUn, oNeg, oIx, xSl, pNo, pAt, oSl, xFn, kLen, kInt, kMax2, kTuple, kList, kListR, kRepr, xIsi, isN, tyN, view, frz, frzAll, wSeq, wEnm, gN, gs0, gs1, gT, bNil, bCons, thenB, sExp, sRet, sIf, sSet, sTup, sPar, sSub, sSub2, putAt, sRaise, fin, retV, entry, fnO, xCall, xApp, xPopAt, yes, sb, tru, isNon, ownOf, oAddL, e]
    | cons z r =>
      refine ⟨z, (s_ifT (st2 := st) (by simp [xVar, xC, xNil, xCons, xTup, xLst, xLstR, disp, xOp, xChain, iOp, oSub, oMod, oLt, oLe, oGt, oGe, oAdd, oEqS, oNeS, oIn, oIs, xB, xTru, tNt, tAn, tOrr, xNt, xAn, xOr, xIf, xUn, oNeg, oIx, xSl, pNo, pAt, oSl, xFn, kLen, kInt, kMax2, kTuple, kList, kListR, kRepr, xIsi, isN, tyN, view, frz, frzAll, wSeq, wEnm, gN, gs0, gs1, gT, bNil, bCons, thenB, sExp, sRet, sIf, sSet, sTup, sPar, sSub, sSub2, putAt, sRaise, fin, retV, entry, fnO, xCall, xApp, xPopAt, yes, sb, tru, isNon, ownOf, oAddL] <;> omega)).trans ?_⟩
      have e : atI (PyData.int z :: r.map PyData.int) 0 = some (.int z) := atI_nat (j := 0) rfl
      simp [xVar, xC, xNil, xCons, xTup, xLst, xLstR, disp, xOp, xChain, iOp, oSub, oMod, oLt, oLe, oGt, oGe, oAdd, oEqS, oNeS, oIn, oIs, xB, xTru, tNt, tAn, tOrr, xNt, xAn, xOr, xIf, xUn, oNeg, oIx, xSl, pNo, pAt, oSl, xFn, kLen, kInt, kMax2, kTuple, kList, kListR, kRepr, xIsi, isN, tyN, view, frz, frzAll, wSeq, wEnm, gN, gs0, gs1, gT, bNil, bCons, thenB, sExp, sRet, sIf, sSet, sTup, sPar, sSub, sSub2, putAt, sRaise, fin, retV, entry, fnO, xCall, xApp, xPopAt, yes, sb, tru, isNon, ownOf, oAddL, e]
  obtain ⟨big, hbig⟩ : ∃ big : Int, big = if -1 - c > c then -1 - c else c := ⟨_, rfl⟩
  have b0 : 0 ≤ big := by rw [hbig]; split <;> omega
  obtain ⟨e, he⟩ : ∃ e : Int, e = if 1000000000000000000 ≤ big ∧ 0 < ns.length then 1 else 0 := ⟨_, rfl⟩
  have e0 : 0 ≤ e ∧ e < 2 := by rw [he]; split <;> omega
  have m0 : ∀ (i : Int) (s : Store), oMul (.d (.int i)) (.d (.int 0)) s = .ok (.d (.int 0)) s := fun i s => by
    have := mulR (i := i) (j := 0) (st := s) (by decide) (by decide)
    rw [Int.mul_zero] at this
    exact this
  have m1 : ∀ (i : Int) (s : Store), oMul (.d (.int i)) (.d (.int 48271)) s = .ok (.d (.int (i * 48271))) s := fun i s => mulR (by decide) (by decide)
  have m2 : ∀ s : Store, oMul (.d (.int big)) (.d (.int e)) s = .ok (.d (.int (big * e))) s := fun s => mulR (by omega) (by omega)
  obtain ⟨b, hb⟩ : ∃ b : Int, b = ((big % 2147483629 + 0 + 0 + 17) * 48271) % 2147483647 := ⟨_, rfl⟩
  have p1 : 0 ≤ b := by rw [hb]; exact Int.emod_nonneg _ (by decide)
  have p2 : b < 2147483647 := by rw [hb]; exact Int.emod_lt_of_pos _ (by decide)
  refine ⟨big * e, b, ?_, Int.mul_nonneg b0 e0.1, p1, p2⟩
  have k : (xFn kInt (xCons (xAn (xOp oGe (xVar 3) (xOp oPow (xC (.int 10)) (xC (.int 18)))) (xOp oLt (xVar 1) (xFn kLen (xCons (xVar 0) xNil)))) xNil)) [some (.d (.list (ns.map .int))), some (.d (.int 0)), some (.d (.int c)), some (.d (.int big)), some (.d (.int b))] st = .ok (.d (.int e)) st := by
    rw [he]
    by_cases h1 : 1000000000000000000 ≤ big <;> by_cases h2 : 0 < ns.length <;> simp [xVar, xC, xNil, xCons, xTup, xLst, xLstR, disp, xOp, xChain, iOp, oSub, oMod, oLt, oLe, oGt, oGe, oAdd, oEqS, oNeS, oIn, oIs, xB, xTru, tNt, tAn, tOrr, xNt, xAn, xOr, xIf, xUn, oNeg, oIx, xSl, pNo, pAt, oSl, xFn, kLen, kInt, kMax2, kTuple, kList, kListR, kRepr, xIsi, isN, tyN, view, frz, frzAll, wSeq, wEnm, gN, gs0, gs1, gT, bNil, bCons, thenB, sExp, sRet, sIf, sSet, sTup, sPar, sSub, sSub2, putAt, sRaise, fin, retV, entry, fnO, xCall, xApp, xPopAt, yes, sb, tru, isNon, ownOf, oAddL, pow18, h1, h2]
  have w : u__law_pool (entry 5 [.d (.list (ns.map .int)), .d (.int 0)]) st = .ok (.rt (.ref st.length)) (st ++ [some [.int (big * e), .int b]]) := by
    unfold u__law_pool
    refine (bc_nx (env2 := [some (.d (.list (ns.map .int))), some (.d (.int 0)), some (.d (.int 0)), none, none]) (st2 := st) (by simp [xVar, xC, xNil, xCons, xTup, xLst, xLstR, disp, xOp, xChain, iOp, oSub, oMod, oLt, oLe, oGt, oGe, oAdd, oEqS, oNeS, oIn, oIs, xB, xTru, tNt, tAn, tOrr, xNt, xAn, xOr, xIf, xUn, oNeg, oIx, xSl, pNo, pAt, oSl, xFn, kLen, kInt, kMax2, kTuple, kList, kListR, kRepr, xIsi, isN, tyN, view, frz, frzAll, wSeq, wEnm, gN, gs0, gs1, gT, bNil, bCons, thenB, sExp, sRet, sIf, sSet, sTup, sPar, sSub, sSub2, putAt, sRaise, fin, retV, entry, fnO, xCall, xApp, xPopAt, yes, sb, tru, isNon, ownOf, oAddL])).trans ?_
    refine (bc_nx s2).trans ?_
    refine (bc_nx (env2 := [some (.d (.list (ns.map .int))), some (.d (.int 0)), some (.d (.int c)), some (.d (.int big)), none]) (st2 := st) (by simp [xVar, xC, xNil, xCons, xTup, xLst, xLstR, disp, xOp, xChain, iOp, oSub, oMod, oLt, oLe, oGt, oGe, oAdd, oEqS, oNeS, oIn, oIs, xB, xTru, tNt, tAn, tOrr, xNt, xAn, xOr, xIf, xUn, oNeg, oIx, xSl, pNo, pAt, oSl, xFn, kLen, kInt, kMax2, kTuple, kList, kListR, kRepr, xIsi, isN, tyN, view, frz, frzAll, wSeq, wEnm, gN, gs0, gs1, gT, bNil, bCons, thenB, sExp, sRet, sIf, sSet, sTup, sPar, sSub, sSub2, putAt, sRaise, fin, retV, entry, fnO, xCall, xApp, xPopAt, yes, sb, tru, isNon, ownOf, oAddL, hbig])).trans ?_
    refine (bc_nx (env2 := [some (.d (.list (ns.map .int))), some (.d (.int 0)), some (.d (.int c)), some (.d (.int big)), some (.d (.int b))]) (st2 := st) (by simp [xVar, xC, xNil, xCons, xTup, xLst, xLstR, disp, xOp, xChain, iOp, oSub, oMod, oLt, oLe, oGt, oGe, oAdd, oEqS, oNeS, oIn, oIs, xB, xTru, tNt, tAn, tOrr, xNt, xAn, xOr, xIf, xUn, oNeg, oIx, xSl, pNo, pAt, oSl, xFn, kLen, kInt, kMax2, kTuple, kList, kListR, kRepr, xIsi, isN, tyN, view, frz, frzAll, wSeq, wEnm, gN, gs0, gs1, gT, bNil, bCons, thenB, sExp, sRet, sIf, sSet, sTup, sPar, sSub, sSub2, putAt, sRaise, fin, retV, entry, fnO, xCall, xApp, xPopAt, yes, sb, tru, isNon, ownOf, oAddL, m0, m1, hb])).trans ?_
    refine s_ret ?_
    unfold xLstR
    have q := x_cons (x_op (f := xVar 3) rfl k (m2 st)) (x_cons (f := xVar 4) (g := xNil) rfl rfl)
    rw [q]
    simp [xVar, xC, xNil, xCons, xTup, xLst, xLstR, disp, xOp, xChain, iOp, oSub, oMod, oLt, oLe, oGt, oGe, oAdd, oEqS, oNeS, oIn, oIs, xB, xTru, tNt, tAn, tOrr, xNt, xAn, xOr, xIf, xUn, oNeg, oIx, xSl, pNo, pAt, oSl, xFn, kLen, kInt, kMax2, kTuple, kList, kListR, kRepr, xIsi, isN, tyN, view, frz, frzAll, wSeq, wEnm, gN, gs0, gs1, gT, bNil, bCons, thenB, sExp, sRet, sIf, sSet, sTup, sPar, sSub, sSub2, putAt, sRaise, fin, retV, entry, fnO, xCall, xApp, xPopAt, yes, sb, tru, isNon, ownOf, oAddL]
  unfold f__law_pool fnO
  rw [w]
  unfold fin retV
  dsimp only
  rw [if_neg (Nat.lt_irrefl _), get_last rfl]
  simp
/-! ### things in a drawn order -/
theorem erase_perm {α : Type} : ∀ {xs : List α} {i : Nat} {x : α}, xs[i]? = some x → (x :: xs.eraseIdx i).Perm xs
  | [], _, _, h => by simp at h
  | a :: xs, 0, x, h => by
    have e : a = x := by simpa using h
    subst e
    exact .refl _
  | a :: xs, i + 1, x, h => by
    have := erase_perm (xs := xs) (i := i) (x := x) (by simpa using h)
    exact (List.Perm.swap a x _).trans (this.cons a)
theorem mixed_turn {st : Store} {n : Nat} {X Y : EV} {left found : List PyData} {env : Env'} (hs : Src st n) (h0 : 0 < left.length) (h1 : left.length ≤ 1000) (h2 : found.length ≤ 1000) (he : env = [some (.ref n), some X, some (.ref st.length), some (.ref (st.length + 1)), some Y]) :
    ∃ (d : PyData) (left' : List PyData) (st1 : Store), fb__law_mixed_1 env (st ++ [some left, some found]) = .ok (.nx env) (st1 ++ [some left', some (found ++ [d])]) ∧ Draw st st1 n ∧ (d :: left').Perm left := by
  subst he
  obtain ⟨r, s', e, dr, r0, r1⟩ := take_ok (st := st ++ [some left, some found]) (t := left.length) (src_app hs) (top_small (by omega) (by omega))
  obtain ⟨st1, rfl, d1⟩ := draw_app hs dr
  have hl : r.toNat < left.length := by omega
  have l1 : st1.length = st.length := d1.len
  have g1 : (st ++ [some left, some found])[st.length]? = some (some left) := by rw [List.getElem?_append_right (Nat.le_refl _), Nat.sub_self]; rfl
  have g2 : (st ++ [some left, some found])[st.length + 1]? = some (some found) := by rw [List.getElem?_append_right (by omega)]; simp
  have g3 : (st1 ++ [some left, some found])[st.length]? = some (some left) := by rw [← l1, List.getElem?_append_right (Nat.le_refl _), Nat.sub_self]; rfl
  have g4 : (st1 ++ [some left, some found]).set st.length (some (left.eraseIdx r.toNat)) = st1 ++ [some (left.eraseIdx r.toNat), some found] := by rw [← l1, List.set_append_right _ _ (Nat.le_refl _), Nat.sub_self]; rfl
  have g5 : (st1 ++ [some (left.eraseIdx r.toNat), some found])[st.length + 1]? = some (some found) := by rw [← l1, List.getElem?_append_right (by omega)]; simp
  have g6 : (st1 ++ [some (left.eraseIdx r.toNat), some found]).set (st.length + 1) (some (found ++ [left[r.toNat]])) = st1 ++ [some (left.eraseIdx r.toNat), some (found ++ [left[r.toNat]])] := by
    rw [← l1, List.set_append_right _ _ (by omega)]
    simp
  have e63 : (2 : Int) ^ 63 = 9223372036854775808 := rfl
  have sq : seqIndex? r left.length = some r.toNat := by
    unfold seqIndex?
    have z : (if r < 0 then r + (left.length : Int) else r) = r := if_neg (by omega)
    simp only [z]
    rw [if_pos (by simp; omega)]
  have pop : xPopAt (xVar 2) (xCons (xCall 2 f__law_take (xCons (xVar 0) (xCons (xFn kLen (xCons (xVar 2) xNil)) xNil))) xNil) [some (.ref n), some X, some (.ref st.length), some (.ref (st.length + 1)), some Y] (st ++ [some left, some found]) = .ok (.d left[r.toNat]) (st1 ++ [some (left.eraseIdx r.toNat), some found]) := by
    have a : xCons (xCall 2 f__law_take (xCons (xVar 0) (xCons (xFn kLen (xCons (xVar 2) xNil)) xNil))) xNil [some (.ref n), some X, some (.ref st.length), some (.ref (st.length + 1)), some Y] (st ++ [some left, some found]) = .ok [.d (.int r)] (st1 ++ [some left, some found]) := by
      simp [xVar, xC, xNil, xCons, xTup, xLst, xLstR, disp, xOp, xChain, iOp, oSub, oMod, oLt, oLe, oGt, oGe, oAdd, oEqS, oNeS, oIn, oIs, xB, xTru, tNt, tAn, tOrr, xNt, xAn, xOr, xIf, xUn, oNeg, oIx, xSl, pNo, pAt, oSl, xFn, kLen, kInt, kMax2, kTuple, kList, kListR, kRepr, xIsi, isN, tyN, view, frz, frzAll, wSeq, wEnm, gN, gs0, gs1, gT, bNil, bCons, thenB, sExp, sRet, sIf, sSet, sTup, sPar, sSub, sSub2, putAt, sRaise, fin, retV, entry, fnO, xCall, xApp, xPopAt, yes, sb, tru, isNon, ownOf, oAddL, g1, e]
    have v : xVar 2 [some (.ref n), some X, some (.ref st.length), some (.ref (st.length + 1)), some Y] (st ++ [some left, some found]) = .ok (.ref st.length) (st ++ [some left, some found]) := rfl
    unfold xPopAt
    rw [v, bind_ok]
    dsimp only
    rw [g1]
    dsimp only
    rw [a, bind_ok]
    dsimp only
    rw [g3]
    dsimp only
    rw [e63, if_pos ⟨by omega, by omega⟩, sq]
    dsimp only
    rw [List.getElem?_eq_getElem hl, g4]
  refine ⟨left[r.toNat], left.eraseIdx r.toNat, st1, ?_, d1, erase_perm (List.getElem?_eq_getElem hl)⟩
  unfold fb__law_mixed_1
  refine s_exp (a := .d .none) ?_
  have a := x_cons pop (g := xNil) rfl
  have v : xVar 3 [some (.ref n), some X, some (.ref st.length), some (.ref (st.length + 1)), some Y] (st ++ [some left, some found]) = .ok (.ref (st.length + 1)) (st ++ [some left, some found]) := rfl
  unfold xApp
  rw [v, bind_ok]
  dsimp only
  rw [g2]
  dsimp only
  rw [a, bind_ok]
  dsimp only [frz]
  rw [g5]
  dsimp only
  rw [if_pos (Nat.lt_of_le_of_lt h2 sz_line), g6]
def MixTurn (U : Sx) : Prop := ∀ (st : Store) (n : Nat) (X Y : EV) (left found : List PyData) (env : Env'), Src st n → 0 < left.length → left.length ≤ 1000 → found.length ≤ 1000 → env = [some (.ref n), some X, some (.ref st.length), some (.ref (st.length + 1)), some Y] →
  ∃ (d : PyData) (left' : List PyData) (st1 : Store), U env (st ++ [some left, some found]) = .ok (.nx env) (st1 ++ [some left', some (found ++ [d])]) ∧ Draw st st1 n ∧ (d :: left').Perm left
theorem mixed_loop {U : Sx} (turn : MixTurn U) {st : Store} {n : Nat} {xs : List PyData} (hs : Src st n) (hx : xs.length ≤ 500) :
    ∃ (r : Fl) (s' : Store), sFor (wRng1 (xFn kLen (xCons (xVar 1) xNil))) (gN 4) U [some (.ref n), some (.d (.list xs)), some (.ref st.length), some (.ref (st.length + 1)), none] (st ++ [some xs, some []]) = .ok r s' ∧
      (∃ a, r = .nx [some (.ref n), some (.d (.list xs)), some (.ref st.length), some (.ref (st.length + 1)), a]) ∧ ∃ st1 ys, ys.Perm xs ∧ s' = st1 ++ [some [], some ys] ∧ Draw st st1 n := by
  have hw := wRng1_ok (f := xFn kLen (xCons (xVar 1) xNil)) (env := [some (.ref n), some (.d (.list xs)), some (.ref st.length), some (.ref (st.length + 1)), none]) (st := st ++ [some xs, some []]) (st' := st ++ [some xs, some []]) (j := xs.length) (by simp [xVar, xC, xNil, xCons, xTup, xLst, xLstR, disp, xOp, xChain, iOp, oSub, oMod, oLt, oLe, oGt, oGe, oAdd, oEqS, oNeS, oIn, oIs, xB, xTru, tNt, tAn, tOrr, xNt, xAn, xOr, xIf, xUn, oNeg, oIx, xSl, pNo, pAt, oSl, xFn, kLen, kInt, kMax2, kTuple, kList, kListR, kRepr, xIsi, isN, tyN, view, frz, frzAll, wSeq, wEnm, gN, gs0, gs1, gT, bNil, bCons, thenB, sExp, sRet, sIf, sSet, sTup, sPar, sSub, sSub2, putAt, sRaise, fin, retV, entry, fnO, xCall, xApp, xPopAt, yes, sb, tru, isNon, ownOf, oAddL]) (by omega) (by omega)
  rw [Int.toNat_natCast] at hw
  exact sFor_run (t := gN 4) (u := U)
    (R := fun r s' => (∃ a, r = .nx [some (.ref n), some (.d (.list xs)), some (.ref st.length), some (.ref (st.length + 1)), a]) ∧ ∃ st1 ys, ys.Perm xs ∧ s' = st1 ++ [some [], some ys] ∧ Draw st st1 n)
    hw (fun i env s' => (∃ a, env = [some (.ref n), some (.d (.list xs)), some (.ref st.length), some (.ref (st.length + 1)), a]) ∧ ∃ st1 left found, s' = st1 ++ [some left, some found] ∧ Draw st st1 n ∧ left.length + i = xs.length ∧ (found ++ left).Perm xs)
    ⟨⟨_, rfl⟩, st, xs, [], rfl, Draw.refl hs, by simp, by simp⟩
    (fun i d env s' hd ⟨⟨a, he⟩, st1, left, found, h1, h2, h3, h4⟩ => by
      subst he h1
      have hi : i < xs.length := by have := (List.getElem?_eq_some_iff.mp hd).1; rw [rng_len] at this; exact this
      have fl : found.length ≤ 1000 := by have := h4.length_eq; rw [List.length_append] at this; omega
      have l1 : st1.length = st.length := h2.len
      obtain ⟨x, left', st2, e1, d2, pm⟩ := turn st1 n (.d (.list xs)) (.d d) left found _ h2.src (by omega) (by omega) fl rfl
      rw [l1] at e1
      refine ⟨[some (.ref n), some (.d (.list xs)), some (.ref st.length), some (.ref (st.length + 1)), some (.d d)], rfl, _, _, e1, ⟨_, rfl⟩, st2, left', found ++ [x], rfl, h2.trans d2, ?_, ?_⟩
      · have := pm.length_eq
        rw [List.length_cons] at this
        omega
      · rw [List.append_assoc]
        exact ((List.Perm.append_left found pm)).trans h4)
    (fun env s' ⟨⟨a, he⟩, st1, left, found, h1, h2, h3, h4⟩ => by
      rw [rng_len] at h3
      have : left = [] := List.eq_nil_of_length_eq_zero (by omega)
      subst this
      rw [List.append_nil] at h4
      exact ⟨⟨a, by rw [he]⟩, st1, found, h4, h1, h2⟩)
end Nz

end
section
set_option Elab.async false
set_option linter.all false
set_option maxRecDepth 100000
set_option maxHeartbeats 2000000
namespace Nz
open PySem PySem.Spec PyProof.Rows L2
theorem fn_ownG {n L : Nat} {u : Sx} {args : List EV} {st st2 : Store} {ds : List PyData} (h : u (entry n args) st = .ok (.rt (.ref L)) st2) (hL : ¬ L < st.length) (g : st2[L]? = some (some ds)) : fnO false n u args st = .ok (.d (.list ds)) (st2.take st.length) := by
  unfold fnO; rw [h]
  unfold fin retV
  dsimp only
  rw [if_neg hL, g]
  dsimp only
  rw [if_neg Bool.false_ne_true]
theorem mixed_ok {st : Store} {n : Nat} {xs : List PyData} (hs : Src st n) (hx : xs.length ≤ 500) : ∃ ys st', f__law_mixed [.ref n, .d (.list xs)] st = .ok (.d (.list ys)) st' ∧ Draw st st' n ∧ ys.Perm xs := by
  obtain ⟨r, s', e, ⟨a, rfl⟩, st1, ys, hy, rfl, d1⟩ := mixed_loop (U := fb__law_mixed_1) (fun st n X Y left found env a b c d e => mixed_turn a b c d e) hs hx
  refine ⟨ys, st1, ?_, d1, hy⟩
  have l1 : st1.length = st.length := d1.len
  have e2 : fl__law_mixed_2 [some (.ref n), some (.d (.list xs)), some (.ref st.length), some (.ref (st.length + 1)), none] (st ++ [some xs, some []]) = .ok (.nx [some (.ref n), some (.d (.list xs)), some (.ref st.length), some (.ref (st.length + 1)), a]) (st1 ++ [some [], some ys]) := by
    unfold fl__law_mixed_2
    exact e
  have w : u__law_mixed (entry 5 [.ref n, .d (.list xs)]) st = .ok (.rt (.ref (st.length + 1))) (st1 ++ [some [], some ys]) := by
    unfold u__law_mixed
    refine (bc_nx (env2 := [some (.ref n), some (.d (.list xs)), some (.ref st.length), some (.ref (st.length + 1)), none]) (st2 := st ++ [some xs, some []]) (by simp [xVar, xC, xNil, xCons, xTup, xLst, xLstR, disp, xOp, xChain, iOp, oSub, oMod, oLt, oLe, oGt, oGe, oAdd, oEqS, oNeS, oIn, oIs, xB, xTru, tNt, tAn, tOrr, xNt, xAn, xOr, xIf, xUn, oNeg, oIx, xSl, pNo, pAt, oSl, xFn, kLen, kInt, kMax2, kTuple, kList, kListR, kRepr, xIsi, isN, tyN, view, frz, frzAll, wSeq, wEnm, gN, gs0, gs1, gT, bNil, bCons, thenB, sExp, sRet, sIf, sSet, sTup, sPar, sSub, sSub2, putAt, sRaise, fin, retV, entry, fnO, xCall, xApp, xPopAt, yes, sb, tru, isNon, ownOf, oAddL])).trans ?_
    refine (bc_nx e2).trans ?_
    exact s_ret (by simp [xVar, xC, xNil, xCons, xTup, xLst, xLstR, disp, xOp, xChain, iOp, oSub, oMod, oLt, oLe, oGt, oGe, oAdd, oEqS, oNeS, oIn, oIs, xB, xTru, tNt, tAn, tOrr, xNt, xAn, xOr, xIf, xUn, oNeg, oIx, xSl, pNo, pAt, oSl, xFn, kLen, kInt, kMax2, kTuple, kList, kListR, kRepr, xIsi, isN, tyN, view, frz, frzAll, wSeq, wEnm, gN, gs0, gs1, gT, bNil, bCons, thenB, sExp, sRet, sIf, sSet, sTup, sPar, sSub, sSub2, putAt, sRaise, fin, retV, entry, fnO, xCall, xApp, xPopAt, yes, sb, tru, isNon, ownOf, oAddL])
  have g : (st1 ++ [some [], some ys])[st.length + 1]? = some (some ys) := by rw [← l1, List.getElem?_append_right (by omega)]; simp
  have z := fn_ownG w (by omega) g
  have tk : (st1 ++ [some [], some ys]).take st.length = st1 := by rw [← l1]; exact List.take_left
  rw [tk] at z
  exact z
/-! ### climbing, as the law does it -/
abbrev pPs (qs : List (Int × Int)) : List PyData := qs.map fun q => PyData.tuple [.int q.1, .int q.2]
theorem pz : pPs [] = [] := rfl
theorem climb_loop {fo : List Pl} {X : EV} {st : Store} {p : Pl} (hl : fo.length ≤ 24) (he : Ends fo fo.length p) : ∃ r st', fl__law_climb_2 [some (.d (pF fo)), some X, some (.ref st.length), some (.d (pP p)), none] (st ++ [some []]) = .ok r st' ∧
    (∃ a b, r = .nx [some (.d (pF fo)), some X, some (.ref st.length), a, b]) ∧ st' = st ++ [some (pPs (climb fo fo.length p))] := by
  have hw := wRng1_ok (f := xFn kLen (xCons (xVar 0) xNil)) (env := [some (.d (pF fo)), some X, some (.ref st.length), some (.d (pP p)), none]) (st := st ++ [some []]) (st' := st ++ [some []]) (j := fo.length) (by simp [xVar, xC, xNil, xCons, xTup, xLst, xLstR, disp, xOp, xChain, iOp, oSub, oMod, oLt, oLe, oGt, oGe, oAdd, oEqS, oNeS, oIn, oIs, xB, xTru, tNt, tAn, tOrr, xNt, xAn, xOr, xIf, xUn, oNeg, oIx, xSl, pNo, pAt, oSl, xFn, kLen, kInt, kMax2, kTuple, kList, kListR, kRepr, xIsi, isN, tyN, view, frz, frzAll, wSeq, wEnm, gN, gs0, gs1, gT, bNil, bCons, thenB, sExp, sRet, sIf, sSet, sTup, sPar, sSub, sSub2, putAt, sRaise, fin, retV, entry, fnO, xCall, xApp, xPopAt, yes, sb, tru, isNon, ownOf, oAddL]) (by omega) (by omega)
  rw [Int.toNat_natCast] at hw
  unfold fl__law_climb_2
  exact sFor_run (t := gN 4) (u := fb__law_climb_1) (R := fun r s' => (∃ a b, r = .nx [some (.d (pF fo)), some X, some (.ref st.length), a, b]) ∧ s' = st ++ [some (pPs (climb fo fo.length p))]) hw
    (fun i env s' => ∃ (p' : Pl) (found : List PyData) (a : Option EV), Ends fo (fo.length - i) p' ∧ found.length ≤ i ∧ env = [some (.d (pF fo)), some X, some (.ref st.length), some (.d (pP p')), a] ∧ s' = st ++ [some found] ∧ found ++ pPs (climb fo (fo.length - i) p') = pPs (climb fo fo.length p))
    ⟨p, [], none, he, Nat.le_refl _, rfl, rfl, rfl⟩
    (fun i d env s' hd ⟨p', found, a, h1, hf, h2, h3, h4⟩ => by
      subst h2 h3
      have hi : i < fo.length := by have := (List.getElem?_eq_some_iff.mp hd).1; rw [rng_len] at this; exact this
      refine ⟨[some (.d (pF fo)), some X, some (.ref st.length), some (.d (pP p')), some (.d d)], rfl, ?_⟩
      have el : fo.length - i = (fo.length - (i + 1)) + 1 := by omega
      cases p' with
      | none =>
        rw [climb_none, pz, List.append_nil] at h4
        exact ⟨.bk [some (.d (pF fo)), some X, some (.ref st.length), some (.d (pP none)), some (.d d)], st ++ [some found], by simp [xVar, xC, xNil, xCons, xTup, xLst, xLstR, disp, xOp, xChain, iOp, oSub, oMod, oLt, oLe, oGt, oGe, oAdd, oEqS, oNeS, oIn, oIs, xB, xTru, tNt, tAn, tOrr, xNt, xAn, xOr, xIf, xUn, oNeg, oIx, xSl, pNo, pAt, oSl, xFn, kLen, kInt, kMax2, kTuple, kList, kListR, kRepr, xIsi, isN, tyN, view, frz, frzAll, wSeq, wEnm, gN, gs0, gs1, gT, bNil, bCons, thenB, sExp, sRet, sIf, sSet, sTup, sPar, sSub, sSub2, putAt, sRaise, fin, retV, entry, fnO, xCall, xApp, xPopAt, yes, sb, tru, isNon, ownOf, oAddL, fb__law_climb_1, pP], ⟨_, _, rfl⟩, by rw [h4]⟩
      | some q =>
        obtain ⟨h, r⟩ := q
        rw [el] at h1 h4
        obtain ⟨⟨a1, a2⟩, a3⟩ := h1
        have z := fo_at a1 a2
        have g := get_last (base := st) (a := found) rfl
        have s := set_last (base := st) (a := found) (b := found ++ [.tuple [.int h, .int r]]) rfl
        have sz : found.length < sizeLine := Nat.lt_of_le_of_lt (by omega) sz_line
        refine ⟨.nx [some (.d (pF fo)), some X, some (.ref st.length), some (.d (pP (upOf fo h.toNat))), some (.d d)], st ++ [some (found ++ [.tuple [.int h, .int r]])], by simp [xVar, xC, xNil, xCons, xTup, xLst, xLstR, disp, xOp, xChain, iOp, oSub, oMod, oLt, oLe, oGt, oGe, oAdd, oEqS, oNeS, oIn, oIs, xB, xTru, tNt, tAn, tOrr, xNt, xAn, xOr, xIf, xUn, oNeg, oIx, xSl, pNo, pAt, oSl, xFn, kLen, kInt, kMax2, kTuple, kList, kListR, kRepr, xIsi, isN, tyN, view, frz, frzAll, wSeq, wEnm, gN, gs0, gs1, gT, bNil, bCons, thenB, sExp, sRet, sIf, sSet, sTup, sPar, sSub, sSub2, putAt, sRaise, fin, retV, entry, fnO, xCall, xApp, xPopAt, yes, sb, tru, isNon, ownOf, oAddL, fb__law_climb_1, pP, at0, z, sz, upOf], upOf fo h.toNat, _, _, a3, by rw [List.length_append]; simp; omega, rfl, rfl, ?_⟩
        rw [← h4]
        simp [climb, upOf])
    (fun env s' ⟨p', found, a, h1, hf, h2, h3, h4⟩ => by
      rw [rng_len, Nat.sub_self] at h1 h4
      have e : climb fo 0 p' = [] := rfl
      rw [e, pz, List.append_nil] at h4
      exact ⟨⟨_, _, by rw [h2]⟩, by rw [h3, h4]⟩)
theorem law_climb_ok {rs : List Int} {fo : List Pl} {x : Nat} {st : Store} (t : Tree rs fo) (hx : x < fo.length) : f__law_climb [.d (pF fo), .d (.int x)] st = .ok (.d (.list (pPs (above fo x)))) st := by
  have h24 : fo.length ≤ 24 := by have := t.len; have := t.rooms.1; omega
  have z := fo_at (fo := fo) (h := (x : Int)) (by omega) (by omega)
  rw [Int.toNat_natCast] at z
  obtain ⟨r, s', e, ⟨a, b, rfl⟩, hs⟩ := climb_loop (X := .d (.int x)) (st := st) h24 (t.ends hx)
  subst hs
  have w : u__law_climb (entry 5 [.d (pF fo), .d (.int x)]) st = .ok (.rt (.ref st.length)) (st ++ [some (pPs (climb fo fo.length (upOf fo x)))]) := by
    unfold u__law_climb
    refine (bc_nx (env2 := [some (.d (pF fo)), some (.d (.int x)), some (.ref st.length), some (.d (pP (upOf fo x))), none]) (st2 := st ++ [some []]) (by simp [xVar, xC, xNil, xCons, xTup, xLst, xLstR, disp, xOp, xChain, iOp, oSub, oMod, oLt, oLe, oGt, oGe, oAdd, oEqS, oNeS, oIn, oIs, xB, xTru, tNt, tAn, tOrr, xNt, xAn, xOr, xIf, xUn, oNeg, oIx, xSl, pNo, pAt, oSl, xFn, kLen, kInt, kMax2, kTuple, kList, kListR, kRepr, xIsi, isN, tyN, view, frz, frzAll, wSeq, wEnm, gN, gs0, gs1, gT, bNil, bCons, thenB, sExp, sRet, sIf, sSet, sTup, sPar, sSub, sSub2, putAt, sRaise, fin, retV, entry, fnO, xCall, xApp, xPopAt, yes, sb, tru, isNon, ownOf, oAddL, z, upOf])).trans ?_
    refine (bc_nx e).trans ?_
    exact s_ret (by simp [xVar, xC, xNil, xCons, xTup, xLst, xLstR, disp, xOp, xChain, iOp, oSub, oMod, oLt, oLe, oGt, oGe, oAdd, oEqS, oNeS, oIn, oIs, xB, xTru, tNt, tAn, tOrr, xNt, xAn, xOr, xIf, xUn, oNeg, oIx, xSl, pNo, pAt, oSl, xFn, kLen, kInt, kMax2, kTuple, kList, kListR, kRepr, xIsi, isN, tyN, view, frz, frzAll, wSeq, wEnm, gN, gs0, gs1, gT, bNil, bCons, thenB, sExp, sRet, sIf, sSet, sTup, sPar, sSub, sSub2, putAt, sRaise, fin, retV, entry, fnO, xCall, xApp, xPopAt, yes, sb, tru, isNon, ownOf, oAddL])
  have q := fn_ownG w (Nat.lt_irrefl _) (get_last rfl)
  rw [List.take_left] at q
  exact q
end Nz

end
section
set_option Elab.async false
set_option linter.all false
set_option maxRecDepth 100000
set_option maxHeartbeats 2000000
namespace Nz
open PySem PySem.Spec PyProof.Rows L2
/-! ### what can be printed -/
theorem int_short {i : Int} (h : i.natAbs < 10 ^ 22) : (PyData.shown (.int i)).length ≤ 40 := by
  have z := int_text_length_le10 (a := i) (k := 22) (by decide) h
  show (PySem.Str.ofString (toString i)).length ≤ 40
  rw [PySem.ofString_length]
  omega
theorem log_small {i : Int} (h : i.natAbs < 10 ^ 22) : i.natAbs.log2 < 100 := by
  by_cases z : i.natAbs = 0
  · rw [z]; decide
  · exact (Nat.log2_lt z).mpr (Nat.lt_of_lt_of_le h (by decide))
theorem can_show {d : PyData} (h1 : d.canLay0 = true) (h2 : d.depth ≤ 64) (h3 : d.showable = true) (h4 : d.hasDict = false) (h5 : d.intsShort 40 = true) (h6 : d.weight ≤ 100000) : canShow d = true := by
  have a := PyData.shown_le 40 (by decide) d (PyData.leavesShort_of_canLay0 40 d h1 h5)
  have s : d.shown.length ≤ sizeLine := by
    rw [sizeLine_eq]
    omega
  unfold canShow SeqAt.shaped
  rw [h1, h3, h4, decide_eq_true h2, decide_eq_true s]
  rfl
theorem ints_ok : ∀ (qs : List Int), (∀ i ∈ qs, i.natAbs < 10 ^ 22) → PyData.canLayAll0 (qs.map .int) = true ∧ PyData.depthAll (qs.map .int) = 0 ∧ PyData.showableAll (qs.map .int) = true ∧ PyData.hasDictAll (qs.map .int) = false ∧ PyData.intsShortAll 40 (qs.map .int) = true ∧ PyData.weightAll (qs.map .int) ≤ 200 * qs.length
  | [], _ => ⟨rfl, rfl, rfl, rfl, rfl, Nat.le_refl _⟩
  | i :: qs, h => by
    obtain ⟨a, b, c, d, e, f⟩ := ints_ok qs fun j hj => h j (List.mem_cons_of_mem _ hj)
    have hi := h i List.mem_cons_self
    have l := log_small hi
    have s := int_short hi
    have l2 : i.natAbs.log2 < 1920 := by omega
    refine ⟨by simp [PyData.canLayAll0, PyData.canLay0, a], by simp [PyData.depthAll, PyData.depth, b], by simp [PyData.showableAll, PyData.showable, c, l2], by simp [PyData.hasDictAll, PyData.hasDict, d], by simp [PyData.intsShortAll, PyData.intsShort, e, s], ?_⟩
    simp only [List.map_cons, PyData.weightAll, PyData.weight, List.length_cons]
    split <;> omega
theorem show_ints {qs : List Int} (h : ∀ i ∈ qs, i.natAbs < 10 ^ 22) (hl : qs.length ≤ 400) : canShow (.tuple (qs.map .int)) = true := by
  obtain ⟨a, b, c, d, e, f⟩ := ints_ok qs h
  exact can_show (by simp [PyData.canLay0, a]) (by simp [PyData.depth, b]) (by simp [PyData.showable, c]) (by simp [PyData.hasDict, d]) (by simp [PyData.intsShort, e]) (by simp only [PyData.weight]; omega)
/-- what is told of a refusal -/
def refd (i : Int) (a b c : Bool) : PyData := .tuple [.str "refused", .int i, .list [.bool a, .bool b, .bool c], .bool true]
theorem show_refd {i : Int} {a b c : Bool} (h : i.natAbs < 10 ^ 22) : canShow (refd i a b c) = true := by
  have l := log_small h
  have s := int_short h
  have l2 : i.natAbs.log2 < 1920 := by omega
  have so : PyData.strOk "refused" = true := by decide +kernel
  have sz : (PySem.Str.ofString "refused").cps.size = 7 := by decide +kernel
  refine can_show ?_ ?_ ?_ ?_ ?_ ?_
  · simp [refd, PyData.canLay0, PyData.canLayAll0, so]
  · simp [refd, PyData.depth, PyData.depthAll]
  · simp [refd, PyData.showable, PyData.showableAll, l2]
  · simp [refd, PyData.hasDict, PyData.hasDictAll]
  · simp [refd, PyData.intsShort, PyData.intsShortAll, s]
  · simp only [refd, PyData.weight, PyData.weightAll, sz]
    split <;> omega
/-! ### a call that is heard -/
theorem repr_ok {st : Store} {d : PyData} (h : canShow d = true) : kRepr [.d d] st = .ok (.d (.str d.shown)) st := by
  unfold kRepr
  dsimp only [view]
  rw [if_pos h]
end Nz

end
section
set_option Elab.async false
set_option linter.all false
set_option maxRecDepth 100000
set_option maxHeartbeats 2000000
namespace Nz
open PySem PySem.Spec PyProof.Rows L2
/-! ### comprehensions over the things -/
theorem env_v {env : Env'} {v : Nat} {d : PyData} (hv : v < env.length) : gN v (.d d) (wipeE env [v]) = some (env.set v (some (.d d))) := by
  show some ((env.set v none).set v _) = _
  rw [List.set_set]
theorem var_v {env : Env'} {v : Nat} {d : PyData} {st : Store} (hv : v < env.length) : xVar v (env.set v (some (.d d))) st = .ok (.d d) st := by
  unfold xVar
  rw [List.getElem?_set_self hv]
theorem var_1 {env : Env'} {v : Nat} {d e : PyData} {st : Store} (h1 : env[1]? = some (some (.d e))) (hv : v ≠ 1) : xVar 1 (env.set v (some (.d d))) st = .ok (.d e) st := by
  unfold xVar
  rw [List.getElem?_set_ne hv, h1]
theorem filter_all {α : Type} (xs : List α) : xs.filter (fun _ => true) = xs := List.filter_eq_self.mpr fun _ _ => rfl
theorem lc_range {F : Ex} {env : Env'} {v n : Nat} {st : Store} (hF : F env st = .ok (.d (.int n)) st) (hn : n ≤ 24) (hv : v < env.length) : xLc false (wRng1 F) (gN v) yes (xVar v) [v] env st = .ok (.d (.list (rng 0 n))) st := by
  have hw := wRng1_ok hF (by omega) (by omega)
  rw [Int.toNat_natCast] at hw
  have e := lc_map (t := gN v) (p := yes) (f := xVar v) (vs := [v]) (fun _ => true) id hw (by rw [rng_len]; omega) (fun d acc hd => ⟨_, env_v hv, rfl, fun _ => var_v hv⟩) false
  rw [e, filter_all, List.map_id]
  rfl
theorem nones {n : Nat} : (rng 0 n).map (fun _ => PyData.none) = (List.replicate n (none : Pl)).map pP := by
  unfold rng
  rw [List.map_map, List.map_replicate]
  show (List.range n).map (fun _ => PyData.none) = _
  rw [List.map_const', List.length_range]
  rfl
theorem lc_nones {F : Ex} {env : Env'} {v n : Nat} {st : Store} (hF : F env st = .ok (.d (.int n)) st) (hn : n ≤ 24) (hv : v < env.length) : xLc true (wRng1 F) (gN v) yes (xC .none) [v] env st = .ok (.ref st.length) (st ++ [some ((List.replicate n (none : Pl)).map pP)]) := by
  have hw := wRng1_ok hF (by omega) (by omega)
  rw [Int.toNat_natCast] at hw
  have e := lc_map (t := gN v) (p := yes) (f := xC .none) (vs := [v]) (fun _ => true) (fun _ => PyData.none) hw (by rw [rng_len]; omega) (fun d acc hd => ⟨_, env_v hv, rfl, fun _ => rfl⟩) true
  rw [e, filter_all, nones]
  rfl
/-- thing i has rooms -/
def hasB (rs : List Int) (i : Nat) : Bool := decide (0 < rs[i]?.getD 0)
theorem rs_at {rs : List Int} {i : Nat} (h : i < rs.length) : atI (rs.map PyData.int) (i : Int) = some (.int (rs[i]?.getD 0)) := by
  refine atI_n ?_
  rw [List.getElem?_map, List.getElem?_eq_getElem h]
  rfl
theorem room_test {rs : List Int} {env : Env'} {v i : Nat} {st : Store} (h1 : env[1]? = some (some (.d (pR rs)))) (hv : v < env.length) (hv1 : v ≠ 1) (hi : i < rs.length) :
    xB (xOp oGt (xOp oIx (xVar 1) (xVar v)) (xC (.int 0))) (env.set v (some (.d (.int i)))) st = .ok (hasB rs i) st := by
  have a := x_op (k := oIx) (c := .d (.int (rs[i]?.getD 0))) (st3 := st) (var_1 (d := .int i) (st := st) h1 hv1) (var_v hv) (by simp [xVar, xC, xNil, xCons, xTup, xLst, xLstR, disp, xOp, xChain, iOp, oSub, oMod, oLt, oLe, oGt, oGe, oAdd, oEqS, oNeS, oIn, oIs, xB, xTru, tNt, tAn, tOrr, xNt, xAn, xOr, xIf, xUn, oNeg, oIx, xSl, pNo, pAt, oSl, xFn, kLen, kInt, kMax2, kTuple, kList, kListR, kRepr, xIsi, isN, tyN, view, frz, frzAll, wSeq, wEnm, gN, gs0, gs1, gT, bNil, bCons, thenB, sExp, sRet, sIf, sSet, sTup, sPar, sSub, sSub2, putAt, sRaise, fin, retV, entry, fnO, xCall, xApp, xPopAt, yes, sb, tru, isNon, ownOf, oAddL, rs_at hi])
  have b := x_op (k := oGt) (g := xC (.int 0)) (c := .d (.bool (hasB rs i))) (st3 := st) a rfl (by simp [xVar, xC, xNil, xCons, xTup, xLst, xLstR, disp, xOp, xChain, iOp, oSub, oMod, oLt, oLe, oGt, oGe, oAdd, oEqS, oNeS, oIn, oIs, xB, xTru, tNt, tAn, tOrr, xNt, xAn, xOr, xIf, xUn, oNeg, oIx, xSl, pNo, pAt, oSl, xFn, kLen, kInt, kMax2, kTuple, kList, kListR, kRepr, xIsi, isN, tyN, view, frz, frzAll, wSeq, wEnm, gN, gs0, gs1, gT, bNil, bCons, thenB, sExp, sRet, sIf, sSet, sTup, sPar, sSub, sSub2, putAt, sRaise, fin, retV, entry, fnO, xCall, xApp, xPopAt, yes, sb, tru, isNon, ownOf, oAddL, hasB])
  unfold xB
  rw [b]
  rfl
theorem lc_rooms {F : Ex} {rs : List Int} {env : Env'} {v : Nat} {st : Store} (hF : F env st = .ok (.d (.int rs.length)) st) (hn : rs.length ≤ 24) (h1 : env[1]? = some (some (.d (pR rs)))) (hv : v < env.length) (hv1 : v ≠ 1) :
    xLc false (wRng1 F) (gN v) (xB (xOp oGt (xOp oIx (xVar 1) (xVar v)) (xC (.int 0)))) (xVar v) [v] env st = .ok (.d (.list ((rng 0 rs.length).filter (qInt (hasB rs))))) st := by
  have hw := wRng1_ok hF (by omega) (by omega)
  rw [Int.toNat_natCast] at hw
  have e := lc_map (t := gN v) (p := xB (xOp oGt (xOp oIx (xVar 1) (xVar v)) (xC (.int 0)))) (f := xVar v) (vs := [v]) (qInt (hasB rs)) id hw (by rw [rng_len]; omega) (fun d acc hd => by
    obtain ⟨i, hi, rfl⟩ := rng_mem hd
    refine ⟨_, env_v hv, ?_, fun _ => var_v hv⟩
    have g : qInt (hasB rs) (.int i) = hasB rs i := by show hasB rs (Int.toNat i) = _; rw [Int.toNat_natCast]
    rw [g]
    exact room_test h1 hv hv1 hi) false
  rw [e, List.map_id]
  rfl
theorem filt_ints {n : Nat} {g : Nat → Bool} : (rng 0 n).filter (qInt g) = ((List.range n).filter g).map fun i : Nat => PyData.int i := by
  unfold rng
  rw [List.filter_map]
  congr 1
  · funext i
    simp
  · congr 1
    funext i
    simp [qInt]
/-! ### a forest being built -/
structure Grow (rs : List Int) (pl : List Pl) (rk : Nat → Nat) : Prop where
  len : pl.length = rs.length
  ok : ∀ (x : Nat) (h r : Int), pl[x]? = some (some (h, r)) → plOk rs x (some (h, r)) = true ∧ rk h.toNat < rk x
theorem grow_none {rs : List Int} {rk : Nat → Nat} : Grow rs (List.replicate rs.length none) rk := ⟨by simp, fun x h r e => by
  rw [List.getElem?_replicate] at e
  split at e <;> simp at e⟩
theorem Grow.put {rs : List Int} {pl : List Pl} {rk : Nat → Nat} (g : Grow rs pl rk) {x : Nat} {h r : Int} (hx : x < rs.length) (a : plOk rs x (some (h, r)) = true) (b : rk h.toNat < rk x) : Grow rs (pl.set x (some (h, r))) rk :=
  ⟨by rw [List.length_set]; exact g.len, fun y h2 r2 e => by
    by_cases z : x = y
    · subst z
      rw [List.getElem?_set_self (by rw [g.len]; exact hx)] at e
      cases e
      exact ⟨a, b⟩
    · rw [List.getElem?_set_ne z] at e
      exact g.ok y h2 r2 e⟩
theorem Grow.tree {rs : List Int} {pl : List Pl} {rk : Nat → Nat} (g : Grow rs pl rk) (h : RoomsOk rs) (b : ∀ x, x < rs.length → rk x < rs.length) : Tree rs pl :=
  ⟨h, g.len, fun x p e => by
    cases p with
    | none => rfl
    | some q => obtain ⟨h, r⟩ := q; exact (g.ok x h r e).1, rk, by rw [g.len]; exact b, fun x h r e => (g.ok x h r e).2⟩
/-- a drawn room of a holder -/
theorem room_drawn {rs : List Int} {x h : Nat} {r : Int} (hh : h < rs.length) (r0 : 0 ≤ r) (r1 : r < rs[h]?.getD 0) (hx : h ≠ x) : plOk rs x (some ((h : Int), r)) = true := by
  unfold plOk
  dsimp only
  rw [Bool.and_eq_true]
  refine ⟨decide_eq_true ⟨by omega, by omega, r0, rs[h], ?_, ?_⟩, decide_eq_true (by omega)⟩
  · rw [Int.toNat_natCast, List.getElem?_eq_getElem hh]
  · rw [List.getElem?_eq_getElem hh] at r1
    exact r1
end Nz

end
section
set_option Elab.async false
set_option linter.all false
set_option maxRecDepth 100000
set_option maxHeartbeats 2000000
namespace Nz
open PySem PySem.Spec PyProof.Rows L2
/-! ### a thing put into a drawn room -/
theorem ixN_nat {len i : Nat} (h : i < len) : ixN len (i : Int) = some i := by
  unfold ixN
  rw [if_pos (by omega), if_pos (by omega)]
  simp
theorem place_ok {H R K : Ex} {env : Env'} {base : Store} {pl : List Pl} {n x h : Nat} {m : Int} (hs : Src base n) (e0 : env[0]? = some (some (.ref n))) (e3 : env[3]? = some (some (.ref base.length)))
    (hH : ∀ s, H env s = .ok (.d (.int h)) s) (hR : ∀ s, R env s = .ok (.d (.int m)) s) (hK : ∀ s, K env s = .ok (.d (.int x)) s) (hm : Top m) (hx : x < pl.length) :
    ∃ r base', sSub (xTup (xCons H (xCons (xCall 2 f__law_take (xCons (xVar 0) (xCons R xNil))) xNil))) (xVar 3) K env (base ++ [some (pl.map pP)]) = .ok (.nx env) (base' ++ [some ((pl.set x (some ((h : Int), r))).map pP)]) ∧ Draw base base' n ∧ 0 ≤ r ∧ r < m := by
  obtain ⟨r, s', e, dr, r0, r1⟩ := take_ok (st := base ++ [some (pl.map pP)]) (src_app hs) hm
  obtain ⟨b1, rfl, d1⟩ := draw_app hs dr
  have v0 : ∀ s, xVar 0 env s = .ok (.ref n) s := fun s => by unfold xVar; rw [e0]
  have v3 : ∀ s, xVar 3 env s = .ok (.ref base.length) s := fun s => by unfold xVar; rw [e3]
  have c := x_call (n := 2) (k := f__law_take) (x_cons (v0 (base ++ [some (pl.map pP)])) (x_cons (hR _) (g := xNil) rfl)) rfl e
  have a := x_cons (hH (base ++ [some (pl.map pP)])) (x_cons c (g := xNil) rfl)
  have t : xTup (xCons H (xCons (xCall 2 f__law_take (xCons (xVar 0) (xCons R xNil))) xNil)) env (base ++ [some (pl.map pP)]) = .ok (.d (.tuple [.int h, .int r])) (b1 ++ [some (pl.map pP)]) := by
    unfold xTup
    rw [a, bind_ok]
    rfl
  refine ⟨r, b1, ?_, d1, r0, r1⟩
  have l1 : b1.length = base.length := d1.len
  have g : (b1 ++ [some (pl.map pP)])[base.length]? = some (some (pl.map pP)) := get_last l1
  have s2 : (b1 ++ [some (pl.map pP)]).set base.length (some ((pl.map pP).set x (.tuple [.int h, .int r]))) = b1 ++ [some ((pl.map pP).set x (.tuple [.int h, .int r]))] := set_last l1
  unfold sSub
  rw [t, sb_ok, v3, sb_ok, hK, sb_ok]
  dsimp only [frz]
  rw [g]
  dsimp only
  rw [ixN_nat (by rw [List.length_map]; exact hx)]
  dsimp only
  rw [s2, List.map_set]
  rfl
/-! ### ranks -/
def rkOf (l : List Nat) (x : Nat) : Nat := (l.takeWhile fun y => y != x).length
theorem rk_lt : ∀ {l : List Nat} {i x : Nat}, x ∈ l.take i → rkOf l x < i
  | [], i, x, h => by simp at h
  | a :: l, 0, x, h => by simp at h
  | a :: l, i + 1, x, h => by
    unfold rkOf
    by_cases e : a = x
    · subst e; simp
    · have h2 : x ∈ l.take i := by
        rw [List.take_succ_cons] at h
        rcases List.mem_cons.mp h with z | z
        · exact absurd z.symm e
        · exact z
      have := rk_lt (l := l) (i := i) (x := x) h2
      unfold rkOf at this
      have q : (a != x) = true := by simpa using e
      rw [List.takeWhile_cons, q]
      simp
      exact this
theorem rk_at : ∀ {l : List Nat} {i x : Nat}, l.Nodup → l[i]? = some x → rkOf l x = i
  | [], i, x, _, h => by simp at h
  | a :: l, 0, x, _, h => by
    have e : a = x := by simpa using h
    subst e
    unfold rkOf
    simp
  | a :: l, i + 1, x, nd, h => by
    have h2 : l[i]? = some x := by simpa using h
    have hm : x ∈ l := List.mem_of_getElem? h2
    have e : a ≠ x := fun z => (List.nodup_cons.mp nd).1 (z ▸ hm)
    have := rk_at (l := l) (List.nodup_cons.mp nd).2 h2
    unfold rkOf at this ⊢
    have q : (a != x) = true := by simpa using e
    rw [List.takeWhile_cons, q]
    simp
    exact this
theorem rk_out : ∀ {l : List Nat} {x : Nat}, x ∉ l → rkOf l x = l.length
  | [], x, _ => rfl
  | a :: l, x, h => by
    have e : a ≠ x := fun z => h (z ▸ List.mem_cons_self)
    have := rk_out (l := l) (x := x) fun z => h (List.mem_cons_of_mem _ z)
    unfold rkOf at this ⊢
    have q : (a != x) = true := by simpa using e
    rw [List.takeWhile_cons, q]
    simp
    exact this
/-- numbers in another order -/
abbrev pN (l : List Nat) : List PyData := l.map fun i : Nat => PyData.int i
theorem perm_ints {ys : List PyData} {l : List Nat} (h : ys.Perm (pN l)) : ∃ o : List Nat, ys = pN o ∧ o.Perm l := by
  have key : ∀ d ∈ ys, ∃ i : Nat, d = .int i := fun d hd => by
    obtain ⟨i, _, e⟩ := List.mem_map.mp (h.mem_iff.mp hd)
    exact ⟨i, e.symm⟩
  have un : ∀ i : Nat, (match PyData.int (i : Int) with | .int z => z.toNat | _ => 0) = i := fun i => by simp
  refine ⟨ys.map fun d => match d with | .int z => z.toNat | _ => 0, ?_, ?_⟩
  · show ys = (ys.map _).map _
    rw [List.map_map]
    refine (List.map_id ys).symm.trans (List.map_congr_left fun d hd => ?_)
    obtain ⟨i, rfl⟩ := key d hd
    simp
  · have := h.map fun d => match d with | .int z => z.toNat | _ => 0
    rw [List.map_map] at this
    have e : (List.map ((fun d => match d with | PyData.int z => z.toNat | _ => 0) ∘ fun i : Nat => PyData.int i) l) = l := by
      refine (List.map_congr_left fun i _ => ?_).trans (List.map_id l)
      simp
    rw [e] at this
    exact this
theorem rng_pN {n : Nat} : rng 0 n = pN (List.range n) := by
  unfold rng
  refine List.map_congr_left fun i _ => ?_
  simp
theorem ne_nil {l : List Nat} (hl : ∀ i ∈ l, i < 1000) {st : Store} : oNeS (.d (.list (pN l))) (.d (.list [])) st = .ok (.d (.bool (!l.isEmpty))) st := by
  have e : pN l = (l.map fun i : Nat => (i : Int)).map .int := by rw [List.map_map]; rfl
  obtain ⟨a, b, _⟩ := ints_ok (l.map fun i : Nat => (i : Int)) fun i hi => by
    obtain ⟨j, hj, rfl⟩ := List.mem_map.mp hi
    have := hl j hj
    exact Nat.lt_of_lt_of_le (show (j : Int).natAbs < 1000 by omega) (by decide)
  have s1 : SeqAt.shaped (.list (pN l)) = true := by
    rw [e]
    have c1 : (PyData.list (List.map PyData.int (List.map (fun i : Nat => (i : Int)) l))).canLay0 = true := by unfold PyData.canLay0; exact a
    have d1 : (PyData.list (List.map PyData.int (List.map (fun i : Nat => (i : Int)) l))).depth ≤ 64 := by unfold PyData.depth; rw [b]; decide
    unfold SeqAt.shaped
    rw [c1, decide_eq_true d1]
    rfl
  have s2 : SeqAt.shaped (.list []) = true := rfl
  have z : oNeS (.d (.list (pN l))) (.d (.list [])) st = oNe (.d (.list (pN l))) (.d (.list [])) st := rfl
  rw [z]
  unfold oNe
  dsimp only [view]
  rw [s1, s2, if_pos (show (true && true) = true from rfl)]
  cases l with
  | nil => rfl
  | cons i l => rfl
/-! ### a forest grown -/
/-- rooms as the law draws them -/
def Drawn (rs : List Int) : Prop := rs.length ≤ 24 ∧ ∀ m ∈ rs, 0 ≤ m ∧ m ≤ 4
theorem top_room {rs : List Int} {h : Nat} (hr : RoomsOk rs) (hb : hasB rs h = true) : h < rs.length ∧ Top (rs[h]?.getD 0) := by
  have p : 0 < rs[h]?.getD 0 := of_decide_eq_true hb
  have hl : h < rs.length := by
    rcases Nat.lt_or_ge h rs.length with z | z
    · exact z
    · rw [List.getElem?_eq_none z] at p
      exact absurd p (by decide)
  refine ⟨hl, top_small p ?_⟩
  rw [List.getElem?_eq_getElem hl]
  have := (hr.2 rs[h] (List.getElem_mem hl)).2
  show rs[h] ≤ 1000000
  omega
theorem cut_take {ds : List PyData} {i : Nat} : cutD ds none (some (i : Int)) = ds.take i := by
  unfold cutD
  rw [HT.sIx_none, HT.sIx_nat, List.drop_zero, Nat.sub_zero]
  by_cases h : i ≤ ds.length
  · rw [Nat.min_eq_left h]
  · rw [Nat.min_eq_right (by omega), List.take_length, List.take_of_length_le (by omega)]
theorem filt_pN {l : List Nat} {g : Nat → Bool} : (pN l).filter (qInt g) = pN (l.filter g) := by
  rw [List.filter_map]
  congr 1
theorem some_lc {rs : List Int} {ord : List Nat} {i : Nat} {a b c d e f : Option EV} {X : EV} {st : Store} (hr : ∀ y ∈ ord, y < rs.length) (hl : ord.length ≤ 24) :
    lc__law_grown_3 [a, some (.d (pR rs)), some (.d (.list (pN ord))), b, some (.d (.int i)), c, d, e, f] st = .ok (.d (.list (pN ((ord.take i).filter (hasB rs))))) st := by
  have hw : wSeq (xSl (xVar 2) pNo (pAt (xVar 4))) [a, some (.d (pR rs)), some (.d (.list (pN ord))), b, some (.d (.int i)), c, d, e, f] st = .ok (pN (ord.take i), none) st := by
    simp [xVar, xC, xNil, xCons, xTup, xLst, xLstR, disp, xOp, xChain, iOp, oSub, oMod, oLt, oLe, oGt, oGe, oAdd, oEqS, oNeS, oIn, oIs, xB, xTru, tNt, tAn, tOrr, xNt, xAn, xOr, xIf, xUn, oNeg, oIx, xSl, pNo, pAt, oSl, xFn, kLen, kInt, kMax2, kTuple, kList, kListR, kRepr, xIsi, isN, tyN, view, frz, frzAll, wSeq, wEnm, gN, gs0, gs1, gT, bNil, bCons, thenB, sExp, sRet, sIf, sSet, sTup, sPar, sSub, sSub2, putAt, sRaise, fin, retV, entry, fnO, xCall, xApp, xPopAt, yes, sb, tru, isNon, ownOf, oAddL, cut_take, List.map_take]
  unfold lc__law_grown_3
  have z := lc_map (t := gN 8) (p := xB (xOp oGt (xOp oIx (xVar 1) (xVar 8)) (xC (.int 0)))) (f := xVar 8) (vs := [8]) (qInt (hasB rs)) id hw (by rw [List.length_map, List.length_take]; omega) (fun y acc hy => by
    obtain ⟨j, hj, rfl⟩ := List.mem_map.mp hy
    have hv : 8 < [a, some (EV.d (pR rs)), some (.d (.list (pN ord))), b, some (.d (.int i)), c, d, e, f].length := by simp
    refine ⟨_, env_v hv, ?_, fun _ => var_v hv⟩
    have g : qInt (hasB rs) (.int j) = hasB rs j := by show hasB rs (Int.toNat j) = _; rw [Int.toNat_natCast]
    rw [g]
    exact room_test rfl hv (by decide) (hr j (List.mem_of_mem_take hj))) false
  rw [z, List.map_id, filt_pN]
  rfl
end Nz

end
section
set_option Elab.async false
set_option linter.all false
set_option maxRecDepth 100000
set_option maxHeartbeats 2000000
namespace Nz
open PySem PySem.Spec PyProof.Rows L2
theorem t_b {f : Ex} {env : Env'} {st st2 : Store} {b : Bool} (h : f env st = .ok (.d (.bool b)) st2) : xB f env st = .ok b st2 := by unfold xB; rw [h]; rfl
theorem t_an {p q : Tx} {env : Env'} {st st1 st2 : Store} {b : Bool} (h1 : p env st = .ok true st1) (h2 : q env st1 = .ok b st2) : tAn p q env st = .ok b st2 := by unfold tAn; rw [h1, bind_ok, if_pos rfl, h2]
theorem t_nt {p : Tx} {env : Env'} {st st1 : Store} {b : Bool} (h1 : p env st = .ok b st1) : tNt p env st = .ok (!b) st1 := by unfold tNt; rw [h1]; rfl
theorem pick {l : List Nat} {r : Nat} {d : PyData} (h : (pN l)[r]? = some d) : ∃ i, i ∈ l ∧ d = .int (i : Int) := by
  rw [List.getElem?_map] at h
  obtain ⟨i, hi, rfl⟩ := Option.map_eq_some_iff.mp h
  exact ⟨i, List.mem_of_getElem? hi, rfl⟩
/-- one thing of the order -/
theorem grown_turn {rs : List Int} {ord : List Nat} {i x n : Nat} {base : Store} {pl : List Pl} {c d e f : Option EV} (hr : RoomsOk rs) (hp : ord.Perm (List.range rs.length)) (hi : ord[i]? = some x) (hs : Src base n) (g : Grow rs pl (rkOf ord)) :
    ∃ (pl' : List Pl) (base' : Store) (c' d' : Option EV), fb__law_grown_4 [some (.ref n), some (.d (pR rs)), some (.d (.list (pN ord))), some (.ref base.length), some (.d (.int i)), c, d, e, f] (base ++ [some (pl.map pP)]) =
      .ok (.nx [some (.ref n), some (.d (pR rs)), some (.d (.list (pN ord))), some (.ref base.length), some (.d (.int i)), c', d', e, f]) (base' ++ [some (pl'.map pP)]) ∧ Draw base base' n ∧ Grow rs pl' (rkOf ord) := by
  have mem : ∀ y ∈ ord, y < rs.length := fun y hy => List.mem_range.mp (hp.mem_iff.mp hy)
  have nd : ord.Nodup := hp.nodup_iff.mpr List.nodup_range
  have h24 : ord.length ≤ 24 := by have := hp.length_eq; rw [List.length_range] at this; have := hr.1; omega
  have hx : x < rs.length := mem x (List.mem_of_getElem? hi)
  unfold fb__law_grown_4
  have s1 := s_set (i := 5) (some_lc (a := some (.ref n)) (b := some (.ref base.length)) (i := i) (c := c) (d := d) (e := e) (f := f) (X := .d .none) (st := base ++ [some (pl.map pP)]) mem h24)
  cases hq : (ord.take i).filter (hasB rs) with
  | nil =>
    rw [hq] at s1
    refine ⟨pl, base, some (.d (.list [])), d, (bc_nx s1).trans ((s_ifF (st2 := base ++ [some (pl.map pP)]) ?_).trans rfl), Draw.refl hs, g⟩
    have z := ne_nil (l := []) (by simp) (st := base ++ [some (pl.map pP)])
    simp [xVar, xC, xNil, xCons, xTup, xLst, xLstR, disp, xOp, xChain, iOp, oSub, oMod, oLt, oLe, oGt, oGe, oAdd, oEqS, oNeS, oIn, oIs, xB, xTru, tNt, tAn, tOrr, xNt, xAn, xOr, xIf, xUn, oNeg, oIx, xSl, pNo, pAt, oSl, xFn, kLen, kInt, kMax2, kTuple, kList, kListR, kRepr, xIsi, isN, tyN, view, frz, frzAll, wSeq, wEnm, gN, gs0, gs1, gT, bNil, bCons, thenB, sExp, sRet, sIf, sSet, sTup, sPar, sSub, sSub2, putAt, sRaise, fin, retV, entry, fnO, xCall, xApp, xPopAt, yes, sb, tru, isNon, ownOf, oAddL] 
    simp [oNeS, oNe, view] at z
    simp [oNe, view, z]
  | cons h0 l0 =>
    rw [hq] at s1
    have sub : ∀ y ∈ h0 :: l0, y ∈ ord.take i ∧ hasB rs y = true := fun y hy => by
      rw [← hq] at hy
      exact List.mem_filter.mp hy
    have z := ne_nil (l := h0 :: l0) (fun y hy => by have := mem y (List.mem_of_mem_take (sub y hy).1); have := hr.1; omega) (st := base ++ [some (pl.map pP)])
    obtain ⟨r, s', e1, dr, r0, r1⟩ := take_ok (st := base ++ [some (pl.map pP)]) (t := 4) (src_app hs) (top_small (by decide) (by decide))
    obtain ⟨b1, rfl, d1⟩ := draw_app hs dr
    have test : (tAn (xB (xOp oNeS (xVar 5) (xLst xNil))) (xB (xOp oGt (xCall 2 f__law_take (xCons (xVar 0) (xCons (xC (.int 4)) xNil))) (xC (.int 0)))))
        [some (.ref n), some (.d (pR rs)), some (.d (.list (pN ord))), some (.ref base.length), some (.d (.int i)), some (.d (.list (pN (h0 :: l0)))), d, e, f] (base ++ [some (pl.map pP)]) = .ok (decide (0 < r)) (b1 ++ [some (pl.map pP)]) := by
      have a1 := x_op (k := oNeS) (f := xVar 5) (g := xLst xNil) (env := [some (.ref n), some (.d (pR rs)), some (.d (.list (pN ord))), some (.ref base.length), some (.d (.int i)), some (.d (.list (pN (h0 :: l0)))), d, e, f]) (st := base ++ [some (pl.map pP)]) rfl rfl z
      have a2 := x_call (n := 2) (k := f__law_take) (f := xCons (xVar 0) (xCons (xC (.int 4)) xNil)) (env := [some (.ref n), some (.d (pR rs)), some (.d (.list (pN ord))), some (.ref base.length), some (.d (.int i)), some (.d (.list (pN (h0 :: l0)))), d, e, f]) (st := base ++ [some (pl.map pP)]) rfl rfl e1
      have a3 := x_op (k := oGt) (g := xC (.int 0)) (c := .d (.bool (decide (0 < r)))) (st3 := b1 ++ [some (pl.map pP)]) a2 rfl rfl
      exact t_an (t_b a1) (t_b a3)
    by_cases hr0 : 0 < r
    · rw [decide_eq_true hr0] at test
      obtain ⟨r2, dd, s2, e2, dr2, g2⟩ := one_ok (st := b1 ++ [some (pl.map pP)]) (xs := pN (h0 :: l0)) (src_app d1.src) (by simp) (by
        have : (h0 :: l0).length ≤ (ord.take i).length := by rw [← hq]; exact List.length_filter_le _ _
        rw [List.length_take] at this
        rw [List.length_map]
        omega)
      obtain ⟨b2, rfl, d2⟩ := draw_app d1.src dr2
      obtain ⟨h, hm, rfl⟩ := pick g2
      obtain ⟨q1, q2⟩ := sub h hm
      obtain ⟨q3, q4⟩ := top_room hr q2
      have l2 : b2.length = base.length := d2.len.trans d1.len
      have hne : h ≠ x := fun zz => by
        have a := rk_lt q1
        rw [zz, rk_at nd hi] at a
        omega
      obtain ⟨r3, b3, e3, d3, r30, r31⟩ := place_ok (H := xVar 6) (R := xOp oIx (xVar 1) (xVar 6)) (K := xOp oIx (xVar 2) (xVar 4)) (env := [some (.ref n), some (.d (pR rs)), some (.d (.list (pN ord))), some (.ref base.length), some (.d (.int i)), some (.d (.list (pN (h0 :: l0)))), some (.d (.int h)), e, f])
        (base := b2) (pl := pl) (n := n) (x := x) (h := h) (m := rs[h]?.getD 0) d2.src rfl (by rw [l2]; rfl) (fun s => rfl) (fun s => by
          have := rs_at q3
          simp [xVar, xC, xNil, xCons, xTup, xLst, xLstR, disp, xOp, xChain, iOp, oSub, oMod, oLt, oLe, oGt, oGe, oAdd, oEqS, oNeS, oIn, oIs, xB, xTru, tNt, tAn, tOrr, xNt, xAn, xOr, xIf, xUn, oNeg, oIx, xSl, pNo, pAt, oSl, xFn, kLen, kInt, kMax2, kTuple, kList, kListR, kRepr, xIsi, isN, tyN, view, frz, frzAll, wSeq, wEnm, gN, gs0, gs1, gT, bNil, bCons, thenB, sExp, sRet, sIf, sSet, sTup, sPar, sSub, sSub2, putAt, sRaise, fin, retV, entry, fnO, xCall, xApp, xPopAt, yes, sb, tru, isNon, ownOf, oAddL, this]) (fun s => by
          have : atI (pN ord) (i : Int) = some (.int x) := atI_n (by rw [List.getElem?_map, hi]; rfl)
          simp [xVar, xC, xNil, xCons, xTup, xLst, xLstR, disp, xOp, xChain, iOp, oSub, oMod, oLt, oLe, oGt, oGe, oAdd, oEqS, oNeS, oIn, oIs, xB, xTru, tNt, tAn, tOrr, xNt, xAn, xOr, xIf, xUn, oNeg, oIx, xSl, pNo, pAt, oSl, xFn, kLen, kInt, kMax2, kTuple, kList, kListR, kRepr, xIsi, isN, tyN, view, frz, frzAll, wSeq, wEnm, gN, gs0, gs1, gT, bNil, bCons, thenB, sExp, sRet, sIf, sSet, sTup, sPar, sSub, sSub2, putAt, sRaise, fin, retV, entry, fnO, xCall, xApp, xPopAt, yes, sb, tru, isNon, ownOf, oAddL, this]) q4 (by rw [g.len]; exact hx)
      refine ⟨pl.set x (some ((h : Int), r3)), b3, _, _, (bc_nx s1).trans ((s_ifT test).trans ((bc_nx (s_set (i := 6) (x_call (n := 2) (k := f__law_one) (f := xCons (xVar 0) (xCons (xVar 5) xNil)) rfl rfl e2))).trans e3)), d1.trans (d2.trans d3), g.put hx (room_drawn q3 r30 r31 hne) ?_⟩
      rw [Int.toNat_natCast, rk_at nd hi]
      exact rk_lt q1
    · rw [decide_eq_false hr0] at test
      exact ⟨pl, b1, _, _, (bc_nx s1).trans ((s_ifF test).trans rfl), d1, g⟩
end Nz

end
section
set_option Elab.async false
set_option linter.all false
set_option maxRecDepth 100000
set_option maxHeartbeats 2000000
namespace Nz
open PySem PySem.Spec PyProof.Rows L2
/-- a call that draws a forest -/
def Draws (f : Fn) : Prop := ∀ (rs : List Int) (st : Store) (n : Nat), RoomsOk rs → Src st n → ∃ fo st', f [.ref n, .d (pR rs)] st = .ok (.d (pF fo)) st' ∧ Draw st st' n ∧ Tree rs fo
theorem len1 {rs : List Int} {env : Env'} {st : Store} (h1 : env[1]? = some (some (.d (pR rs)))) : xFn kLen (xCons (xVar 1) xNil) env st = .ok (.d (.int (rs.length : Nat))) st := by
  have v : xVar 1 env st = .ok (.d (pR rs)) st := by unfold xVar; rw [h1]
  refine x_fn (x_cons v (g := xNil) rfl) ?_
  simp [xVar, xC, xNil, xCons, xTup, xLst, xLstR, disp, xOp, xChain, iOp, oSub, oMod, oLt, oLe, oGt, oGe, oAdd, oEqS, oNeS, oIn, oIs, xB, xTru, tNt, tAn, tOrr, xNt, xAn, xOr, xIf, xUn, oNeg, oIx, xSl, pNo, pAt, oSl, xFn, kLen, kInt, kMax2, kTuple, kList, kListR, kRepr, xIsi, isN, tyN, view, frz, frzAll, wSeq, wEnm, gN, gs0, gs1, gT, bNil, bCons, thenB, sExp, sRet, sIf, sSet, sTup, sPar, sSub, sSub2, putAt, sRaise, fin, retV, entry, fnO, xCall, xApp, xPopAt, yes, sb, tru, isNon, ownOf, oAddL]
theorem perm_lt {ord : List Nat} {m : Nat} (hp : ord.Perm (List.range m)) {x : Nat} (hx : x < m) : rkOf ord x < m := by
  have h : x ∈ ord := hp.mem_iff.mpr (List.mem_range.mpr hx)
  have := rk_lt (l := ord) (i := ord.length) (x := x) (by rw [List.take_length]; exact h)
  have e := hp.length_eq
  rw [List.length_range] at e
  omega
theorem grown_ok : Draws f__law_grown := by
  intro rs st n hr hs
  have s0 := hr.1
  have l1 : lc__law_grown_1 [some (.ref n), some (.d (pR rs)), none, none, none, none, none, none, none] st = .ok (.d (.list (rng 0 rs.length))) st := by
    unfold lc__law_grown_1
    exact lc_range (len1 rfl) s0 (by simp)
  obtain ⟨ys, st1, e1, d1, pm⟩ := mixed_ok (n := n) (xs := rng 0 rs.length) hs (by rw [rng_len]; omega)
  rw [rng_pN] at pm
  obtain ⟨ord, rfl, hp⟩ := perm_ints pm
  have hlen : ord.length = rs.length := by have := hp.length_eq; rw [List.length_range] at this; exact this
  have l2 : lc__law_grown_2 [some (.ref n), some (.d (pR rs)), some (.d (.list (pN ord))), none, none, none, none, none, none] st1 = .ok (.ref st1.length) (st1 ++ [some ((List.replicate rs.length (none : Pl)).map pP)]) := by
    unfold lc__law_grown_2
    exact lc_nones (len1 rfl) s0 (by simp)
  have hw := wRng1_ok (f := xFn kLen (xCons (xVar 2) xNil)) (env := [some (.ref n), some (.d (pR rs)), some (.d (.list (pN ord))), some (.ref st1.length), none, none, none, none, none]) (st := st1 ++ [some ((List.replicate rs.length (none : Pl)).map pP)]) (st' := st1 ++ [some ((List.replicate rs.length (none : Pl)).map pP)]) (j := ord.length) (by simp [xVar, xC, xNil, xCons, xTup, xLst, xLstR, disp, xOp, xChain, iOp, oSub, oMod, oLt, oLe, oGt, oGe, oAdd, oEqS, oNeS, oIn, oIs, xB, xTru, tNt, tAn, tOrr, xNt, xAn, xOr, xIf, xUn, oNeg, oIx, xSl, pNo, pAt, oSl, xFn, kLen, kInt, kMax2, kTuple, kList, kListR, kRepr, xIsi, isN, tyN, view, frz, frzAll, wSeq, wEnm, gN, gs0, gs1, gT, bNil, bCons, thenB, sExp, sRet, sIf, sSet, sTup, sPar, sSub, sSub2, putAt, sRaise, fin, retV, entry, fnO, xCall, xApp, xPopAt, yes, sb, tru, isNon, ownOf, oAddL]) (by omega) (by omega)
  rw [Int.toNat_natCast] at hw
  obtain ⟨r, s', e3, ⟨a, b, c, rfl⟩, fo, b2, hs2, d2, g2⟩ := sFor_run (t := gN 4) (u := fb__law_grown_4)
    (R := fun r s' => (∃ a b c, r = .nx [some (.ref n), some (.d (pR rs)), some (.d (.list (pN ord))), some (.ref st1.length), a, b, c, none, none]) ∧ ∃ pl b2, s' = b2 ++ [some (pl.map pP)] ∧ Draw st1 b2 n ∧ Grow rs pl (rkOf ord)) hw
    (fun i env s' => (∃ a b c, env = [some (.ref n), some (.d (pR rs)), some (.d (.list (pN ord))), some (.ref st1.length), a, b, c, none, none]) ∧ ∃ pl b2, s' = b2 ++ [some (pl.map pP)] ∧ Draw st1 b2 n ∧ Grow rs pl (rkOf ord))
    ⟨⟨_, _, _, rfl⟩, _, st1, rfl, Draw.refl d1.src, grow_none⟩
    (fun i dd env s' hd ⟨⟨a, b, c, he⟩, pl, b2, h1, h2, h3⟩ => by
      subst he h1
      obtain ⟨hi, rfl⟩ := rng_get hd
      rw [Int.zero_add]
      obtain ⟨pl', b3, c', d', e, dr, g⟩ := grown_turn (c := b) (d := c) (e := none) (f := none) hr hp (List.getElem?_eq_getElem hi) h2.src h3
      rw [h2.len] at e
      exact ⟨[some (.ref n), some (.d (pR rs)), some (.d (.list (pN ord))), some (.ref st1.length), some (.d (.int i)), b, c, none, none], rfl, _, _, e, ⟨_, _, _, rfl⟩, pl', b3, rfl, h2.trans dr, g⟩)
    (fun env s' ⟨⟨a, b, c, he⟩, h⟩ => ⟨⟨a, b, c, by rw [he]⟩, h⟩)
  subst hs2
  have e4 : fl__law_grown_5 [some (.ref n), some (.d (pR rs)), some (.d (.list (pN ord))), some (.ref st1.length), none, none, none, none, none] (st1 ++ [some ((List.replicate rs.length (none : Pl)).map pP)]) = _ := e3
  have gl : (b2 ++ [some (fo.map pP)])[st1.length]? = some (some (fo.map pP)) := get_last d2.len
  have w : u__law_grown (entry 9 [.ref n, .d (pR rs)]) st = .ok (.rt (.d (pF fo))) (b2 ++ [some (fo.map pP)]) := by
    unfold u__law_grown
    refine (bc_nx (s_set (i := 2) (x_call (n := 2) (k := f__law_mixed) (x_cons (f := xVar 0) rfl (x_cons l1 (g := xNil) rfl)) rfl e1))).trans ?_
    refine (bc_nx (s_set (i := 3) l2)).trans ?_
    refine (bc_nx e4).trans (s_ret ?_)
    exact x_fn (x_cons (f := xVar 3) rfl (g := xNil) rfl) (by simp [xVar, xC, xNil, xCons, xTup, xLst, xLstR, disp, xOp, xChain, iOp, oSub, oMod, oLt, oLe, oGt, oGe, oAdd, oEqS, oNeS, oIn, oIs, xB, xTru, tNt, tAn, tOrr, xNt, xAn, xOr, xIf, xUn, oNeg, oIx, xSl, pNo, pAt, oSl, xFn, kLen, kInt, kMax2, kTuple, kList, kListR, kRepr, xIsi, isN, tyN, view, frz, frzAll, wSeq, wEnm, gN, gs0, gs1, gT, bNil, bCons, thenB, sExp, sRet, sIf, sSet, sTup, sPar, sSub, sSub2, putAt, sRaise, fin, retV, entry, fnO, xCall, xApp, xPopAt, yes, sb, tru, isNon, ownOf, oAddL, gl])
  have z := fn_rt (keep := false) w
  have tk : (b2 ++ [some (fo.map pP)]).take st.length = b2 := by
    have : st.length = b2.length := by rw [d2.len, d1.len]
    rw [this]
    exact List.take_left
  rw [tk] at z
  exact ⟨fo, b2, z, d1.trans d2, g2.tree hr fun x hx => perm_lt hp hx⟩
end Nz

end
section
set_option Elab.async false
set_option linter.all false
set_option maxRecDepth 100000
set_option maxHeartbeats 2000000
namespace Nz
open PySem PySem.Spec PyProof.Rows L2
/-! ### what can be printed, piece by piece -/
structure Shw (d : PyData) (k w : Nat) : Prop where
  a : d.canLay0 = true
  b : d.depth ≤ k
  c : d.showable = true
  e : d.hasDict = false
  f : d.intsShort 40 = true
  g : d.weight ≤ w
structure ShwL (ds : List PyData) (k w : Nat) : Prop where
  a : PyData.canLayAll0 ds = true
  b : PyData.depthAll ds ≤ k
  c : PyData.showableAll ds = true
  e : PyData.hasDictAll ds = false
  f : PyData.intsShortAll 40 ds = true
  g : PyData.weightAll ds ≤ w
theorem Shw.up {d : PyData} {k w k' w' : Nat} (h : Shw d k w) (hk : k ≤ k') (hw : w ≤ w') : Shw d k' w' := ⟨h.a, Nat.le_trans h.b hk, h.c, h.e, h.f, Nat.le_trans h.g hw⟩
theorem ShwL.up {d : List PyData} {k w k' w' : Nat} (h : ShwL d k w) (hk : k ≤ k') (hw : w ≤ w') : ShwL d k' w' := ⟨h.a, Nat.le_trans h.b hk, h.c, h.e, h.f, Nat.le_trans h.g hw⟩
theorem Shw.can {d : PyData} {k w : Nat} (h : Shw d k w) (hk : k ≤ 64) (hw : w ≤ 100000) : canShow d = true := can_show h.a (Nat.le_trans h.b hk) h.c h.e h.f (Nat.le_trans h.g hw)
theorem Shw.shaped {d : PyData} {k w : Nat} (h : Shw d k w) (hk : k ≤ 64) : SeqAt.shaped d = true := by
  unfold SeqAt.shaped
  rw [h.a, decide_eq_true (Nat.le_trans h.b hk)]
  rfl
theorem shw_int {i : Int} (h : i.natAbs < 10 ^ 30) : Shw (.int i) 0 100 := by
  have z := int_text_length_le10 (a := i) (k := 30) (by decide) h
  have s : (PyData.shown (.int i)).length ≤ 40 := by
    show (PySem.Str.ofString (toString i)).length ≤ 40
    rw [PySem.ofString_length]
    omega
  have l : i.natAbs.log2 < 100 := by
    by_cases z : i.natAbs = 0
    · rw [z]; decide
    · exact (Nat.log2_lt z).mpr (Nat.lt_of_lt_of_le h (by decide))
  refine ⟨rfl, Nat.le_refl _, decide_eq_true (by omega), rfl, decide_eq_true s, ?_⟩
  simp only [PyData.weight]
  split <;> omega
theorem shw_none : Shw .none 0 0 := ⟨rfl, Nat.le_refl _, rfl, rfl, rfl, Nat.le_refl _⟩
theorem shw_bool {b : Bool} : Shw (.bool b) 0 0 := ⟨rfl, Nat.le_refl _, rfl, rfl, rfl, Nat.le_refl _⟩
theorem shw_str {x : Str} (h : PyData.strOk x = true) (hs : x.cps.size ≤ 50) : Shw (.str x) 0 50 := ⟨h, Nat.le_refl _, rfl, rfl, rfl, hs⟩
theorem shwL_nil {k : Nat} : ShwL [] k 0 := ⟨rfl, Nat.zero_le _, rfl, rfl, rfl, Nat.le_refl _⟩
theorem shwL_cons {d : PyData} {ds : List PyData} {k w1 w2 : Nat} (x : Shw d k w1) (y : ShwL ds k w2) : ShwL (d :: ds) k (w1 + 1 + w2) := by
  refine ⟨by simp [PyData.canLayAll0, x.a, y.a], by simp only [PyData.depthAll]; exact Nat.max_le.mpr ⟨x.b, y.b⟩, by simp [PyData.showableAll, x.c, y.c], by simp [PyData.hasDictAll, x.e, y.e], by simp [PyData.intsShortAll, x.f, y.f], ?_⟩
  have := x.g
  have := y.g
  simp only [PyData.weightAll]
  omega
theorem shwL_all {k w : Nat} : ∀ {ds : List PyData}, (∀ d ∈ ds, Shw d k w) → ShwL ds k (ds.length * (w + 1))
  | [], _ => by rw [List.length_nil, Nat.zero_mul]; exact shwL_nil
  | d :: ds, h => by
    refine (shwL_cons (h d List.mem_cons_self) (shwL_all fun e he => h e (List.mem_cons_of_mem _ he))).up (Nat.le_refl _) ?_
    rw [List.length_cons, Nat.succ_mul]
    omega
theorem shw_tup {ds : List PyData} {k w : Nat} (h : ShwL ds k w) : Shw (.tuple ds) (k + 1) w := ⟨h.a, Nat.succ_le_succ h.b, h.c, h.e, h.f, h.g⟩
theorem shw_lst {ds : List PyData} {k w : Nat} (h : ShwL ds k w) : Shw (.list ds) (k + 1) w := ⟨h.a, Nat.succ_le_succ h.b, h.c, h.e, h.f, h.g⟩
/-! ### forests can be printed -/
theorem shw_pl {p : Pl} (h : ∀ a b, p = some (a, b) → a.natAbs < 10 ^ 30 ∧ b.natAbs < 10 ^ 30) : Shw (pP p) 1 202 := by
  cases p with
  | none => exact shw_none.up (by omega) (by omega)
  | some q =>
    obtain ⟨a, b⟩ := q
    obtain ⟨h1, h2⟩ := h a b rfl
    exact (shw_tup (shwL_cons (shw_int h1) (shwL_cons (shw_int h2) shwL_nil))).up (by omega) (by omega)
theorem num_small {i : Int} (h0 : -1000 ≤ i) (h1 : i ≤ 1000) : i.natAbs < 10 ^ 30 := Nat.lt_of_lt_of_le (show i.natAbs < 1001 by omega) (by decide)
theorem pl_small {rs : List Int} (hr : RoomsOk rs) {x : Int} {p : Pl} (h : plOk rs x p = true) : ∀ a b, p = some (a, b) → a.natAbs < 10 ^ 30 ∧ b.natAbs < 10 ^ 30 := fun a b e => by
  subst e
  unfold plOk at h
  simp at h
  obtain ⟨⟨h1, h2, h3, m, h4, h5⟩, _⟩ := h
  have := hr.1
  have := (hr.2 m (List.mem_of_getElem? h4)).2
  exact ⟨num_small (by omega) (by omega), num_small (by omega) (by omega)⟩
theorem shw_forest {rs : List Int} {fo : List Pl} (hr : RoomsOk rs) (hl : fo.length = rs.length) (h : ∀ (x : Nat) (p : Pl), fo[x]? = some p → plOk rs x p = true) : Shw (pF fo) 2 (24 * 203) := by
  refine (shw_tup (shwL_all (k := 1) (w := 202) (ds := fo.map pP) fun d hd => ?_)).up (Nat.le_refl _) ?_
  · obtain ⟨p, hp, rfl⟩ := List.mem_map.mp hd
    obtain ⟨i, hi, e⟩ := List.getElem_of_mem hp
    exact shw_pl (pl_small hr (h i p (by rw [List.getElem?_eq_getElem hi, e])))
  · rw [List.length_map, hl]
    exact Nat.mul_le_mul_right _ hr.1
end Nz

end
section
set_option Elab.async false
set_option linter.all false
set_option maxRecDepth 100000
set_option maxHeartbeats 2000000
namespace Nz
open PySem PySem.Spec PyProof.Rows L2
/-! ### a call that is heard -/
theorem shw_refd {i : Int} {a b c : Bool} (h : i.natAbs < 10 ^ 30) : Shw (refd i a b c) 2 1000 :=
  (shw_tup (k := 1) (shwL_cons ((shw_str (x := "refused") (by decide +kernel) (by decide +kernel)).up (by omega) (Nat.le_refl _)) (shwL_cons ((shw_int h).up (by omega) (Nat.le_refl _)) (shwL_cons (shw_lst (k := 0) (shwL_cons shw_bool (shwL_cons shw_bool (shwL_cons shw_bool shwL_nil)))) (shwL_cons (shw_bool.up (by omega) (Nat.le_refl _)) shwL_nil))))).up (by omega) (by omega)
theorem heard_ex {g : Ex} {env : Env'} {st : Store} {c : Str} {i : Int} {a b d : Bool} (hg : g env st = .exc c (.int i) st) (h0 : ctE c = some true) (h1 : knE c = true) (ha : tabE "BadForest" c = some a) (hb : tabE "Ring" c = some b) (hd : tabE "BadThing" c = some d) (ht : tabT c = some true) :
    xHeard false 3 (fun g0 => u__law_heard g0) g env st = .ok (.d (refd i a b d)) st := by
  have body : sRet (xTup (xCons (xC (.str "told")) (xCons (xClo 0 fun st => g env st) xNil))) [some .clo, none, none] st = .ok (.ex [some .clo, none, none] c (.int i)) st := by
    simp [xVar, xC, xNil, xCons, xTup, xLst, xLstR, disp, xOp, xChain, iOp, oSub, oMod, oLt, oLe, oGt, oGe, oAdd, oEqS, oNeS, oIn, oIs, xB, xTru, tNt, tAn, tOrr, xNt, xAn, xOr, xIf, xUn, oNeg, oIx, xSl, pNo, pAt, oSl, xFn, kLen, kInt, kMax2, kTuple, kList, kListR, kRepr, xIsi, isN, tyN, view, frz, frzAll, wSeq, wEnm, gN, gs0, gs1, gT, bNil, bCons, thenB, sExp, sRet, sIf, sSet, sTup, sPar, sSub, sSub2, putAt, sRaise, fin, retV, entry, fnO, xCall, xApp, xPopAt, yes, sb, tru, isNon, ownOf, oAddL, xClo, hg]
  have w : u__law_heard (fun st => g env st) (entry 3 [.clo]) st = .ok (.rt (.d (refd i a b d))) st := by
    unfold u__law_heard sTryA
    rw [show entry 3 [EV.clo] = [some .clo, none, none] from rfl, body, bind_ok]
    dsimp only
    rw [h0]
    dsimp only
    simp [xVar, xC, xNil, xCons, xTup, xLst, xLstR, disp, xOp, xChain, iOp, oSub, oMod, oLt, oLe, oGt, oGe, oAdd, oEqS, oNeS, oIn, oIs, xB, xTru, tNt, tAn, tOrr, xNt, xAn, xOr, xIf, xUn, oNeg, oIx, xSl, pNo, pAt, oSl, xFn, kLen, kInt, kMax2, kTuple, kList, kListR, kRepr, xIsi, isN, tyN, view, frz, frzAll, wSeq, wEnm, gN, gs0, gs1, gT, bNil, bCons, thenB, sExp, sRet, sIf, sSet, sTup, sPar, sSub, sSub2, putAt, sRaise, fin, retV, entry, fnO, xCall, xApp, xPopAt, yes, sb, tru, isNon, ownOf, oAddL, dropX, xIsX, xWhat, h1, ha, hb, hd, ht, refd]
  have z := fn_rt (keep := false) w
  rw [List.take_length] at z
  unfold xHeard
  rw [z]
  rfl
theorem heard_ok {g : Ex} {env : Env'} {st : Store} {d : PyData} (hg : g env st = .ok (.d d) st) : xHeard false 3 (fun g0 => u__law_heard g0) g env st = .ok (.d (.tuple [.str "told", d])) st := by
  have body : sRet (xTup (xCons (xC (.str "told")) (xCons (xClo 0 fun st => g env st) xNil))) [some .clo, none, none] st = .ok (.rt (.d (.tuple [.str "told", d]))) st := by
    simp [xVar, xC, xNil, xCons, xTup, xLst, xLstR, disp, xOp, xChain, iOp, oSub, oMod, oLt, oLe, oGt, oGe, oAdd, oEqS, oNeS, oIn, oIs, xB, xTru, tNt, tAn, tOrr, xNt, xAn, xOr, xIf, xUn, oNeg, oIx, xSl, pNo, pAt, oSl, xFn, kLen, kInt, kMax2, kTuple, kList, kListR, kRepr, xIsi, isN, tyN, view, frz, frzAll, wSeq, wEnm, gN, gs0, gs1, gT, bNil, bCons, thenB, sExp, sRet, sIf, sSet, sTup, sPar, sSub, sSub2, putAt, sRaise, fin, retV, entry, fnO, xCall, xApp, xPopAt, yes, sb, tru, isNon, ownOf, oAddL, xClo, hg, dropX]
  have w : u__law_heard (fun st => g env st) (entry 3 [.clo]) st = .ok (.rt (.d (.tuple [.str "told", d]))) st := by
    unfold u__law_heard sTryA
    rw [show entry 3 [EV.clo] = [some .clo, none, none] from rfl, body, bind_ok]
  have z := fn_rt (keep := false) w
  rw [List.take_length] at z
  unfold xHeard
  rw [z]
  rfl
theorem fE (c : Str) (h : c ∈ errN) : ctE c = some true ∧ knE c = true ∧ tabT c = some true ∧ ∀ d, tabE d c = some (c == d) := by
  unfold ctE knE tabT tabE
  rw [if_pos h]
  exact ⟨rfl, decide_eq_true h, rfl, fun d => if_pos h⟩
/-- the three errors, heard -/
theorem heard_bf {g : Ex} {env : Env'} {st : Store} {i : Int} (hg : g env st = .exc "BadForest" (.int i) st) : xHeard false 3 (fun g0 => u__law_heard g0) g env st = .ok (.d (refd i true false false)) st := by
  obtain ⟨a, b, c, d⟩ := fE "BadForest" (by decide +kernel)
  exact heard_ex hg a b (by rw [d]; decide +kernel) (by rw [d]; decide +kernel) (by rw [d]; decide +kernel) c
theorem heard_ring {g : Ex} {env : Env'} {st : Store} {i : Int} (hg : g env st = .exc "Ring" (.int i) st) : xHeard false 3 (fun g0 => u__law_heard g0) g env st = .ok (.d (refd i false true false)) st := by
  obtain ⟨a, b, c, d⟩ := fE "Ring" (by decide +kernel)
  exact heard_ex hg a b (by rw [d]; decide +kernel) (by rw [d]; decide +kernel) (by rw [d]; decide +kernel) c
theorem heard_bt {g : Ex} {env : Env'} {st : Store} {i : Int} (hg : g env st = .exc "BadThing" (.int i) st) : xHeard false 3 (fun g0 => u__law_heard g0) g env st = .ok (.d (refd i false false true)) st := by
  obtain ⟨a, b, c, d⟩ := fE "BadThing" (by decide +kernel)
  exact heard_ex hg a b (by rw [d]; decide +kernel) (by rw [d]; decide +kernel) (by rw [d]; decide +kernel) c
theorem refused_eq {s : Str} {i : Int} {st : Store} {a b c : Bool} (ha : decide (s = "forest") = a) (hb : decide (s = "ring") = b) (hc : decide (s = "thing") = c) : f__law_refused [.d (.str s), .d (.int i)] st = .ok (.d (refd i a b c)) st := by
  have w : u__law_refused (entry 2 [.d (.str s), .d (.int i)]) st = .ok (.rt (.d (refd i a b c))) st := by
    unfold u__law_refused
    exact s_ret (by simp [xVar, xC, xNil, xCons, xTup, xLst, xLstR, disp, xOp, xChain, iOp, oSub, oMod, oLt, oLe, oGt, oGe, oAdd, oEqS, oNeS, oIn, oIs, xB, xTru, tNt, tAn, tOrr, xNt, xAn, xOr, xIf, xUn, oNeg, oIx, xSl, pNo, pAt, oSl, xFn, kLen, kInt, kMax2, kTuple, kList, kListR, kRepr, xIsi, isN, tyN, view, frz, frzAll, wSeq, wEnm, gN, gs0, gs1, gT, bNil, bCons, thenB, sExp, sRet, sIf, sSet, sTup, sPar, sSub, sSub2, putAt, sRaise, fin, retV, entry, fnO, xCall, xApp, xPopAt, yes, sb, tru, isNon, ownOf, oAddL, ha, hb, hc, refd])
  have z := fn_rt (keep := false) w
  rw [List.take_length] at z
  exact z
theorem refused_f {i : Int} {st : Store} : f__law_refused [.d (.str "forest"), .d (.int i)] st = .ok (.d (refd i true false false)) st := refused_eq (by decide +kernel) (by decide +kernel) (by decide +kernel)
theorem refused_r {i : Int} {st : Store} : f__law_refused [.d (.str "ring"), .d (.int i)] st = .ok (.d (refd i false true false)) st := refused_eq (by decide +kernel) (by decide +kernel) (by decide +kernel)
theorem refused_t {i : Int} {st : Store} : f__law_refused [.d (.str "thing"), .d (.int i)] st = .ok (.d (refd i false false true)) st := refused_eq (by decide +kernel) (by decide +kernel) (by decide +kernel)
/-! ### places of any kind -/
def noD : PyData → Bool
  | .dict _ => false
  | _ => true
def OddP (p : PyData) : Prop := noD p = true ∧ ∀ a b, p = .tuple [a, b] → noD a = true ∧ noD b = true
/-- the place that it is, if it is one of thing x -/
def plD (rs : List Int) (x : Int) : PyData → Bool
  | .none => true
  | .tuple [.int h, .int r] => plOk rs x (some (h, r))
  | _ => false
def isInt : PyData → Bool
  | .int _ => true
  | _ => false
theorem is_number_any {a : PyData} {st : Store} (h : noD a = true) : f_is_number [.d a] st = .ok (.d (.bool (isInt a))) st := by
  cases a with
  | dict _ => cases h
  | int i => exact is_number_int
  | none => simp [xVar, xC, xNil, xCons, xTup, xLst, xLstR, disp, xOp, xChain, iOp, oSub, oMod, oLt, oLe, oGt, oGe, oAdd, oEqS, oNeS, oIn, oIs, xB, xTru, tNt, tAn, tOrr, xNt, xAn, xOr, xIf, xUn, oNeg, oIx, xSl, pNo, pAt, oSl, xFn, kLen, kInt, kMax2, kTuple, kList, kListR, kRepr, xIsi, isN, tyN, view, frz, frzAll, wSeq, wEnm, gN, gs0, gs1, gT, bNil, bCons, thenB, sExp, sRet, sIf, sSet, sTup, sPar, sSub, sSub2, putAt, sRaise, fin, retV, entry, fnO, xCall, xApp, xPopAt, yes, sb, tru, isNon, ownOf, oAddL, f_is_number, u_is_number, isInt, tyN]
  | bool b => simp [xVar, xC, xNil, xCons, xTup, xLst, xLstR, disp, xOp, xChain, iOp, oSub, oMod, oLt, oLe, oGt, oGe, oAdd, oEqS, oNeS, oIn, oIs, xB, xTru, tNt, tAn, tOrr, xNt, xAn, xOr, xIf, xUn, oNeg, oIx, xSl, pNo, pAt, oSl, xFn, kLen, kInt, kMax2, kTuple, kList, kListR, kRepr, xIsi, isN, tyN, view, frz, frzAll, wSeq, wEnm, gN, gs0, gs1, gT, bNil, bCons, thenB, sExp, sRet, sIf, sSet, sTup, sPar, sSub, sSub2, putAt, sRaise, fin, retV, entry, fnO, xCall, xApp, xPopAt, yes, sb, tru, isNon, ownOf, oAddL, f_is_number, u_is_number, isInt, tyN]
  | str b => simp [xVar, xC, xNil, xCons, xTup, xLst, xLstR, disp, xOp, xChain, iOp, oSub, oMod, oLt, oLe, oGt, oGe, oAdd, oEqS, oNeS, oIn, oIs, xB, xTru, tNt, tAn, tOrr, xNt, xAn, xOr, xIf, xUn, oNeg, oIx, xSl, pNo, pAt, oSl, xFn, kLen, kInt, kMax2, kTuple, kList, kListR, kRepr, xIsi, isN, tyN, view, frz, frzAll, wSeq, wEnm, gN, gs0, gs1, gT, bNil, bCons, thenB, sExp, sRet, sIf, sSet, sTup, sPar, sSub, sSub2, putAt, sRaise, fin, retV, entry, fnO, xCall, xApp, xPopAt, yes, sb, tru, isNon, ownOf, oAddL, f_is_number, u_is_number, isInt, tyN]
  | list b => simp [xVar, xC, xNil, xCons, xTup, xLst, xLstR, disp, xOp, xChain, iOp, oSub, oMod, oLt, oLe, oGt, oGe, oAdd, oEqS, oNeS, oIn, oIs, xB, xTru, tNt, tAn, tOrr, xNt, xAn, xOr, xIf, xUn, oNeg, oIx, xSl, pNo, pAt, oSl, xFn, kLen, kInt, kMax2, kTuple, kList, kListR, kRepr, xIsi, isN, tyN, view, frz, frzAll, wSeq, wEnm, gN, gs0, gs1, gT, bNil, bCons, thenB, sExp, sRet, sIf, sSet, sTup, sPar, sSub, sSub2, putAt, sRaise, fin, retV, entry, fnO, xCall, xApp, xPopAt, yes, sb, tru, isNon, ownOf, oAddL, f_is_number, u_is_number, isInt, tyN]
  | tuple b => simp [xVar, xC, xNil, xCons, xTup, xLst, xLstR, disp, xOp, xChain, iOp, oSub, oMod, oLt, oLe, oGt, oGe, oAdd, oEqS, oNeS, oIn, oIs, xB, xTru, tNt, tAn, tOrr, xNt, xAn, xOr, xIf, xUn, oNeg, oIx, xSl, pNo, pAt, oSl, xFn, kLen, kInt, kMax2, kTuple, kList, kListR, kRepr, xIsi, isN, tyN, view, frz, frzAll, wSeq, wEnm, gN, gs0, gs1, gT, bNil, bCons, thenB, sExp, sRet, sIf, sSet, sTup, sPar, sSub, sSub2, putAt, sRaise, fin, retV, entry, fnO, xCall, xApp, xPopAt, yes, sb, tru, isNon, ownOf, oAddL, f_is_number, u_is_number, isInt, tyN]
theorem has_thing_no {rs : List PyData} {a : PyData} {st : Store} (h : noD a = true) (hi : isInt a = false) : f_has_thing [.d (.tuple rs), .d a] st = .ok (.d (.bool false)) st := by
  have e := is_number_any (st := st) h
  rw [hi] at e
  simp [xVar, xC, xNil, xCons, xTup, xLst, xLstR, disp, xOp, xChain, iOp, oSub, oMod, oLt, oLe, oGt, oGe, oAdd, oEqS, oNeS, oIn, oIs, xB, xTru, tNt, tAn, tOrr, xNt, xAn, xOr, xIf, xUn, oNeg, oIx, xSl, pNo, pAt, oSl, xFn, kLen, kInt, kMax2, kTuple, kList, kListR, kRepr, xIsi, isN, tyN, view, frz, frzAll, wSeq, wEnm, gN, gs0, gs1, gT, bNil, bCons, thenB, sExp, sRet, sIf, sSet, sTup, sPar, sSub, sSub2, putAt, sRaise, fin, retV, entry, fnO, xCall, xApp, xPopAt, yes, sb, tru, isNon, ownOf, oAddL, f_has_thing, u_has_thing, e]
theorem has_room_no {rs : List Int} {a b : PyData} {st : Store} (ha : noD a = true) (hb : noD b = true) (h : isInt a = false ∨ isInt b = false) : f_has_room [.d (pR rs), .d a, .d b] st = .ok (.d (.bool false)) st := by
  by_cases hi : isInt a = true
  · have hj : isInt b = false := h.resolve_left (by rw [hi]; decide)
    have e2 := is_number_any (st := st) hb
    rw [hj] at e2
    cases a <;> try cases hi
    next i =>
    have e := has_thing_int (rs := rs.map .int) (i := i) (st := st)
    cases hq : decide (0 ≤ i ∧ i < (rs.map PyData.int).length) with
    | true => rw [hq] at e; simp [xVar, xC, xNil, xCons, xTup, xLst, xLstR, disp, xOp, xChain, iOp, oSub, oMod, oLt, oLe, oGt, oGe, oAdd, oEqS, oNeS, oIn, oIs, xB, xTru, tNt, tAn, tOrr, xNt, xAn, xOr, xIf, xUn, oNeg, oIx, xSl, pNo, pAt, oSl, xFn, kLen, kInt, kMax2, kTuple, kList, kListR, kRepr, xIsi, isN, tyN, view, frz, frzAll, wSeq, wEnm, gN, gs0, gs1, gT, bNil, bCons, thenB, sExp, sRet, sIf, sSet, sTup, sPar, sSub, sSub2, putAt, sRaise, fin, retV, entry, fnO, xCall, xApp, xPopAt, yes, sb, tru, isNon, ownOf, oAddL, f_has_room, u_has_room, e, e2]
    | false => rw [hq] at e; simp [xVar, xC, xNil, xCons, xTup, xLst, xLstR, disp, xOp, xChain, iOp, oSub, oMod, oLt, oLe, oGt, oGe, oAdd, oEqS, oNeS, oIn, oIs, xB, xTru, tNt, tAn, tOrr, xNt, xAn, xOr, xIf, xUn, oNeg, oIx, xSl, pNo, pAt, oSl, xFn, kLen, kInt, kMax2, kTuple, kList, kListR, kRepr, xIsi, isN, tyN, view, frz, frzAll, wSeq, wEnm, gN, gs0, gs1, gT, bNil, bCons, thenB, sExp, sRet, sIf, sSet, sTup, sPar, sSub, sSub2, putAt, sRaise, fin, retV, entry, fnO, xCall, xApp, xPopAt, yes, sb, tru, isNon, ownOf, oAddL, f_has_room, u_has_room, e]
  · have hi : isInt a = false := by simpa using hi
    have e := has_thing_no (rs := rs.map .int) (st := st) ha hi
    simp [xVar, xC, xNil, xCons, xTup, xLst, xLstR, disp, xOp, xChain, iOp, oSub, oMod, oLt, oLe, oGt, oGe, oAdd, oEqS, oNeS, oIn, oIs, xB, xTru, tNt, tAn, tOrr, xNt, xAn, xOr, xIf, xUn, oNeg, oIx, xSl, pNo, pAt, oSl, xFn, kLen, kInt, kMax2, kTuple, kList, kListR, kRepr, xIsi, isN, tyN, view, frz, frzAll, wSeq, wEnm, gN, gs0, gs1, gT, bNil, bCons, thenB, sExp, sRet, sIf, sSet, sTup, sPar, sSub, sSub2, putAt, sRaise, fin, retV, entry, fnO, xCall, xApp, xPopAt, yes, sb, tru, isNon, ownOf, oAddL, f_has_room, u_has_room, e]
theorem is_pair_no {p : PyData} {st : Store} (h : noD p = true) (hn : ∀ a b, p ≠ .tuple [a, b]) : f_is_pair [.d p] st = .ok (.d (.bool false)) st := by
  cases p with
  | dict _ => cases h
  | tuple xs =>
    rw [is_pair_tup, decide_eq_false]
    intro hl
    match xs, hl with
    | [a, b], _ => exact hn a b rfl
  | none => simp [xVar, xC, xNil, xCons, xTup, xLst, xLstR, disp, xOp, xChain, iOp, oSub, oMod, oLt, oLe, oGt, oGe, oAdd, oEqS, oNeS, oIn, oIs, xB, xTru, tNt, tAn, tOrr, xNt, xAn, xOr, xIf, xUn, oNeg, oIx, xSl, pNo, pAt, oSl, xFn, kLen, kInt, kMax2, kTuple, kList, kListR, kRepr, xIsi, isN, tyN, view, frz, frzAll, wSeq, wEnm, gN, gs0, gs1, gT, bNil, bCons, thenB, sExp, sRet, sIf, sSet, sTup, sPar, sSub, sSub2, putAt, sRaise, fin, retV, entry, fnO, xCall, xApp, xPopAt, yes, sb, tru, isNon, ownOf, oAddL, f_is_pair, u_is_pair, tyN]
  | bool b => simp [xVar, xC, xNil, xCons, xTup, xLst, xLstR, disp, xOp, xChain, iOp, oSub, oMod, oLt, oLe, oGt, oGe, oAdd, oEqS, oNeS, oIn, oIs, xB, xTru, tNt, tAn, tOrr, xNt, xAn, xOr, xIf, xUn, oNeg, oIx, xSl, pNo, pAt, oSl, xFn, kLen, kInt, kMax2, kTuple, kList, kListR, kRepr, xIsi, isN, tyN, view, frz, frzAll, wSeq, wEnm, gN, gs0, gs1, gT, bNil, bCons, thenB, sExp, sRet, sIf, sSet, sTup, sPar, sSub, sSub2, putAt, sRaise, fin, retV, entry, fnO, xCall, xApp, xPopAt, yes, sb, tru, isNon, ownOf, oAddL, f_is_pair, u_is_pair, tyN]
  | int b => simp [xVar, xC, xNil, xCons, xTup, xLst, xLstR, disp, xOp, xChain, iOp, oSub, oMod, oLt, oLe, oGt, oGe, oAdd, oEqS, oNeS, oIn, oIs, xB, xTru, tNt, tAn, tOrr, xNt, xAn, xOr, xIf, xUn, oNeg, oIx, xSl, pNo, pAt, oSl, xFn, kLen, kInt, kMax2, kTuple, kList, kListR, kRepr, xIsi, isN, tyN, view, frz, frzAll, wSeq, wEnm, gN, gs0, gs1, gT, bNil, bCons, thenB, sExp, sRet, sIf, sSet, sTup, sPar, sSub, sSub2, putAt, sRaise, fin, retV, entry, fnO, xCall, xApp, xPopAt, yes, sb, tru, isNon, ownOf, oAddL, f_is_pair, u_is_pair, tyN]
  | str b => simp [xVar, xC, xNil, xCons, xTup, xLst, xLstR, disp, xOp, xChain, iOp, oSub, oMod, oLt, oLe, oGt, oGe, oAdd, oEqS, oNeS, oIn, oIs, xB, xTru, tNt, tAn, tOrr, xNt, xAn, xOr, xIf, xUn, oNeg, oIx, xSl, pNo, pAt, oSl, xFn, kLen, kInt, kMax2, kTuple, kList, kListR, kRepr, xIsi, isN, tyN, view, frz, frzAll, wSeq, wEnm, gN, gs0, gs1, gT, bNil, bCons, thenB, sExp, sRet, sIf, sSet, sTup, sPar, sSub, sSub2, putAt, sRaise, fin, retV, entry, fnO, xCall, xApp, xPopAt, yes, sb, tru, isNon, ownOf, oAddL, f_is_pair, u_is_pair, tyN]
  | list b => simp [xVar, xC, xNil, xCons, xTup, xLst, xLstR, disp, xOp, xChain, iOp, oSub, oMod, oLt, oLe, oGt, oGe, oAdd, oEqS, oNeS, oIn, oIs, xB, xTru, tNt, tAn, tOrr, xNt, xAn, xOr, xIf, xUn, oNeg, oIx, xSl, pNo, pAt, oSl, xFn, kLen, kInt, kMax2, kTuple, kList, kListR, kRepr, xIsi, isN, tyN, view, frz, frzAll, wSeq, wEnm, gN, gs0, gs1, gT, bNil, bCons, thenB, sExp, sRet, sIf, sSet, sTup, sPar, sSub, sSub2, putAt, sRaise, fin, retV, entry, fnO, xCall, xApp, xPopAt, yes, sb, tru, isNon, ownOf, oAddL, f_is_pair, u_is_pair, tyN]
theorem may_have_any {rs : List Int} {x : Int} {p : PyData} {st : Store} (hp : OddP p) : f__may_have [.d (pR rs), .d (.int x), .d p] st = .ok (.d (.bool (plD rs x p))) st := by
  by_cases h2 : ∃ a b, p = .tuple [a, b]
  · obtain ⟨a, b, rfl⟩ := h2
    obtain ⟨na, nb⟩ := hp.2 a b rfl
    by_cases hi : isInt a = true ∧ isInt b = true
    · obtain ⟨ha, hb⟩ := hi
      cases a <;> try cases ha
      cases b <;> try cases hb
      next h r => exact may_have_eq (p := some (h, r))
    · have hno : isInt a = false ∨ isInt b = false := by
        cases e1 : isInt a with
        | false => exact .inl rfl
        | true =>
          cases e2 : isInt b with
          | false => exact .inr rfl
          | true => exact absurd ⟨e1, e2⟩ hi
      have e := has_room_no (rs := rs) (st := st) na nb hno
      have g : plD rs x (.tuple [a, b]) = false := by
        rcases hno with z | z <;> cases a <;> cases b <;> first | rfl | cases z
      rw [g]
      simp [xVar, xC, xNil, xCons, xTup, xLst, xLstR, disp, xOp, xChain, iOp, oSub, oMod, oLt, oLe, oGt, oGe, oAdd, oEqS, oNeS, oIn, oIs, xB, xTru, tNt, tAn, tOrr, xNt, xAn, xOr, xIf, xUn, oNeg, oIx, xSl, pNo, pAt, oSl, xFn, kLen, kInt, kMax2, kTuple, kList, kListR, kRepr, xIsi, isN, tyN, view, frz, frzAll, wSeq, wEnm, gN, gs0, gs1, gT, bNil, bCons, thenB, sExp, sRet, sIf, sSet, sTup, sPar, sSub, sSub2, putAt, sRaise, fin, retV, entry, fnO, xCall, xApp, xPopAt, yes, sb, tru, isNon, ownOf, oAddL, f__may_have, u__may_have, is_pair_tup, at0, at1, e]
  · by_cases hn : p = .none
    · subst hn
      simp [xVar, xC, xNil, xCons, xTup, xLst, xLstR, disp, xOp, xChain, iOp, oSub, oMod, oLt, oLe, oGt, oGe, oAdd, oEqS, oNeS, oIn, oIs, xB, xTru, tNt, tAn, tOrr, xNt, xAn, xOr, xIf, xUn, oNeg, oIx, xSl, pNo, pAt, oSl, xFn, kLen, kInt, kMax2, kTuple, kList, kListR, kRepr, xIsi, isN, tyN, view, frz, frzAll, wSeq, wEnm, gN, gs0, gs1, gT, bNil, bCons, thenB, sExp, sRet, sIf, sSet, sTup, sPar, sSub, sSub2, putAt, sRaise, fin, retV, entry, fnO, xCall, xApp, xPopAt, yes, sb, tru, isNon, ownOf, oAddL, f__may_have, u__may_have, plD]
    · have e := is_pair_no (p := p) (st := st) hp.1 fun a b z => h2 ⟨a, b, z⟩
      have g : plD rs x p = false := by
        unfold plD
        split
        · exact absurd rfl hn
        · exact absurd ⟨_, _, rfl⟩ h2
        · rfl
      rw [g]
      cases p with
      | none => exact absurd rfl hn
      | dict _ => cases hp.1
      | bool b => simp [xVar, xC, xNil, xCons, xTup, xLst, xLstR, disp, xOp, xChain, iOp, oSub, oMod, oLt, oLe, oGt, oGe, oAdd, oEqS, oNeS, oIn, oIs, xB, xTru, tNt, tAn, tOrr, xNt, xAn, xOr, xIf, xUn, oNeg, oIx, xSl, pNo, pAt, oSl, xFn, kLen, kInt, kMax2, kTuple, kList, kListR, kRepr, xIsi, isN, tyN, view, frz, frzAll, wSeq, wEnm, gN, gs0, gs1, gT, bNil, bCons, thenB, sExp, sRet, sIf, sSet, sTup, sPar, sSub, sSub2, putAt, sRaise, fin, retV, entry, fnO, xCall, xApp, xPopAt, yes, sb, tru, isNon, ownOf, oAddL, f__may_have, u__may_have, e]
      | int b => simp [xVar, xC, xNil, xCons, xTup, xLst, xLstR, disp, xOp, xChain, iOp, oSub, oMod, oLt, oLe, oGt, oGe, oAdd, oEqS, oNeS, oIn, oIs, xB, xTru, tNt, tAn, tOrr, xNt, xAn, xOr, xIf, xUn, oNeg, oIx, xSl, pNo, pAt, oSl, xFn, kLen, kInt, kMax2, kTuple, kList, kListR, kRepr, xIsi, isN, tyN, view, frz, frzAll, wSeq, wEnm, gN, gs0, gs1, gT, bNil, bCons, thenB, sExp, sRet, sIf, sSet, sTup, sPar, sSub, sSub2, putAt, sRaise, fin, retV, entry, fnO, xCall, xApp, xPopAt, yes, sb, tru, isNon, ownOf, oAddL, f__may_have, u__may_have, e]
      | str b => simp [xVar, xC, xNil, xCons, xTup, xLst, xLstR, disp, xOp, xChain, iOp, oSub, oMod, oLt, oLe, oGt, oGe, oAdd, oEqS, oNeS, oIn, oIs, xB, xTru, tNt, tAn, tOrr, xNt, xAn, xOr, xIf, xUn, oNeg, oIx, xSl, pNo, pAt, oSl, xFn, kLen, kInt, kMax2, kTuple, kList, kListR, kRepr, xIsi, isN, tyN, view, frz, frzAll, wSeq, wEnm, gN, gs0, gs1, gT, bNil, bCons, thenB, sExp, sRet, sIf, sSet, sTup, sPar, sSub, sSub2, putAt, sRaise, fin, retV, entry, fnO, xCall, xApp, xPopAt, yes, sb, tru, isNon, ownOf, oAddL, f__may_have, u__may_have, e]
      | list b => simp [xVar, xC, xNil, xCons, xTup, xLst, xLstR, disp, xOp, xChain, iOp, oSub, oMod, oLt, oLe, oGt, oGe, oAdd, oEqS, oNeS, oIn, oIs, xB, xTru, tNt, tAn, tOrr, xNt, xAn, xOr, xIf, xUn, oNeg, oIx, xSl, pNo, pAt, oSl, xFn, kLen, kInt, kMax2, kTuple, kList, kListR, kRepr, xIsi, isN, tyN, view, frz, frzAll, wSeq, wEnm, gN, gs0, gs1, gT, bNil, bCons, thenB, sExp, sRet, sIf, sSet, sTup, sPar, sSub, sSub2, putAt, sRaise, fin, retV, entry, fnO, xCall, xApp, xPopAt, yes, sb, tru, isNon, ownOf, oAddL, f__may_have, u__may_have, e]
      | tuple b => simp [xVar, xC, xNil, xCons, xTup, xLst, xLstR, disp, xOp, xChain, iOp, oSub, oMod, oLt, oLe, oGt, oGe, oAdd, oEqS, oNeS, oIn, oIs, xB, xTru, tNt, tAn, tOrr, xNt, xAn, xOr, xIf, xUn, oNeg, oIx, xSl, pNo, pAt, oSl, xFn, kLen, kInt, kMax2, kTuple, kList, kListR, kRepr, xIsi, isN, tyN, view, frz, frzAll, wSeq, wEnm, gN, gs0, gs1, gT, bNil, bCons, thenB, sExp, sRet, sIf, sSet, sTup, sPar, sSub, sSub2, putAt, sRaise, fin, retV, entry, fnO, xCall, xApp, xPopAt, yes, sb, tru, isNon, ownOf, oAddL, f__may_have, u__may_have, e]
theorem law_number_int {i m : Int} {st : Store} : f__law_number [.d (.int i), .d (.int m)] st = .ok (.d (.bool (decide (0 ≤ i ∧ i < m)))) st := by
  by_cases h1 : 0 ≤ i <;> by_cases h2 : i < m <;> simp [xVar, xC, xNil, xCons, xTup, xLst, xLstR, disp, xOp, xChain, iOp, oSub, oMod, oLt, oLe, oGt, oGe, oAdd, oEqS, oNeS, oIn, oIs, xB, xTru, tNt, tAn, tOrr, xNt, xAn, xOr, xIf, xUn, oNeg, oIx, xSl, pNo, pAt, oSl, xFn, kLen, kInt, kMax2, kTuple, kList, kListR, kRepr, xIsi, isN, tyN, view, frz, frzAll, wSeq, wEnm, gN, gs0, gs1, gT, bNil, bCons, thenB, sExp, sRet, sIf, sSet, sTup, sPar, sSub, sSub2, putAt, sRaise, fin, retV, entry, fnO, xCall, xApp, xPopAt, yes, sb, tru, isNon, ownOf, oAddL, f__law_number, u__law_number, tyN, h1, h2]
theorem law_number_no {a : PyData} {m : PyData} {st : Store} (h : noD a = true) (hi : isInt a = false) : f__law_number [.d a, .d m] st = .ok (.d (.bool false)) st := by
  cases a with
  | dict _ => cases h
  | int i => cases hi
  | none => simp [xVar, xC, xNil, xCons, xTup, xLst, xLstR, disp, xOp, xChain, iOp, oSub, oMod, oLt, oLe, oGt, oGe, oAdd, oEqS, oNeS, oIn, oIs, xB, xTru, tNt, tAn, tOrr, xNt, xAn, xOr, xIf, xUn, oNeg, oIx, xSl, pNo, pAt, oSl, xFn, kLen, kInt, kMax2, kTuple, kList, kListR, kRepr, xIsi, isN, tyN, view, frz, frzAll, wSeq, wEnm, gN, gs0, gs1, gT, bNil, bCons, thenB, sExp, sRet, sIf, sSet, sTup, sPar, sSub, sSub2, putAt, sRaise, fin, retV, entry, fnO, xCall, xApp, xPopAt, yes, sb, tru, isNon, ownOf, oAddL, f__law_number, u__law_number, tyN]
  | bool b => simp [xVar, xC, xNil, xCons, xTup, xLst, xLstR, disp, xOp, xChain, iOp, oSub, oMod, oLt, oLe, oGt, oGe, oAdd, oEqS, oNeS, oIn, oIs, xB, xTru, tNt, tAn, tOrr, xNt, xAn, xOr, xIf, xUn, oNeg, oIx, xSl, pNo, pAt, oSl, xFn, kLen, kInt, kMax2, kTuple, kList, kListR, kRepr, xIsi, isN, tyN, view, frz, frzAll, wSeq, wEnm, gN, gs0, gs1, gT, bNil, bCons, thenB, sExp, sRet, sIf, sSet, sTup, sPar, sSub, sSub2, putAt, sRaise, fin, retV, entry, fnO, xCall, xApp, xPopAt, yes, sb, tru, isNon, ownOf, oAddL, f__law_number, u__law_number, tyN]
  | str b => simp [xVar, xC, xNil, xCons, xTup, xLst, xLstR, disp, xOp, xChain, iOp, oSub, oMod, oLt, oLe, oGt, oGe, oAdd, oEqS, oNeS, oIn, oIs, xB, xTru, tNt, tAn, tOrr, xNt, xAn, xOr, xIf, xUn, oNeg, oIx, xSl, pNo, pAt, oSl, xFn, kLen, kInt, kMax2, kTuple, kList, kListR, kRepr, xIsi, isN, tyN, view, frz, frzAll, wSeq, wEnm, gN, gs0, gs1, gT, bNil, bCons, thenB, sExp, sRet, sIf, sSet, sTup, sPar, sSub, sSub2, putAt, sRaise, fin, retV, entry, fnO, xCall, xApp, xPopAt, yes, sb, tru, isNon, ownOf, oAddL, f__law_number, u__law_number, tyN]
  | list b => simp [xVar, xC, xNil, xCons, xTup, xLst, xLstR, disp, xOp, xChain, iOp, oSub, oMod, oLt, oLe, oGt, oGe, oAdd, oEqS, oNeS, oIn, oIs, xB, xTru, tNt, tAn, tOrr, xNt, xAn, xOr, xIf, xUn, oNeg, oIx, xSl, pNo, pAt, oSl, xFn, kLen, kInt, kMax2, kTuple, kList, kListR, kRepr, xIsi, isN, tyN, view, frz, frzAll, wSeq, wEnm, gN, gs0, gs1, gT, bNil, bCons, thenB, sExp, sRet, sIf, sSet, sTup, sPar, sSub, sSub2, putAt, sRaise, fin, retV, entry, fnO, xCall, xApp, xPopAt, yes, sb, tru, isNon, ownOf, oAddL, f__law_number, u__law_number, tyN]
  | tuple b => simp [xVar, xC, xNil, xCons, xTup, xLst, xLstR, disp, xOp, xChain, iOp, oSub, oMod, oLt, oLe, oGt, oGe, oAdd, oEqS, oNeS, oIn, oIs, xB, xTru, tNt, tAn, tOrr, xNt, xAn, xOr, xIf, xUn, oNeg, oIx, xSl, pNo, pAt, oSl, xFn, kLen, kInt, kMax2, kTuple, kList, kListR, kRepr, xIsi, isN, tyN, view, frz, frzAll, wSeq, wEnm, gN, gs0, gs1, gT, bNil, bCons, thenB, sExp, sRet, sIf, sSet, sTup, sPar, sSub, sSub2, putAt, sRaise, fin, retV, entry, fnO, xCall, xApp, xPopAt, yes, sb, tru, isNon, ownOf, oAddL, f__law_number, u__law_number, tyN]
theorem law_place_eq {rs : List Int} {x : Int} {p : PyData} {st : Store} (hp : OddP p) : f__law_is_place [.d (pR rs), .d (.int x), .d p] st = .ok (.d (.bool (plD rs x p))) st := by
  by_cases h2 : ∃ a b, p = .tuple [a, b]
  · obtain ⟨a, b, rfl⟩ := h2
    obtain ⟨na, nb⟩ := hp.2 a b rfl
    by_cases ha : isInt a = true
    · cases a <;> try cases ha
      next h =>
      have e1 := law_number_int (i := h) (m := (rs.map PyData.int).length) (st := st)
      rw [List.length_map] at e1
      by_cases hr : 0 ≤ h ∧ h < rs.length
      · rw [decide_eq_true hr] at e1
        have hl : h.toNat < rs.length := by omega
        have ea : atI (rs.map PyData.int) h = some (.int rs[h.toNat]) := by
          rw [atI_at hr.1 (by rw [List.length_map]; exact hr.2), List.getElem?_map, List.getElem?_eq_getElem hl]
          rfl
        by_cases hb : isInt b = true
        · cases b <;> try cases hb
          next r =>
          have e2 := law_number_int (i := r) (m := rs[h.toNat]) (st := st)
          have g : plD rs x (.tuple [.int h, .int r]) = (decide (h ≠ x) && decide (0 ≤ r ∧ r < rs[h.toNat])) := by
            show plOk rs x (some (h, r)) = _
            unfold plOk
            dsimp only
            rw [List.getElem?_eq_getElem hl, Bool.and_comm]
            congr 1
            refine decide_eq_decide.mpr ⟨fun ⟨_, _, c, m, d, f⟩ => ?_, fun ⟨c, d⟩ => ⟨hr.1, hr.2, c, _, rfl, d⟩⟩
            cases d
            exact ⟨c, f⟩
          rw [g]
          by_cases hx : h = x
          · subst hx; simp [xVar, xC, xNil, xCons, xTup, xLst, xLstR, disp, xOp, xChain, iOp, oSub, oMod, oLt, oLe, oGt, oGe, oAdd, oEqS, oNeS, oIn, oIs, xB, xTru, tNt, tAn, tOrr, xNt, xAn, xOr, xIf, xUn, oNeg, oIx, xSl, pNo, pAt, oSl, xFn, kLen, kInt, kMax2, kTuple, kList, kListR, kRepr, xIsi, isN, tyN, view, frz, frzAll, wSeq, wEnm, gN, gs0, gs1, gT, bNil, bCons, thenB, sExp, sRet, sIf, sSet, sTup, sPar, sSub, sSub2, putAt, sRaise, fin, retV, entry, fnO, xCall, xApp, xPopAt, yes, sb, tru, isNon, ownOf, oAddL, f__law_is_place, u__law_is_place, tyN, at0, at1, e1]
          · simp [xVar, xC, xNil, xCons, xTup, xLst, xLstR, disp, xOp, xChain, iOp, oSub, oMod, oLt, oLe, oGt, oGe, oAdd, oEqS, oNeS, oIn, oIs, xB, xTru, tNt, tAn, tOrr, xNt, xAn, xOr, xIf, xUn, oNeg, oIx, xSl, pNo, pAt, oSl, xFn, kLen, kInt, kMax2, kTuple, kList, kListR, kRepr, xIsi, isN, tyN, view, frz, frzAll, wSeq, wEnm, gN, gs0, gs1, gT, bNil, bCons, thenB, sExp, sRet, sIf, sSet, sTup, sPar, sSub, sSub2, putAt, sRaise, fin, retV, entry, fnO, xCall, xApp, xPopAt, yes, sb, tru, isNon, ownOf, oAddL, f__law_is_place, u__law_is_place, tyN, at0, at1, e1, e2, ea, hx]
        · have hb : isInt b = false := by simpa using hb
          have e2 := law_number_no (a := b) (m := .int rs[h.toNat]) (st := st) nb hb
          have g : plD rs x (.tuple [.int h, b]) = false := by cases b <;> first | rfl | cases hb
          rw [g]
          by_cases hx : h = x
          · subst hx; simp [xVar, xC, xNil, xCons, xTup, xLst, xLstR, disp, xOp, xChain, iOp, oSub, oMod, oLt, oLe, oGt, oGe, oAdd, oEqS, oNeS, oIn, oIs, xB, xTru, tNt, tAn, tOrr, xNt, xAn, xOr, xIf, xUn, oNeg, oIx, xSl, pNo, pAt, oSl, xFn, kLen, kInt, kMax2, kTuple, kList, kListR, kRepr, xIsi, isN, tyN, view, frz, frzAll, wSeq, wEnm, gN, gs0, gs1, gT, bNil, bCons, thenB, sExp, sRet, sIf, sSet, sTup, sPar, sSub, sSub2, putAt, sRaise, fin, retV, entry, fnO, xCall, xApp, xPopAt, yes, sb, tru, isNon, ownOf, oAddL, f__law_is_place, u__law_is_place, tyN, at0, at1, e1]
          · simp [xVar, xC, xNil, xCons, xTup, xLst, xLstR, disp, xOp, xChain, iOp, oSub, oMod, oLt, oLe, oGt, oGe, oAdd, oEqS, oNeS, oIn, oIs, xB, xTru, tNt, tAn, tOrr, xNt, xAn, xOr, xIf, xUn, oNeg, oIx, xSl, pNo, pAt, oSl, xFn, kLen, kInt, kMax2, kTuple, kList, kListR, kRepr, xIsi, isN, tyN, view, frz, frzAll, wSeq, wEnm, gN, gs0, gs1, gT, bNil, bCons, thenB, sExp, sRet, sIf, sSet, sTup, sPar, sSub, sSub2, putAt, sRaise, fin, retV, entry, fnO, xCall, xApp, xPopAt, yes, sb, tru, isNon, ownOf, oAddL, f__law_is_place, u__law_is_place, tyN, at0, at1, e1, e2, ea, hx]
      · rw [decide_eq_false hr] at e1
        have g : plD rs x (.tuple [.int h, b]) = false := by
          cases b <;> try rfl
          show plOk rs x (some (h, _)) = false
          unfold plOk
          dsimp only
          rw [Bool.and_eq_false_iff]
          exact .inl (decide_eq_false fun z => hr ⟨z.1, z.2.1⟩)
        rw [g]
        simp [xVar, xC, xNil, xCons, xTup, xLst, xLstR, disp, xOp, xChain, iOp, oSub, oMod, oLt, oLe, oGt, oGe, oAdd, oEqS, oNeS, oIn, oIs, xB, xTru, tNt, tAn, tOrr, xNt, xAn, xOr, xIf, xUn, oNeg, oIx, xSl, pNo, pAt, oSl, xFn, kLen, kInt, kMax2, kTuple, kList, kListR, kRepr, xIsi, isN, tyN, view, frz, frzAll, wSeq, wEnm, gN, gs0, gs1, gT, bNil, bCons, thenB, sExp, sRet, sIf, sSet, sTup, sPar, sSub, sSub2, putAt, sRaise, fin, retV, entry, fnO, xCall, xApp, xPopAt, yes, sb, tru, isNon, ownOf, oAddL, f__law_is_place, u__law_is_place, tyN, at0, at1, e1]
    · have ha : isInt a = false := by simpa using ha
      have e1 := law_number_no (a := a) (m := .int ((rs.map PyData.int).length)) (st := st) na ha
      rw [List.length_map] at e1
      have g : plD rs x (.tuple [a, b]) = false := by cases a <;> first | rfl | cases ha
      rw [g]
      simp [xVar, xC, xNil, xCons, xTup, xLst, xLstR, disp, xOp, xChain, iOp, oSub, oMod, oLt, oLe, oGt, oGe, oAdd, oEqS, oNeS, oIn, oIs, xB, xTru, tNt, tAn, tOrr, xNt, xAn, xOr, xIf, xUn, oNeg, oIx, xSl, pNo, pAt, oSl, xFn, kLen, kInt, kMax2, kTuple, kList, kListR, kRepr, xIsi, isN, tyN, view, frz, frzAll, wSeq, wEnm, gN, gs0, gs1, gT, bNil, bCons, thenB, sExp, sRet, sIf, sSet, sTup, sPar, sSub, sSub2, putAt, sRaise, fin, retV, entry, fnO, xCall, xApp, xPopAt, yes, sb, tru, isNon, ownOf, oAddL, f__law_is_place, u__law_is_place, tyN, at0, at1, e1]
  · by_cases hn : p = .none
    · subst hn
      simp [xVar, xC, xNil, xCons, xTup, xLst, xLstR, disp, xOp, xChain, iOp, oSub, oMod, oLt, oLe, oGt, oGe, oAdd, oEqS, oNeS, oIn, oIs, xB, xTru, tNt, tAn, tOrr, xNt, xAn, xOr, xIf, xUn, oNeg, oIx, xSl, pNo, pAt, oSl, xFn, kLen, kInt, kMax2, kTuple, kList, kListR, kRepr, xIsi, isN, tyN, view, frz, frzAll, wSeq, wEnm, gN, gs0, gs1, gT, bNil, bCons, thenB, sExp, sRet, sIf, sSet, sTup, sPar, sSub, sSub2, putAt, sRaise, fin, retV, entry, fnO, xCall, xApp, xPopAt, yes, sb, tru, isNon, ownOf, oAddL, f__law_is_place, u__law_is_place, plD]
    · have g : plD rs x p = false := by
        unfold plD
        split
        · exact absurd rfl hn
        · exact absurd ⟨_, _, rfl⟩ h2
        · rfl
      rw [g]
      cases p with
      | none => exact absurd rfl hn
      | dict _ => cases hp.1
      | bool b => simp [xVar, xC, xNil, xCons, xTup, xLst, xLstR, disp, xOp, xChain, iOp, oSub, oMod, oLt, oLe, oGt, oGe, oAdd, oEqS, oNeS, oIn, oIs, xB, xTru, tNt, tAn, tOrr, xNt, xAn, xOr, xIf, xUn, oNeg, oIx, xSl, pNo, pAt, oSl, xFn, kLen, kInt, kMax2, kTuple, kList, kListR, kRepr, xIsi, isN, tyN, view, frz, frzAll, wSeq, wEnm, gN, gs0, gs1, gT, bNil, bCons, thenB, sExp, sRet, sIf, sSet, sTup, sPar, sSub, sSub2, putAt, sRaise, fin, retV, entry, fnO, xCall, xApp, xPopAt, yes, sb, tru, isNon, ownOf, oAddL, f__law_is_place, u__law_is_place, tyN]
      | int b => simp [xVar, xC, xNil, xCons, xTup, xLst, xLstR, disp, xOp, xChain, iOp, oSub, oMod, oLt, oLe, oGt, oGe, oAdd, oEqS, oNeS, oIn, oIs, xB, xTru, tNt, tAn, tOrr, xNt, xAn, xOr, xIf, xUn, oNeg, oIx, xSl, pNo, pAt, oSl, xFn, kLen, kInt, kMax2, kTuple, kList, kListR, kRepr, xIsi, isN, tyN, view, frz, frzAll, wSeq, wEnm, gN, gs0, gs1, gT, bNil, bCons, thenB, sExp, sRet, sIf, sSet, sTup, sPar, sSub, sSub2, putAt, sRaise, fin, retV, entry, fnO, xCall, xApp, xPopAt, yes, sb, tru, isNon, ownOf, oAddL, f__law_is_place, u__law_is_place, tyN]
      | str b => simp [xVar, xC, xNil, xCons, xTup, xLst, xLstR, disp, xOp, xChain, iOp, oSub, oMod, oLt, oLe, oGt, oGe, oAdd, oEqS, oNeS, oIn, oIs, xB, xTru, tNt, tAn, tOrr, xNt, xAn, xOr, xIf, xUn, oNeg, oIx, xSl, pNo, pAt, oSl, xFn, kLen, kInt, kMax2, kTuple, kList, kListR, kRepr, xIsi, isN, tyN, view, frz, frzAll, wSeq, wEnm, gN, gs0, gs1, gT, bNil, bCons, thenB, sExp, sRet, sIf, sSet, sTup, sPar, sSub, sSub2, putAt, sRaise, fin, retV, entry, fnO, xCall, xApp, xPopAt, yes, sb, tru, isNon, ownOf, oAddL, f__law_is_place, u__law_is_place, tyN]
      | list b => simp [xVar, xC, xNil, xCons, xTup, xLst, xLstR, disp, xOp, xChain, iOp, oSub, oMod, oLt, oLe, oGt, oGe, oAdd, oEqS, oNeS, oIn, oIs, xB, xTru, tNt, tAn, tOrr, xNt, xAn, xOr, xIf, xUn, oNeg, oIx, xSl, pNo, pAt, oSl, xFn, kLen, kInt, kMax2, kTuple, kList, kListR, kRepr, xIsi, isN, tyN, view, frz, frzAll, wSeq, wEnm, gN, gs0, gs1, gT, bNil, bCons, thenB, sExp, sRet, sIf, sSet, sTup, sPar, sSub, sSub2, putAt, sRaise, fin, retV, entry, fnO, xCall, xApp, xPopAt, yes, sb, tru, isNon, ownOf, oAddL, f__law_is_place, u__law_is_place, tyN]
      | tuple b =>
        have hl : ¬ (b.length : Int) = 2 := fun z => by
          have hl : b.length = 2 := by omega
          match b, hl with
          | [a, c], _ => exact h2 ⟨a, c, rfl⟩
        simp [xVar, xC, xNil, xCons, xTup, xLst, xLstR, disp, xOp, xChain, iOp, oSub, oMod, oLt, oLe, oGt, oGe, oAdd, oEqS, oNeS, oIn, oIs, xB, xTru, tNt, tAn, tOrr, xNt, xAn, xOr, xIf, xUn, oNeg, oIx, xSl, pNo, pAt, oSl, xFn, kLen, kInt, kMax2, kTuple, kList, kListR, kRepr, xIsi, isN, tyN, view, frz, frzAll, wSeq, wEnm, gN, gs0, gs1, gT, bNil, bCons, thenB, sExp, sRet, sIf, sSet, sTup, sPar, sSub, sSub2, putAt, sRaise, fin, retV, entry, fnO, xCall, xApp, xPopAt, yes, sb, tru, isNon, ownOf, oAddL, f__law_is_place, u__law_is_place, tyN, hl]
end Nz

end
section
set_option Elab.async false
set_option linter.all false
set_option maxRecDepth 100000
set_option maxHeartbeats 2000000
namespace Nz
open PySem PySem.Spec PyProof.Rows L2
/-! ### how a forest is judged -/
inductive Oc where
  | bad (i : Int) | ring (x : Nat) | told
def isTold : Oc → Bool
  | .told => true
  | _ => false
def OddF (F : PyData) : Prop := noD F = true ∧ ∀ ps, F = .tuple ps → ∀ p ∈ ps, OddP p
inductive Case (rs : List Int) : PyData → Oc → Prop
  | short {F : PyData} (h : noD F = true) (n : ∀ ps, F = .tuple ps → ps.length ≠ rs.length) : Case rs F (.bad (-1))
  | place {ps : List PyData} {x : Nat} {p : PyData} (hl : ps.length = rs.length) (odd : ∀ p ∈ ps, OddP p) (hx : ps[x]? = some p) (hb : plD rs x p = false) (hall : ∀ (y : Nat) q, y < x → ps[y]? = some q → plD rs y q = true) : Case rs (.tuple ps) (.bad x)
  | ring {fo : List Pl} {x : Nat} (hl : fo.length = rs.length) (hp : ∀ (x : Nat) (p : Pl), fo[x]? = some p → plOk rs x p = true) (hx : x < fo.length) (hb : ringB fo x = true) (hall : ∀ y : Nat, y < x → ringB fo y = false) : Case rs (pF fo) (.ring x)
  | told {fo : List Pl} (h : FoOk rs fo) : Case rs (pF fo) .told
theorem first_of (P : Nat → Bool) : ∀ n : Nat, (∀ x, x < n → P x = true) ∨ ∃ x, x < n ∧ P x = false ∧ ∀ y, y < x → P y = true
  | 0 => .inl fun x h => absurd h (Nat.not_lt_zero _)
  | n + 1 => by
    rcases first_of P n with h | ⟨x, h1, h2, h3⟩
    · cases hp : P n with
      | true =>
        refine .inl fun x hx => ?_
        by_cases e : x = n
        · rw [e, hp]
        · exact h x (by omega)
      | false => exact .inr ⟨n, Nat.lt_succ_self n, hp, h⟩
    · exact .inr ⟨x, by omega, h2, h3⟩
theorem plD_pl {rs : List Int} {x : Int} {p : PyData} (h : plD rs x p = true) : ∃ q : Pl, p = pP q ∧ plOk rs x q = true := by
  unfold plD at h
  split at h
  · exact ⟨none, rfl, rfl⟩
  · next a b => exact ⟨some (a, b), rfl, h⟩
  · cases h
theorem as_fo {rs : List Int} : ∀ (ps : List PyData) (k : Nat), (∀ (x : Nat) p, ps[x]? = some p → plD rs ((x + k : Nat) : Int) p = true) → ∃ fo : List Pl, ps = fo.map pP ∧ ∀ (x : Nat) (p : Pl), fo[x]? = some p → plOk rs ((x + k : Nat) : Int) p = true
  | [], _, _ => ⟨[], rfl, fun x p e => by simp at e⟩
  | p :: ps, k, h => by
    obtain ⟨q, rfl, hq⟩ := plD_pl (h 0 p rfl)
    obtain ⟨fo, e, hf⟩ := as_fo ps (k + 1) fun x p e => by
      have := h (x + 1) p e
      rw [show x + (k + 1) = x + 1 + k by omega]
      exact this
    refine ⟨q :: fo, by rw [e]; rfl, fun x p e => ?_⟩
    cases x with
    | zero => cases e; exact hq
    | succ x =>
      have := hf x p e
      rw [show x + (k + 1) = x + 1 + k by omega] at this
      exact this
theorem cases_of {rs : List Int} {F : PyData} (hr : RoomsOk rs) (h : OddF F) : ∃ o, Case rs F o := by
  by_cases ht : ∃ ps, F = .tuple ps ∧ ps.length = rs.length
  · obtain ⟨ps, rfl, hl⟩ := ht
    rcases first_of (fun x => plD rs x (ps[x]?.getD .none)) ps.length with hall | ⟨x, h1, h2, h3⟩
    · obtain ⟨fo, rfl, hf⟩ := as_fo (rs := rs) ps 0 fun x p e => by
        have := hall x (List.getElem?_eq_some_iff.mp e).1
        rw [e] at this
        exact this
      have hf : ∀ (x : Nat) (p : Pl), fo[x]? = some p → plOk rs x p = true := hf
      rw [List.length_map] at hl
      rcases first_of (fun x => !ringB fo x) fo.length with hr2 | ⟨x, h1, h2, h3⟩
      · exact ⟨.told, .told ⟨hr, hl, hf, fun x hx => by have := hr2 x hx; simpa using this⟩⟩
      · exact ⟨.ring x, .ring hl hf h1 (by simpa using h2) fun y hy => by have := h3 y hy; simpa using this⟩
    · refine ⟨.bad x, .place (p := ps[x]) hl (h.2 ps rfl) (List.getElem?_eq_getElem h1) ?_ fun y q hy e => ?_⟩
      · rw [List.getElem?_eq_getElem h1] at h2; exact h2
      · have := h3 y hy
        rw [e] at this
        exact this
  · exact ⟨.bad (-1), .short h.1 fun ps e hl => ht ⟨ps, e, hl⟩⟩
/-! ### made_forest -/
abbrev shortT : Tx := tOrr (tNt (xB (xIsi "tuple" (xVar 1)))) (xB (xOp oNeS (xFn kLen (xCons (xVar 1) xNil)) (xFn kLen (xCons (xVar 0) xNil))))
theorem short_yes {rs : List Int} {F : PyData} {a b : Option EV} {st : Store} (h : noD F = true) (n : ∀ ps, F = .tuple ps → ps.length ≠ rs.length) : shortT [some (.d (pR rs)), some (.d F), a, b] st = .ok true st := by
  cases F with
  | dict _ => cases h
  | tuple ps =>
    have hl : ¬ (ps.length : Int) = rs.length := fun z => n ps rfl (by omega)
    simp [xVar, xC, xNil, xCons, xTup, xLst, xLstR, disp, xOp, xChain, iOp, oSub, oMod, oLt, oLe, oGt, oGe, oAdd, oEqS, oNeS, oIn, oIs, xB, xTru, tNt, tAn, tOrr, xNt, xAn, xOr, xIf, xUn, oNeg, oIx, xSl, pNo, pAt, oSl, xFn, kLen, kInt, kMax2, kTuple, kList, kListR, kRepr, xIsi, isN, tyN, view, frz, frzAll, wSeq, wEnm, gN, gs0, gs1, gT, bNil, bCons, thenB, sExp, sRet, sIf, sSet, sTup, sPar, sSub, sSub2, putAt, sRaise, fin, retV, entry, fnO, xCall, xApp, xPopAt, yes, sb, tru, isNon, ownOf, oAddL, hl]
  | none => simp [xVar, xC, xNil, xCons, xTup, xLst, xLstR, disp, xOp, xChain, iOp, oSub, oMod, oLt, oLe, oGt, oGe, oAdd, oEqS, oNeS, oIn, oIs, xB, xTru, tNt, tAn, tOrr, xNt, xAn, xOr, xIf, xUn, oNeg, oIx, xSl, pNo, pAt, oSl, xFn, kLen, kInt, kMax2, kTuple, kList, kListR, kRepr, xIsi, isN, tyN, view, frz, frzAll, wSeq, wEnm, gN, gs0, gs1, gT, bNil, bCons, thenB, sExp, sRet, sIf, sSet, sTup, sPar, sSub, sSub2, putAt, sRaise, fin, retV, entry, fnO, xCall, xApp, xPopAt, yes, sb, tru, isNon, ownOf, oAddL]
  | bool b => simp [xVar, xC, xNil, xCons, xTup, xLst, xLstR, disp, xOp, xChain, iOp, oSub, oMod, oLt, oLe, oGt, oGe, oAdd, oEqS, oNeS, oIn, oIs, xB, xTru, tNt, tAn, tOrr, xNt, xAn, xOr, xIf, xUn, oNeg, oIx, xSl, pNo, pAt, oSl, xFn, kLen, kInt, kMax2, kTuple, kList, kListR, kRepr, xIsi, isN, tyN, view, frz, frzAll, wSeq, wEnm, gN, gs0, gs1, gT, bNil, bCons, thenB, sExp, sRet, sIf, sSet, sTup, sPar, sSub, sSub2, putAt, sRaise, fin, retV, entry, fnO, xCall, xApp, xPopAt, yes, sb, tru, isNon, ownOf, oAddL]
  | int b => simp [xVar, xC, xNil, xCons, xTup, xLst, xLstR, disp, xOp, xChain, iOp, oSub, oMod, oLt, oLe, oGt, oGe, oAdd, oEqS, oNeS, oIn, oIs, xB, xTru, tNt, tAn, tOrr, xNt, xAn, xOr, xIf, xUn, oNeg, oIx, xSl, pNo, pAt, oSl, xFn, kLen, kInt, kMax2, kTuple, kList, kListR, kRepr, xIsi, isN, tyN, view, frz, frzAll, wSeq, wEnm, gN, gs0, gs1, gT, bNil, bCons, thenB, sExp, sRet, sIf, sSet, sTup, sPar, sSub, sSub2, putAt, sRaise, fin, retV, entry, fnO, xCall, xApp, xPopAt, yes, sb, tru, isNon, ownOf, oAddL]
  | str b => simp [xVar, xC, xNil, xCons, xTup, xLst, xLstR, disp, xOp, xChain, iOp, oSub, oMod, oLt, oLe, oGt, oGe, oAdd, oEqS, oNeS, oIn, oIs, xB, xTru, tNt, tAn, tOrr, xNt, xAn, xOr, xIf, xUn, oNeg, oIx, xSl, pNo, pAt, oSl, xFn, kLen, kInt, kMax2, kTuple, kList, kListR, kRepr, xIsi, isN, tyN, view, frz, frzAll, wSeq, wEnm, gN, gs0, gs1, gT, bNil, bCons, thenB, sExp, sRet, sIf, sSet, sTup, sPar, sSub, sSub2, putAt, sRaise, fin, retV, entry, fnO, xCall, xApp, xPopAt, yes, sb, tru, isNon, ownOf, oAddL]
  | list b => simp [xVar, xC, xNil, xCons, xTup, xLst, xLstR, disp, xOp, xChain, iOp, oSub, oMod, oLt, oLe, oGt, oGe, oAdd, oEqS, oNeS, oIn, oIs, xB, xTru, tNt, tAn, tOrr, xNt, xAn, xOr, xIf, xUn, oNeg, oIx, xSl, pNo, pAt, oSl, xFn, kLen, kInt, kMax2, kTuple, kList, kListR, kRepr, xIsi, isN, tyN, view, frz, frzAll, wSeq, wEnm, gN, gs0, gs1, gT, bNil, bCons, thenB, sExp, sRet, sIf, sSet, sTup, sPar, sSub, sSub2, putAt, sRaise, fin, retV, entry, fnO, xCall, xApp, xPopAt, yes, sb, tru, isNon, ownOf, oAddL]
theorem short_no {rs : List Int} {ps : List PyData} {a b : Option EV} {st : Store} (h : ps.length = rs.length) : shortT [some (.d (pR rs)), some (.d (.tuple ps)), a, b] st = .ok false st := by
  simp [xVar, xC, xNil, xCons, xTup, xLst, xLstR, disp, xOp, xChain, iOp, oSub, oMod, oLt, oLe, oGt, oGe, oAdd, oEqS, oNeS, oIn, oIs, xB, xTru, tNt, tAn, tOrr, xNt, xAn, xOr, xIf, xUn, oNeg, oIx, xSl, pNo, pAt, oSl, xFn, kLen, kInt, kMax2, kTuple, kList, kListR, kRepr, xIsi, isN, tyN, view, frz, frzAll, wSeq, wEnm, gN, gs0, gs1, gT, bNil, bCons, thenB, sExp, sRet, sIf, sSet, sTup, sPar, sSub, sSub2, putAt, sRaise, fin, retV, entry, fnO, xCall, xApp, xPopAt, yes, sb, tru, isNon, ownOf, oAddL, h]
theorem mfD_loop {rs : List Int} {ps : List PyData} {x : Nat} {p : PyData} {st : Store} (odd : ∀ p ∈ ps, OddP p) (hx : ps[x]? = some p) (hb : plD rs x p = false) (hall : ∀ (y : Nat) q, y < x → ps[y]? = some q → plD rs y q = true) :
    ∃ e, fl_made_forest_2 [some (.d (pR rs)), some (.d (.tuple ps)), none, none] st = .ok (.ex e "BadForest" (.int x)) st := by
  obtain ⟨r, st', e, hs, h1⟩ := sFor_run (w := wEnm (xVar 1)) (t := gT 2 (gs1 2 (gs1 3 gs0))) (u := fb_made_forest_1) (xs := enm ps) (env := [some (.d (pR rs)), some (.d (.tuple ps)), none, none]) (st := st)
    (R := fun r st' => st' = st ∧ ∃ e, r = .ex e "BadForest" (.int x))
    (by simp [xVar, xC, xNil, xCons, xTup, xLst, xLstR, disp, xOp, xChain, iOp, oSub, oMod, oLt, oLe, oGt, oGe, oAdd, oEqS, oNeS, oIn, oIs, xB, xTru, tNt, tAn, tOrr, xNt, xAn, xOr, xIf, xUn, oNeg, oIx, xSl, pNo, pAt, oSl, xFn, kLen, kInt, kMax2, kTuple, kList, kListR, kRepr, xIsi, isN, tyN, view, frz, frzAll, wSeq, wEnm, gN, gs0, gs1, gT, bNil, bCons, thenB, sExp, sRet, sIf, sSet, sTup, sPar, sSub, sSub2, putAt, sRaise, fin, retV, entry, fnO, xCall, xApp, xPopAt, yes, sb, tru, isNon, ownOf, oAddL]) (fun i env st' => st' = st ∧ i ≤ x ∧ ∃ a b, env = [some (.d (pR rs)), some (.d (.tuple ps)), a, b]) ⟨rfl, Nat.zero_le _, _, _, rfl⟩
    (fun i d env st2 hd ⟨hs, hi, a, b, he⟩ => by
      subst he hs
      obtain ⟨z, hz, rfl⟩ := enm_get hd
      refine ⟨[some (.d (pR rs)), some (.d (.tuple ps)), some (.d (.int i)), some (.d z)], by simp [xVar, xC, xNil, xCons, xTup, xLst, xLstR, disp, xOp, xChain, iOp, oSub, oMod, oLt, oLe, oGt, oGe, oAdd, oEqS, oNeS, oIn, oIs, xB, xTru, tNt, tAn, tOrr, xNt, xAn, xOr, xIf, xUn, oNeg, oIx, xSl, pNo, pAt, oSl, xFn, kLen, kInt, kMax2, kTuple, kList, kListR, kRepr, xIsi, isN, tyN, view, frz, frzAll, wSeq, wEnm, gN, gs0, gs1, gT, bNil, bCons, thenB, sExp, sRet, sIf, sSet, sTup, sPar, sSub, sSub2, putAt, sRaise, fin, retV, entry, fnO, xCall, xApp, xPopAt, yes, sb, tru, isNon, ownOf, oAddL], ?_⟩
      have ep : f__may_have [.d (pR rs), .d (.int i), .d z] st2 = .ok (.d (.bool (plD rs i z))) st2 := may_have_any (odd z (List.mem_of_getElem? hz))
      by_cases hlt : i < x
      · rw [hall i z hlt hz] at ep
        exact ⟨.nx [some (.d (pR rs)), some (.d (.tuple ps)), some (.d (.int i)), some (.d z)], st2, by simp [xVar, xC, xNil, xCons, xTup, xLst, xLstR, disp, xOp, xChain, iOp, oSub, oMod, oLt, oLe, oGt, oGe, oAdd, oEqS, oNeS, oIn, oIs, xB, xTru, tNt, tAn, tOrr, xNt, xAn, xOr, xIf, xUn, oNeg, oIx, xSl, pNo, pAt, oSl, xFn, kLen, kInt, kMax2, kTuple, kList, kListR, kRepr, xIsi, isN, tyN, view, frz, frzAll, wSeq, wEnm, gN, gs0, gs1, gT, bNil, bCons, thenB, sExp, sRet, sIf, sSet, sTup, sPar, sSub, sSub2, putAt, sRaise, fin, retV, entry, fnO, xCall, xApp, xPopAt, yes, sb, tru, isNon, ownOf, oAddL, fb_made_forest_1, ep], rfl, by omega, _, _, rfl⟩
      · have hix : i = x := by omega
        subst hix
        rw [hx] at hz
        cases hz
        rw [hb] at ep
        exact ⟨.ex [some (.d (pR rs)), some (.d (.tuple ps)), some (.d (.int i)), some (.d p)] "BadForest" (.int i), st2, by simp [xVar, xC, xNil, xCons, xTup, xLst, xLstR, disp, xOp, xChain, iOp, oSub, oMod, oLt, oLe, oGt, oGe, oAdd, oEqS, oNeS, oIn, oIs, xB, xTru, tNt, tAn, tOrr, xNt, xAn, xOr, xIf, xUn, oNeg, oIx, xSl, pNo, pAt, oSl, xFn, kLen, kInt, kMax2, kTuple, kList, kListR, kRepr, xIsi, isN, tyN, view, frz, frzAll, wSeq, wEnm, gN, gs0, gs1, gT, bNil, bCons, thenB, sExp, sRet, sIf, sSet, sTup, sPar, sSub, sSub2, putAt, sRaise, fin, retV, entry, fnO, xCall, xApp, xPopAt, yes, sb, tru, isNon, ownOf, oAddL, fb_made_forest_1, ep], rfl, _, rfl⟩)
    (fun env st2 ⟨hs, hi, a, b, he⟩ => by
      rw [enm_len] at hi
      have := (List.getElem?_eq_some_iff.mp hx).1
      omega)
  obtain ⟨e2, rfl⟩ := h1
  subst hs
  exact ⟨e2, e⟩
theorem mfD_s1 {rs : List Int} {F : PyData} {st : Store} (h : RoomsOk rs) : sExp (xCall 1 f_made_rooms (xCons (xVar 0) xNil)) [some (.d (pR rs)), some (.d F), none, none] st = .ok (.nx [some (.d (pR rs)), some (.d F), none, none]) st :=
  s_exp (a := .d (pR rs)) (by simp [xVar, xC, xNil, xCons, xTup, xLst, xLstR, disp, xOp, xChain, iOp, oSub, oMod, oLt, oLe, oGt, oGe, oAdd, oEqS, oNeS, oIn, oIs, xB, xTru, tNt, tAn, tOrr, xNt, xAn, xOr, xIf, xUn, oNeg, oIx, xSl, pNo, pAt, oSl, xFn, kLen, kInt, kMax2, kTuple, kList, kListR, kRepr, xIsi, isN, tyN, view, frz, frzAll, wSeq, wEnm, gN, gs0, gs1, gT, bNil, bCons, thenB, sExp, sRet, sIf, sSet, sTup, sPar, sSub, sSub2, putAt, sRaise, fin, retV, entry, fnO, xCall, xApp, xPopAt, yes, sb, tru, isNon, ownOf, oAddL, made_rooms_ok h])
def toldM (F : PyData) (st : Store) : Oc → Out EV
  | .bad i => .exc "BadForest" (.int i) st
  | .ring x => .exc "Ring" (.int x) st
  | .told => .ok (.d F) st
theorem mf_case {rs : List Int} {F : PyData} {o : Oc} {st : Store} (hr : RoomsOk rs) (c : Case rs F o) : f_made_forest [.d (pR rs), .d F] st = toldM F st o := by
  cases c with
  | short h n =>
    have w := fn_ex (keep := false) (n := 4) (u := u_made_forest) (args := [.d (pR rs), .d F]) (st := st) (st2 := st) (e := [some (.d (pR rs)), some (.d F), none, none]) (c := "BadForest") (x := .int (-1)) (by
      unfold u_made_forest
      refine (bc_nx (mfD_s1 hr)).trans (bc_ex ((s_ifT (short_yes h n)).trans ?_))
      simp [xVar, xC, xNil, xCons, xTup, xLst, xLstR, disp, xOp, xChain, iOp, oSub, oMod, oLt, oLe, oGt, oGe, oAdd, oEqS, oNeS, oIn, oIs, xB, xTru, tNt, tAn, tOrr, xNt, xAn, xOr, xIf, xUn, oNeg, oIx, xSl, pNo, pAt, oSl, xFn, kLen, kInt, kMax2, kTuple, kList, kListR, kRepr, xIsi, isN, tyN, view, frz, frzAll, wSeq, wEnm, gN, gs0, gs1, gT, bNil, bCons, thenB, sExp, sRet, sIf, sSet, sTup, sPar, sSub, sSub2, putAt, sRaise, fin, retV, entry, fnO, xCall, xApp, xPopAt, yes, sb, tru, isNon, ownOf, oAddL])
    rw [List.take_length] at w
    exact w
  | @place ps x p hl odd hx hb hall =>
    obtain ⟨e, he⟩ := mfD_loop (rs := rs) (st := st) odd hx hb hall
    have w := fn_ex (keep := false) (n := 4) (u := u_made_forest) (args := [.d (pR rs), .d (.tuple ps)]) (st := st) (st2 := st) (e := e) (c := "BadForest") (x := .int x) (by
      unfold u_made_forest
      refine (bc_nx (mfD_s1 hr)).trans ((bc_nx ((s_ifF (short_no hl)).trans rfl)).trans (bc_ex he)))
    rw [List.take_length] at w
    exact w
  | ring hl hp hx hb hall => exact mf_ring hr hl hp hx hb hall
  | told h => exact mf_ok h
/-! ### the law's own look -/
theorem climb_in {fo : List Pl} {X : EV} {st : Store} {p : Pl} (hl : fo.length ≤ 24) (hin : Inside fo) (hp0 : p = none ∨ p ∈ fo) : ∃ r st', fl__law_climb_2 [some (.d (pF fo)), some X, some (.ref st.length), some (.d (pP p)), none] (st ++ [some []]) = .ok r st' ∧
    (∃ a b, r = .nx [some (.d (pF fo)), some X, some (.ref st.length), a, b]) ∧ st' = st ++ [some (pPs (climb fo fo.length p))] := by
  have hw := wRng1_ok (f := xFn kLen (xCons (xVar 0) xNil)) (env := [some (.d (pF fo)), some X, some (.ref st.length), some (.d (pP p)), none]) (st := st ++ [some []]) (st' := st ++ [some []]) (j := fo.length) (by simp [xVar, xC, xNil, xCons, xTup, xLst, xLstR, disp, xOp, xChain, iOp, oSub, oMod, oLt, oLe, oGt, oGe, oAdd, oEqS, oNeS, oIn, oIs, xB, xTru, tNt, tAn, tOrr, xNt, xAn, xOr, xIf, xUn, oNeg, oIx, xSl, pNo, pAt, oSl, xFn, kLen, kInt, kMax2, kTuple, kList, kListR, kRepr, xIsi, isN, tyN, view, frz, frzAll, wSeq, wEnm, gN, gs0, gs1, gT, bNil, bCons, thenB, sExp, sRet, sIf, sSet, sTup, sPar, sSub, sSub2, putAt, sRaise, fin, retV, entry, fnO, xCall, xApp, xPopAt, yes, sb, tru, isNon, ownOf, oAddL]) (by omega) (by omega)
  rw [Int.toNat_natCast] at hw
  unfold fl__law_climb_2
  exact sFor_run (t := gN 4) (u := fb__law_climb_1) (R := fun r s' => (∃ a b, r = .nx [some (.d (pF fo)), some X, some (.ref st.length), a, b]) ∧ s' = st ++ [some (pPs (climb fo fo.length p))]) hw
    (fun i env s' => ∃ (p' : Pl) (found : List PyData) (a : Option EV), (p' = none ∨ p' ∈ fo) ∧ found.length ≤ i ∧ env = [some (.d (pF fo)), some X, some (.ref st.length), some (.d (pP p')), a] ∧ s' = st ++ [some found] ∧ found ++ pPs (climb fo (fo.length - i) p') = pPs (climb fo fo.length p))
    ⟨p, [], none, hp0, Nat.le_refl _, rfl, rfl, rfl⟩
    (fun i d env s' hd ⟨p', found, a, h1, hf, h2, h3, h4⟩ => by
      subst h2 h3
      have hi : i < fo.length := by have := (List.getElem?_eq_some_iff.mp hd).1; rw [rng_len] at this; exact this
      refine ⟨[some (.d (pF fo)), some X, some (.ref st.length), some (.d (pP p')), some (.d d)], rfl, ?_⟩
      have el : fo.length - i = (fo.length - (i + 1)) + 1 := by omega
      cases p' with
      | none =>
        rw [climb_none, pz, List.append_nil] at h4
        exact ⟨.bk [some (.d (pF fo)), some X, some (.ref st.length), some (.d (pP none)), some (.d d)], st ++ [some found], by simp [xVar, xC, xNil, xCons, xTup, xLst, xLstR, disp, xOp, xChain, iOp, oSub, oMod, oLt, oLe, oGt, oGe, oAdd, oEqS, oNeS, oIn, oIs, xB, xTru, tNt, tAn, tOrr, xNt, xAn, xOr, xIf, xUn, oNeg, oIx, xSl, pNo, pAt, oSl, xFn, kLen, kInt, kMax2, kTuple, kList, kListR, kRepr, xIsi, isN, tyN, view, frz, frzAll, wSeq, wEnm, gN, gs0, gs1, gT, bNil, bCons, thenB, sExp, sRet, sIf, sSet, sTup, sPar, sSub, sSub2, putAt, sRaise, fin, retV, entry, fnO, xCall, xApp, xPopAt, yes, sb, tru, isNon, ownOf, oAddL, fb__law_climb_1, pP], ⟨_, _, rfl⟩, by rw [h4]⟩
      | some q =>
        obtain ⟨h, r⟩ := q
        rw [el] at h4
        obtain ⟨a1, a2, a3⟩ := inside_next hin h1 rfl
        have z := fo_at a1 a2
        have g := get_last (base := st) (a := found) rfl
        have s := set_last (base := st) (a := found) (b := found ++ [.tuple [.int h, .int r]]) rfl
        have sz : found.length < sizeLine := Nat.lt_of_le_of_lt (by omega) sz_line
        refine ⟨.nx [some (.d (pF fo)), some X, some (.ref st.length), some (.d (pP (fo[h.toNat]?.getD none))), some (.d d)], st ++ [some (found ++ [.tuple [.int h, .int r]])], by simp [xVar, xC, xNil, xCons, xTup, xLst, xLstR, disp, xOp, xChain, iOp, oSub, oMod, oLt, oLe, oGt, oGe, oAdd, oEqS, oNeS, oIn, oIs, xB, xTru, tNt, tAn, tOrr, xNt, xAn, xOr, xIf, xUn, oNeg, oIx, xSl, pNo, pAt, oSl, xFn, kLen, kInt, kMax2, kTuple, kList, kListR, kRepr, xIsi, isN, tyN, view, frz, frzAll, wSeq, wEnm, gN, gs0, gs1, gT, bNil, bCons, thenB, sExp, sRet, sIf, sSet, sTup, sPar, sSub, sSub2, putAt, sRaise, fin, retV, entry, fnO, xCall, xApp, xPopAt, yes, sb, tru, isNon, ownOf, oAddL, fb__law_climb_1, pP, at0, z, sz], fo[h.toNat]?.getD none, _, _, a3, by rw [List.length_append]; simp; omega, rfl, rfl, ?_⟩
        rw [← h4]
        simp [climb])
    (fun env s' ⟨p', found, a, h1, hf, h2, h3, h4⟩ => by
      rw [rng_len, Nat.sub_self] at h4
      have e : climb fo 0 p' = [] := rfl
      rw [e, pz, List.append_nil] at h4
      exact ⟨⟨_, _, by rw [h2]⟩, by rw [h3, h4]⟩)
theorem up_in {fo : List Pl} {x : Nat} : upOf fo x = none ∨ upOf fo x ∈ fo := by
  unfold upOf
  cases e : fo[x]? with
  | none => exact .inl rfl
  | some p => exact .inr (List.mem_of_getElem? e)
theorem law_climb_in {fo : List Pl} {x : Nat} {st : Store} (h24 : fo.length ≤ 24) (hin : Inside fo) (hx : x < fo.length) : f__law_climb [.d (pF fo), .d (.int x)] st = .ok (.d (.list (pPs (above fo x)))) st := by
  have z := fo_at (fo := fo) (h := (x : Int)) (by omega) (by omega)
  rw [Int.toNat_natCast] at z
  obtain ⟨r, s', e, ⟨a, b, rfl⟩, hs⟩ := climb_in (X := .d (.int x)) (st := st) h24 hin (up_in (x := x))
  subst hs
  have w : u__law_climb (entry 5 [.d (pF fo), .d (.int x)]) st = .ok (.rt (.ref st.length)) (st ++ [some (pPs (climb fo fo.length (upOf fo x)))]) := by
    unfold u__law_climb
    refine (bc_nx (env2 := [some (.d (pF fo)), some (.d (.int x)), some (.ref st.length), some (.d (pP (upOf fo x))), none]) (st2 := st ++ [some []]) (by simp [xVar, xC, xNil, xCons, xTup, xLst, xLstR, disp, xOp, xChain, iOp, oSub, oMod, oLt, oLe, oGt, oGe, oAdd, oEqS, oNeS, oIn, oIs, xB, xTru, tNt, tAn, tOrr, xNt, xAn, xOr, xIf, xUn, oNeg, oIx, xSl, pNo, pAt, oSl, xFn, kLen, kInt, kMax2, kTuple, kList, kListR, kRepr, xIsi, isN, tyN, view, frz, frzAll, wSeq, wEnm, gN, gs0, gs1, gT, bNil, bCons, thenB, sExp, sRet, sIf, sSet, sTup, sPar, sSub, sSub2, putAt, sRaise, fin, retV, entry, fnO, xCall, xApp, xPopAt, yes, sb, tru, isNon, ownOf, oAddL, z, upOf])).trans ?_
    refine (bc_nx e).trans ?_
    exact s_ret (by simp [xVar, xC, xNil, xCons, xTup, xLst, xLstR, disp, xOp, xChain, iOp, oSub, oMod, oLt, oLe, oGt, oGe, oAdd, oEqS, oNeS, oIn, oIs, xB, xTru, tNt, tAn, tOrr, xNt, xAn, xOr, xIf, xUn, oNeg, oIx, xSl, pNo, pAt, oSl, xFn, kLen, kInt, kMax2, kTuple, kList, kListR, kRepr, xIsi, isN, tyN, view, frz, frzAll, wSeq, wEnm, gN, gs0, gs1, gT, bNil, bCons, thenB, sExp, sRet, sIf, sSet, sTup, sPar, sSub, sSub2, putAt, sRaise, fin, retV, entry, fnO, xCall, xApp, xPopAt, yes, sb, tru, isNon, ownOf, oAddL])
  have q := fn_ownG w (Nat.lt_irrefl _) (get_last rfl)
  rw [List.take_left] at q
  exact q
theorem climb_len {fo : List Pl} : ∀ (n : Nat) (p : Pl), (climb fo n p).length ≤ n
  | 0, p => Nat.le_refl _
  | n + 1, none => Nat.zero_le _
  | n + 1, some (h, r) => Nat.succ_le_succ (climb_len n _)
theorem climb_inside {fo : List Pl} (hi : Inside fo) : ∀ (n : Nat) (p : Pl), (p = none ∨ p ∈ fo) → ∀ q ∈ climb fo n p, 0 ≤ q.1 ∧ q.1 < fo.length
  | 0, _, _, q, hq => by simp [climb] at hq
  | n + 1, none, _, q, hq => by simp [climb] at hq
  | n + 1, some (h, r), hp, q, hq => by
    obtain ⟨a1, a2, a3⟩ := inside_next hi hp rfl
    rcases List.mem_cons.mp hq with z | z
    · subst z; exact ⟨a1, a2⟩
    · exact climb_inside hi n _ a3 q z
theorem shwL_ints {qs : List Int} (h : ∀ i ∈ qs, i.natAbs < 10 ^ 30) : ShwL (qs.map .int) 0 (qs.length * 101) := by
  have := shwL_all (ds := qs.map .int) (k := 0) (w := 100) fun d hd => by
    obtain ⟨i, hi, rfl⟩ := List.mem_map.mp hd
    exact shw_int (h i hi)
  rw [List.length_map] at this
  exact this
theorem in_ints {qs : List Int} {x : Int} {st : Store} (h : ∀ i ∈ qs, i.natAbs < 10 ^ 30) : oIn false (.d (.int x)) (.d (.list (qs.map .int))) st = .ok (.d (.bool (decide (x ∈ qs)))) st := by
  have sh := (shw_lst (shwL_ints h)).shaped (by decide)
  have s1 : SeqAt.shaped (.int x) = true := rfl
  unfold oIn
  dsimp only [view]
  rw [s1, sh, if_pos (show (true && true) = true from rfl)]
  congr 3
  rw [Bool.eq_iff_iff]
  simp [PyData.eqv]
def hd0 : PyData → PyData
  | .tuple (a :: _) => a
  | d => d
theorem due_lc {rs : List Int} {fo : List Pl} {x : Nat} {st : Store} (h24 : fo.length ≤ 24) (hin : Inside fo) (hx : x < fo.length) : lc__law_due_3 [some (.d (pR rs)), some (.d (pF fo)), some (.d (.int x)), none] st = .ok (.d (.list (((above fo x).map (·.1)).map .int))) st := by
  have hw : wSeq (xCall 2 f__law_climb (xCons (xVar 1) (xCons (xVar 2) xNil))) [some (.d (pR rs)), some (.d (pF fo)), some (.d (.int x)), none] st = .ok (pPs (above fo x), none) st := by
    simp [xVar, xC, xNil, xCons, xTup, xLst, xLstR, disp, xOp, xChain, iOp, oSub, oMod, oLt, oLe, oGt, oGe, oAdd, oEqS, oNeS, oIn, oIs, xB, xTru, tNt, tAn, tOrr, xNt, xAn, xOr, xIf, xUn, oNeg, oIx, xSl, pNo, pAt, oSl, xFn, kLen, kInt, kMax2, kTuple, kList, kListR, kRepr, xIsi, isN, tyN, view, frz, frzAll, wSeq, wEnm, gN, gs0, gs1, gT, bNil, bCons, thenB, sExp, sRet, sIf, sSet, sTup, sPar, sSub, sSub2, putAt, sRaise, fin, retV, entry, fnO, xCall, xApp, xPopAt, yes, sb, tru, isNon, ownOf, oAddL, law_climb_in h24 hin hx]
  have e := lc_map (t := gN 3) (p := yes) (f := xOp oIx (xVar 3) (xC (.int 0))) (vs := [3]) (fun _ => true) hd0 hw (by rw [List.length_map]; have := climb_len (fo := fo) fo.length (upOf fo x); unfold above; omega) (fun d acc hd => by
    obtain ⟨q, hq, rfl⟩ := List.mem_map.mp hd
    exact ⟨[some (.d (pR rs)), some (.d (pF fo)), some (.d (.int x)), some (.d (.tuple [.int q.1, .int q.2]))], rfl, rfl, fun _ => by simp [xVar, xC, xNil, xCons, xTup, xLst, xLstR, disp, xOp, xChain, iOp, oSub, oMod, oLt, oLe, oGt, oGe, oAdd, oEqS, oNeS, oIn, oIs, xB, xTru, tNt, tAn, tOrr, xNt, xAn, xOr, xIf, xUn, oNeg, oIx, xSl, pNo, pAt, oSl, xFn, kLen, kInt, kMax2, kTuple, kList, kListR, kRepr, xIsi, isN, tyN, view, frz, frzAll, wSeq, wEnm, gN, gs0, gs1, gT, bNil, bCons, thenB, sExp, sRet, sIf, sSet, sTup, sPar, sSub, sSub2, putAt, sRaise, fin, retV, entry, fnO, xCall, xApp, xPopAt, yes, sb, tru, isNon, ownOf, oAddL, at0, hd0]⟩) false
  unfold lc__law_due_3
  rw [e, if_neg Bool.false_ne_true, filter_all, List.map_map, List.map_map]
  rfl
theorem due_loop1 {rs : List Int} {ps : List PyData} {st : Store} (h24 : ps.length ≤ 24) (odd : ∀ p ∈ ps, OddP p) : ∃ r st', fl__law_due_2 [some (.d (pR rs)), some (.d (.tuple ps)), none, none] st = .ok r st' ∧ st' = st ∧
    ((∀ (x : Nat) p, ps[x]? = some p → plD rs x p = true) → ∃ a, r = .nx [some (.d (pR rs)), some (.d (.tuple ps)), a, none]) ∧
    (∀ (x : Nat) p, ps[x]? = some p → plD rs x p = false → (∀ (y : Nat) q, y < x → ps[y]? = some q → plD rs y q = true) → r = .rt (.d (refd x true false false))) := by
  have hw := wRng1_ok (f := xFn kLen (xCons (xVar 1) xNil)) (env := [some (.d (pR rs)), some (.d (.tuple ps)), none, none]) (st := st) (st' := st) (j := ps.length) (by simp [xVar, xC, xNil, xCons, xTup, xLst, xLstR, disp, xOp, xChain, iOp, oSub, oMod, oLt, oLe, oGt, oGe, oAdd, oEqS, oNeS, oIn, oIs, xB, xTru, tNt, tAn, tOrr, xNt, xAn, xOr, xIf, xUn, oNeg, oIx, xSl, pNo, pAt, oSl, xFn, kLen, kInt, kMax2, kTuple, kList, kListR, kRepr, xIsi, isN, tyN, view, frz, frzAll, wSeq, wEnm, gN, gs0, gs1, gT, bNil, bCons, thenB, sExp, sRet, sIf, sSet, sTup, sPar, sSub, sSub2, putAt, sRaise, fin, retV, entry, fnO, xCall, xApp, xPopAt, yes, sb, tru, isNon, ownOf, oAddL]) (by omega) (by omega)
  rw [Int.toNat_natCast] at hw
  unfold fl__law_due_2
  obtain ⟨r, st', e, hs, h1, h2⟩ := sFor_run (t := gN 2) (u := fb__law_due_1)
    (R := fun r st' => st' = st ∧ ((∀ (x : Nat) p, ps[x]? = some p → plD rs x p = true) → ∃ a, r = .nx [some (.d (pR rs)), some (.d (.tuple ps)), a, none]) ∧
      (∀ (x : Nat) p, ps[x]? = some p → plD rs x p = false → (∀ (y : Nat) q, y < x → ps[y]? = some q → plD rs y q = true) → r = .rt (.d (refd x true false false))))
    hw (fun i env st' => st' = st ∧ (∃ a, env = [some (.d (pR rs)), some (.d (.tuple ps)), a, none]) ∧ ∀ (y : Nat) q, y < i → ps[y]? = some q → plD rs y q = true) ⟨rfl, ⟨_, rfl⟩, fun y q h => absurd h (Nat.not_lt_zero _)⟩
    (fun i d env st2 hd ⟨hs, ⟨a, he⟩, hall⟩ => by
      subst he hs
      obtain ⟨hlt, rfl⟩ := rng_get hd
      rw [Int.zero_add]
      have hz : ps[i]? = some ps[i] := List.getElem?_eq_getElem hlt
      have ea : atI ps (i : Int) = some ps[i] := atI_n hz
      have ep := law_place_eq (rs := rs) (x := i) (st := st2) (odd ps[i] (List.getElem_mem hlt))
      refine ⟨[some (.d (pR rs)), some (.d (.tuple ps)), some (.d (.int i)), none], by simp [xVar, xC, xNil, xCons, xTup, xLst, xLstR, disp, xOp, xChain, iOp, oSub, oMod, oLt, oLe, oGt, oGe, oAdd, oEqS, oNeS, oIn, oIs, xB, xTru, tNt, tAn, tOrr, xNt, xAn, xOr, xIf, xUn, oNeg, oIx, xSl, pNo, pAt, oSl, xFn, kLen, kInt, kMax2, kTuple, kList, kListR, kRepr, xIsi, isN, tyN, view, frz, frzAll, wSeq, wEnm, gN, gs0, gs1, gT, bNil, bCons, thenB, sExp, sRet, sIf, sSet, sTup, sPar, sSub, sSub2, putAt, sRaise, fin, retV, entry, fnO, xCall, xApp, xPopAt, yes, sb, tru, isNon, ownOf, oAddL], ?_⟩
      cases hq : plD rs i ps[i] with
      | true =>
        rw [hq] at ep
        refine ⟨.nx [some (.d (pR rs)), some (.d (.tuple ps)), some (.d (.int i)), none], st2, by simp [xVar, xC, xNil, xCons, xTup, xLst, xLstR, disp, xOp, xChain, iOp, oSub, oMod, oLt, oLe, oGt, oGe, oAdd, oEqS, oNeS, oIn, oIs, xB, xTru, tNt, tAn, tOrr, xNt, xAn, xOr, xIf, xUn, oNeg, oIx, xSl, pNo, pAt, oSl, xFn, kLen, kInt, kMax2, kTuple, kList, kListR, kRepr, xIsi, isN, tyN, view, frz, frzAll, wSeq, wEnm, gN, gs0, gs1, gT, bNil, bCons, thenB, sExp, sRet, sIf, sSet, sTup, sPar, sSub, sSub2, putAt, sRaise, fin, retV, entry, fnO, xCall, xApp, xPopAt, yes, sb, tru, isNon, ownOf, oAddL, fb__law_due_1, ep, ea], rfl, ⟨_, rfl⟩, fun y q hy e => ?_⟩
        by_cases h : y < i
        · exact hall y q h e
        · have : y = i := by omega
          subst this
          rw [hz] at e
          cases e
          exact hq
      | false =>
        rw [hq] at ep
        refine ⟨.rt (.d (refd i true false false)), st2, by simp [xVar, xC, xNil, xCons, xTup, xLst, xLstR, disp, xOp, xChain, iOp, oSub, oMod, oLt, oLe, oGt, oGe, oAdd, oEqS, oNeS, oIn, oIs, xB, xTru, tNt, tAn, tOrr, xNt, xAn, xOr, xIf, xUn, oNeg, oIx, xSl, pNo, pAt, oSl, xFn, kLen, kInt, kMax2, kTuple, kList, kListR, kRepr, xIsi, isN, tyN, view, frz, frzAll, wSeq, wEnm, gN, gs0, gs1, gT, bNil, bCons, thenB, sExp, sRet, sIf, sSet, sTup, sPar, sSub, sSub2, putAt, sRaise, fin, retV, entry, fnO, xCall, xApp, xPopAt, yes, sb, tru, isNon, ownOf, oAddL, fb__law_due_1, ep, ea, refused_f], rfl, fun h => ?_, fun x q hx hb hall2 => ?_⟩
        · have := h i _ hz
          rw [hq] at this
          cases this
        · have : x = i := by
            rcases Nat.lt_trichotomy x i with z | z | z
            · have := hall x q z hx
              rw [hb] at this
              cases this
            · exact z
            · have := hall2 i _ z hz
              rw [hq] at this
              cases this
          subst this
          rfl)
    (fun env st2 ⟨hs, ⟨a, he⟩, hall⟩ => by
      refine ⟨hs, fun _ => ⟨a, by rw [he]⟩, fun x p hx hb _ => ?_⟩
      have hlt : x < ps.length := (List.getElem?_eq_some_iff.mp hx).1
      have := hall x p (by rw [rng_len]; exact hlt) hx
      rw [hb] at this
      cases this)
  exact ⟨r, st', e, hs, h1, h2⟩
theorem due_loop2 {rs : List Int} {fo : List Pl} {st : Store} {a : Option EV} (h24 : fo.length ≤ 24) (hin : Inside fo) : ∃ r st', fl__law_due_5 [some (.d (pR rs)), some (.d (pF fo)), a, none] st = .ok r st' ∧ st' = st ∧
    ((∀ x : Nat, x < fo.length → ringB fo x = false) → ∃ a, r = .nx [some (.d (pR rs)), some (.d (pF fo)), a, none]) ∧
    (∀ x : Nat, x < fo.length → ringB fo x = true → (∀ y : Nat, y < x → ringB fo y = false) → r = .rt (.d (refd x false true false))) := by
  have hw := wRng1_ok (f := xFn kLen (xCons (xVar 1) xNil)) (env := [some (.d (pR rs)), some (.d (pF fo)), a, none]) (st := st) (st' := st) (j := fo.length) (by simp [xVar, xC, xNil, xCons, xTup, xLst, xLstR, disp, xOp, xChain, iOp, oSub, oMod, oLt, oLe, oGt, oGe, oAdd, oEqS, oNeS, oIn, oIs, xB, xTru, tNt, tAn, tOrr, xNt, xAn, xOr, xIf, xUn, oNeg, oIx, xSl, pNo, pAt, oSl, xFn, kLen, kInt, kMax2, kTuple, kList, kListR, kRepr, xIsi, isN, tyN, view, frz, frzAll, wSeq, wEnm, gN, gs0, gs1, gT, bNil, bCons, thenB, sExp, sRet, sIf, sSet, sTup, sPar, sSub, sSub2, putAt, sRaise, fin, retV, entry, fnO, xCall, xApp, xPopAt, yes, sb, tru, isNon, ownOf, oAddL]) (by omega) (by omega)
  rw [Int.toNat_natCast] at hw
  unfold fl__law_due_5
  obtain ⟨r, st', e, hs, h1, h2⟩ := sFor_run (t := gN 2) (u := fb__law_due_4)
    (R := fun r st' => st' = st ∧ ((∀ x : Nat, x < fo.length → ringB fo x = false) → ∃ a, r = .nx [some (.d (pR rs)), some (.d (pF fo)), a, none]) ∧
      (∀ x : Nat, x < fo.length → ringB fo x = true → (∀ y : Nat, y < x → ringB fo y = false) → r = .rt (.d (refd x false true false))))
    hw (fun i env st' => st' = st ∧ (∃ a, env = [some (.d (pR rs)), some (.d (pF fo)), a, none]) ∧ ∀ y : Nat, y < i → ringB fo y = false) ⟨rfl, ⟨_, rfl⟩, fun y h => absurd h (Nat.not_lt_zero _)⟩
    (fun i d env st2 hd ⟨hs, ⟨a, he⟩, hall⟩ => by
      subst he hs
      obtain ⟨hlt, rfl⟩ := rng_get hd
      rw [Int.zero_add]
      have el := due_lc (rs := rs) (st := st2) h24 hin hlt
      have ei := in_ints (qs := (above fo i).map (·.1)) (x := i) (st := st2) fun j hj => by
        obtain ⟨q, hq, rfl⟩ := List.mem_map.mp hj
        have := climb_inside hin _ _ (up_in (x := i)) q hq
        exact num_small (by omega) (by omega)
      have er : decide ((i : Int) ∈ (above fo i).map (·.1)) = ringB fo i := rfl
      rw [er] at ei
      have et := x_op (k := oIn false) (f := xVar 2) (env := [some (.d (pR rs)), some (.d (pF fo)), some (.d (.int i)), none]) rfl el ei
      refine ⟨[some (.d (pR rs)), some (.d (pF fo)), some (.d (.int i)), none], by simp [xVar, xC, xNil, xCons, xTup, xLst, xLstR, disp, xOp, xChain, iOp, oSub, oMod, oLt, oLe, oGt, oGe, oAdd, oEqS, oNeS, oIn, oIs, xB, xTru, tNt, tAn, tOrr, xNt, xAn, xOr, xIf, xUn, oNeg, oIx, xSl, pNo, pAt, oSl, xFn, kLen, kInt, kMax2, kTuple, kList, kListR, kRepr, xIsi, isN, tyN, view, frz, frzAll, wSeq, wEnm, gN, gs0, gs1, gT, bNil, bCons, thenB, sExp, sRet, sIf, sSet, sTup, sPar, sSub, sSub2, putAt, sRaise, fin, retV, entry, fnO, xCall, xApp, xPopAt, yes, sb, tru, isNon, ownOf, oAddL], ?_⟩
      unfold fb__law_due_4
      cases hq : ringB fo i with
      | false =>
        rw [hq] at et
        refine ⟨.nx [some (.d (pR rs)), some (.d (pF fo)), some (.d (.int i)), none], st2, (s_ifF (t_b et)).trans rfl, rfl, ⟨_, rfl⟩, fun y hy => ?_⟩
        by_cases h : y < i
        · exact hall y h
        · have : y = i := by omega
          subst this
          exact hq
      | true =>
        rw [hq] at et
        refine ⟨.rt (.d (refd i false true false)), st2, (s_ifT (t_b et)).trans (s_ret (by simp [xVar, xC, xNil, xCons, xTup, xLst, xLstR, disp, xOp, xChain, iOp, oSub, oMod, oLt, oLe, oGt, oGe, oAdd, oEqS, oNeS, oIn, oIs, xB, xTru, tNt, tAn, tOrr, xNt, xAn, xOr, xIf, xUn, oNeg, oIx, xSl, pNo, pAt, oSl, xFn, kLen, kInt, kMax2, kTuple, kList, kListR, kRepr, xIsi, isN, tyN, view, frz, frzAll, wSeq, wEnm, gN, gs0, gs1, gT, bNil, bCons, thenB, sExp, sRet, sIf, sSet, sTup, sPar, sSub, sSub2, putAt, sRaise, fin, retV, entry, fnO, xCall, xApp, xPopAt, yes, sb, tru, isNon, ownOf, oAddL, refused_r])), rfl, fun h => ?_, fun x hx hb hall2 => ?_⟩
        · have := h i hlt
          rw [hq] at this
          cases this
        · have : x = i := by
            rcases Nat.lt_trichotomy x i with z | z | z
            · have := hall x z
              rw [hb] at this
              cases this
            · exact z
            · have := hall2 i z
              rw [hq] at this
              cases this
          subst this
          rfl)
    (fun env st2 ⟨hs, ⟨a, he⟩, hall⟩ => by
      refine ⟨hs, fun _ => ⟨a, by rw [he]⟩, fun x hx hb _ => ?_⟩
      have := hall x (by rw [rng_len]; exact hx)
      rw [hb] at this
      cases this)
  exact ⟨r, st', e, hs, h1, h2⟩
def toldD (F : PyData) : Oc → PyData
  | .bad i => refd i true false false
  | .ring x => refd x false true false
  | .told => .tuple [.str "told", F]
theorem plD_pP {rs : List Int} {x : Int} {p : Pl} : plD rs x (pP p) = plOk rs x p := by
  cases p with
  | none => rfl
  | some q => obtain ⟨a, b⟩ := q; rfl
theorem oddP_pP {p : Pl} : OddP (pP p) := by
  cases p with
  | none => exact ⟨rfl, fun a b e => by cases e⟩
  | some q =>
    obtain ⟨a, b⟩ := q
    exact ⟨rfl, fun c d e => by cases e; exact ⟨rfl, rfl⟩⟩
theorem odd_pF {fo : List Pl} : ∀ p ∈ fo.map pP, OddP p := fun p hp => by
  obtain ⟨q, _, rfl⟩ := List.mem_map.mp hp
  exact oddP_pP
theorem due_case {rs : List Int} {F : PyData} {o : Oc} {st : Store} (hr : RoomsOk rs) (c : Case rs F o) : f__law_due [.d (pR rs), .d F] st = .ok (.d (toldD F o)) st := by
  cases c with
  | short h n =>
    have w := fn_rt (keep := false) (n := 4) (u := u__law_due) (args := [.d (pR rs), .d F]) (st := st) (st2 := st) (d := refd (-1) true false false) (by
      unfold u__law_due
      exact bc_rt ((s_ifT (short_yes h n)).trans (s_ret (by simp [xVar, xC, xNil, xCons, xTup, xLst, xLstR, disp, xOp, xChain, iOp, oSub, oMod, oLt, oLe, oGt, oGe, oAdd, oEqS, oNeS, oIn, oIs, xB, xTru, tNt, tAn, tOrr, xNt, xAn, xOr, xIf, xUn, oNeg, oIx, xSl, pNo, pAt, oSl, xFn, kLen, kInt, kMax2, kTuple, kList, kListR, kRepr, xIsi, isN, tyN, view, frz, frzAll, wSeq, wEnm, gN, gs0, gs1, gT, bNil, bCons, thenB, sExp, sRet, sIf, sSet, sTup, sPar, sSub, sSub2, putAt, sRaise, fin, retV, entry, fnO, xCall, xApp, xPopAt, yes, sb, tru, isNon, ownOf, oAddL, refused_f]))))
    rw [List.take_length] at w
    exact w
  | @place ps x p hl odd hx hb hall =>
    obtain ⟨r, s', e, rfl, _, h2⟩ := due_loop1 (rs := rs) (ps := ps) (st := st) (by have := hr.1; omega) odd
    have hq := h2 x p hx hb hall
    subst hq
    have w := fn_rt (keep := false) (n := 4) (u := u__law_due) (args := [.d (pR rs), .d (.tuple ps)]) (st := s') (st2 := s') (d := refd x true false false) (by
      unfold u__law_due
      exact (bc_nx ((s_ifF (short_no hl)).trans rfl)).trans (bc_rt e))
    rw [List.take_length] at w
    exact w
  | @ring fo x hl hp hx hb hall =>
    have h24 : fo.length ≤ 24 := by have := hr.1; omega
    obtain ⟨r, s', e, rfl, h1, _⟩ := due_loop1 (rs := rs) (ps := fo.map pP) (st := st) (by rw [List.length_map]; exact h24) odd_pF
    obtain ⟨a, rfl⟩ := h1 fun y p hy => by
      rw [List.getElem?_map] at hy
      obtain ⟨q, hq, rfl⟩ := Option.map_eq_some_iff.mp hy
      rw [plD_pP]
      exact hp y q hq
    obtain ⟨r2, s2, e2, rfl, _, h2⟩ := due_loop2 (rs := rs) (fo := fo) (st := s') (a := a) h24 (pl_inside hp hl)
    have hq := h2 x hx hb hall
    subst hq
    have w := fn_rt (keep := false) (n := 4) (u := u__law_due) (args := [.d (pR rs), .d (pF fo)]) (st := s2) (st2 := s2) (d := refd x false true false) (by
      unfold u__law_due
      exact (bc_nx ((s_ifF (short_no (by rw [List.length_map]; exact hl))).trans rfl)).trans ((bc_nx e).trans (bc_rt e2)))
    rw [List.take_length] at w
    exact w
  | @told fo h =>
    have h24 : fo.length ≤ 24 := by have := hr.1; have := h.len; omega
    obtain ⟨r, s', e, rfl, h1, _⟩ := due_loop1 (rs := rs) (ps := fo.map pP) (st := st) (by rw [List.length_map]; exact h24) odd_pF
    obtain ⟨a, rfl⟩ := h1 fun y p hy => by
      rw [List.getElem?_map] at hy
      obtain ⟨q, hq, rfl⟩ := Option.map_eq_some_iff.mp hy
      rw [plD_pP]
      exact h.pl y q hq
    obtain ⟨r2, s2, e2, rfl, h2, _⟩ := due_loop2 (rs := rs) (fo := fo) (st := s') (a := a) h24 h.inside
    obtain ⟨b, rfl⟩ := h2 h.noring
    have w := fn_rt (keep := false) (n := 4) (u := u__law_due) (args := [.d (pR rs), .d (pF fo)]) (st := s2) (st2 := s2) (d := .tuple [.str "told", pF fo]) (by
      unfold u__law_due
      refine (bc_nx ((s_ifF (short_no (by rw [List.length_map]; exact h.len))).trans rfl)).trans ((bc_nx e).trans ((bc_nx e2).trans (s_ret ?_)))
      simp [xVar, xC, xNil, xCons, xTup, xLst, xLstR, disp, xOp, xChain, iOp, oSub, oMod, oLt, oLe, oGt, oGe, oAdd, oEqS, oNeS, oIn, oIs, xB, xTru, tNt, tAn, tOrr, xNt, xAn, xOr, xIf, xUn, oNeg, oIx, xSl, pNo, pAt, oSl, xFn, kLen, kInt, kMax2, kTuple, kList, kListR, kRepr, xIsi, isN, tyN, view, frz, frzAll, wSeq, wEnm, gN, gs0, gs1, gT, bNil, bCons, thenB, sExp, sRet, sIf, sSet, sTup, sPar, sSub, sSub2, putAt, sRaise, fin, retV, entry, fnO, xCall, xApp, xPopAt, yes, sb, tru, isNon, ownOf, oAddL])
    rw [List.take_length] at w
    exact w
/-! ### let and refused alike -/
theorem is_forest_case {rs : List Int} {F : PyData} {o : Oc} {st : Store} (hr : RoomsOk rs) (c : Case rs F o) : f_is_forest [.d (pR rs), .d F] st = .ok (.d (.bool (isTold o))) st := by
  have e := mf_case (st := st) hr c
  obtain ⟨k1, _⟩ := fE "BadForest" (by decide +kernel)
  obtain ⟨k2, _⟩ := fE "Ring" (by decide +kernel)
  cases o with
  | bad i =>
    have e : f_made_forest [.d (pR rs), .d F] st = .exc "BadForest" (.int i) st := e
    simp [xVar, xC, xNil, xCons, xTup, xLst, xLstR, disp, xOp, xChain, iOp, oSub, oMod, oLt, oLe, oGt, oGe, oAdd, oEqS, oNeS, oIn, oIs, xB, xTru, tNt, tAn, tOrr, xNt, xAn, xOr, xIf, xUn, oNeg, oIx, xSl, pNo, pAt, oSl, xFn, kLen, kInt, kMax2, kTuple, kList, kListR, kRepr, xIsi, isN, tyN, view, frz, frzAll, wSeq, wEnm, gN, gs0, gs1, gT, bNil, bCons, thenB, sExp, sRet, sIf, sSet, sTup, sPar, sSub, sSub2, putAt, sRaise, fin, retV, entry, fnO, xCall, xApp, xPopAt, yes, sb, tru, isNon, ownOf, oAddL, f_is_forest, u_is_forest, sTry, calmB, isTold, e, k1]
  | ring x =>
    have e : f_made_forest [.d (pR rs), .d F] st = .exc "Ring" (.int x) st := e
    simp [xVar, xC, xNil, xCons, xTup, xLst, xLstR, disp, xOp, xChain, iOp, oSub, oMod, oLt, oLe, oGt, oGe, oAdd, oEqS, oNeS, oIn, oIs, xB, xTru, tNt, tAn, tOrr, xNt, xAn, xOr, xIf, xUn, oNeg, oIx, xSl, pNo, pAt, oSl, xFn, kLen, kInt, kMax2, kTuple, kList, kListR, kRepr, xIsi, isN, tyN, view, frz, frzAll, wSeq, wEnm, gN, gs0, gs1, gT, bNil, bCons, thenB, sExp, sRet, sIf, sSet, sTup, sPar, sSub, sSub2, putAt, sRaise, fin, retV, entry, fnO, xCall, xApp, xPopAt, yes, sb, tru, isNon, ownOf, oAddL, f_is_forest, u_is_forest, sTry, calmB, isTold, e, k2]
  | told =>
    have e : f_made_forest [.d (pR rs), .d F] st = .ok (.d F) st := e
    simp [xVar, xC, xNil, xCons, xTup, xLst, xLstR, disp, xOp, xChain, iOp, oSub, oMod, oLt, oLe, oGt, oGe, oAdd, oEqS, oNeS, oIn, oIs, xB, xTru, tNt, tAn, tOrr, xNt, xAn, xOr, xIf, xUn, oNeg, oIx, xSl, pNo, pAt, oSl, xFn, kLen, kInt, kMax2, kTuple, kList, kListR, kRepr, xIsi, isN, tyN, view, frz, frzAll, wSeq, wEnm, gN, gs0, gs1, gT, bNil, bCons, thenB, sExp, sRet, sIf, sSet, sTup, sPar, sSub, sSub2, putAt, sRaise, fin, retV, entry, fnO, xCall, xApp, xPopAt, yes, sb, tru, isNon, ownOf, oAddL, f_is_forest, u_is_forest, sTry, calmB, isTold, e]
theorem case_shw {rs : List Int} {F : PyData} {o : Oc} (hr : RoomsOk rs) (c : Case rs F o) : canShow (toldD F o) = true := by
  cases c with
  | short h n => exact (shw_refd (by decide)).can (by decide) (by decide)
  | @place ps x p hl odd hx hb hall =>
    have := (List.getElem?_eq_some_iff.mp hx).1
    have := hr.1
    exact (shw_refd (num_small (by omega) (by omega))).can (by decide) (by decide)
  | @ring fo x hl hp hx hb hall =>
    have := hr.1
    exact (shw_refd (num_small (by omega) (by omega))).can (by decide) (by decide)
  | @told fo h =>
    exact (shw_tup (k := 2) (shwL_cons ((shw_str (x := "told") (by decide +kernel) (by decide +kernel)).up (by omega) (Nat.le_refl _)) (shwL_cons (shw_forest hr h.len h.pl) shwL_nil))).can (by decide) (by decide)
theorem made_right {rs : List Int} {F : PyData} {st : Store} (hr : RoomsOk rs) (h : OddF F) : f__law_is_made_right [.d (pR rs), .d F] st = .ok (.d (.bool true)) st := by
  obtain ⟨o, c⟩ := cases_of hr h
  have ed := due_case (st := st) hr c
  have em := mf_case (st := st) hr c
  have ei := is_forest_case (st := st) hr c
  have sh := case_shw hr c
  have g : (xCall 2 f_made_forest (xCons (xVar 0) (xCons (xVar 1) xNil))) [some (.d (pR rs)), some (.d F), some (.d (toldD F o))] st = toldM F st o := by
    cases o <;> simp [xVar, xC, xNil, xCons, xTup, xLst, xLstR, disp, xOp, xChain, iOp, oSub, oMod, oLt, oLe, oGt, oGe, oAdd, oEqS, oNeS, oIn, oIs, xB, xTru, tNt, tAn, tOrr, xNt, xAn, xOr, xIf, xUn, oNeg, oIx, xSl, pNo, pAt, oSl, xFn, kLen, kInt, kMax2, kTuple, kList, kListR, kRepr, xIsi, isN, tyN, view, frz, frzAll, wSeq, wEnm, gN, gs0, gs1, gT, bNil, bCons, thenB, sExp, sRet, sIf, sSet, sTup, sPar, sSub, sSub2, putAt, sRaise, fin, retV, entry, fnO, xCall, xApp, xPopAt, yes, sb, tru, isNon, ownOf, oAddL, em, toldM]
  have hh : xHeard false 3 (fun g0 => u__law_heard g0) (xCall 2 f_made_forest (xCons (xVar 0) (xCons (xVar 1) xNil))) [some (.d (pR rs)), some (.d F), some (.d (toldD F o))] st = .ok (.d (toldD F o)) st := by
    cases o with
    | bad i => exact heard_bf g
    | ring x => exact heard_ring g
    | told => exact heard_ok g
  have r1 := x_fn (x_cons hh (g := xNil) rfl) (repr_ok sh)
  have r2 : xFn kRepr (xCons (xVar 2) xNil) [some (.d (pR rs)), some (.d F), some (.d (toldD F o))] st = .ok (.d (.str (toldD F o).shown)) st := x_fn (x_cons (f := xVar 2) rfl rfl) (repr_ok sh)
  have n1 := x_op (k := oNeS) (c := .d (.bool false)) (st3 := st) r1 r2 (by simp [oNeS])
  have sb : ∀ b : Bool, canShow (.bool b) = true := fun b => shw_bool.can (by decide) (by decide)
  have q1 : xFn kRepr (xCons (xCall 2 f_is_forest (xCons (xVar 0) (xCons (xVar 1) xNil))) xNil) [some (.d (pR rs)), some (.d F), some (.d (toldD F o))] st = .ok (.d (.str (PyData.bool (isTold o)).shown)) st :=
    x_fn (x_cons (x_call (as := [.d (pR rs), .d F]) rfl rfl ei) (g := xNil) rfl) (repr_ok (sb _))
  have q2 : xFn kRepr (xCons (xOp oEqS (xOp oIx (xVar 2) (xC (.int 0))) (xC (.str "told"))) xNil) [some (.d (pR rs)), some (.d F), some (.d (toldD F o))] st = .ok (.d (.str (PyData.bool (isTold o)).shown)) st := by
    have d1 : decide (("refused" : Str) = "told") = false := by decide +kernel
    have ea : xOp oEqS (xOp oIx (xVar 2) (xC (.int 0))) (xC (.str "told")) [some (.d (pR rs)), some (.d F), some (.d (toldD F o))] st = .ok (.d (.bool (isTold o))) st := by
      cases o with
      | bad i => 
        have a : atI [PyData.str "refused", .int i, .list [.bool true, .bool false, .bool false], .bool true] 0 = some (.str "refused") := rfl
        simp [xVar, xC, xNil, xCons, xTup, xLst, xLstR, disp, xOp, xChain, iOp, oSub, oMod, oLt, oLe, oGt, oGe, oAdd, oEqS, oNeS, oIn, oIs, xB, xTru, tNt, tAn, tOrr, xNt, xAn, xOr, xIf, xUn, oNeg, oIx, xSl, pNo, pAt, oSl, xFn, kLen, kInt, kMax2, kTuple, kList, kListR, kRepr, xIsi, isN, tyN, view, frz, frzAll, wSeq, wEnm, gN, gs0, gs1, gT, bNil, bCons, thenB, sExp, sRet, sIf, sSet, sTup, sPar, sSub, sSub2, putAt, sRaise, fin, retV, entry, fnO, xCall, xApp, xPopAt, yes, sb, tru, isNon, ownOf, oAddL, toldD, refd, a, d1, isTold]
      | ring i => 
        have a : atI [PyData.str "refused", .int i, .list [.bool false, .bool true, .bool false], .bool true] 0 = some (.str "refused") := rfl
        simp [xVar, xC, xNil, xCons, xTup, xLst, xLstR, disp, xOp, xChain, iOp, oSub, oMod, oLt, oLe, oGt, oGe, oAdd, oEqS, oNeS, oIn, oIs, xB, xTru, tNt, tAn, tOrr, xNt, xAn, xOr, xIf, xUn, oNeg, oIx, xSl, pNo, pAt, oSl, xFn, kLen, kInt, kMax2, kTuple, kList, kListR, kRepr, xIsi, isN, tyN, view, frz, frzAll, wSeq, wEnm, gN, gs0, gs1, gT, bNil, bCons, thenB, sExp, sRet, sIf, sSet, sTup, sPar, sSub, sSub2, putAt, sRaise, fin, retV, entry, fnO, xCall, xApp, xPopAt, yes, sb, tru, isNon, ownOf, oAddL, toldD, refd, a, d1, isTold]
      | told =>
        have a : atI [PyData.str "told", F] 0 = some (.str "told") := rfl
        simp [xVar, xC, xNil, xCons, xTup, xLst, xLstR, disp, xOp, xChain, iOp, oSub, oMod, oLt, oLe, oGt, oGe, oAdd, oEqS, oNeS, oIn, oIs, xB, xTru, tNt, tAn, tOrr, xNt, xAn, xOr, xIf, xUn, oNeg, oIx, xSl, pNo, pAt, oSl, xFn, kLen, kInt, kMax2, kTuple, kList, kListR, kRepr, xIsi, isN, tyN, view, frz, frzAll, wSeq, wEnm, gN, gs0, gs1, gT, bNil, bCons, thenB, sExp, sRet, sIf, sSet, sTup, sPar, sSub, sSub2, putAt, sRaise, fin, retV, entry, fnO, xCall, xApp, xPopAt, yes, sb, tru, isNon, ownOf, oAddL, toldD, a, isTold]
    exact x_fn (x_cons ea (g := xNil) rfl) (repr_ok (sb _))
  have n2 := x_op (k := oEqS) (c := .d (.bool true)) (st3 := st) q1 q2 (by simp [oEqS])
  have w := fn_rt (keep := false) (n := 3) (u := u__law_is_made_right) (args := [.d (pR rs), .d F]) (st := st) (st2 := st) (d := .bool true) (by
    unfold u__law_is_made_right
    refine (bc_nx (env2 := [some (.d (pR rs)), some (.d F), some (.d (toldD F o))]) (st2 := st) (s_set (i := 2) (a := .d (toldD F o)) (env := [some (.d (pR rs)), some (.d F), none]) (by simp [xVar, xC, xNil, xCons, xTup, xLst, xLstR, disp, xOp, xChain, iOp, oSub, oMod, oLt, oLe, oGt, oGe, oAdd, oEqS, oNeS, oIn, oIs, xB, xTru, tNt, tAn, tOrr, xNt, xAn, xOr, xIf, xUn, oNeg, oIx, xSl, pNo, pAt, oSl, xFn, kLen, kInt, kMax2, kTuple, kList, kListR, kRepr, xIsi, isN, tyN, view, frz, frzAll, wSeq, wEnm, gN, gs0, gs1, gT, bNil, bCons, thenB, sExp, sRet, sIf, sSet, sTup, sPar, sSub, sSub2, putAt, sRaise, fin, retV, entry, fnO, xCall, xApp, xPopAt, yes, sb, tru, isNon, ownOf, oAddL, ed]))).trans ?_
    exact (bc_nx ((s_ifF (t_b n1)).trans rfl)).trans (s_ret n2))
  rw [List.take_length] at w
  exact w
end Nz

end
section
set_option Elab.async false
set_option linter.all false
set_option maxRecDepth 100000
set_option maxHeartbeats 2000000
namespace Nz
open PySem PySem.Spec PyProof.Rows L2
/-! ### standings -/
inductive Sd where
  | inn (r : Int) | arnd (r : Int) | apart
def pS : Sd → PyData
  | .inn r => .tuple [.str "in", .int r]
  | .arnd r => .tuple [.str "around", .int r]
  | .apart => .tuple [.str "apart", .int 0]
def Sd.turn : Sd → Sd
  | .inn r => .arnd r
  | .arnd r => .inn r
  | .apart => .apart
def sd (fo : List Pl) (x y : Nat) : Sd := match hits y (above fo x) with
  | some q => .inn q.2
  | none => match hits x (above fo y) with
    | some q => .arnd q.2
    | none => .apart
theorem hits_mem {y : Int} {qs : List (Int × Int)} {q : Int × Int} (h : hits y qs = some q) : q ∈ qs ∧ q.1 = y := by
  unfold hits at h
  exact ⟨List.mem_of_find?_eq_some h, by simpa using List.find?_some h⟩
theorem sd_turn {rs : List Int} {fo : List Pl} {x y : Nat} (t : Tree rs fo) : sd fo y x = (sd fo x y).turn := by
  unfold sd
  cases h1 : hits y (above fo x) with
  | none =>
    cases h2 : hits x (above fo y) with
    | none => rfl
    | some q => rfl
  | some q =>
    cases h2 : hits x (above fo y) with
    | none => rfl
    | some q2 =>
      exfalso
      obtain ⟨rk, _, hr⟩ := t.high
      obtain ⟨m1, e1⟩ := hits_mem h1
      obtain ⟨m2, e2⟩ := hits_mem h2
      have a := climb_high hr _ x q.1 q.2 m1
      have b := climb_high hr _ y q2.1 q2.2 m2
      rw [e1, Int.toNat_natCast] at a
      rw [e2, Int.toNat_natCast] at b
      omega
theorem standing_in_ok {rs : List Int} {fo : List Pl} {x y : Nat} {st : Store} (t : Tree rs fo) (hx : x < fo.length) (hy : y < fo.length) : f_standing_in [.d (pF fo), .d (.int x), .d (.int y)] st = .ok (.d (pS (sd fo x y))) st := by
  have e1 := room_within_ok (y := (y : Int)) (st := st) t hx
  have e2 := room_within_ok (y := (x : Int)) (st := st) t hy
  unfold sd
  cases h1 : hits y (above fo x) with
  | some q =>
    rw [h1] at e1
    simp [xVar, xC, xNil, xCons, xTup, xLst, xLstR, disp, xOp, xChain, iOp, oSub, oMod, oLt, oLe, oGt, oGe, oAdd, oEqS, oNeS, oIn, oIs, xB, xTru, tNt, tAn, tOrr, xNt, xAn, xOr, xIf, xUn, oNeg, oIx, xSl, pNo, pAt, oSl, xFn, kLen, kInt, kMax2, kTuple, kList, kListR, kRepr, xIsi, isN, tyN, view, frz, frzAll, wSeq, wEnm, gN, gs0, gs1, gT, bNil, bCons, thenB, sExp, sRet, sIf, sSet, sTup, sPar, sSub, sSub2, putAt, sRaise, fin, retV, entry, fnO, xCall, xApp, xPopAt, yes, sb, tru, isNon, ownOf, oAddL, f_standing_in, u_standing_in, e1, pS]
  | none =>
    rw [h1] at e1
    cases h2 : hits x (above fo y) with
    | some q =>
      rw [h2] at e2
      simp [xVar, xC, xNil, xCons, xTup, xLst, xLstR, disp, xOp, xChain, iOp, oSub, oMod, oLt, oLe, oGt, oGe, oAdd, oEqS, oNeS, oIn, oIs, xB, xTru, tNt, tAn, tOrr, xNt, xAn, xOr, xIf, xUn, oNeg, oIx, xSl, pNo, pAt, oSl, xFn, kLen, kInt, kMax2, kTuple, kList, kListR, kRepr, xIsi, isN, tyN, view, frz, frzAll, wSeq, wEnm, gN, gs0, gs1, gT, bNil, bCons, thenB, sExp, sRet, sIf, sSet, sTup, sPar, sSub, sSub2, putAt, sRaise, fin, retV, entry, fnO, xCall, xApp, xPopAt, yes, sb, tru, isNon, ownOf, oAddL, f_standing_in, u_standing_in, e1, e2, pS]
    | none =>
      rw [h2] at e2
      simp [xVar, xC, xNil, xCons, xTup, xLst, xLstR, disp, xOp, xChain, iOp, oSub, oMod, oLt, oLe, oGt, oGe, oAdd, oEqS, oNeS, oIn, oIs, xB, xTru, tNt, tAn, tOrr, xNt, xAn, xOr, xIf, xUn, oNeg, oIx, xSl, pNo, pAt, oSl, xFn, kLen, kInt, kMax2, kTuple, kList, kListR, kRepr, xIsi, isN, tyN, view, frz, frzAll, wSeq, wEnm, gN, gs0, gs1, gT, bNil, bCons, thenB, sExp, sRet, sIf, sSet, sTup, sPar, sSub, sSub2, putAt, sRaise, fin, retV, entry, fnO, xCall, xApp, xPopAt, yes, sb, tru, isNon, ownOf, oAddL, f_standing_in, u_standing_in, e1, e2, pS]
/-- a row of places, looked through for one holder -/
theorem look_loop {qs : List (Int × Int)} {F X Y : EV} {y : Int} {k : Str} {j : Nat} {a b : Option EV} {w : Ix'} {U : Sx} {st : Store} (hw : w [some F, some X, some Y, a, b] st = .ok (pPs qs, none) st)
    (hU : ∀ (h r : Int) (s : Store), U [some F, some X, some Y, some (.d (.int h)), some (.d (.int r))] s = if h = y then .ok (.rt (.d (.tuple [.str k, .int r]))) s else .ok (.nx [some F, some X, some Y, some (.d (.int h)), some (.d (.int r))]) s) :
    ∃ r st', sFor w (gT 2 (gs1 3 (gs1 4 gs0))) U [some F, some X, some Y, a, b] st = .ok r st' ∧ st' = st ∧ (match hits y qs with | some q => r = .rt (.d (.tuple [.str k, .int q.2])) | none => ∃ a b, r = .nx [some F, some X, some Y, a, b]) := by
  refine sFor_run (t := gT 2 (gs1 3 (gs1 4 gs0))) (R := fun r st' => st' = st ∧ (match hits y qs with | some q => r = .rt (.d (.tuple [.str k, .int q.2])) | none => ∃ a b, r = .nx [some F, some X, some Y, a, b])) hw
    (fun i env s => s = st ∧ (∃ a b, env = [some F, some X, some Y, a, b]) ∧ hits y (qs.drop i) = hits y qs) ⟨rfl, ⟨_, _, rfl⟩, rfl⟩ (fun i d env s hd ⟨hs, ⟨a, b, he⟩, hh⟩ => ?_) (fun env s ⟨hs, ⟨a, b, he⟩, hh⟩ => ?_)
  · subst he hs
    rw [List.getElem?_map] at hd
    obtain ⟨q, hq, rfl⟩ := Option.map_eq_some_iff.mp hd
    obtain ⟨h, r⟩ := q
    have hlt := (List.getElem?_eq_some_iff.mp hq).1
    have ed : qs.drop i = (h, r) :: qs.drop (i + 1) := by
      rw [List.drop_eq_getElem_cons hlt]
      have := (List.getElem?_eq_some_iff.mp hq).2
      rw [this]
    refine ⟨[some F, some X, some Y, some (.d (.int h)), some (.d (.int r))], rfl, ?_⟩
    have hu := hU h r s
    by_cases e : h = y
    · rw [if_pos e] at hu
      refine ⟨_, _, hu, rfl, ?_⟩
      rw [← hh, ed]
      simp [hits, e]
    · rw [if_neg e] at hu
      refine ⟨_, _, hu, rfl, ⟨_, _, rfl⟩, ?_⟩
      rw [← hh, ed]
      simp [hits, e]
  · refine ⟨hs, ?_⟩
    rw [List.length_map, List.drop_length] at hh
    rw [← hh]
    exact ⟨a, b, by rw [he]⟩
theorem law_standing_ok {rs : List Int} {fo : List Pl} {x y : Nat} {st : Store} (t : Tree rs fo) (hx : x < fo.length) (hy : y < fo.length) : f__law_standing [.d (pF fo), .d (.int x), .d (.int y)] st = .ok (.d (pS (sd fo x y))) st := by
  have c1 := law_climb_ok (st := st) t hx
  have c2 := law_climb_ok (st := st) t hy
  have w1 : wSeq (xCall 2 f__law_climb (xCons (xVar 0) (xCons (xVar 1) xNil))) [some (.d (pF fo)), some (.d (.int x)), some (.d (.int y)), none, none] st = .ok (pPs (above fo x), none) st := by simp [xVar, xC, xNil, xCons, xTup, xLst, xLstR, disp, xOp, xChain, iOp, oSub, oMod, oLt, oLe, oGt, oGe, oAdd, oEqS, oNeS, oIn, oIs, xB, xTru, tNt, tAn, tOrr, xNt, xAn, xOr, xIf, xUn, oNeg, oIx, xSl, pNo, pAt, oSl, xFn, kLen, kInt, kMax2, kTuple, kList, kListR, kRepr, xIsi, isN, tyN, view, frz, frzAll, wSeq, wEnm, gN, gs0, gs1, gT, bNil, bCons, thenB, sExp, sRet, sIf, sSet, sTup, sPar, sSub, sSub2, putAt, sRaise, fin, retV, entry, fnO, xCall, xApp, xPopAt, yes, sb, tru, isNon, ownOf, oAddL, c1]
  have w2 : ∀ a b, wSeq (xCall 2 f__law_climb (xCons (xVar 0) (xCons (xVar 2) xNil))) [some (.d (pF fo)), some (.d (.int x)), some (.d (.int y)), a, b] st = .ok (pPs (above fo y), none) st := fun a b => by simp [xVar, xC, xNil, xCons, xTup, xLst, xLstR, disp, xOp, xChain, iOp, oSub, oMod, oLt, oLe, oGt, oGe, oAdd, oEqS, oNeS, oIn, oIs, xB, xTru, tNt, tAn, tOrr, xNt, xAn, xOr, xIf, xUn, oNeg, oIx, xSl, pNo, pAt, oSl, xFn, kLen, kInt, kMax2, kTuple, kList, kListR, kRepr, xIsi, isN, tyN, view, frz, frzAll, wSeq, wEnm, gN, gs0, gs1, gT, bNil, bCons, thenB, sExp, sRet, sIf, sSet, sTup, sPar, sSub, sSub2, putAt, sRaise, fin, retV, entry, fnO, xCall, xApp, xPopAt, yes, sb, tru, isNon, ownOf, oAddL, c2]
  obtain ⟨r1, s1, e1, hs1, q1⟩ := look_loop (y := (y : Int)) (k := "in") (j := 0) (U := fb__law_standing_1) w1 (fun h r s => by
    by_cases e : h = (y : Int) <;> simp [xVar, xC, xNil, xCons, xTup, xLst, xLstR, disp, xOp, xChain, iOp, oSub, oMod, oLt, oLe, oGt, oGe, oAdd, oEqS, oNeS, oIn, oIs, xB, xTru, tNt, tAn, tOrr, xNt, xAn, xOr, xIf, xUn, oNeg, oIx, xSl, pNo, pAt, oSl, xFn, kLen, kInt, kMax2, kTuple, kList, kListR, kRepr, xIsi, isN, tyN, view, frz, frzAll, wSeq, wEnm, gN, gs0, gs1, gT, bNil, bCons, thenB, sExp, sRet, sIf, sSet, sTup, sPar, sSub, sSub2, putAt, sRaise, fin, retV, entry, fnO, xCall, xApp, xPopAt, yes, sb, tru, isNon, ownOf, oAddL, fb__law_standing_1, e])
  subst hs1
  have w := fun (d : PyData) (h : u__law_standing (entry 5 [.d (pF fo), .d (.int x), .d (.int y)]) s1 = .ok (.rt (.d d)) s1) => fn_rt (keep := false) h
  rw [List.take_length] at w
  refine w _ ?_
  unfold u__law_standing sd
  have e1 : fl__law_standing_2 (entry 5 [.d (pF fo), .d (.int x), .d (.int y)]) s1 = .ok r1 s1 := by unfold fl__law_standing_2; exact e1
  cases h1 : hits y (above fo x) with
  | some q =>
    rw [h1] at q1
    have q1 : r1 = _ := q1
    subst q1
    exact bc_rt e1
  | none =>
    rw [h1] at q1
    obtain ⟨a, b, rfl⟩ := q1
    obtain ⟨r2, s2, e2, hs2, q2⟩ := look_loop (y := (x : Int)) (k := "around") (j := 0) (U := fb__law_standing_3) (w2 a b) (fun h r s => by
      by_cases e : h = (x : Int) <;> simp [xVar, xC, xNil, xCons, xTup, xLst, xLstR, disp, xOp, xChain, iOp, oSub, oMod, oLt, oLe, oGt, oGe, oAdd, oEqS, oNeS, oIn, oIs, xB, xTru, tNt, tAn, tOrr, xNt, xAn, xOr, xIf, xUn, oNeg, oIx, xSl, pNo, pAt, oSl, xFn, kLen, kInt, kMax2, kTuple, kList, kListR, kRepr, xIsi, isN, tyN, view, frz, frzAll, wSeq, wEnm, gN, gs0, gs1, gT, bNil, bCons, thenB, sExp, sRet, sIf, sSet, sTup, sPar, sSub, sSub2, putAt, sRaise, fin, retV, entry, fnO, xCall, xApp, xPopAt, yes, sb, tru, isNon, ownOf, oAddL, fb__law_standing_3, e])
    subst hs2
    have e2 : fl__law_standing_4 [some (.d (pF fo)), some (.d (.int x)), some (.d (.int y)), a, b] s2 = .ok r2 s2 := by unfold fl__law_standing_4; exact e2
    refine (bc_nx e1).trans ?_
    cases h2 : hits x (above fo y) with
    | some q =>
      rw [h2] at q2
      have q2 : r2 = _ := q2
      subst q2
      exact bc_rt e2
    | none =>
      rw [h2] at q2
      obtain ⟨c, d, rfl⟩ := q2
      exact (bc_nx e2).trans (s_ret (by simp [xVar, xC, xNil, xCons, xTup, xLst, xLstR, disp, xOp, xChain, iOp, oSub, oMod, oLt, oLe, oGt, oGe, oAdd, oEqS, oNeS, oIn, oIs, xB, xTru, tNt, tAn, tOrr, xNt, xAn, xOr, xIf, xUn, oNeg, oIx, xSl, pNo, pAt, oSl, xFn, kLen, kInt, kMax2, kTuple, kList, kListR, kRepr, xIsi, isN, tyN, view, frz, frzAll, wSeq, wEnm, gN, gs0, gs1, gT, bNil, bCons, thenB, sExp, sRet, sIf, sSet, sTup, sPar, sSub, sSub2, putAt, sRaise, fin, retV, entry, fnO, xCall, xApp, xPopAt, yes, sb, tru, isNon, ownOf, oAddL, pS]))
theorem turned_ok {s : Sd} {st : Store} : f_turned [.d (pS s)] st = .ok (.d (pS s.turn)) st := by
  have d1 : decide (("around" : Str) = "in") = false := by decide +kernel
  have d2 : decide (("apart" : Str) = "in") = false := by decide +kernel
  have d3 : decide (("apart" : Str) = "around") = false := by decide +kernel
  cases s <;> simp [xVar, xC, xNil, xCons, xTup, xLst, xLstR, disp, xOp, xChain, iOp, oSub, oMod, oLt, oLe, oGt, oGe, oAdd, oEqS, oNeS, oIn, oIs, xB, xTru, tNt, tAn, tOrr, xNt, xAn, xOr, xIf, xUn, oNeg, oIx, xSl, pNo, pAt, oSl, xFn, kLen, kInt, kMax2, kTuple, kList, kListR, kRepr, xIsi, isN, tyN, view, frz, frzAll, wSeq, wEnm, gN, gs0, gs1, gT, bNil, bCons, thenB, sExp, sRet, sIf, sSet, sTup, sPar, sSub, sSub2, putAt, sRaise, fin, retV, entry, fnO, xCall, xApp, xPopAt, yes, sb, tru, isNon, ownOf, oAddL, f_turned, u_turned, pS, Sd.turn, d1, d2, d3]
theorem law_turned_ok {s : Sd} {st : Store} : f__law_turned [.d (pS s)] st = .ok (.d (pS s.turn)) st := by
  have l1 : lastOf [("in", "around"), ("around", "in"), ("apart", "apart")] "in" = some "around" := by decide +kernel
  have l2 : lastOf [("in", "around"), ("around", "in"), ("apart", "apart")] "around" = some "in" := by decide +kernel
  have l3 : lastOf [("in", "around"), ("around", "in"), ("apart", "apart")] "apart" = some "apart" := by decide +kernel
  cases s <;> simp [xVar, xC, xNil, xCons, xTup, xLst, xLstR, disp, xOp, xChain, iOp, oSub, oMod, oLt, oLe, oGt, oGe, oAdd, oEqS, oNeS, oIn, oIs, xB, xTru, tNt, tAn, tOrr, xNt, xAn, xOr, xIf, xUn, oNeg, oIx, xSl, pNo, pAt, oSl, xFn, kLen, kInt, kMax2, kTuple, kList, kListR, kRepr, xIsi, isN, tyN, view, frz, frzAll, wSeq, wEnm, gN, gs0, gs1, gT, bNil, bCons, thenB, sExp, sRet, sIf, sSet, sTup, sPar, sSub, sSub2, putAt, sRaise, fin, retV, entry, fnO, xCall, xApp, xPopAt, yes, sb, tru, isNon, ownOf, oAddL, f__law_turned, u__law_turned, pS, Sd.turn, xDsub, at0, at1, l1, l2, l3]
/-! ### all standings -/
def inD (d : PyData) : PyData := .tuple [.str "in", d]
def arD (d : PyData) : PyData := .tuple [.str "around", d]
def evD (rs : List Int) (x y : Nat) : List PyData := pS .apart :: ((rng 0 (rs[y]?.getD 0).toNat).map inD ++ (rng 0 (rs[x]?.getD 0).toNat).map arD)
theorem rs_range {rs : List Int} {x : Nat} (hr : RoomsOk rs) (hx : x < rs.length) : 0 ≤ rs[x]?.getD 0 ∧ rs[x]?.getD 0 ≤ 4 := by
  rw [List.getElem?_eq_getElem hx]
  exact hr.2 _ (List.getElem_mem hx)
theorem lc_tag {F : Ex} {env : Env'} {v : Nat} {n : Int} {k : Str} {st : Store} (hF : F env st = .ok (.d (.int n)) st) (h0 : 0 ≤ n) (h4 : n ≤ 4) (hv : v < env.length) :
    xLc false (wRng1 F) (gN v) yes (xTup (xCons (xC (.str k)) (xCons (xVar v) xNil))) [v] env st = .ok (.d (.list ((rng 0 n.toNat).map fun d => .tuple [.str k, d]))) st := by
  have hw := wRng1_ok hF h0 (by omega)
  have e := lc_map (t := gN v) (p := yes) (f := xTup (xCons (xC (.str k)) (xCons (xVar v) xNil))) (vs := [v]) (fun _ => true) (fun d => .tuple [.str k, d]) hw (by rw [rng_len]; omega) (fun d acc hd => ⟨_, env_v hv, rfl, fun _ => by
    have z := x_cons (f := xC (.str k)) (env := env.set v (some (.d d))) (st := st ++ [some acc]) rfl (x_cons (var_v hv) (g := xNil) rfl)
    unfold xTup
    rw [z, bind_ok]
    rfl⟩) false
  rw [e, filter_all]
  rfl
theorem every_ok {rs : List Int} {x y : Nat} {st : Store} (hr : RoomsOk rs) (hx : x < rs.length) (hy : y < rs.length) : f_every_standing [.d (pR rs), .d (.int x), .d (.int y)] st = .ok (.d (.tuple (evD rs x y))) st := by
  obtain ⟨a1, a2⟩ := rs_range hr hx
  obtain ⟨b1, b2⟩ := rs_range hr hy
  have e1 : lc_every_standing_1 [some (.d (pR rs)), some (.d (.int x)), some (.d (.int y)), none, none, none] st = _ := lc_tag (k := "in") (by simp [xVar, xC, xNil, xCons, xTup, xLst, xLstR, disp, xOp, xChain, iOp, oSub, oMod, oLt, oLe, oGt, oGe, oAdd, oEqS, oNeS, oIn, oIs, xB, xTru, tNt, tAn, tOrr, xNt, xAn, xOr, xIf, xUn, oNeg, oIx, xSl, pNo, pAt, oSl, xFn, kLen, kInt, kMax2, kTuple, kList, kListR, kRepr, xIsi, isN, tyN, view, frz, frzAll, wSeq, wEnm, gN, gs0, gs1, gT, bNil, bCons, thenB, sExp, sRet, sIf, sSet, sTup, sPar, sSub, sSub2, putAt, sRaise, fin, retV, entry, fnO, xCall, xApp, xPopAt, yes, sb, tru, isNon, ownOf, oAddL, rs_at hy]) b1 b2 (by simp)
  have e2 : ∀ z, lc_every_standing_2 [some (.d (pR rs)), some (.d (.int x)), some (.d (.int y)), some z, none, none] st = _ := fun z => lc_tag (k := "around") (by simp [xVar, xC, xNil, xCons, xTup, xLst, xLstR, disp, xOp, xChain, iOp, oSub, oMod, oLt, oLe, oGt, oGe, oAdd, oEqS, oNeS, oIn, oIs, xB, xTru, tNt, tAn, tOrr, xNt, xAn, xOr, xIf, xUn, oNeg, oIx, xSl, pNo, pAt, oSl, xFn, kLen, kInt, kMax2, kTuple, kList, kListR, kRepr, xIsi, isN, tyN, view, frz, frzAll, wSeq, wEnm, gN, gs0, gs1, gT, bNil, bCons, thenB, sExp, sRet, sIf, sSet, sTup, sPar, sSub, sSub2, putAt, sRaise, fin, retV, entry, fnO, xCall, xApp, xPopAt, yes, sb, tru, isNon, ownOf, oAddL, rs_at hx]) a1 a2 (by simp)
  have w := fn_rt (keep := false) (n := 6) (u := u_every_standing) (args := [.d (pR rs), .d (.int x), .d (.int y)]) (st := st) (st2 := st) (d := .tuple (evD rs x y)) (by
    unfold u_every_standing
    have l1 : (rng 0 (rs[y]?.getD 0).toNat).length ≤ 4 := by rw [rng_len]; omega
    have l2 : (rng 0 (rs[x]?.getD 0).toNat).length ≤ 4 := by rw [rng_len]; omega
    have key : ∀ (ds : List PyData) (s : Store), frzAll (ds.map EV.d) s = some (ds, s) := fun ds => by
      induction ds with
      | nil => intro s; rfl
      | cons d ds ih => intro s; simp [frzAll, frz, ih]
    have z : xCons (xC (.tuple [.str "apart", .int 0])) (xStar (xVar 3) (xStar (xVar 4) xNil)) [some (.d (pR rs)), some (.d (.int x)), some (.d (.int y)), some (.d (.list ((rng 0 (rs[y]?.getD 0).toNat).map fun d => .tuple [.str "in", d]))), some (.d (.list ((rng 0 (rs[x]?.getD 0).toNat).map fun d => .tuple [.str "around", d]))), none] st = .ok ((evD rs x y).map EV.d) st := by
      simp [xVar, xC, xNil, xCons, xTup, xLst, xLstR, disp, xOp, xChain, iOp, oSub, oMod, oLt, oLe, oGt, oGe, oAdd, oEqS, oNeS, oIn, oIs, xB, xTru, tNt, tAn, tOrr, xNt, xAn, xOr, xIf, xUn, oNeg, oIx, xSl, pNo, pAt, oSl, xFn, kLen, kInt, kMax2, kTuple, kList, kListR, kRepr, xIsi, isN, tyN, view, frz, frzAll, wSeq, wEnm, gN, gs0, gs1, gT, bNil, bCons, thenB, sExp, sRet, sIf, sSet, sTup, sPar, sSub, sSub2, putAt, sRaise, fin, retV, entry, fnO, xCall, xApp, xPopAt, yes, sb, tru, isNon, ownOf, oAddL, xStar, seqOf, evD, pS]
      rfl
    have z2 : xTup (xCons (xC (.tuple [.str "apart", .int 0])) (xStar (xVar 3) (xStar (xVar 4) xNil))) [some (.d (pR rs)), some (.d (.int x)), some (.d (.int y)), some (.d (.list ((rng 0 (rs[y]?.getD 0).toNat).map fun d => .tuple [.str "in", d]))), some (.d (.list ((rng 0 (rs[x]?.getD 0).toNat).map fun d => .tuple [.str "around", d]))), none] st = .ok (.d (.tuple (evD rs x y))) st := by
      unfold xTup
      rw [z, bind_ok]
      unfold disp
      rw [key]
      dsimp only
      rw [if_pos (by simp only [evD, List.length_cons, List.length_append, List.length_map]; omega)]
    exact (bc_nx (s_set e1)).trans ((bc_nx (s_set (e2 _))).trans (s_ret z2)))
  rw [List.take_length] at w
  exact w
theorem law_every_ok {rs : List Int} {x y : Nat} {st : Store} (hr : RoomsOk rs) (hx : x < rs.length) (hy : y < rs.length) : f__law_every [.d (pR rs), .d (.int x), .d (.int y)] st = .ok (.d (.list (evD rs x y))) st := by
  obtain ⟨a1, a2⟩ := rs_range hr hx
  obtain ⟨b1, b2⟩ := rs_range hr hy
  have e1 : lc__law_every_1 [some (.d (pR rs)), some (.d (.int x)), some (.d (.int y)), none, none, none, none] st = _ := lc_tag (k := "in") (by simp [xVar, xC, xNil, xCons, xTup, xLst, xLstR, disp, xOp, xChain, iOp, oSub, oMod, oLt, oLe, oGt, oGe, oAdd, oEqS, oNeS, oIn, oIs, xB, xTru, tNt, tAn, tOrr, xNt, xAn, xOr, xIf, xUn, oNeg, oIx, xSl, pNo, pAt, oSl, xFn, kLen, kInt, kMax2, kTuple, kList, kListR, kRepr, xIsi, isN, tyN, view, frz, frzAll, wSeq, wEnm, gN, gs0, gs1, gT, bNil, bCons, thenB, sExp, sRet, sIf, sSet, sTup, sPar, sSub, sSub2, putAt, sRaise, fin, retV, entry, fnO, xCall, xApp, xPopAt, yes, sb, tru, isNon, ownOf, oAddL, rs_at hy]) b1 b2 (by simp)
  have e2 : lc__law_every_2 [some (.d (pR rs)), some (.d (.int x)), some (.d (.int y)), none, none, none, none] st = _ := lc_tag (k := "around") (by simp [xVar, xC, xNil, xCons, xTup, xLst, xLstR, disp, xOp, xChain, iOp, oSub, oMod, oLt, oLe, oGt, oGe, oAdd, oEqS, oNeS, oIn, oIs, xB, xTru, tNt, tAn, tOrr, xNt, xAn, xOr, xIf, xUn, oNeg, oIx, xSl, pNo, pAt, oSl, xFn, kLen, kInt, kMax2, kTuple, kList, kListR, kRepr, xIsi, isN, tyN, view, frz, frzAll, wSeq, wEnm, gN, gs0, gs1, gT, bNil, bCons, thenB, sExp, sRet, sIf, sSet, sTup, sPar, sSub, sSub2, putAt, sRaise, fin, retV, entry, fnO, xCall, xApp, xPopAt, yes, sb, tru, isNon, ownOf, oAddL, rs_at hx]) a1 a2 (by simp)
  have w := fn_rt (keep := false) (n := 7) (u := u__law_every) (args := [.d (pR rs), .d (.int x), .d (.int y)]) (st := st) (st2 := st) (d := .list (evD rs x y)) (by
    unfold u__law_every
    refine (bc_nx (env2 := [some (.d (pR rs)), some (.d (.int x)), some (.d (.int y)), some (.d (.list ((rng 0 (rs[y]?.getD 0).toNat).map fun d => .tuple [.str "in", d]))), some (.d (.list ((rng 0 (rs[x]?.getD 0).toNat).map fun d => .tuple [.str "around", d]))), none, none]) (st2 := st) ?_).trans (s_ret ?_)
    · have z := x_cons e1 (x_cons e2 (g := xNil) rfl)
      unfold sPar
      rw [show entry 7 [EV.d (pR rs), .d (.int x), .d (.int y)] = [some (.d (pR rs)), some (.d (.int x)), some (.d (.int y)), none, none, none, none] from rfl]
      rw [z, sb_ok]
      rfl
    · have l1 : (rng 0 (rs[y]?.getD 0).toNat).length ≤ 4 := by rw [rng_len]; omega
      have l2 : (rng 0 (rs[x]?.getD 0).toNat).length ≤ 4 := by rw [rng_len]; omega
      have q1 : 1 + (rng 0 (rs[y]?.getD 0).toNat).length ≤ 1000 := by omega
      have q2 : 1 + (rng 0 (rs[y]?.getD 0).toNat).length + (rng 0 (rs[x]?.getD 0).toNat).length ≤ 1000 := by omega
      have q3 : (rng 0 (rs[y]?.getD 0).toNat).length + 1 + (rng 0 (rs[x]?.getD 0).toNat).length ≤ 1000 := by omega
      simp [xVar, xC, xNil, xCons, xTup, xLst, xLstR, disp, xOp, xChain, iOp, oSub, oMod, oLt, oLe, oGt, oGe, oAdd, oEqS, oNeS, oIn, oIs, xB, xTru, tNt, tAn, tOrr, xNt, xAn, xOr, xIf, xUn, oNeg, oIx, xSl, pNo, pAt, oSl, xFn, kLen, kInt, kMax2, kTuple, kList, kListR, kRepr, xIsi, isN, tyN, view, frz, frzAll, wSeq, wEnm, gN, gs0, gs1, gT, bNil, bCons, thenB, sExp, sRet, sIf, sSet, sTup, sPar, sSub, sSub2, putAt, sRaise, fin, retV, entry, fnO, xCall, xApp, xPopAt, yes, sb, tru, isNon, ownOf, oAddL, evD, pS, q1, q2, q3]
      rfl)
  rw [List.take_length] at w
  exact w
end Nz

end
section
set_option Elab.async false
set_option linter.all false
set_option maxRecDepth 100000
set_option maxHeartbeats 2000000
namespace Nz
open PySem PySem.Spec PyProof.Rows L2
/-! ### two things asked -/
theorem check_two_ok {rs : List Int} {x y : Int} {st : Store} (hx : 0 ≤ x ∧ x < rs.length) (hy : 0 ≤ y ∧ y < rs.length) (h : x ≠ y) : f_check_two [.d (pR rs), .d (.int x), .d (.int y)] st = .ok (.d .none) st := by
  have c1 : f_check_thing [.d (pR rs), .d (.int x)] st = .ok (.d .none) st := by rw [check_ok, if_pos (by rw [List.length_map]; exact hx)]
  have c2 : f_has_thing [.d (pR rs), .d (.int y)] st = .ok (.d (.bool true)) st := by rw [has_thing_int, decide_eq_true (by rw [List.length_map]; exact hy)]
  simp [xVar, xC, xNil, xCons, xTup, xLst, xLstR, disp, xOp, xChain, iOp, oSub, oMod, oLt, oLe, oGt, oGe, oAdd, oEqS, oNeS, oIn, oIs, xB, xTru, tNt, tAn, tOrr, xNt, xAn, xOr, xIf, xUn, oNeg, oIx, xSl, pNo, pAt, oSl, xFn, kLen, kInt, kMax2, kTuple, kList, kListR, kRepr, xIsi, isN, tyN, view, frz, frzAll, wSeq, wEnm, gN, gs0, gs1, gT, bNil, bCons, thenB, sExp, sRet, sIf, sSet, sTup, sPar, sSub, sSub2, putAt, sRaise, fin, retV, entry, fnO, xCall, xApp, xPopAt, yes, sb, tru, isNon, ownOf, oAddL, f_check_two, u_check_two, c1, c2, h]
theorem check_two_x {rs : List Int} {x y : Int} {st : Store} (hx : ¬ (0 ≤ x ∧ x < rs.length)) : f_check_two [.d (pR rs), .d (.int x), .d (.int y)] st = .exc "BadThing" (.int x) st := by
  have c1 : f_check_thing [.d (pR rs), .d (.int x)] st = .exc "BadThing" (.int x) st := by rw [check_ok, if_neg (by rw [List.length_map]; exact hx)]
  simp [xVar, xC, xNil, xCons, xTup, xLst, xLstR, disp, xOp, xChain, iOp, oSub, oMod, oLt, oLe, oGt, oGe, oAdd, oEqS, oNeS, oIn, oIs, xB, xTru, tNt, tAn, tOrr, xNt, xAn, xOr, xIf, xUn, oNeg, oIx, xSl, pNo, pAt, oSl, xFn, kLen, kInt, kMax2, kTuple, kList, kListR, kRepr, xIsi, isN, tyN, view, frz, frzAll, wSeq, wEnm, gN, gs0, gs1, gT, bNil, bCons, thenB, sExp, sRet, sIf, sSet, sTup, sPar, sSub, sSub2, putAt, sRaise, fin, retV, entry, fnO, xCall, xApp, xPopAt, yes, sb, tru, isNon, ownOf, oAddL, f_check_two, u_check_two, c1]
theorem check_two_y {rs : List Int} {x y : Int} {st : Store} (hx : 0 ≤ x ∧ x < rs.length) (hy : ¬ (0 ≤ y ∧ y < rs.length) ∨ x = y) : f_check_two [.d (pR rs), .d (.int x), .d (.int y)] st = .exc "BadThing" (.int y) st := by
  have c1 : f_check_thing [.d (pR rs), .d (.int x)] st = .ok (.d .none) st := by rw [check_ok, if_pos (by rw [List.length_map]; exact hx)]
  by_cases hr : 0 ≤ y ∧ y < rs.length
  · have c2 : f_has_thing [.d (pR rs), .d (.int y)] st = .ok (.d (.bool true)) st := by rw [has_thing_int, decide_eq_true (by rw [List.length_map]; exact hr)]
    have e : x = y := hy.resolve_left fun z => z hr
    subst e
    simp [xVar, xC, xNil, xCons, xTup, xLst, xLstR, disp, xOp, xChain, iOp, oSub, oMod, oLt, oLe, oGt, oGe, oAdd, oEqS, oNeS, oIn, oIs, xB, xTru, tNt, tAn, tOrr, xNt, xAn, xOr, xIf, xUn, oNeg, oIx, xSl, pNo, pAt, oSl, xFn, kLen, kInt, kMax2, kTuple, kList, kListR, kRepr, xIsi, isN, tyN, view, frz, frzAll, wSeq, wEnm, gN, gs0, gs1, gT, bNil, bCons, thenB, sExp, sRet, sIf, sSet, sTup, sPar, sSub, sSub2, putAt, sRaise, fin, retV, entry, fnO, xCall, xApp, xPopAt, yes, sb, tru, isNon, ownOf, oAddL, f_check_two, u_check_two, c1, c2]
  · have c2 : f_has_thing [.d (pR rs), .d (.int y)] st = .ok (.d (.bool false)) st := by rw [has_thing_int, decide_eq_false (by rw [List.length_map]; exact hr)]
    simp [xVar, xC, xNil, xCons, xTup, xLst, xLstR, disp, xOp, xChain, iOp, oSub, oMod, oLt, oLe, oGt, oGe, oAdd, oEqS, oNeS, oIn, oIs, xB, xTru, tNt, tAn, tOrr, xNt, xAn, xOr, xIf, xUn, oNeg, oIx, xSl, pNo, pAt, oSl, xFn, kLen, kInt, kMax2, kTuple, kList, kListR, kRepr, xIsi, isN, tyN, view, frz, frzAll, wSeq, wEnm, gN, gs0, gs1, gT, bNil, bCons, thenB, sExp, sRet, sIf, sSet, sTup, sPar, sSub, sSub2, putAt, sRaise, fin, retV, entry, fnO, xCall, xApp, xPopAt, yes, sb, tru, isNon, ownOf, oAddL, f_check_two, u_check_two, c1, c2]
theorem standing_ok {rs : List Int} {fo : List Pl} {x y : Nat} {st : Store} (t : Tree rs fo) (hx : x < fo.length) (hy : y < fo.length) (h : x ≠ y) : f_standing [.d (pR rs), .d (pF fo), .d (.int x), .d (.int y)] st = .ok (.d (pS (sd fo x y))) st := by
  have c := check_two_ok (rs := rs) (x := (x : Int)) (y := (y : Int)) (st := st) (by have := t.len; omega) (by have := t.len; omega) (by omega)
  have s := standing_in_ok (st := st) t hx hy
  simp [xVar, xC, xNil, xCons, xTup, xLst, xLstR, disp, xOp, xChain, iOp, oSub, oMod, oLt, oLe, oGt, oGe, oAdd, oEqS, oNeS, oIn, oIs, xB, xTru, tNt, tAn, tOrr, xNt, xAn, xOr, xIf, xUn, oNeg, oIx, xSl, pNo, pAt, oSl, xFn, kLen, kInt, kMax2, kTuple, kList, kListR, kRepr, xIsi, isN, tyN, view, frz, frzAll, wSeq, wEnm, gN, gs0, gs1, gT, bNil, bCons, thenB, sExp, sRet, sIf, sSet, sTup, sPar, sSub, sSub2, putAt, sRaise, fin, retV, entry, fnO, xCall, xApp, xPopAt, yes, sb, tru, isNon, ownOf, oAddL, f_standing, u_standing, mf_ok t.ok, c, s]
theorem standing_ex {rs : List Int} {fo : List Pl} {x y i : Int} {st : Store} (t : Tree rs fo) (c : f_check_two [.d (pR rs), .d (.int x), .d (.int y)] st = .exc "BadThing" (.int i) st) : f_standing [.d (pR rs), .d (pF fo), .d (.int x), .d (.int y)] st = .exc "BadThing" (.int i) st := by
  simp [xVar, xC, xNil, xCons, xTup, xLst, xLstR, disp, xOp, xChain, iOp, oSub, oMod, oLt, oLe, oGt, oGe, oAdd, oEqS, oNeS, oIn, oIs, xB, xTru, tNt, tAn, tOrr, xNt, xAn, xOr, xIf, xUn, oNeg, oIx, xSl, pNo, pAt, oSl, xFn, kLen, kInt, kMax2, kTuple, kList, kListR, kRepr, xIsi, isN, tyN, view, frz, frzAll, wSeq, wEnm, gN, gs0, gs1, gT, bNil, bCons, thenB, sExp, sRet, sIf, sSet, sTup, sPar, sSub, sSub2, putAt, sRaise, fin, retV, entry, fnO, xCall, xApp, xPopAt, yes, sb, tru, isNon, ownOf, oAddL, f_standing, u_standing, mf_ok t.ok, c]
theorem standing_bad {rs : List Int} {F : PyData} {x y i : Int} {st : Store} (c : f_made_forest [.d (pR rs), .d F] st = .exc "BadForest" (.int i) st) : f_standing [.d (pR rs), .d F, .d (.int x), .d (.int y)] st = .exc "BadForest" (.int i) st := by
  simp [xVar, xC, xNil, xCons, xTup, xLst, xLstR, disp, xOp, xChain, iOp, oSub, oMod, oLt, oLe, oGt, oGe, oAdd, oEqS, oNeS, oIn, oIs, xB, xTru, tNt, tAn, tOrr, xNt, xAn, xOr, xIf, xUn, oNeg, oIx, xSl, pNo, pAt, oSl, xFn, kLen, kInt, kMax2, kTuple, kList, kListR, kRepr, xIsi, isN, tyN, view, frz, frzAll, wSeq, wEnm, gN, gs0, gs1, gT, bNil, bCons, thenB, sExp, sRet, sIf, sSet, sTup, sPar, sSub, sSub2, putAt, sRaise, fin, retV, entry, fnO, xCall, xApp, xPopAt, yes, sb, tru, isNon, ownOf, oAddL, f_standing, u_standing, c]
theorem standings_ok {rs : List Int} {x y : Nat} {st : Store} (hr : RoomsOk rs) (hx : x < rs.length) (hy : y < rs.length) (h : x ≠ y) : f_standings [.d (pR rs), .d (.int x), .d (.int y)] st = .ok (.d (.tuple (evD rs x y))) st := by
  have c := check_two_ok (rs := rs) (x := (x : Int)) (y := (y : Int)) (st := st) (by omega) (by omega) (by omega)
  simp [xVar, xC, xNil, xCons, xTup, xLst, xLstR, disp, xOp, xChain, iOp, oSub, oMod, oLt, oLe, oGt, oGe, oAdd, oEqS, oNeS, oIn, oIs, xB, xTru, tNt, tAn, tOrr, xNt, xAn, xOr, xIf, xUn, oNeg, oIx, xSl, pNo, pAt, oSl, xFn, kLen, kInt, kMax2, kTuple, kList, kListR, kRepr, xIsi, isN, tyN, view, frz, frzAll, wSeq, wEnm, gN, gs0, gs1, gT, bNil, bCons, thenB, sExp, sRet, sIf, sSet, sTup, sPar, sSub, sSub2, putAt, sRaise, fin, retV, entry, fnO, xCall, xApp, xPopAt, yes, sb, tru, isNon, ownOf, oAddL, f_standings, u_standings, made_rooms_ok hr, c, every_ok hr hx hy]
theorem standings_ex {rs : List Int} {x y i : Int} {st : Store} (hr : RoomsOk rs) (c : f_check_two [.d (pR rs), .d (.int x), .d (.int y)] st = .exc "BadThing" (.int i) st) : f_standings [.d (pR rs), .d (.int x), .d (.int y)] st = .exc "BadThing" (.int i) st := by
  simp [xVar, xC, xNil, xCons, xTup, xLst, xLstR, disp, xOp, xChain, iOp, oSub, oMod, oLt, oLe, oGt, oGe, oAdd, oEqS, oNeS, oIn, oIs, xB, xTru, tNt, tAn, tOrr, xNt, xAn, xOr, xIf, xUn, oNeg, oIx, xSl, pNo, pAt, oSl, xFn, kLen, kInt, kMax2, kTuple, kList, kListR, kRepr, xIsi, isN, tyN, view, frz, frzAll, wSeq, wEnm, gN, gs0, gs1, gT, bNil, bCons, thenB, sExp, sRet, sIf, sSet, sTup, sPar, sSub, sSub2, putAt, sRaise, fin, retV, entry, fnO, xCall, xApp, xPopAt, yes, sb, tru, isNon, ownOf, oAddL, f_standings, u_standings, made_rooms_ok hr, c]
theorem shw_kind {k : Str} {i : Int} (hk : PyData.strOk k = true ∧ k.cps.size ≤ 50) (h : i.natAbs < 10 ^ 30) : Shw (.tuple [.str k, .int i]) 1 152 := (shw_tup (k := 0) (shwL_cons (shw_str hk.1 hk.2) (shwL_cons (shw_int h) shwL_nil))).up (Nat.le_refl _) (by omega)
def Sd.num : Sd → Int
  | .inn r => r
  | .arnd r => r
  | .apart => 0
theorem k_in : PyData.strOk "in" = true ∧ ("in" : Str).cps.size ≤ 50 := by decide +kernel
theorem k_ar : PyData.strOk "around" = true ∧ ("around" : Str).cps.size ≤ 50 := by decide +kernel
theorem k_ap : PyData.strOk "apart" = true ∧ ("apart" : Str).cps.size ≤ 50 := by decide +kernel
theorem shw_sd {s : Sd} (h : s.num.natAbs < 10 ^ 30) : Shw (pS s) 1 152 := by
  cases s with
  | inn r => exact shw_kind k_in h
  | arnd r => exact shw_kind k_ar h
  | apart => exact shw_kind k_ap (by decide)
theorem room_small {rs : List Int} {fo : List Pl} {x : Nat} (t : Tree rs fo) (hx : x < fo.length) : ∀ q ∈ above fo x, q.2.natAbs < 10 ^ 30 := by
  have key : ∀ (n : Nat) (p : Pl), (p = none ∨ p ∈ fo) → ∀ q ∈ climb fo n p, q.2.natAbs < 10 ^ 30 := by
    intro n
    induction n with
    | zero => intro p _ q hq; simp [climb] at hq
    | succ n ih =>
      intro p hp q hq
      cases p with
      | none => simp [climb] at hq
      | some z =>
        obtain ⟨h, r⟩ := z
        rcases List.mem_cons.mp hq with e | e
        · subst e
          have hm : some (h, r) ∈ fo := by
            rcases hp with z | z
            · cases z
            · exact z
          obtain ⟨i, hi, e2⟩ := List.getElem_of_mem hm
          have := t.pl i (some (h, r)) (by rw [List.getElem?_eq_getElem hi, e2])
          exact (pl_small t.rooms this h r rfl).2
        · obtain ⟨a1, a2, a3⟩ := inside_next t.inside hp rfl
          exact ih _ a3 q e
  exact key _ _ up_in
theorem sd_small {rs : List Int} {fo : List Pl} {x y : Nat} (t : Tree rs fo) (hx : x < fo.length) (hy : y < fo.length) : (sd fo x y).num.natAbs < 10 ^ 30 := by
  unfold sd
  cases h1 : hits y (above fo x) with
  | some q => exact room_small t hx q (hits_mem h1).1
  | none =>
    cases h2 : hits x (above fo y) with
    | some q => exact room_small t hy q (hits_mem h2).1
    | none => exact (by decide : (0 : Int).natAbs < 10 ^ 30)
theorem turn_num {s : Sd} : s.turn.num = s.num := by cases s <;> rfl
theorem shw_every {rs : List Int} {x y : Nat} (hr : RoomsOk rs) (hx : x < rs.length) (hy : y < rs.length) : Shw (.tuple (evD rs x y)) 2 2000 := by
  obtain ⟨a1, a2⟩ := rs_range hr hx
  obtain ⟨b1, b2⟩ := rs_range hr hy
  have z := shwL_all (ds := evD rs x y) (k := 1) (w := 152) fun d hd => by
    unfold evD at hd
    rcases List.mem_cons.mp hd with e | e
    · subst e; exact shw_sd (s := .apart) (by decide)
    · rcases List.mem_append.mp e with e | e
      · obtain ⟨d0, h0, rfl⟩ := List.mem_map.mp e
        obtain ⟨i, hi, rfl⟩ := rng_mem h0
        exact shw_kind k_in (num_small (by omega) (by omega))
      · obtain ⟨d0, h0, rfl⟩ := List.mem_map.mp e
        obtain ⟨i, hi, rfl⟩ := rng_mem h0
        exact shw_kind k_ar (num_small (by omega) (by omega))
  refine (shw_tup z).up (Nat.le_refl _) ?_
  have l : (evD rs x y).length ≤ 9 := by
    simp only [evD, List.length_cons, List.length_append, List.length_map, rng_len]
    omega
  exact Nat.le_trans (Nat.mul_le_mul_right _ l) (by decide)
theorem pair_right {rs : List Int} {fo : List Pl} {x y : Nat} {st : Store} (t : Tree rs fo) (hx : x < fo.length) (hy : y < fo.length) (h : x ≠ y) : f__law_pair_right [.d (pR rs), .d (pF fo), .d (.int x), .d (.int y)] st = .ok (.d (.bool true)) st := by
  have hl := t.len
  have s0 := law_standing_ok (st := st) t hx hy
  have s1 := standing_ok (st := st) t hx hy h
  have s2 := standing_ok (st := st) t hy hx (Ne.symm h)
  rw [sd_turn t] at s2
  have sm := sd_small t hx hy
  have c1 : canShow (pS (sd fo x y)) = true := (shw_sd sm).can (by decide) (by decide)
  have c2 : canShow (pS (sd fo x y).turn) = true := (shw_sd (by rw [turn_num]; exact sm)).can (by decide) (by decide)
  have c3 := (shw_every (x := x) (y := y) t.rooms (by omega) (by omega)).can (by decide) (by decide)
  have v1 := standings_ok (st := st) t.rooms (x := x) (y := y) (by omega) (by omega) h
  have v2 := law_every_ok (st := st) t.rooms (x := x) (y := y) (by omega) (by omega)
  obtain ⟨E, hE⟩ : ∃ E : Env', E = [some (.d (pR rs)), some (.d (pF fo)), some (.d (.int x)), some (.d (.int y)), some (.d (pS (sd fo x y)))] := ⟨_, rfl⟩
  have a1 : xFn kRepr (xCons (xCall 4 f_standing (xCons (xVar 0) (xCons (xVar 1) (xCons (xVar 2) (xCons (xVar 3) xNil))))) xNil) E st = .ok (.d (.str (pS (sd fo x y)).shown)) st := by
    subst hE; exact x_fn (x_cons (x_call (as := [.d (pR rs), .d (pF fo), .d (.int x), .d (.int y)]) rfl rfl s1) (g := xNil) rfl) (repr_ok c1)
  have a2 : xFn kRepr (xCons (xVar 4) xNil) E st = .ok (.d (.str (pS (sd fo x y)).shown)) st := by
    subst hE; exact x_fn (x_cons (f := xVar 4) rfl rfl) (repr_ok c1)
  have a3 : xFn kRepr (xCons (xCall 1 f_turned (xCons (xVar 4) xNil)) xNil) E st = .ok (.d (.str (pS (sd fo x y).turn).shown)) st := by
    subst hE; exact x_fn (x_cons (x_call (as := [.d (pS (sd fo x y))]) rfl rfl turned_ok) (g := xNil) rfl) (repr_ok c2)
  have a4 : xFn kRepr (xCons (xCall 1 f__law_turned (xCons (xVar 4) xNil)) xNil) E st = .ok (.d (.str (pS (sd fo x y).turn).shown)) st := by
    subst hE; exact x_fn (x_cons (x_call (as := [.d (pS (sd fo x y))]) rfl rfl law_turned_ok) (g := xNil) rfl) (repr_ok c2)
  have a5 : xFn kRepr (xCons (xCall 4 f_standing (xCons (xVar 0) (xCons (xVar 1) (xCons (xVar 3) (xCons (xVar 2) xNil))))) xNil) E st = .ok (.d (.str (pS (sd fo x y).turn).shown)) st := by
    subst hE; exact x_fn (x_cons (x_call (as := [.d (pR rs), .d (pF fo), .d (.int y), .d (.int x)]) rfl rfl s2) (g := xNil) rfl) (repr_ok c2)
  have a6 : xFn kRepr (xCons (xCall 3 f_standings (xCons (xVar 0) (xCons (xVar 2) (xCons (xVar 3) xNil)))) xNil) E st = .ok (.d (.str (PyData.tuple (evD rs x y)).shown)) st := by
    subst hE; exact x_fn (x_cons (x_call (as := [.d (pR rs), .d (.int x), .d (.int y)]) rfl rfl v1) (g := xNil) rfl) (repr_ok c3)
  have a7 : xFn kRepr (xCons (xFn kTuple (xCons (xCall 3 f__law_every (xCons (xVar 0) (xCons (xVar 2) (xCons (xVar 3) xNil)))) xNil)) xNil) E st = .ok (.d (.str (PyData.tuple (evD rs x y)).shown)) st := by
    subst hE; exact x_fn (x_cons (x_fn (x_cons (x_call (as := [.d (pR rs), .d (.int x), .d (.int y)]) rfl rfl v2) (g := xNil) rfl) (by rfl)) (g := xNil) rfl) (repr_ok c3)
  have b1 := x_op (k := oNeS) (c := .d (.bool false)) (st3 := st) a1 a2 (by simp [oNeS])
  have b2 := x_op (k := oNeS) (c := .d (.bool false)) (st3 := st) a3 a4 (by simp [oNeS])
  have b3 := x_op (k := oNeS) (c := .d (.bool false)) (st3 := st) a5 a4 (by simp [oNeS])
  have b4 := x_op (k := oEqS) (c := .d (.bool true)) (st3 := st) a6 a7 (by simp [oEqS])
  have t1 : tOrr (xB (xOp oNeS (xFn kRepr (xCons (xCall 4 f_standing (xCons (xVar 0) (xCons (xVar 1) (xCons (xVar 2) (xCons (xVar 3) xNil))))) xNil)) (xFn kRepr (xCons (xVar 4) xNil)))) (xB (xOp oNeS (xFn kRepr (xCons (xCall 1 f_turned (xCons (xVar 4) xNil)) xNil)) (xFn kRepr (xCons (xCall 1 f__law_turned (xCons (xVar 4) xNil)) xNil)))) E st = .ok false st := by
    unfold tOrr
    rw [t_b b1, bind_ok, if_neg Bool.false_ne_true, t_b b2]
  have w := fn_rt (keep := false) (n := 5) (u := u__law_pair_right) (args := [.d (pR rs), .d (pF fo), .d (.int x), .d (.int y)]) (st := st) (st2 := st) (d := .bool true) (by
    unfold u__law_pair_right
    refine (bc_nx (env2 := E) (st2 := st) ?_).trans ?_
    · rw [hE]
      exact s_set (i := 4) (env := [some (.d (pR rs)), some (.d (pF fo)), some (.d (.int x)), some (.d (.int y)), none]) (x_call (as := [.d (pF fo), .d (.int x), .d (.int y)]) rfl rfl s0)
    · exact (bc_nx ((s_ifF t1).trans rfl)).trans ((bc_nx ((s_ifF (t_b b3)).trans rfl)).trans (s_ret b4)))
  rw [List.take_length] at w
  exact w
end Nz

end
section
set_option Elab.async false
set_option linter.all false
set_option maxRecDepth 100000
set_option maxHeartbeats 2000000
namespace Nz
open PySem PySem.Spec PyProof.Rows L2
/-! ### odd places -/
theorem pow30 {st : Store} : oPow (.d (.int 10)) (.d (.int 30)) st = .ok (.d (.int 1000000000000000000000000000000)) st := rfl
theorem pow25 {st : Store} : oPow (.d (.int 10)) (.d (.int 25)) st = .ok (.d (.int 10000000000000000000000000)) st := rfl
theorem odd2 {a b : PyData} (ha : noD a = true) (hb : noD b = true) : OddP (.tuple [a, b]) := ⟨rfl, fun c d e => by cases e; exact ⟨ha, hb⟩⟩
theorem odd_n {p : PyData} (h : noD p = true) (hn : ∀ a b, p ≠ .tuple [a, b]) : OddP p := ⟨h, fun a b e => absurd e (hn a b)⟩
theorem take_nat {st : Store} {n : Nat} {t : Int} (hs : Src st n) (ht : Top t) : ∃ (r : Int) (st' : Store), (∀ (E : Env') (f : Ex), E[0]? = some (some (.ref n)) → f E st = .ok (.d (.int t)) st → xCall 2 f__law_take (xCons (xVar 0) (xCons f xNil)) E st = .ok (.d (.int r)) st') ∧ Draw st st' n ∧ 0 ≤ r ∧ r < t := by
  obtain ⟨r, st', e, d, r0, r1⟩ := take_ok hs ht
  refine ⟨r, st', fun E f h0 hf => ?_, d, r0, r1⟩
  have v0 : xVar 0 E st = .ok (.ref n) st := by unfold xVar; rw [h0]
  exact x_call (as := [.ref n, .d (.int t)]) (x_cons v0 (x_cons hf (g := xNil) rfl)) rfl e
theorem one_of {E : Env'} {L : Ex} {ds : List PyData} {st : Store} {n : Nat} (h0 : E[0]? = some (some (.ref n))) (hs : Src st n) (hL : L E st = .ok (.d (.list ds)) st) (l0 : 0 < ds.length) (l1 : ds.length ≤ 1000) :
    ∃ d st', xCall 2 f__law_one (xCons (xVar 0) (xCons L xNil)) E st = .ok (.d d) st' ∧ Draw st st' n ∧ d ∈ ds := by
  obtain ⟨r, d, st', e, dr, hr⟩ := one_ok hs l0 l1
  have v0 : xVar 0 E st = .ok (.ref n) st := by unfold xVar; rw [h0]
  exact ⟨d, st', x_call (as := [.ref n, .d (.list ds)]) (x_cons v0 (x_cons hL (g := xNil) rfl)) rfl e, dr, List.mem_of_getElem? hr⟩
theorem oddp_ok {rs : List Int} {st : Store} {n : Nat} (hr : RoomsOk rs) (hs : Src st n) : ∃ p st', f__law_odd [.ref n, .d (pR rs)] st = .ok (.d p) st' ∧ Draw st st' n ∧ OddP p := by
  obtain ⟨y1, s1, e1, d1, _, _⟩ := take_nat (t := (rs.length : Int) + 1) hs (top_small (by omega) (by have := hr.1; omega))
  obtain ⟨z, s2, e2, d2, _, _⟩ := take_nat (t := 3) d1.src (top_small (by decide) (by decide))
  obtain ⟨room, s3, e3, d3, _, _⟩ := take_nat (t := 5) d2.src (top_small (by decide) (by decide))
  obtain ⟨w, s4, e4, d4, w0, w1⟩ := take_nat (t := 10) d3.src (top_small (by decide) (by decide))
  obtain ⟨y, hy⟩ : ∃ y : Int, y = y1 - (if z = 0 then 1 else 0) := ⟨_, rfl⟩
  have da : Draw st s4 n := d1.trans (d2.trans (d3.trans d4))
  have a1 : sSet 2 (xOp oSub (xCall 2 f__law_take (xCons (xVar 0) (xCons (xOp oAdd (xFn kLen (xCons (xVar 1) xNil)) (xC (.int 1))) xNil))) (xFn kInt (xCons (xOp oEqS (xCall 2 f__law_take (xCons (xVar 0) (xCons (xC (.int 3)) xNil))) (xC (.int 0))) xNil)))
      [some (.ref n), some (.d (pR rs)), none, none, none] st = .ok (.nx [some (.ref n), some (.d (pR rs)), some (.d (.int y)), none, none]) s2 := by
    have b1 := e1 [some (.ref n), some (.d (pR rs)), none, none, none] (xOp oAdd (xFn kLen (xCons (xVar 1) xNil)) (xC (.int 1))) rfl (by simp [xVar, xC, xNil, xCons, xTup, xLst, xLstR, disp, xOp, xChain, iOp, oSub, oMod, oLt, oLe, oGt, oGe, oAdd, oEqS, oNeS, oIn, oIs, xB, xTru, tNt, tAn, tOrr, xNt, xAn, xOr, xIf, xUn, oNeg, oIx, xSl, pNo, pAt, oSl, xFn, kLen, kInt, kMax2, kTuple, kList, kListR, kRepr, xIsi, isN, tyN, view, frz, frzAll, wSeq, wEnm, gN, gs0, gs1, gT, bNil, bCons, thenB, sExp, sRet, sIf, sSet, sTup, sPar, sSub, sSub2, putAt, sRaise, fin, retV, entry, fnO, xCall, xApp, xPopAt, yes, sb, tru, isNon, ownOf, oAddL])
    have b2 := e2 [some (.ref n), some (.d (pR rs)), none, none, none] (xC (.int 3)) rfl rfl
    have b3 := x_op (k := oEqS) (g := xC (.int 0)) (c := .d (.bool (decide (z = 0)))) (st3 := s2) b2 rfl (by simp [oEqS])
    have b4 : xFn kInt (xCons (xOp oEqS (xCall 2 f__law_take (xCons (xVar 0) (xCons (xC (.int 3)) xNil))) (xC (.int 0))) xNil) [some (.ref n), some (.d (pR rs)), none, none, none] s1 = .ok (.d (.int (if z = 0 then 1 else 0))) s2 :=
      x_fn (x_cons b3 (g := xNil) rfl) (by by_cases hz : z = 0 <;> simp [kInt, hz])
    exact (s_set (i := 2) (x_op (k := oSub) (c := .d (.int y)) (st3 := s2) b1 b4 (by rw [hy]; rfl)))
  have a2 : sPar 3 4 (xCons (xCall 2 f__law_take (xCons (xVar 0) (xCons (xC (.int 5)) xNil))) (xCons (xCall 2 f__law_take (xCons (xVar 0) (xCons (xC (.int 10)) xNil))) xNil)) [some (.ref n), some (.d (pR rs)), some (.d (.int y)), none, none] s2 =
      .ok (.nx [some (.ref n), some (.d (pR rs)), some (.d (.int y)), some (.d (.int room)), some (.d (.int w))]) s4 := by
    have b := x_cons (e3 [some (.ref n), some (.d (pR rs)), some (.d (.int y)), none, none] (xC (.int 5)) rfl rfl) (x_cons (e4 [some (.ref n), some (.d (pR rs)), some (.d (.int y)), none, none] (xC (.int 10)) rfl rfl) (g := xNil) rfl)
    unfold sPar
    rw [b, sb_ok]
    rfl
  obtain ⟨E, hE⟩ : ∃ E : Env', E = [some (.ref n), some (.d (pR rs)), some (.d (.int y)), some (.d (.int room)), some (.d (.int w))] := ⟨_, rfl⟩
  have E0 : E[0]? = some (some (.ref n)) := by rw [hE]; rfl
  have cond : ∀ k : Int, xB (xOp oEqS (xVar 4) (xC (.int k))) E s4 = .ok (decide (w = k)) s4 := fun k => by subst hE; simp [xVar, xC, xNil, xCons, xTup, xLst, xLstR, disp, xOp, xChain, iOp, oSub, oMod, oLt, oLe, oGt, oGe, oAdd, oEqS, oNeS, oIn, oIs, xB, xTru, tNt, tAn, tOrr, xNt, xAn, xOr, xIf, xUn, oNeg, oIx, xSl, pNo, pAt, oSl, xFn, kLen, kInt, kMax2, kTuple, kList, kListR, kRepr, xIsi, isN, tyN, view, frz, frzAll, wSeq, wEnm, gN, gs0, gs1, gT, bNil, bCons, thenB, sExp, sRet, sIf, sSet, sTup, sPar, sSub, sSub2, putAt, sRaise, fin, retV, entry, fnO, xCall, xApp, xPopAt, yes, sb, tru, isNon, ownOf, oAddL]
  have cond4 : xB (xOp oLt (xVar 4) (xC (.int 4))) E s4 = .ok (decide (w < 4)) s4 := by subst hE; simp [xVar, xC, xNil, xCons, xTup, xLst, xLstR, disp, xOp, xChain, iOp, oSub, oMod, oLt, oLe, oGt, oGe, oAdd, oEqS, oNeS, oIn, oIs, xB, xTru, tNt, tAn, tOrr, xNt, xAn, xOr, xIf, xUn, oNeg, oIx, xSl, pNo, pAt, oSl, xFn, kLen, kInt, kMax2, kTuple, kList, kListR, kRepr, xIsi, isN, tyN, view, frz, frzAll, wSeq, wEnm, gN, gs0, gs1, gT, bNil, bCons, thenB, sExp, sRet, sIf, sSet, sTup, sPar, sSub, sSub2, putAt, sRaise, fin, retV, entry, fnO, xCall, xApp, xPopAt, yes, sb, tru, isNon, ownOf, oAddL]
  have fin : ∀ (p : PyData) (s5 : Store), Draw s4 s5 n → (u__law_odd [some (.ref n), some (.d (pR rs)), none, none, none] st = .ok (.rt (.d p)) s5) → OddP p → ∃ p st', f__law_odd [.ref n, .d (pR rs)] st = .ok (.d p) st' ∧ Draw st st' n ∧ OddP p := fun p s5 d5 h ho => by
    have z := fn_rt (keep := false) (n := 5) (u := u__law_odd) (args := [.ref n, .d (pR rs)]) (st := st) (st2 := s5) (d := p) h
    have dd := da.trans d5
    rw [List.take_of_length_le (by rw [dd.len]; exact Nat.le_refl _)] at z
    exact ⟨p, s5, z, dd, ho⟩
  have go : ∀ {r : Out Fl}, bCons (sIf (xB (xOp oLt (xVar 4) (xC (.int 4)))) (sRet (xTup (xCons (xVar 2) (xCons (xVar 3) xNil)))) bNil) (bCons (sIf (xB (xOp oEqS (xVar 4) (xC (.int 4)))) (sRet (xCall 2 f__law_one (xCons (xVar 0) (xCons (xLst (xCons (xC .none) (xCons (xTup (xCons (xVar 2) (xCons (xUn oNeg (xC (.int 1))) xNil))) (xCons (xTup (xCons (xUn oNeg (xC (.int 1))) (xCons (xVar 3) xNil))) xNil)))) xNil)))) bNil)
    (bCons (sIf (xB (xOp oEqS (xVar 4) (xC (.int 5)))) (sRet (xCall 2 f__law_one (xCons (xVar 0) (xCons (xLst (xCons (xTup (xCons (xVar 2) xNil)) (xCons (xTup (xCons (xVar 2) (xCons (xVar 3) (xCons (xVar 3) xNil)))) (xCons (xTup xNil) xNil)))) xNil)))) bNil)
    (bCons (sIf (xB (xOp oEqS (xVar 4) (xC (.int 6)))) (sRet (xCall 2 f__law_one (xCons (xVar 0) (xCons (xLst (xCons (xC (.str "")) (xCons (xVar 2) (xCons (xC (.str "01")) (xCons (xTup (xCons (xTup (xCons (xVar 2) (xCons (xVar 3) xNil))) xNil)) xNil))))) xNil)))) bNil)
    (bCons (sIf (xB (xOp oEqS (xVar 4) (xC (.int 7)))) (sRet (xCall 2 f__law_one (xCons (xVar 0) (xCons (xLst (xCons (xTup (xCons (xC (.bool true)) (xCons (xC (.int 0)) xNil))) (xCons (xTup (xCons (xC (.bool false)) (xCons (xC (.int 0)) xNil))) (xCons (xTup (xCons (xVar 2) (xCons (xC (.bool false)) xNil))) (xCons (xTup (xCons (xVar 2) (xCons (xC (.bool true)) xNil))) xNil))))) xNil)))) bNil)
    (bCons (sIf (xB (xOp oEqS (xVar 4) (xC (.int 8)))) (sRet (xCall 2 f__law_one (xCons (xVar 0) (xCons (xLst (xCons (xTup (xCons (xVar 2) (xCons (xC .none) xNil))) (xCons (xTup (xCons (xC .none) (xCons (xVar 3) xNil))) (xCons (xTup (xCons (xC (.str "0")) (xCons (xVar 3) xNil))) (xCons (xTup (xCons (xVar 2) (xCons (xC (.str "0")) xNil))) xNil))))) xNil)))) bNil)
    (sRet (xCall 2 f__law_one (xCons (xVar 0) (xCons (xLst (xCons (xTup (xCons (xVar 2) (xCons (xOp oPow (xC (.int 10)) (xC (.int 30))) xNil))) (xCons (xTup (xCons (xOp oAdd (xVar 2) (xOp oPow (xC (.int 10)) (xC (.int 30)))) (xCons (xVar 3) xNil))) (xCons (xTup (xCons (xVar 2) (xCons (xOp oSub (xVar 3) (xOp oPow (xC (.int 10)) (xC (.int 30)))) xNil))) xNil)))) xNil)))))))))  E s4 = r →
      u__law_odd [some (.ref n), some (.d (pR rs)), none, none, none] st = r := fun h => by
    unfold u__law_odd
    rw [bc_nx a1, bc_nx a2, ← hE]
    exact h
  have no : ∀ (k : Int) (u v : Sx), w ≠ k → bCons (sIf (xB (xOp oEqS (xVar 4) (xC (.int k)))) u bNil) v E s4 = v E s4 := fun k u v h => bc_nx ((s_ifF (by rw [cond, decide_eq_false h])).trans rfl)
  have yes' : ∀ (k : Int) (u v : Sx) (p : EV) (s5 : Store), w = k → u E s4 = .ok (.rt p) s5 → bCons (sIf (xB (xOp oEqS (xVar 4) (xC (.int k)))) u bNil) v E s4 = .ok (.rt p) s5 := fun k u v p s5 h hu => bc_rt ((s_ifT (by rw [cond, decide_eq_true h])).trans hu)
  by_cases h4 : w < 4
  · refine fin _ s4 (Draw.refl da.src) (go (bc_rt ((s_ifT (by rw [cond4, decide_eq_true h4])).trans (s_ret (a := .d (.tuple [.int y, .int room])) (by subst hE; simp [xVar, xC, xNil, xCons, xTup, xLst, xLstR, disp, xOp, xChain, iOp, oSub, oMod, oLt, oLe, oGt, oGe, oAdd, oEqS, oNeS, oIn, oIs, xB, xTru, tNt, tAn, tOrr, xNt, xAn, xOr, xIf, xUn, oNeg, oIx, xSl, pNo, pAt, oSl, xFn, kLen, kInt, kMax2, kTuple, kList, kListR, kRepr, xIsi, isN, tyN, view, frz, frzAll, wSeq, wEnm, gN, gs0, gs1, gT, bNil, bCons, thenB, sExp, sRet, sIf, sSet, sTup, sPar, sSub, sSub2, putAt, sRaise, fin, retV, entry, fnO, xCall, xApp, xPopAt, yes, sb, tru, isNon, ownOf, oAddL]))))) (odd2 rfl rfl)
  have g0 : ∀ v : Sx, bCons (sIf (xB (xOp oLt (xVar 4) (xC (.int 4)))) (sRet (xTup (xCons (xVar 2) (xCons (xVar 3) xNil)))) bNil) v E s4 = v E s4 := fun v => bc_nx ((s_ifF (by rw [cond4, decide_eq_false h4])).trans rfl)
  by_cases k4 : w = 4
  · obtain ⟨d, s5, eo, dr, hm⟩ := one_of (L := xLst (xCons (xC .none) (xCons (xTup (xCons (xVar 2) (xCons (xUn oNeg (xC (.int 1))) xNil))) (xCons (xTup (xCons (xUn oNeg (xC (.int 1))) (xCons (xVar 3) xNil))) xNil)))) (ds := [.none, .tuple [.int y, .int (-1)], .tuple [.int (-1), .int room]]) E0 d4.src (by subst hE; simp [xVar, xC, xNil, xCons, xTup, xLst, xLstR, disp, xOp, xChain, iOp, oSub, oMod, oLt, oLe, oGt, oGe, oAdd, oEqS, oNeS, oIn, oIs, xB, xTru, tNt, tAn, tOrr, xNt, xAn, xOr, xIf, xUn, oNeg, oIx, xSl, pNo, pAt, oSl, xFn, kLen, kInt, kMax2, kTuple, kList, kListR, kRepr, xIsi, isN, tyN, view, frz, frzAll, wSeq, wEnm, gN, gs0, gs1, gT, bNil, bCons, thenB, sExp, sRet, sIf, sSet, sTup, sPar, sSub, sSub2, putAt, sRaise, fin, retV, entry, fnO, xCall, xApp, xPopAt, yes, sb, tru, isNon, ownOf, oAddL]) (by simp) (by simp)
    refine fin d s5 dr (go ((g0 _).trans (yes' 4 _ _ _ _ k4 (s_ret eo)))) ?_
    simp only [List.mem_cons, List.not_mem_nil, or_false] at hm
    rcases hm with rfl | rfl | rfl
    · exact odd_n rfl fun a b e => by cases e
    · exact odd2 rfl rfl
    · exact odd2 rfl rfl
  by_cases k5 : w = 5
  · obtain ⟨d, s5, eo, dr, hm⟩ := one_of (L := xLst (xCons (xTup (xCons (xVar 2) xNil)) (xCons (xTup (xCons (xVar 2) (xCons (xVar 3) (xCons (xVar 3) xNil)))) (xCons (xTup xNil) xNil)))) (ds := [.tuple [.int y], .tuple [.int y, .int room, .int room], .tuple []]) E0 d4.src (by subst hE; simp [xVar, xC, xNil, xCons, xTup, xLst, xLstR, disp, xOp, xChain, iOp, oSub, oMod, oLt, oLe, oGt, oGe, oAdd, oEqS, oNeS, oIn, oIs, xB, xTru, tNt, tAn, tOrr, xNt, xAn, xOr, xIf, xUn, oNeg, oIx, xSl, pNo, pAt, oSl, xFn, kLen, kInt, kMax2, kTuple, kList, kListR, kRepr, xIsi, isN, tyN, view, frz, frzAll, wSeq, wEnm, gN, gs0, gs1, gT, bNil, bCons, thenB, sExp, sRet, sIf, sSet, sTup, sPar, sSub, sSub2, putAt, sRaise, fin, retV, entry, fnO, xCall, xApp, xPopAt, yes, sb, tru, isNon, ownOf, oAddL]) (by simp) (by simp)
    refine fin d s5 dr (go ((g0 _).trans ((no 4 _ _ k4).trans (yes' 5 _ _ _ _ k5 (s_ret eo))))) ?_
    simp only [List.mem_cons, List.not_mem_nil, or_false] at hm
    rcases hm with rfl | rfl | rfl <;> exact odd_n rfl fun a b e => by cases e
  by_cases k6 : w = 6
  · obtain ⟨d, s5, eo, dr, hm⟩ := one_of (L := xLst (xCons (xC (.str "")) (xCons (xVar 2) (xCons (xC (.str "01")) (xCons (xTup (xCons (xTup (xCons (xVar 2) (xCons (xVar 3) xNil))) xNil)) xNil))))) (ds := [.str "", .int y, .str "01", .tuple [.tuple [.int y, .int room]]]) E0 d4.src (by subst hE; simp [xVar, xC, xNil, xCons, xTup, xLst, xLstR, disp, xOp, xChain, iOp, oSub, oMod, oLt, oLe, oGt, oGe, oAdd, oEqS, oNeS, oIn, oIs, xB, xTru, tNt, tAn, tOrr, xNt, xAn, xOr, xIf, xUn, oNeg, oIx, xSl, pNo, pAt, oSl, xFn, kLen, kInt, kMax2, kTuple, kList, kListR, kRepr, xIsi, isN, tyN, view, frz, frzAll, wSeq, wEnm, gN, gs0, gs1, gT, bNil, bCons, thenB, sExp, sRet, sIf, sSet, sTup, sPar, sSub, sSub2, putAt, sRaise, fin, retV, entry, fnO, xCall, xApp, xPopAt, yes, sb, tru, isNon, ownOf, oAddL]) (by simp) (by simp)
    refine fin d s5 dr (go ((g0 _).trans ((no 4 _ _ k4).trans ((no 5 _ _ k5).trans (yes' 6 _ _ _ _ k6 (s_ret eo)))))) ?_
    simp only [List.mem_cons, List.not_mem_nil, or_false] at hm
    rcases hm with rfl | rfl | rfl | rfl <;> exact odd_n rfl fun a b e => by cases e
  by_cases k7 : w = 7
  · obtain ⟨d, s5, eo, dr, hm⟩ := one_of (L := xLst (xCons (xTup (xCons (xC (.bool true)) (xCons (xC (.int 0)) xNil))) (xCons (xTup (xCons (xC (.bool false)) (xCons (xC (.int 0)) xNil))) (xCons (xTup (xCons (xVar 2) (xCons (xC (.bool false)) xNil))) (xCons (xTup (xCons (xVar 2) (xCons (xC (.bool true)) xNil))) xNil))))) (ds := [.tuple [.bool true, .int 0], .tuple [.bool false, .int 0], .tuple [.int y, .bool false], .tuple [.int y, .bool true]]) E0 d4.src (by subst hE; simp [xVar, xC, xNil, xCons, xTup, xLst, xLstR, disp, xOp, xChain, iOp, oSub, oMod, oLt, oLe, oGt, oGe, oAdd, oEqS, oNeS, oIn, oIs, xB, xTru, tNt, tAn, tOrr, xNt, xAn, xOr, xIf, xUn, oNeg, oIx, xSl, pNo, pAt, oSl, xFn, kLen, kInt, kMax2, kTuple, kList, kListR, kRepr, xIsi, isN, tyN, view, frz, frzAll, wSeq, wEnm, gN, gs0, gs1, gT, bNil, bCons, thenB, sExp, sRet, sIf, sSet, sTup, sPar, sSub, sSub2, putAt, sRaise, fin, retV, entry, fnO, xCall, xApp, xPopAt, yes, sb, tru, isNon, ownOf, oAddL]) (by simp) (by simp)
    refine fin d s5 dr (go ((g0 _).trans ((no 4 _ _ k4).trans ((no 5 _ _ k5).trans ((no 6 _ _ k6).trans (yes' 7 _ _ _ _ k7 (s_ret eo))))))) ?_
    simp only [List.mem_cons, List.not_mem_nil, or_false] at hm
    rcases hm with rfl | rfl | rfl | rfl <;> exact odd2 rfl rfl
  by_cases k8 : w = 8
  · obtain ⟨d, s5, eo, dr, hm⟩ := one_of (L := xLst (xCons (xTup (xCons (xVar 2) (xCons (xC .none) xNil))) (xCons (xTup (xCons (xC .none) (xCons (xVar 3) xNil))) (xCons (xTup (xCons (xC (.str "0")) (xCons (xVar 3) xNil))) (xCons (xTup (xCons (xVar 2) (xCons (xC (.str "0")) xNil))) xNil))))) (ds := [.tuple [.int y, .none], .tuple [.none, .int room], .tuple [.str "0", .int room], .tuple [.int y, .str "0"]]) E0 d4.src (by subst hE; simp [xVar, xC, xNil, xCons, xTup, xLst, xLstR, disp, xOp, xChain, iOp, oSub, oMod, oLt, oLe, oGt, oGe, oAdd, oEqS, oNeS, oIn, oIs, xB, xTru, tNt, tAn, tOrr, xNt, xAn, xOr, xIf, xUn, oNeg, oIx, xSl, pNo, pAt, oSl, xFn, kLen, kInt, kMax2, kTuple, kList, kListR, kRepr, xIsi, isN, tyN, view, frz, frzAll, wSeq, wEnm, gN, gs0, gs1, gT, bNil, bCons, thenB, sExp, sRet, sIf, sSet, sTup, sPar, sSub, sSub2, putAt, sRaise, fin, retV, entry, fnO, xCall, xApp, xPopAt, yes, sb, tru, isNon, ownOf, oAddL]) (by simp) (by simp)
    refine fin d s5 dr (go ((g0 _).trans ((no 4 _ _ k4).trans ((no 5 _ _ k5).trans ((no 6 _ _ k6).trans ((no 7 _ _ k7).trans (yes' 8 _ _ _ _ k8 (s_ret eo)))))))) ?_
    simp only [List.mem_cons, List.not_mem_nil, or_false] at hm
    rcases hm with rfl | rfl | rfl | rfl <;> exact odd2 rfl rfl
  obtain ⟨d, s5, eo, dr, hm⟩ := one_of (L := xLst (xCons (xTup (xCons (xVar 2) (xCons (xOp oPow (xC (.int 10)) (xC (.int 30))) xNil))) (xCons (xTup (xCons (xOp oAdd (xVar 2) (xOp oPow (xC (.int 10)) (xC (.int 30)))) (xCons (xVar 3) xNil))) (xCons (xTup (xCons (xVar 2) (xCons (xOp oSub (xVar 3) (xOp oPow (xC (.int 10)) (xC (.int 30)))) xNil))) xNil))))
    (ds := [.tuple [.int y, .int 1000000000000000000000000000000], .tuple [.int (y + 1000000000000000000000000000000), .int room], .tuple [.int y, .int (room - 1000000000000000000000000000000)]]) E0 d4.src (by subst hE; simp [xVar, xC, xNil, xCons, xTup, xLst, xLstR, disp, xOp, xChain, iOp, oSub, oMod, oLt, oLe, oGt, oGe, oAdd, oEqS, oNeS, oIn, oIs, xB, xTru, tNt, tAn, tOrr, xNt, xAn, xOr, xIf, xUn, oNeg, oIx, xSl, pNo, pAt, oSl, xFn, kLen, kInt, kMax2, kTuple, kList, kListR, kRepr, xIsi, isN, tyN, view, frz, frzAll, wSeq, wEnm, gN, gs0, gs1, gT, bNil, bCons, thenB, sExp, sRet, sIf, sSet, sTup, sPar, sSub, sSub2, putAt, sRaise, fin, retV, entry, fnO, xCall, xApp, xPopAt, yes, sb, tru, isNon, ownOf, oAddL, pow30]) (by simp) (by simp)
  refine fin d s5 dr (go ((g0 _).trans ((no 4 _ _ k4).trans ((no 5 _ _ k5).trans ((no 6 _ _ k6).trans ((no 7 _ _ k7).trans ((no 8 _ _ k8).trans (s_ret eo)))))))) ?_
  simp only [List.mem_cons, List.not_mem_nil, or_false] at hm
  rcases hm with rfl | rfl | rfl <;> exact odd2 rfl rfl
end Nz

end
section
set_option Elab.async false
set_option linter.all false
set_option maxRecDepth 100000
set_option maxHeartbeats 2000000
namespace Nz
open PySem PySem.Spec PyProof.Rows L2
/-! ### forests bent -/
theorem sub_ok {F O K : Ex} {env : Env'} {st st1 st2 : Store} {d : PyData} {L : Nat} {i : Int} {ps : List PyData} (hF : F env st = .ok (.d d) st1) (hO : O env st1 = .ok (.ref L) st1) (hK : K env st1 = .ok (.d (.int i)) st2) (hp : st2[L]? = some (some ps)) (h0 : 0 ≤ i) (h1 : i < ps.length) :
    sSub F O K env st = .ok (.nx env) (st2.set L (some (ps.set i.toNat d))) := by
  obtain ⟨k, rfl⟩ := Int.eq_ofNat_of_zero_le h0
  unfold sSub
  rw [hF, sb_ok, hO, sb_ok, hK, sb_ok]
  dsimp only [frz]
  rw [hp]
  dsimp only
  rw [ixN_nat (by omega)]
  rfl
theorem set_odd {ps : List PyData} {i : Nat} {d : PyData} (h : ∀ p ∈ ps, OddP p) (hd : OddP d) : ∀ p ∈ ps.set i d, OddP p := fun p hp => by
  rcases List.mem_or_eq_of_mem_set hp with z | z
  · exact h p z
  · rw [z]; exact hd
abbrev bE (n : Nat) (rs : List Int) (fo : List Pl) (c3 c4 c5 c6 c7 c8 : Option EV) : Env' := [some (.ref n), some (.d (pR rs)), some (.d (pF fo)), c3, c4, c5, c6, c7, c8]
theorem bent_turn {rs : List Int} {fo : List Pl} {n : Nat} {b : Store} {ps : List PyData} {c3 c5 c6 c7 c8 : Option EV} (hr : RoomsOk rs) (hpos : 0 < rs.length) (hs : Src b n) (hl : ps.length = rs.length) (ho : ∀ p ∈ ps, OddP p) :
    ∃ b' ps', fb__law_bent_right_1 (bE n rs fo c3 (some (.ref b.length)) c5 c6 c7 c8) (b ++ [some ps]) = .ok (.nx (bE n rs fo c3 (some (.ref b.length)) c5 c6 c7 c8)) (b' ++ [some ps']) ∧ Draw b b' n ∧ ps'.length = rs.length ∧ ∀ p ∈ ps', OddP p := by
  obtain ⟨d, s1, e1, d1, hd⟩ := oddp_ok (rs := rs) (st := b ++ [some ps]) hr (src_app hs)
  obtain ⟨b1, rfl, d1'⟩ := draw_app hs d1
  obtain ⟨i, s2, e2, d2, i0, i1⟩ := take_nat (st := b1 ++ [some ps]) (t := rs.length) (src_app d1'.src) (top_small (by omega) (by have := hr.1; omega))
  obtain ⟨b2, rfl, d2'⟩ := draw_app d1'.src d2
  have dd : Draw b b2 n := d1'.trans d2'
  refine ⟨b2, ps.set i.toNat d, ?_, dd, by rw [List.length_set]; exact hl, set_odd ho hd⟩
  unfold fb__law_bent_right_1
  have z := sub_ok (F := xCall 2 f__law_odd (xCons (xVar 0) (xCons (xVar 1) xNil))) (O := xVar 4) (K := xCall 2 f__law_take (xCons (xVar 0) (xCons (xFn kLen (xCons (xVar 1) xNil)) xNil))) (env := bE n rs fo c3 (some (.ref b.length)) c5 c6 c7 c8) (L := b.length) (i := i) (ps := ps)
    (x_call (as := [.ref n, .d (pR rs)]) rfl rfl e1) rfl (e2 _ _ rfl (len1 rfl)) (get_last (by rw [dd.len])) i0 (by omega)
  rw [z, set_last (by rw [dd.len])]
theorem bent_loop {rs : List Int} {fo : List Pl} {n m : Nat} {b : Store} {ps : List PyData} {c5 c6 c7 c8 : Option EV} (hm : m ≤ 10) (hr : RoomsOk rs) (hpos : 0 < rs.length) (hs : Src b n) (hl : ps.length = rs.length) (ho : ∀ p ∈ ps, OddP p) :
    ∃ c5' b' ps', fl__law_bent_right_2 (bE n rs fo (some (.d (.int m))) (some (.ref b.length)) c5 c6 c7 c8) (b ++ [some ps]) = .ok (.nx (bE n rs fo (some (.d (.int m))) (some (.ref b.length)) c5' c6 c7 c8)) (b' ++ [some ps']) ∧ Draw b b' n ∧ ps'.length = rs.length ∧ ∀ p ∈ ps', OddP p := by
  have hw := wRng1_ok (f := xVar 3) (env := bE n rs fo (some (.d (.int m))) (some (.ref b.length)) c5 c6 c7 c8) (st := b ++ [some ps]) (st' := b ++ [some ps]) (j := m) rfl (by omega) (by omega)
  rw [Int.toNat_natCast] at hw
  unfold fl__law_bent_right_2
  obtain ⟨r, s', e, c5', b', ps', h1, h2, h3, h4, h5⟩ := sFor_run (t := gN 5) (u := fb__law_bent_right_1) (R := fun r s' => ∃ c5' b' ps', r = .nx (bE n rs fo (some (.d (.int m))) (some (.ref b.length)) c5' c6 c7 c8) ∧ s' = b' ++ [some ps'] ∧ Draw b b' n ∧ ps'.length = rs.length ∧ ∀ p ∈ ps', OddP p) hw
    (fun i env s => ∃ c5' b' ps', env = bE n rs fo (some (.d (.int m))) (some (.ref b.length)) c5' c6 c7 c8 ∧ s = b' ++ [some ps'] ∧ Draw b b' n ∧ ps'.length = rs.length ∧ ∀ p ∈ ps', OddP p) ⟨c5, b, ps, rfl, rfl, Draw.refl hs, hl, ho⟩
    (fun i d env s hd ⟨c, b1, ps1, h1, h2, h3, h4, h5⟩ => by
      subst h1 h2
      obtain ⟨b2, ps2, e2, d2, l2, o2⟩ := bent_turn (fo := fo) (c3 := some (.d (.int m))) (c5 := some (.d d)) (c6 := c6) (c7 := c7) (c8 := c8) hr hpos h3.src h4 h5
      rw [h3.len] at e2
      exact ⟨_, rfl, _, _, e2, _, b2, ps2, rfl, rfl, h3.trans d2, l2, o2⟩)
    (fun env s ⟨c, b1, ps1, h1, h2, h3⟩ => ⟨c, b1, ps1, by rw [h1], h2, h3⟩)
  subst h1 h2
  exact ⟨c5', b', ps', e, h3, h4, h5⟩
/-- the test of a bent forest -/
theorem right_test {rs : List Int} {F : PyData} {G : Ex} {E : Env'} {st : Store} (hr : RoomsOk rs) (h : OddF F) (h1 : E[1]? = some (some (.d (pR rs)))) (hG : G E st = .ok (.d F) st) :
    sIf (tNt (xB (xCall 2 f__law_is_made_right (xCons (xVar 1) (xCons G xNil))))) (sRet (xC (.bool false))) bNil E st = .ok (.nx E) st := by
  have v1 : xVar 1 E st = .ok (.d (pR rs)) st := by unfold xVar; rw [h1]
  exact (s_ifF (t_nt (t_b (x_call (as := [.d (pR rs), .d F]) (x_cons v1 (x_cons hG (g := xNil) rfl)) rfl (made_right hr h))))).trans rfl
theorem oddF_tup {ps : List PyData} (h : ∀ p ∈ ps, OddP p) : OddF (.tuple ps) := ⟨rfl, fun qs e => by cases e; exact h⟩
theorem tuple_of {E : Env'} {st : Store} {L : Nat} {ps : List PyData} (h4 : E[4]? = some (some (.ref L))) (hL : st[L]? = some (some ps)) : xFn kTuple (xCons (xVar 4) xNil) E st = .ok (.d (.tuple ps)) st := by
  have v4 : xVar 4 E st = .ok (.ref L) st := by unfold xVar; rw [h4]
  refine x_fn (x_cons v4 (g := xNil) rfl) ?_
  simp [kTuple, view, hL]
theorem src_snoc {b : Store} {n : Nat} {x : Option (List PyData)} (h : Src b n) : Src (b ++ [x]) n := src_app h
theorem bent_many {rs : List Int} {fo : List Pl} {n : Nat} {st : Store} (t : Tree rs fo) (hpos : 0 < rs.length) (hs : Src st n) :
    ∃ c3 c4 c5 st', fl__law_bent_right_4 (bE n rs fo none none none none none none) st = .ok (.nx (bE n rs fo c3 c4 c5 none none none)) st' ∧ Src st' n ∧ st.length ≤ st'.length := by
  have hw : wSeq (xLst (xCons (xC (.int 1)) (xCons (xC (.int 2)) xNil))) (bE n rs fo none none none none none none) st = .ok ([.int 1, .int 2], none) st := by simp [xVar, xC, xNil, xCons, xTup, xLst, xLstR, disp, xOp, xChain, iOp, oSub, oMod, oLt, oLe, oGt, oGe, oAdd, oEqS, oNeS, oIn, oIs, xB, xTru, tNt, tAn, tOrr, xNt, xAn, xOr, xIf, xUn, oNeg, oIx, xSl, pNo, pAt, oSl, xFn, kLen, kInt, kMax2, kTuple, kList, kListR, kRepr, xIsi, isN, tyN, view, frz, frzAll, wSeq, wEnm, gN, gs0, gs1, gT, bNil, bCons, thenB, sExp, sRet, sIf, sSet, sTup, sPar, sSub, sSub2, putAt, sRaise, fin, retV, entry, fnO, xCall, xApp, xPopAt, yes, sb, tru, isNon, ownOf, oAddL]
  unfold fl__law_bent_right_4
  obtain ⟨r, s', e, ⟨c3, c4, c5, h1⟩, h2, h3⟩ := sFor_run (t := gN 3) (u := fb__law_bent_right_3) (R := fun r s' => (∃ c3 c4 c5, r = .nx (bE n rs fo c3 c4 c5 none none none)) ∧ Src s' n ∧ st.length ≤ s'.length) hw
    (fun i env s => (∃ c3 c4 c5, env = bE n rs fo c3 c4 c5 none none none) ∧ Src s n ∧ st.length ≤ s.length) ⟨⟨_, _, _, rfl⟩, hs, Nat.le_refl _⟩
    (fun i d env s hd ⟨⟨c3, c4, c5, h1⟩, h2, h3⟩ => by
      subst h1
      obtain ⟨m, rfl, hm⟩ : ∃ m : Nat, d = .int m ∧ m ≤ 10 := by
        have hm := List.mem_of_getElem? hd
        simp only [List.mem_cons, List.not_mem_nil, or_false] at hm
        rcases hm with rfl | rfl
        · exact ⟨1, rfl, by decide⟩
        · exact ⟨2, rfl, by decide⟩
      obtain ⟨c5', b', ps', e2, d2, l2, o2⟩ := bent_loop (fo := fo) (m := m) (b := s) (ps := fo.map pP) (c5 := c5) (c6 := none) (c7 := none) (c8 := none) hm t.rooms hpos h2 (by rw [List.length_map]; exact t.len) odd_pF
      refine ⟨_, rfl, .nx (bE n rs fo (some (.d (.int m))) (some (.ref s.length)) c5' none none none), b' ++ [some ps'], ?_, ⟨_, _, _, rfl⟩, src_app d2.src, by rw [List.length_append, d2.len]; omega⟩
      unfold fb__law_bent_right_3
      refine (bc_nx (env2 := bE n rs fo (some (.d (.int m))) (some (.ref s.length)) c5 none none none) (st2 := s ++ [some (fo.map pP)]) (by simp [xVar, xC, xNil, xCons, xTup, xLst, xLstR, disp, xOp, xChain, iOp, oSub, oMod, oLt, oLe, oGt, oGe, oAdd, oEqS, oNeS, oIn, oIs, xB, xTru, tNt, tAn, tOrr, xNt, xAn, xOr, xIf, xUn, oNeg, oIx, xSl, pNo, pAt, oSl, xFn, kLen, kInt, kMax2, kTuple, kList, kListR, kRepr, xIsi, isN, tyN, view, frz, frzAll, wSeq, wEnm, gN, gs0, gs1, gT, bNil, bCons, thenB, sExp, sRet, sIf, sSet, sTup, sPar, sSub, sSub2, putAt, sRaise, fin, retV, entry, fnO, xCall, xApp, xPopAt, yes, sb, tru, isNon, ownOf, oAddL, bE])).trans ?_
      refine (bc_nx e2).trans ?_
      exact right_test t.rooms (oddF_tup o2) rfl (tuple_of rfl (get_last (by rw [d2.len]))))
    (fun env s ⟨⟨c3, c4, c5, h1⟩, h2, h3⟩ => ⟨⟨c3, c4, c5, by rw [h1]⟩, h2, h3⟩)
  subst h1
  exact ⟨c3, c4, c5, s', e, h2, h3⟩
/-! things hung anywhere -/
theorem hang_turn {rs : List Int} {fo : List Pl} {n : Nat} {b : Store} {ps : List PyData} {c3 c5 c7 c8 : Option EV} {l : List Nat} (hr : RoomsOk rs) (hpos : 0 < rs.length) (hs : Src b n) (hl : ps.length = rs.length) (ho : ∀ p ∈ ps, OddP p) (hsome : ∀ y ∈ l, hasB rs y = true) (hlen : l.length ≤ 24) :
    ∃ c7' b' ps', fb__law_bent_right_6 (bE n rs fo c3 (some (.ref b.length)) c5 (some (.d (.list (pN l)))) c7 c8) (b ++ [some ps]) = .ok (.nx (bE n rs fo c3 (some (.ref b.length)) c5 (some (.d (.list (pN l)))) c7' c8)) (b' ++ [some ps']) ∧ Draw b b' n ∧ ps'.length = rs.length ∧ ∀ p ∈ ps', OddP p := by
  have e0 := ne_nil (l := l) (st := b ++ [some ps]) fun i hi => by
    have := (top_room hr (hsome i hi)).1
    have := hr.1
    omega
  have test : xB (xOp oNeS (xVar 6) (xLst xNil)) (bE n rs fo c3 (some (.ref b.length)) c5 (some (.d (.list (pN l)))) c7 c8) (b ++ [some ps]) = .ok (!l.isEmpty) (b ++ [some ps]) :=
    t_b (x_op (f := xVar 6) (g := xLst xNil) rfl rfl e0)
  unfold fb__law_bent_right_6
  cases hle : l with
  | nil =>
    subst hle
    exact ⟨c7, b, ps, (s_ifF test).trans rfl, Draw.refl hs, hl, ho⟩
  | cons a r =>
    rw [← hle]
    have hne : (!l.isEmpty) = true := by rw [hle]; rfl
    rw [hne] at test
    have lp : 0 < l.length := by rw [hle]; exact Nat.zero_lt_succ _
    obtain ⟨d, s1, e1, d1, hm⟩ := one_of (E := bE n rs fo c3 (some (.ref b.length)) c5 (some (.d (.list (pN l)))) c7 c8) (L := xVar 6) (ds := pN l) (st := b ++ [some ps]) rfl (src_app hs) rfl (by rw [List.length_map]; exact lp) (by rw [List.length_map]; omega)
    obtain ⟨b1, rfl, d1'⟩ := draw_app hs d1
    obtain ⟨y, hy, rfl⟩ := List.mem_map.mp hm
    obtain ⟨yl, yt⟩ := top_room hr (hsome y hy)
    obtain ⟨room, s2, e2, d2, r0, r1⟩ := take_nat (st := b1 ++ [some ps]) (t := rs[y]?.getD 0) (src_app d1'.src) yt
    obtain ⟨b2, rfl, d2'⟩ := draw_app d1'.src d2
    obtain ⟨i, s3, e3, d3, i0, i1⟩ := take_nat (st := b2 ++ [some ps]) (t := rs.length) (src_app d2'.src) (top_small (by omega) (by have := hr.1; omega))
    obtain ⟨b3, rfl, d3'⟩ := draw_app d2'.src d3
    have dd : Draw b b3 n := d1'.trans (d2'.trans d3')
    obtain ⟨E, hE⟩ : ∃ E : Env', E = bE n rs fo c3 (some (.ref b.length)) c5 (some (.d (.list (pN l)))) (some (.d (.int y))) c8 := ⟨_, rfl⟩
    have f2 := e2 E (xOp oIx (xVar 1) (xVar 7)) (by rw [hE]; rfl) (by subst hE; simp [xVar, xC, xNil, xCons, xTup, xLst, xLstR, disp, xOp, xChain, iOp, oSub, oMod, oLt, oLe, oGt, oGe, oAdd, oEqS, oNeS, oIn, oIs, xB, xTru, tNt, tAn, tOrr, xNt, xAn, xOr, xIf, xUn, oNeg, oIx, xSl, pNo, pAt, oSl, xFn, kLen, kInt, kMax2, kTuple, kList, kListR, kRepr, xIsi, isN, tyN, view, frz, frzAll, wSeq, wEnm, gN, gs0, gs1, gT, bNil, bCons, thenB, sExp, sRet, sIf, sSet, sTup, sPar, sSub, sSub2, putAt, sRaise, fin, retV, entry, fnO, xCall, xApp, xPopAt, yes, sb, tru, isNon, ownOf, oAddL, bE, rs_at yl])
    have ft : xTup (xCons (xVar 7) (xCons (xCall 2 f__law_take (xCons (xVar 0) (xCons (xOp oIx (xVar 1) (xVar 7)) xNil))) xNil)) E (b1 ++ [some ps]) = .ok (.d (.tuple [.int y, .int room])) (b2 ++ [some ps]) := by
      have v7 : xVar 7 E (b1 ++ [some ps]) = .ok (.d (.int y)) (b1 ++ [some ps]) := by rw [hE]; rfl
      have z := x_cons v7 (x_cons f2 (g := xNil) rfl)
      unfold xTup
      rw [z, bind_ok]
      rfl
    have z := sub_ok (O := xVar 4) (K := xCall 2 f__law_take (xCons (xVar 0) (xCons (xFn kLen (xCons (xVar 1) xNil)) xNil))) (L := b.length) (i := i) (ps := ps) ft (by rw [hE]; rfl) (e3 E _ (by rw [hE]; rfl) (len1 (by rw [hE]; rfl))) (get_last (by rw [dd.len])) i0 (by omega)
    rw [set_last (by rw [dd.len])] at z
    have o2 : ∀ p ∈ ps.set i.toNat (.tuple [.int y, .int room]), OddP p := set_odd ho (odd2 rfl rfl)
    refine ⟨some (.d (.int y)), b3, ps.set i.toNat (.tuple [.int y, .int room]), ?_, dd, by rw [List.length_set]; exact hl, o2⟩
    refine (s_ifT test).trans ?_
    refine (bc_nx (s_set (i := 7) e1)).trans ?_
    rw [show (bE n rs fo c3 (some (.ref b.length)) c5 (some (.d (.list (pN l)))) c7 c8).set 7 (some (.d (.int y))) = E by rw [hE]; rfl, ← hE]
    refine (bc_nx z).trans ?_
    exact right_test hr (oddF_tup o2) (by rw [hE]; rfl) (tuple_of (by rw [hE]; rfl) (get_last (by rw [dd.len])))
theorem hang_loop {rs : List Int} {fo : List Pl} {n : Nat} {b : Store} {ps : List PyData} {c3 c5 c7 c8 : Option EV} {l : List Nat} (hr : RoomsOk rs) (hpos : 0 < rs.length) (hs : Src b n) (hl : ps.length = rs.length) (ho : ∀ p ∈ ps, OddP p) (hsome : ∀ y ∈ l, hasB rs y = true) (hlen : l.length ≤ 24) :
    ∃ c5' c7' b' ps', fl__law_bent_right_7 (bE n rs fo c3 (some (.ref b.length)) c5 (some (.d (.list (pN l)))) c7 c8) (b ++ [some ps]) = .ok (.nx (bE n rs fo c3 (some (.ref b.length)) c5' (some (.d (.list (pN l)))) c7' c8)) (b' ++ [some ps']) ∧ Draw b b' n := by
  have hw := wRng1_ok (f := xC (.int 2)) (env := bE n rs fo c3 (some (.ref b.length)) c5 (some (.d (.list (pN l)))) c7 c8) (st := b ++ [some ps]) (st' := b ++ [some ps]) (j := 2) rfl (by omega) (by omega)
  unfold fl__law_bent_right_7
  obtain ⟨r, s', e, c5', c7', b', ps', h1, h2, h3, _⟩ := sFor_run (t := gN 5) (u := fb__law_bent_right_6) (R := fun r s' => ∃ c5' c7' b' ps', r = .nx (bE n rs fo c3 (some (.ref b.length)) c5' (some (.d (.list (pN l)))) c7' c8) ∧ s' = b' ++ [some ps'] ∧ Draw b b' n ∧ ps'.length = rs.length ∧ ∀ p ∈ ps', OddP p) hw
    (fun i env s => ∃ c5' c7' b' ps', env = bE n rs fo c3 (some (.ref b.length)) c5' (some (.d (.list (pN l)))) c7' c8 ∧ s = b' ++ [some ps'] ∧ Draw b b' n ∧ ps'.length = rs.length ∧ ∀ p ∈ ps', OddP p) ⟨c5, c7, b, ps, rfl, rfl, Draw.refl hs, hl, ho⟩
    (fun i d env s hd ⟨c, c', b1, ps1, h1, h2, h3, h4, h5⟩ => by
      subst h1 h2
      obtain ⟨c7', b2, ps2, e2, d2, l2, o2⟩ := hang_turn (fo := fo) (c3 := c3) (c5 := some (.d d)) (c7 := c') (c8 := c8) (l := l) hr hpos h3.src h4 h5 hsome hlen
      rw [h3.len] at e2
      exact ⟨_, rfl, _, _, e2, _, c7', b2, ps2, rfl, rfl, h3.trans d2, l2, o2⟩)
    (fun env s ⟨c, c', b1, ps1, h1, h2, h3⟩ => ⟨c, c', b1, ps1, by rw [h1], h2, h3⟩)
  subst h1 h2
  exact ⟨c5', c7', b', ps', e, h3⟩
theorem cut_one {ds : List PyData} : cutD ds (some (1 : Int)) none = ds.drop 1 := by
  unfold cutD
  have e : (1 : Int) = ((1 : Nat) : Int) := rfl
  rw [e, HT.sIx_none, HT.sIx_nat]
  cases ds with
  | nil => rfl
  | cons d ds =>
    rw [Nat.min_eq_left (by simp)]
    exact List.take_of_length_le (by rw [List.length_drop]; exact Nat.le_refl _)
theorem others_loop {rs : List Int} {fo : List Pl} {n : Nat} {st : Store} {c3 c4 c5 c6 c7 : Option EV} (t : Tree rs fo) :
    ∃ c8, fl__law_bent_right_9 (bE n rs fo c3 c4 c5 c6 c7 none) st = .ok (.nx (bE n rs fo c3 c4 c5 c6 c7 c8)) st := by
  have h24 := t.rooms.1
  have hl := t.len
  have sz : (fo.length + 1 : Nat) ≤ sizeLine := Nat.le_of_lt (Nat.lt_of_le_of_lt (by omega) sz_line)
  have zl : ("0" : Str).length ≤ 1000 := by decide +kernel
  have hw : wSeq (xLst (xCons (xSl (xVar 2) (pAt (xC (.int 1))) pNo) (xCons (xOp oAdd (xVar 2) (xTup (xCons (xC .none) xNil))) (xCons (xC .none) (xCons (xOp oMulS (xC (.str "0")) (xFn kLen (xCons (xVar 1) xNil))) (xCons (xFn kLen (xCons (xVar 1) xNil)) xNil)))))) (bE n rs fo c3 c4 c5 c6 c7 none) st =
      .ok ([.tuple ((fo.map pP).drop 1), .tuple (fo.map pP ++ [.none]), .none, .str (repS "0" rs.length), .int rs.length], none) st := by
    have q : (rs.length : Int) ≤ 1000 := by omega
    simp [xVar, xC, xNil, xCons, xTup, xLst, xLstR, disp, xOp, xChain, iOp, oSub, oMod, oLt, oLe, oGt, oGe, oAdd, oEqS, oNeS, oIn, oIs, xB, xTru, tNt, tAn, tOrr, xNt, xAn, xOr, xIf, xUn, oNeg, oIx, xSl, pNo, pAt, oSl, xFn, kLen, kInt, kMax2, kTuple, kList, kListR, kRepr, xIsi, isN, tyN, view, frz, frzAll, wSeq, wEnm, gN, gs0, gs1, gT, bNil, bCons, thenB, sExp, sRet, sIf, sSet, sTup, sPar, sSub, sSub2, putAt, sRaise, fin, retV, entry, fnO, xCall, xApp, xPopAt, yes, sb, tru, isNon, ownOf, oAddL, bE, cut_one, oMulS, sz, zl, q]
  unfold fl__law_bent_right_9
  obtain ⟨r, s', e, ⟨c8, h1⟩, h2⟩ := sFor_run (t := gN 8) (u := fb__law_bent_right_8) (R := fun r s' => (∃ c8, r = .nx (bE n rs fo c3 c4 c5 c6 c7 c8)) ∧ s' = st) hw
    (fun i env s => (∃ c8, env = bE n rs fo c3 c4 c5 c6 c7 c8) ∧ s = st) ⟨⟨_, rfl⟩, rfl⟩
    (fun i d env s hd ⟨⟨c8, h1⟩, h2⟩ => by
      subst h1 h2
      have ho : OddF d := by
        have hm := List.mem_of_getElem? hd
        simp only [List.mem_cons, List.not_mem_nil, or_false] at hm
        rcases hm with rfl | rfl | rfl | rfl | rfl
        · exact oddF_tup fun p hp => odd_pF p (List.mem_of_mem_drop hp)
        · refine oddF_tup fun p hp => ?_
          rcases List.mem_append.mp hp with z | z
          · exact odd_pF p z
          · have : p = .none := by simpa using z
            subst this
            exact odd_n rfl fun a b e => by cases e
        · exact ⟨rfl, fun ps e => by cases e⟩
        · exact ⟨rfl, fun ps e => by cases e⟩
        · exact ⟨rfl, fun ps e => by cases e⟩
      exact ⟨bE n rs fo c3 c4 c5 c6 c7 (some (.d d)), rfl, _, _, right_test t.rooms ho rfl rfl, ⟨_, rfl⟩, rfl⟩)
    (fun env s ⟨⟨c, h1⟩, h2⟩ => ⟨⟨c, by rw [h1]⟩, h2⟩)
  subst h1 h2
  exact ⟨c8, e⟩
theorem bent_right {rs : List Int} {fo : List Pl} {n : Nat} {st : Store} (t : Tree rs fo) (hpos : 0 < rs.length) (hs : Src st n) : ∃ st', f__law_bent_right [.ref n, .d (pR rs), .d (pF fo)] st = .ok (.d (.bool true)) st' ∧ Src st' n := by
  have h24 := t.rooms.1
  obtain ⟨c3, c4, c5, s1, e1, hs1, hl1⟩ := bent_many t hpos hs
  have hsome : ∀ y ∈ (List.range rs.length).filter (hasB rs), hasB rs y = true := fun y hy => (List.mem_filter.mp hy).2
  have e2 : sPar 4 6 (xCons (xFn kListR (xCons (xVar 2) xNil)) (xCons lc__law_bent_right_5 xNil)) (bE n rs fo c3 c4 c5 none none none) s1 = .ok (.nx (bE n rs fo c3 (some (.ref s1.length)) c5 (some (.d (.list (pN ((List.range rs.length).filter (hasB rs)))))) none none)) (s1 ++ [some (fo.map pP)]) := by
    have a : xFn kListR (xCons (xVar 2) xNil) (bE n rs fo c3 c4 c5 none none none) s1 = .ok (.ref s1.length) (s1 ++ [some (fo.map pP)]) := by simp [xVar, xC, xNil, xCons, xTup, xLst, xLstR, disp, xOp, xChain, iOp, oSub, oMod, oLt, oLe, oGt, oGe, oAdd, oEqS, oNeS, oIn, oIs, xB, xTru, tNt, tAn, tOrr, xNt, xAn, xOr, xIf, xUn, oNeg, oIx, xSl, pNo, pAt, oSl, xFn, kLen, kInt, kMax2, kTuple, kList, kListR, kRepr, xIsi, isN, tyN, view, frz, frzAll, wSeq, wEnm, gN, gs0, gs1, gT, bNil, bCons, thenB, sExp, sRet, sIf, sSet, sTup, sPar, sSub, sSub2, putAt, sRaise, fin, retV, entry, fnO, xCall, xApp, xPopAt, yes, sb, tru, isNon, ownOf, oAddL, bE]
    have b : lc__law_bent_right_5 (bE n rs fo c3 c4 c5 none none none) (s1 ++ [some (fo.map pP)]) = .ok (.d (.list ((rng 0 rs.length).filter (qInt (hasB rs))))) (s1 ++ [some (fo.map pP)]) := lc_rooms (len1 rfl) h24 rfl (by simp [bE]) (by decide)
    rw [rng_pN, filt_pN] at b
    have z := x_cons a (x_cons b (g := xNil) rfl)
    unfold sPar
    rw [z, sb_ok]
    rfl
  obtain ⟨c5', c7', b', ps', e3, d3⟩ := hang_loop (fo := fo) (c3 := c3) (c5 := c5) (c7 := none) (c8 := none) t.rooms hpos hs1 (ps := fo.map pP) (by rw [List.length_map]; exact t.len) odd_pF hsome (Nat.le_trans (List.length_filter_le _ _) (by rw [List.length_range]; exact h24))
  obtain ⟨c8, e4⟩ := others_loop (n := n) (st := b' ++ [some ps']) (c3 := c3) (c4 := some (.ref s1.length)) (c5 := c5') (c6 := some (.d (.list (pN ((List.range rs.length).filter (hasB rs)))))) (c7 := c7') t
  have w := fn_rt (keep := false) (n := 9) (u := u__law_bent_right) (args := [.ref n, .d (pR rs), .d (pF fo)]) (st := st) (st2 := b' ++ [some ps']) (d := .bool true) (by
    unfold u__law_bent_right
    exact (bc_nx e1).trans ((bc_nx e2).trans ((bc_nx e3).trans ((bc_nx e4).trans (s_ret rfl)))))
  refine ⟨_, w, ?_⟩
  have hs4 : Src (b' ++ [some ps']) n := src_app d3.src
  obtain ⟨a, b, g, q⟩ := hs4
  exact ⟨a, b, by rw [List.getElem?_take_of_lt (src_lt hs)]; exact g, q⟩
end Nz

end
section
set_option Elab.async false
set_option linter.all false
set_option maxRecDepth 100000
set_option maxHeartbeats 2000000
namespace Nz
open PySem PySem.Spec PyProof.Rows L2
/-! ### what is no thing -/
abbrev tE (n : Nat) (rs : List Int) (fo : List Pl) (m far x : Int) (c6 c7 c8 c9 : Option EV) : Env' := [some (.ref n), some (.d (pR rs)), some (.d (pF fo)), some (.d (.int m)), some (.d (.int far)), some (.d (.int x)), c6, c7, c8, c9]
theorem refd_same {i : Int} {a b c : Bool} {G : Ex} {s : Str} {I : Ex} {E : Env'} {st : Store} (hi : i.natAbs < 10 ^ 30) (hG : xHeard false 3 (fun g0 => u__law_heard g0) G E st = .ok (.d (refd i a b c)) st) (hI : I E st = .ok (.d (.int i)) st) (hr : f__law_refused [.d (.str s), .d (.int i)] st = .ok (.d (refd i a b c)) st) :
    xOp oNeS (xFn kRepr (xCons (xHeard false 3 (fun g0 => u__law_heard g0) G) xNil)) (xFn kRepr (xCons (xCall 2 f__law_refused (xCons (xC (.str s)) (xCons I xNil))) xNil)) E st = .ok (.d (.bool false)) st ∧
    xOp oEqS (xFn kRepr (xCons (xHeard false 3 (fun g0 => u__law_heard g0) G) xNil)) (xFn kRepr (xCons (xCall 2 f__law_refused (xCons (xC (.str s)) (xCons I xNil))) xNil)) E st = .ok (.d (.bool true)) st := by
  have sh : canShow (refd i a b c) = true := (shw_refd hi).can (by decide) (by decide)
  have r1 := x_fn (x_cons hG (g := xNil) rfl) (repr_ok sh)
  have r2 := x_fn (x_cons (x_call (as := [.d (.str s), .d (.int i)]) (x_cons (f := xC (.str s)) (env := E) (st := st) rfl (x_cons hI (g := xNil) rfl)) rfl hr) (g := xNil) rfl) (repr_ok sh)
  exact ⟨x_op (k := oNeS) r1 r2 (by simp [oNeS]), x_op (k := oEqS) r1 r2 (by simp [oEqS])⟩
theorem far_turn {rs : List Int} {fo : List Pl} {n : Nat} {m far x one other due : Int} {c9 : Option EV} {st : Store} (t : Tree rs fo) (hd : due.natAbs < 10 ^ 30) (c : f_check_two [.d (pR rs), .d (.int one), .d (.int other)] st = .exc "BadThing" (.int due) st) :
    fb__law_things_right_1 (tE n rs fo m far x (some (.d (.int one))) (some (.d (.int other))) (some (.d (.int due))) c9) st = .ok (.nx (tE n rs fo m far x (some (.d (.int one))) (some (.d (.int other))) (some (.d (.int due))) c9)) st := by
  have g1 : xCall 4 f_standing (xCons (xVar 1) (xCons (xVar 2) (xCons (xVar 6) (xCons (xVar 7) xNil)))) (tE n rs fo m far x (some (.d (.int one))) (some (.d (.int other))) (some (.d (.int due))) c9) st = .exc "BadThing" (.int due) st := by
    have := standing_ex (fo := fo) t c
    simp [xVar, xC, xNil, xCons, xTup, xLst, xLstR, disp, xOp, xChain, iOp, oSub, oMod, oLt, oLe, oGt, oGe, oAdd, oEqS, oNeS, oIn, oIs, xB, xTru, tNt, tAn, tOrr, xNt, xAn, xOr, xIf, xUn, oNeg, oIx, xSl, pNo, pAt, oSl, xFn, kLen, kInt, kMax2, kTuple, kList, kListR, kRepr, xIsi, isN, tyN, view, frz, frzAll, wSeq, wEnm, gN, gs0, gs1, gT, bNil, bCons, thenB, sExp, sRet, sIf, sSet, sTup, sPar, sSub, sSub2, putAt, sRaise, fin, retV, entry, fnO, xCall, xApp, xPopAt, yes, sb, tru, isNon, ownOf, oAddL, tE, this]
  have g2 : xCall 3 f_standings (xCons (xVar 1) (xCons (xVar 6) (xCons (xVar 7) xNil))) (tE n rs fo m far x (some (.d (.int one))) (some (.d (.int other))) (some (.d (.int due))) c9) st = .exc "BadThing" (.int due) st := by
    have := standings_ex t.rooms c
    simp [xVar, xC, xNil, xCons, xTup, xLst, xLstR, disp, xOp, xChain, iOp, oSub, oMod, oLt, oLe, oGt, oGe, oAdd, oEqS, oNeS, oIn, oIs, xB, xTru, tNt, tAn, tOrr, xNt, xAn, xOr, xIf, xUn, oNeg, oIx, xSl, pNo, pAt, oSl, xFn, kLen, kInt, kMax2, kTuple, kList, kListR, kRepr, xIsi, isN, tyN, view, frz, frzAll, wSeq, wEnm, gN, gs0, gs1, gT, bNil, bCons, thenB, sExp, sRet, sIf, sSet, sTup, sPar, sSub, sSub2, putAt, sRaise, fin, retV, entry, fnO, xCall, xApp, xPopAt, yes, sb, tru, isNon, ownOf, oAddL, tE, this]
  unfold fb__law_things_right_1
  have z1 := (refd_same (I := xVar 8) hd (heard_bt g1) rfl refused_t).1
  have z2 := (refd_same (I := xVar 8) hd (heard_bt g2) rfl refused_t).1
  exact (bc_nx ((s_ifF (t_b z1)).trans rfl)).trans ((s_ifF (t_b z2)).trans rfl)
theorem things_right {rs : List Int} {fo : List Pl} {n : Nat} {st : Store} (t : Tree rs fo) (hpos : 0 < rs.length) (hs : Src st n) : ∃ st', f__law_things_right [.ref n, .d (pR rs), .d (pF fo)] st = .ok (.d (.bool true)) st' := by
  have h24 := t.rooms.1
  have hl := t.len
  have e30 : (10 : Nat) ^ 30 = 1000000000000000000000000000000 := by decide
  obtain ⟨d, s1, e1, d1, hm⟩ := one_of (E := [some (.ref n), some (.d (pR rs)), some (.d (pF fo)), some (.d (.int rs.length)), none, none, none, none, none, none])
    (L := xLst (xCons (xUn oNeg (xC (.int 1))) (xCons (xVar 3) (xCons (xOp oAdd (xVar 3) (xC (.int 1))) (xCons (xOp oSub (xUn oNeg (xVar 3)) (xC (.int 1))) (xCons (xOp oAdd (xVar 3) (xOp oPow (xC (.int 10)) (xC (.int 25)))) xNil))))))
    (ds := [.int (-1), .int rs.length, .int (rs.length + 1), .int (-rs.length - 1), .int (rs.length + 10000000000000000000000000)]) (st := st) rfl hs (by simp [xVar, xC, xNil, xCons, xTup, xLst, xLstR, disp, xOp, xChain, iOp, oSub, oMod, oLt, oLe, oGt, oGe, oAdd, oEqS, oNeS, oIn, oIs, xB, xTru, tNt, tAn, tOrr, xNt, xAn, xOr, xIf, xUn, oNeg, oIx, xSl, pNo, pAt, oSl, xFn, kLen, kInt, kMax2, kTuple, kList, kListR, kRepr, xIsi, isN, tyN, view, frz, frzAll, wSeq, wEnm, gN, gs0, gs1, gT, bNil, bCons, thenB, sExp, sRet, sIf, sSet, sTup, sPar, sSub, sSub2, putAt, sRaise, fin, retV, entry, fnO, xCall, xApp, xPopAt, yes, sb, tru, isNon, ownOf, oAddL, pow25]) (by simp) (by simp)
  obtain ⟨far, rfl, f1, f2⟩ : ∃ far : Int, d = .int far ∧ ¬ (0 ≤ far ∧ far < rs.length) ∧ far.natAbs < 10 ^ 30 := by
    rw [e30]
    simp only [List.mem_cons, List.not_mem_nil, or_false] at hm
    rcases hm with rfl | rfl | rfl | rfl | rfl
    · exact ⟨_, rfl, by omega, by omega⟩
    · exact ⟨_, rfl, by omega, by omega⟩
    · exact ⟨_, rfl, by omega, by omega⟩
    · exact ⟨_, rfl, by omega, by omega⟩
    · exact ⟨_, rfl, by omega, by omega⟩
  obtain ⟨xi, s2, e2, d2, x0, x1⟩ := take_nat (t := rs.length) d1.src (top_small (by omega) (by omega))
  obtain ⟨x, rfl⟩ := Int.eq_ofNat_of_zero_le x0
  have hx : x < rs.length := by omega
  have hx2 : 0 ≤ (x : Int) ∧ (x : Int) < rs.length := ⟨x0, x1⟩
  have xs : (x : Int).natAbs < 10 ^ 30 := num_small (by omega) (by omega)
  have hw : wSeq (xLst (xCons (xTup (xCons (xVar 4) (xCons (xVar 5) (xCons (xVar 4) xNil)))) (xCons (xTup (xCons (xVar 5) (xCons (xVar 4) (xCons (xVar 4) xNil)))) (xCons (xTup (xCons (xVar 4) (xCons (xVar 3) (xCons (xVar 4) xNil)))) (xCons (xTup (xCons (xVar 5) (xCons (xVar 5) (xCons (xVar 5) xNil)))) (xCons (xTup (xCons (xVar 4) (xCons (xVar 4) (xCons (xVar 4) xNil)))) xNil))))))
      (tE n rs fo rs.length far x none none none none) s2 = .ok ([.tuple [.int far, .int x, .int far], .tuple [.int x, .int far, .int far], .tuple [.int far, .int rs.length, .int far], .tuple [.int x, .int x, .int x], .tuple [.int far, .int far, .int far]], none) s2 := by simp [xVar, xC, xNil, xCons, xTup, xLst, xLstR, disp, xOp, xChain, iOp, oSub, oMod, oLt, oLe, oGt, oGe, oAdd, oEqS, oNeS, oIn, oIs, xB, xTru, tNt, tAn, tOrr, xNt, xAn, xOr, xIf, xUn, oNeg, oIx, xSl, pNo, pAt, oSl, xFn, kLen, kInt, kMax2, kTuple, kList, kListR, kRepr, xIsi, isN, tyN, view, frz, frzAll, wSeq, wEnm, gN, gs0, gs1, gT, bNil, bCons, thenB, sExp, sRet, sIf, sSet, sTup, sPar, sSub, sSub2, putAt, sRaise, fin, retV, entry, fnO, xCall, xApp, xPopAt, yes, sb, tru, isNon, ownOf, oAddL, tE]
  obtain ⟨r, s3, e3, ⟨c6, c7, c8, h1⟩, h2⟩ := sFor_run (t := gT 3 (gs1 6 (gs1 7 (gs1 8 gs0)))) (u := fb__law_things_right_1) (R := fun r s' => (∃ c6 c7 c8, r = .nx (tE n rs fo rs.length far x c6 c7 c8 none)) ∧ s' = s2) hw
    (fun i env s => (∃ c6 c7 c8, env = tE n rs fo rs.length far x c6 c7 c8 none) ∧ s = s2) ⟨⟨_, _, _, rfl⟩, rfl⟩
    (fun i d env s hd ⟨⟨c6, c7, c8, h1⟩, h2⟩ => by
      subst h1 h2
      obtain ⟨one, other, due, rfl, hdue, c⟩ : ∃ one other due : Int, d = .tuple [.int one, .int other, .int due] ∧ due.natAbs < 10 ^ 30 ∧ f_check_two [.d (pR rs), .d (.int one), .d (.int other)] s = .exc "BadThing" (.int due) s := by
        have hm := List.mem_of_getElem? hd
        simp only [List.mem_cons, List.not_mem_nil, or_false] at hm
        rcases hm with rfl | rfl | rfl | rfl | rfl
        · exact ⟨_, _, _, rfl, f2, check_two_x f1⟩
        · exact ⟨_, _, _, rfl, f2, check_two_y hx2 (.inl f1)⟩
        · exact ⟨_, _, _, rfl, f2, check_two_x f1⟩
        · exact ⟨_, _, _, rfl, xs, check_two_y hx2 (.inr rfl)⟩
        · exact ⟨_, _, _, rfl, f2, check_two_x f1⟩
      exact ⟨tE n rs fo rs.length far x (some (.d (.int one))) (some (.d (.int other))) (some (.d (.int due))) none, rfl, _, _, far_turn t hdue c, ⟨_, _, _, rfl⟩, rfl⟩)
    (fun env s ⟨⟨c6, c7, c8, h1⟩, h2⟩ => ⟨⟨c6, c7, c8, by rw [h1]⟩, h2⟩)
  subst h1 h2
  have e3' : fl__law_things_right_2 (tE n rs fo rs.length far x none none none none) s3 = _ := e3
  have hxf : x < fo.length := by omega
  have bad : f_made_forest [.d (pR rs), .d (pF (fo.set x (some ((x : Int), 0))))] s3 = .exc "BadForest" (.int x) s3 := by
    refine mf_bad (p := some ((x : Int), 0)) t.rooms (by rw [List.length_set]; exact t.len) (List.getElem?_set_self hxf) ?_ fun y q hy e => ?_
    · unfold plOk
      dsimp only
      rw [decide_eq_false (p := (x : Int) ≠ x) (fun z => z rfl), Bool.and_false]
    · rw [List.getElem?_set_ne (by omega)] at e
      exact t.pl y q e
  have cd : cutD (fo.map pP) (some ((x : Int) + 1)) none = (fo.map pP).drop (x + 1) := by
    have e : ((x : Int) + 1) = ((x + 1 : Nat) : Int) := by omega
    unfold cutD
    rw [e, HT.sIx_none, HT.sIx_nat, Nat.min_eq_left (by rw [List.length_map]; omega)]
    exact List.take_of_length_le (by rw [List.length_drop]; exact Nat.le_refl _)
  have be : (fo.map pP).take x ++ [PyData.tuple [.int x, .int 0]] ++ (fo.map pP).drop (x + 1) = (fo.set x (some ((x : Int), 0))).map pP := by
    rw [List.map_set, List.set_eq_take_append_cons_drop, if_pos (by rw [List.length_map]; exact hxf)]
    simp [pP]
  have sz1 : (min x fo.length + 1 : Nat) ≤ sizeLine := Nat.le_of_lt (Nat.lt_of_le_of_lt (by omega) sz_line)
  have sz2 : (min x fo.length + 1 + (fo.length - (x + 1)) : Nat) ≤ sizeLine := Nat.le_of_lt (Nat.lt_of_le_of_lt (by omega) sz_line)
  have e9 : xOp oAdd (xOp oAdd (xSl (xVar 2) pNo (pAt (xVar 5))) (xTup (xCons (xTup (xCons (xVar 5) (xCons (xC (.int 0)) xNil))) xNil))) (xSl (xVar 2) (pAt (xOp oAdd (xVar 5) (xC (.int 1)))) pNo) (tE n rs fo rs.length far x c6 c7 c8 none) s3 = .ok (.d (pF (fo.set x (some ((x : Int), 0))))) s3 := by
    have a : xSl (xVar 2) pNo (pAt (xVar 5)) (tE n rs fo rs.length far x c6 c7 c8 none) s3 = .ok (.d (.tuple ((fo.map pP).take x))) s3 := by simp [xVar, xC, xNil, xCons, xTup, xLst, xLstR, disp, xOp, xChain, iOp, oSub, oMod, oLt, oLe, oGt, oGe, oAdd, oEqS, oNeS, oIn, oIs, xB, xTru, tNt, tAn, tOrr, xNt, xAn, xOr, xIf, xUn, oNeg, oIx, xSl, pNo, pAt, oSl, xFn, kLen, kInt, kMax2, kTuple, kList, kListR, kRepr, xIsi, isN, tyN, view, frz, frzAll, wSeq, wEnm, gN, gs0, gs1, gT, bNil, bCons, thenB, sExp, sRet, sIf, sSet, sTup, sPar, sSub, sSub2, putAt, sRaise, fin, retV, entry, fnO, xCall, xApp, xPopAt, yes, sb, tru, isNon, ownOf, oAddL, tE, cut_take]
    have b : xTup (xCons (xTup (xCons (xVar 5) (xCons (xC (.int 0)) xNil))) xNil) (tE n rs fo rs.length far x c6 c7 c8 none) s3 = .ok (.d (.tuple [.tuple [.int x, .int 0]])) s3 := by simp [xVar, xC, xNil, xCons, xTup, xLst, xLstR, disp, xOp, xChain, iOp, oSub, oMod, oLt, oLe, oGt, oGe, oAdd, oEqS, oNeS, oIn, oIs, xB, xTru, tNt, tAn, tOrr, xNt, xAn, xOr, xIf, xUn, oNeg, oIx, xSl, pNo, pAt, oSl, xFn, kLen, kInt, kMax2, kTuple, kList, kListR, kRepr, xIsi, isN, tyN, view, frz, frzAll, wSeq, wEnm, gN, gs0, gs1, gT, bNil, bCons, thenB, sExp, sRet, sIf, sSet, sTup, sPar, sSub, sSub2, putAt, sRaise, fin, retV, entry, fnO, xCall, xApp, xPopAt, yes, sb, tru, isNon, ownOf, oAddL, tE]
    have c : xSl (xVar 2) (pAt (xOp oAdd (xVar 5) (xC (.int 1)))) pNo (tE n rs fo rs.length far x c6 c7 c8 none) s3 = .ok (.d (.tuple ((fo.map pP).drop (x + 1)))) s3 := by simp [xVar, xC, xNil, xCons, xTup, xLst, xLstR, disp, xOp, xChain, iOp, oSub, oMod, oLt, oLe, oGt, oGe, oAdd, oEqS, oNeS, oIn, oIs, xB, xTru, tNt, tAn, tOrr, xNt, xAn, xOr, xIf, xUn, oNeg, oIx, xSl, pNo, pAt, oSl, xFn, kLen, kInt, kMax2, kTuple, kList, kListR, kRepr, xIsi, isN, tyN, view, frz, frzAll, wSeq, wEnm, gN, gs0, gs1, gT, bNil, bCons, thenB, sExp, sRet, sIf, sSet, sTup, sPar, sSub, sSub2, putAt, sRaise, fin, retV, entry, fnO, xCall, xApp, xPopAt, yes, sb, tru, isNon, ownOf, oAddL, tE, cd]
    have ab := x_op (k := oAdd) (c := .d (.tuple ((fo.map pP).take x ++ [.tuple [.int x, .int 0]]))) (st3 := s3) a b (by
      show (if ((fo.map pP).take x).length + 1 ≤ sizeLine then _ else _) = _
      rw [List.length_take, List.length_map, if_pos sz1])
    have abc := x_op (k := oAdd) (c := .d (.tuple ((fo.map pP).take x ++ [.tuple [.int x, .int 0]] ++ (fo.map pP).drop (x + 1)))) (st3 := s3) ab c (by
      show (if ((fo.map pP).take x ++ [PyData.tuple [.int x, .int 0]]).length + ((fo.map pP).drop (x + 1)).length ≤ sizeLine then _ else _) = _
      rw [List.length_append, List.length_take, List.length_drop, List.length_map, List.length_singleton, if_pos sz2])
    rw [be] at abc
    exact abc
  have gb : xCall 4 f_standing (xCons (xVar 1) (xCons (xVar 9) (xCons (xVar 4) (xCons (xVar 4) xNil)))) (tE n rs fo rs.length far x c6 c7 c8 (some (.d (pF (fo.set x (some ((x : Int), 0))))))) s3 = .exc "BadForest" (.int x) s3 := by
    have := standing_bad (x := far) (y := far) bad
    simp [xVar, xC, xNil, xCons, xTup, xLst, xLstR, disp, xOp, xChain, iOp, oSub, oMod, oLt, oLe, oGt, oGe, oAdd, oEqS, oNeS, oIn, oIs, xB, xTru, tNt, tAn, tOrr, xNt, xAn, xOr, xIf, xUn, oNeg, oIx, xSl, pNo, pAt, oSl, xFn, kLen, kInt, kMax2, kTuple, kList, kListR, kRepr, xIsi, isN, tyN, view, frz, frzAll, wSeq, wEnm, gN, gs0, gs1, gT, bNil, bCons, thenB, sExp, sRet, sIf, sSet, sTup, sPar, sSub, sSub2, putAt, sRaise, fin, retV, entry, fnO, xCall, xApp, xPopAt, yes, sb, tru, isNon, ownOf, oAddL, tE, this]
  have z9 := (refd_same (I := xVar 5) xs (heard_bf gb) rfl refused_f).2
  have w := fn_rt (keep := false) (n := 10) (u := u__law_things_right) (args := [.ref n, .d (pR rs), .d (pF fo)]) (st := st) (st2 := s3) (d := .bool true) (by
    unfold u__law_things_right
    refine (bc_nx (s_set (i := 3) (len1 (rs := rs) rfl))).trans ?_
    refine (bc_nx (s_set (i := 4) e1)).trans ?_
    refine (bc_nx (s_set (i := 5) (e2 [some (.ref n), some (.d (pR rs)), some (.d (pF fo)), some (.d (.int rs.length)), some (.d (.int far)), none, none, none, none, none] (xVar 3) rfl rfl))).trans ?_
    exact (bc_nx e3').trans ((bc_nx (s_set (i := 9) e9)).trans (s_ret z9)))
  exact ⟨_, w⟩
end Nz

end
section
set_option Elab.async false
set_option linter.all false
set_option maxRecDepth 100000
set_option maxHeartbeats 2000000
namespace Nz
open PySem PySem.Spec PyProof.Rows L2
/-! ### the law -/
abbrev lE (S : EV) (c2 c3 c4 c5 c6 c7 : Option EV) : Env' := [some S, some (.ref 0), c2, c3, c4, c5, c6, c7]
abbrev roomsL : Ex := xLst (xCons (xC (.int 1)) (xCons (xC (.int 2)) (xCons (xC (.int 0)) (xCons (xC (.int 3)) (xCons (xC (.int 4)) xNil)))))
theorem rooms_lc {m : Nat} {S : EV} {c d e f : Option EV} {st : Store} (hm : m ≤ 24) (hs : Src st 0) :
    ∃ (rs : List Int) (st' : Store), lc_law_1 (lE S (some (.d (.int m))) c d e none f) st = .ok (.d (.list (rs.map .int))) st' ∧ Draw st st' 0 ∧ rs.length = m ∧ RoomsOk rs := by
  have hw := wRng1_ok (f := xVar 2) (env := lE S (some (.d (.int m))) c d e none f) (st := st) (st' := st) (j := m) rfl (by omega) (by omega)
  rw [Int.toNat_natCast] at hw
  unfold lc_law_1
  obtain ⟨acc, base, e1, _, d1, rs, rfl, hl, hr⟩ := lc_run (keep := false) (t := gN 6) (p := yes) (f := xCall 2 f__law_one (xCons (xVar 1) (xCons roomsL xNil))) (vs := [6])
    (fun i acc base => Draw st base 0 ∧ ∃ rs : List Int, acc = rs.map .int ∧ rs.length = i ∧ ∀ x ∈ rs, 0 ≤ x ∧ x ≤ 4) hw (by rw [rng_len]; omega)
    (fun i dd acc base hd hb ⟨d1, rs, ha, hl, hr⟩ => by
      subst ha
      obtain ⟨r, dv, s', e2, dr, g⟩ := one_ok (st := base ++ [some (rs.map .int)]) (n := 0) (xs := [.int 1, .int 2, .int 0, .int 3, .int 4]) (src_app d1.src) (by decide) (by decide)
      obtain ⟨b2, rfl, d2⟩ := draw_app d1.src dr
      obtain ⟨v, rfl, hv⟩ : ∃ v : Int, dv = .int v ∧ 0 ≤ v ∧ v ≤ 4 := by
        have hmem := List.mem_of_getElem? g
        simp only [List.mem_cons, List.not_mem_nil, or_false] at hmem
        rcases hmem with rfl | rfl | rfl | rfl | rfl <;> exact ⟨_, rfl, by decide, by decide⟩
      refine ⟨lE S (some (.d (.int m))) c d e (some (.d dd)) f, rfl, .inr ⟨rfl, .int v, b2, by rw [d2.len, hb], x_call (n := 2) (k := f__law_one) (f := xCons (xVar 1) (xCons roomsL xNil)) rfl rfl e2, d1.trans d2, rs ++ [v], by simp, by simp [hl], fun x hx => ?_⟩⟩
      rcases List.mem_append.mp hx with z | z
      · exact hr x z
      · rw [List.mem_singleton.mp z]; exact hv) ⟨Draw.refl hs, [], rfl, rfl, fun x hx => absurd hx List.not_mem_nil⟩
  rw [rng_len] at hl
  exact ⟨rs, base, e1, d1, hl, by omega, hr⟩
noncomputable abbrev manyL : Ex := xLst (xCons (xC (.int 2)) (xCons (xC (.int 3)) (xCons (xC (.int 5)) (xCons (xC (.int 8)) (xCons (xC (.int 24)) (xCons (xC (.int 1)) (xCons (xC (.int 0)) (xCons (xOp oAdd (xC (.int 1)) (xCall 2 f__law_take (xCons (xVar 1) (xCons (xC (.int 24)) xNil)))) xNil))))))))
theorem many_ok {S : EV} {st : Store} {b c d e f g : Option EV} (hs : Src st 0) : ∃ (m : Nat) (st' : Store), xCall 2 f__law_one (xCons (xVar 1) (xCons manyL xNil)) (lE S b c d e f g) st = .ok (.d (.int m)) st' ∧ Draw st st' 0 ∧ m ≤ 24 := by
  obtain ⟨r, st1, e1, d1, r0, r1⟩ := take_ok (t := 24) hs (top_small (by decide) (by decide))
  obtain ⟨k, dv, st2, e2, d2, g⟩ := one_ok (n := 0) (xs := [.int 2, .int 3, .int 5, .int 8, .int 24, .int 1, .int 0, .int (1 + r)]) d1.src (by simp) (by simp)
  obtain ⟨v, rfl, v0, v1⟩ : ∃ v : Int, dv = .int v ∧ 0 ≤ v ∧ v ≤ 24 := by
    have hmem := List.mem_of_getElem? g
    simp only [List.mem_cons, List.not_mem_nil, or_false] at hmem
    rcases hmem with rfl | rfl | rfl | rfl | rfl | rfl | rfl | rfl
    · exact ⟨_, rfl, by decide, by decide⟩
    · exact ⟨_, rfl, by decide, by decide⟩
    · exact ⟨_, rfl, by decide, by decide⟩
    · exact ⟨_, rfl, by decide, by decide⟩
    · exact ⟨_, rfl, by decide, by decide⟩
    · exact ⟨_, rfl, by decide, by decide⟩
    · exact ⟨_, rfl, by decide, by decide⟩
    · exact ⟨_, rfl, by omega, by omega⟩
  obtain ⟨m, rfl⟩ := Int.eq_ofNat_of_zero_le v0
  refine ⟨m, st2, ?_, d1.trans d2, by omega⟩
  have a : xCons (xVar 1) (xCons manyL xNil) (lE S b c d e f ‹Option EV›) st = .ok [.ref 0, .d (.list [.int 2, .int 3, .int 5, .int 8, .int 24, .int 1, .int 0, .int (1 + r)])] st1 := by
    simp [xVar, xC, xNil, xCons, xTup, xLst, xLstR, disp, xOp, xChain, iOp, oSub, oMod, oLt, oLe, oGt, oGe, oAdd, oEqS, oNeS, oIn, oIs, xB, xTru, tNt, tAn, tOrr, xNt, xAn, xOr, xIf, xUn, oNeg, oIx, xSl, pNo, pAt, oSl, xFn, kLen, kInt, kMax2, kTuple, kList, kListR, kRepr, xIsi, isN, tyN, view, frz, frzAll, wSeq, wEnm, gN, gs0, gs1, gT, bNil, bCons, thenB, sExp, sRet, sIf, sSet, sTup, sPar, sSub, sSub2, putAt, sRaise, fin, retV, entry, fnO, xCall, xApp, xPopAt, yes, sb, tru, isNon, ownOf, oAddL, lE, e1]
  exact x_call a rfl e2
theorem pairs_loop {rs : List Int} {fo : List Pl} {S : EV} {m : Nat} {c5 c6 c7 : Option EV} {st : Store} (t : Tree rs fo) (hl : rs.length = m) (hpos : 0 < m) (hs : Src st 0) :
    ∃ c5' c6' c7' st', fl_law_3 (lE S (some (.d (.int m))) (some (.d (pR rs))) (some (.d (pF fo))) c5 c6 c7) st = .ok (.nx (lE S (some (.d (.int m))) (some (.d (pR rs))) (some (.d (pF fo))) c5' c6' c7')) st' ∧ Src st' 0 := by
  have h24 := t.rooms.1
  have fl := t.len
  have hw := wRng1_ok (f := xC (.int 12)) (env := lE S (some (.d (.int m))) (some (.d (pR rs))) (some (.d (pF fo))) c5 c6 c7) (st := st) (st' := st) (j := 12) rfl (by omega) (by omega)
  unfold fl_law_3
  obtain ⟨r, s', e, ⟨c5', c6', c7', h1⟩, h2⟩ := sFor_run (t := gN 5) (u := fb_law_2) (R := fun r s' => (∃ c5 c6 c7, r = .nx (lE S (some (.d (.int m))) (some (.d (pR rs))) (some (.d (pF fo))) c5 c6 c7)) ∧ Src s' 0) hw
    (fun i env s => (∃ c5 c6 c7, env = lE S (some (.d (.int m))) (some (.d (pR rs))) (some (.d (pF fo))) c5 c6 c7) ∧ Src s 0) ⟨⟨_, _, _, rfl⟩, hs⟩
    (fun i d env s hd ⟨⟨c5, c6, c7, h1⟩, h2⟩ => by
      subst h1
      have v1 : ∀ (E : Env') (s : Store), E[1]? = some (some (.ref 0)) → xVar 1 E s = .ok (.ref 0) s := fun E s h => by unfold xVar; rw [h]
      obtain ⟨x, s1, e1, d1, x0, x1⟩ := take_ok (t := m) h2 (top_small (by omega) (by omega))
      obtain ⟨y, s2, e2, d2, y0, y1⟩ := take_ok (t := m) d1.src (top_small (by omega) (by omega))
      obtain ⟨x, rfl⟩ := Int.eq_ofNat_of_zero_le x0
      obtain ⟨y, rfl⟩ := Int.eq_ofNat_of_zero_le y0
      refine ⟨lE S (some (.d (.int m))) (some (.d (pR rs))) (some (.d (pF fo))) (some (.d d)) c6 c7, rfl, .nx (lE S (some (.d (.int m))) (some (.d (pR rs))) (some (.d (pF fo))) (some (.d d)) (some (.d (.int x))) (some (.d (.int y)))), s2, ?_, ⟨_, _, _, rfl⟩, d2.src⟩
      have a : sPar 6 7 (xCons (xCall 2 f__law_take (xCons (xVar 1) (xCons (xVar 2) xNil))) (xCons (xCall 2 f__law_take (xCons (xVar 1) (xCons (xVar 2) xNil))) xNil)) (lE S (some (.d (.int m))) (some (.d (pR rs))) (some (.d (pF fo))) (some (.d d)) c6 c7) s = .ok (.nx (lE S (some (.d (.int m))) (some (.d (pR rs))) (some (.d (pF fo))) (some (.d d)) (some (.d (.int x))) (some (.d (.int y))))) s2 := by
        have z := x_cons (x_call (n := 2) (k := f__law_take) (f := xCons (xVar 1) (xCons (xVar 2) xNil)) (env := lE S (some (.d (.int m))) (some (.d (pR rs))) (some (.d (pF fo))) (some (.d d)) c6 c7) rfl rfl e1) (x_cons (x_call (n := 2) (k := f__law_take) (f := xCons (xVar 1) (xCons (xVar 2) xNil)) (env := lE S (some (.d (.int m))) (some (.d (pR rs))) (some (.d (pF fo))) (some (.d d)) c6 c7) rfl rfl e2) (g := xNil) rfl)
        unfold sPar
        rw [z, sb_ok]
        rfl
      unfold fb_law_2
      refine (bc_nx a).trans ?_
      by_cases hxy : x = y
      · subst hxy
        have z : tAn (xB (xOp oNeS (xVar 6) (xVar 7))) (tNt (xB (xCall 4 f__law_pair_right (xCons (xVar 3) (xCons (xVar 4) (xCons (xVar 6) (xCons (xVar 7) xNil))))))) (lE S (some (.d (.int m))) (some (.d (pR rs))) (some (.d (pF fo))) (some (.d d)) (some (.d (.int x))) (some (.d (.int x)))) s2 = .ok false s2 := by
          have b := x_op (k := oNeS) (f := xVar 6) (g := xVar 7) (env := lE S (some (.d (.int m))) (some (.d (pR rs))) (some (.d (pF fo))) (some (.d d)) (some (.d (.int x))) (some (.d (.int x)))) (st := s2) (c := .d (.bool false)) (st3 := s2) rfl rfl (by simp [oNeS])
          unfold tAn
          rw [t_b b, bind_ok, if_neg Bool.false_ne_true]
        exact (s_ifF z).trans rfl
      · have b := x_op (k := oNeS) (f := xVar 6) (g := xVar 7) (env := lE S (some (.d (.int m))) (some (.d (pR rs))) (some (.d (pF fo))) (some (.d d)) (some (.d (.int x))) (some (.d (.int y)))) (st := s2) (c := .d (.bool true)) (st3 := s2) rfl rfl (by simp [oNeS]; omega)
        have q := pair_right (st := s2) t (x := x) (y := y) (by omega) (by omega) hxy
        have w := x_call (n := 4) (k := f__law_pair_right) (f := xCons (xVar 3) (xCons (xVar 4) (xCons (xVar 6) (xCons (xVar 7) xNil)))) (env := lE S (some (.d (.int m))) (some (.d (pR rs))) (some (.d (pF fo))) (some (.d d)) (some (.d (.int x))) (some (.d (.int y)))) (st := s2) rfl rfl q
        exact (s_ifF (t_an (t_b b) (t_nt (t_b w)))).trans rfl)
    (fun env s ⟨⟨c5, c6, c7, h1⟩, h2⟩ => ⟨⟨c5, c6, c7, by rw [h1]⟩, h2⟩)
  subst h1
  exact ⟨c5', c6', c7', s', e, h2⟩
theorem x_an {f g : Ex} {E : Env'} {st st1 st2 : Store} {b : Bool} (h1 : f E st = .ok (.d (.bool true)) st1) (h2 : g E st1 = .ok (.d (.bool b)) st2) : xAn f g E st = .ok (.d (.bool b)) st2 := by
  unfold xAn
  rw [h1, bind_ok]
  simp [tru, view, h2]
theorem law_true : ∀ ns : List Int, ns.length ≤ 63 → (∀ z ∈ ns, Builtin.Int.intBits z ≤ 1048576) → ∃ st, f_law [.d (.list (ns.map .int))] [] = .ok (.d (.bool true)) st := by
  intro ns _ _
  obtain ⟨a, b, e1, a0, b0, b1⟩ := pool_ok (ns := ns) (st := [])
  have s1 : Src ([] ++ [some [PyData.int a, .int b]]) 0 := ⟨a, b, rfl, a0, b0, b1⟩
  obtain ⟨m, st2, e2, d2, hm⟩ := many_ok (S := .d (.list (ns.map .int))) (b := none) (c := none) (d := none) (e := none) (f := none) (g := none) s1
  obtain ⟨rs, st3, e3, d3, hl, hr⟩ := rooms_lc (S := .d (.list (ns.map .int))) (c := none) (d := none) (e := none) (f := none) hm d2.src
  obtain ⟨fo, st4, e4, d4, t⟩ := grown_ok rs st3 0 hr d3.src
  have fl : fo.length = m := t.len.trans hl
  obtain ⟨E, hE⟩ : ∃ E : Env', E = lE (.d (.list (ns.map .int))) (some (.d (.int m))) (some (.d (pR rs))) (some (.d (pF fo))) none none none := ⟨_, rfl⟩
  have oF : OddF (pF fo) := oddF_tup odd_pF
  have m1 : sIf (tNt (xB (xCall 2 f__law_is_made_right (xCons (xVar 3) (xCons (xVar 4) xNil))))) (sRet (xC (.bool false))) bNil E st4 = .ok (.nx E) st4 := by
    subst hE
    exact (s_ifF (t_nt (t_b (x_call (n := 2) (k := f__law_is_made_right) (f := xCons (xVar 3) (xCons (xVar 4) xNil)) rfl rfl (made_right hr oF))))).trans rfl
  have head : ∀ {r : Out Fl}, (bCons (sIf (xB (xOp oEqS (xVar 2) (xC (.int 0)))) (sRet (xOp oEqS (xFn kRepr (xCons (xHeard false 3 (fun g0 => u__law_heard g0) (xCall 4 f_standing (xCons (xTup xNil) (xCons (xTup xNil) (xCons (xC (.int 0)) (xCons (xC (.int 0)) xNil)))))) xNil)) (xFn kRepr (xCons (xCall 2 f__law_refused (xCons (xC (.str "thing")) (xCons (xC (.int 0)) xNil))) xNil)))) bNil)
    (bCons fl_law_3 (sRet (xAn (xCall 3 f__law_bent_right (xCons (xVar 1) (xCons (xVar 3) (xCons (xVar 4) xNil)))) (xCall 3 f__law_things_right (xCons (xVar 1) (xCons (xVar 3) (xCons (xVar 4) xNil)))))))) E st4 = r → u_law (entry 8 [.d (.list (ns.map .int))]) [] = r := fun h => by
    unfold u_law
    refine (bc_nx (s_set (i := 1) (x_call (n := 2) (k := f__law_pool) (f := xCons (xVar 0) (xCons (xC (.int 0)) xNil)) rfl rfl e1))).trans ?_
    refine (bc_nx (s_set (i := 2) e2)).trans ?_
    refine (bc_nx (s_set (i := 3) (x_fn (k := kTuple) (c := .d (pR rs)) (st2 := st3) (x_cons e3 (g := xNil) rfl) rfl))).trans ?_
    refine (bc_nx (s_set (i := 4) (x_call (n := 2) (k := f__law_grown) (f := xCons (xVar 1) (xCons (xVar 3) xNil)) rfl rfl e4))).trans ?_
    rw [hE] at m1 h
    exact (bc_nx m1).trans h
  have cond : xB (xOp oEqS (xVar 2) (xC (.int 0))) E st4 = .ok (decide (m = 0)) st4 := by
    subst hE
    simp [xVar, xC, xNil, xCons, xTup, xLst, xLstR, disp, xOp, xChain, iOp, oSub, oMod, oLt, oLe, oGt, oGe, oAdd, oEqS, oNeS, oIn, oIs, xB, xTru, tNt, tAn, tOrr, xNt, xAn, xOr, xIf, xUn, oNeg, oIx, xSl, pNo, pAt, oSl, xFn, kLen, kInt, kMax2, kTuple, kList, kListR, kRepr, xIsi, isN, tyN, view, frz, frzAll, wSeq, wEnm, gN, gs0, gs1, gT, bNil, bCons, thenB, sExp, sRet, sIf, sSet, sTup, sPar, sSub, sSub2, putAt, sRaise, fin, retV, entry, fnO, xCall, xApp, xPopAt, yes, sb, tru, isNon, ownOf, oAddL, lE]
  by_cases h0 : m = 0
  · have r0 : RoomsOk ([] : List Int) := ⟨by simp, fun m h => absurd h List.not_mem_nil⟩
    have t0 : Tree [] [] := ⟨r0, rfl, fun x p e => by simp at e, fun _ => 0, fun x h => absurd h (Nat.not_lt_zero _), fun x h r e => by simp at e⟩
    have c := check_two_x (rs := []) (x := 0) (y := 0) (st := st4) (by simp)
    have g : xCall 4 f_standing (xCons (xTup xNil) (xCons (xTup xNil) (xCons (xC (.int 0)) (xCons (xC (.int 0)) xNil)))) E st4 = .exc "BadThing" (.int 0) st4 := by
      have q := standing_ex t0 c
      have q2 : f_standing [.d (.tuple []), .d (.tuple []), .d (.int 0), .d (.int 0)] st4 = .exc "BadThing" (.int 0) st4 := q
      simp [xVar, xC, xNil, xCons, xTup, xLst, xLstR, disp, xOp, xChain, iOp, oSub, oMod, oLt, oLe, oGt, oGe, oAdd, oEqS, oNeS, oIn, oIs, xB, xTru, tNt, tAn, tOrr, xNt, xAn, xOr, xIf, xUn, oNeg, oIx, xSl, pNo, pAt, oSl, xFn, kLen, kInt, kMax2, kTuple, kList, kListR, kRepr, xIsi, isN, tyN, view, frz, frzAll, wSeq, wEnm, gN, gs0, gs1, gT, bNil, bCons, thenB, sExp, sRet, sIf, sSet, sTup, sPar, sSub, sSub2, putAt, sRaise, fin, retV, entry, fnO, xCall, xApp, xPopAt, yes, sb, tru, isNon, ownOf, oAddL, q2]
    have z := (refd_same (I := xC (.int 0)) (by decide) (heard_bt g) rfl refused_t).2
    exact ⟨_, fn_rt (keep := false) (head (bc_rt ((s_ifT (by rw [cond, decide_eq_true h0])).trans (s_ret z))))⟩
  · obtain ⟨c5, c6, c7, st5, e5, hs5⟩ := pairs_loop (S := .d (.list (ns.map .int))) (c5 := none) (c6 := none) (c7 := none) t hl (by omega) d4.src
    obtain ⟨st6, e6, hs6⟩ := bent_right t (by omega) hs5
    obtain ⟨st7, e7⟩ := things_right t (by omega) hs6
    refine ⟨_, fn_rt (keep := false) (st2 := st7) (head ((bc_nx ((s_ifF (by rw [cond, decide_eq_false h0])).trans rfl)).trans ?_))⟩
    rw [hE]
    refine (bc_nx e5).trans (s_ret ?_)
    exact x_an (x_call (n := 3) (k := f__law_bent_right) (f := xCons (xVar 1) (xCons (xVar 3) (xCons (xVar 4) xNil))) rfl rfl e6) (x_call (n := 3) (k := f__law_things_right) (f := xCons (xVar 1) (xCons (xVar 3) (xCons (xVar 4) xNil))) rfl rfl e7)
end Nz

end
section
set_option Elab.async false
set_option linter.all false
set_option maxRecDepth 100000
set_option maxHeartbeats 4000000
/-! the law's end: what is written where it begins -/
namespace Nz
open PySem PySem.Spec PyProof.Rows L2
open LamX (Tabs TabS CodeO TabB)
set_option maxHeartbeats 0 in
theorem all_mk {l : PySem.W.OpenLaw} {w : World} {K : PySem.W.Frag} {h : Heap} {mg : Str → Option Value} {q : Program} {fa : Addr} (X : K.In h) (G : h.Ns mainGlobals mg) (hfa : mg "law" = some (.ref fa))
    (tabs : ∀ (y : Str) (e : DefRec) (c T : Addr), (recsOf q).find? (fun r => r.name == y) = some e → PySem.W.tabIn K y = some (c, T) → PySem.W.CodeHd h c T ∧ h.get? T = some { cls := .none, data := .fields #[] })
    {ad_is_number : Addr} {od_is_number an_is_number : Option Addr} {sl_is_number : Array (Option Value)} {oc_is_number kV_is_number dc_is_number pm_is_number ct_is_number : Value} {cd_is_number : Value}
    {ad_is_pair : Addr} {od_is_pair an_is_pair : Option Addr} {sl_is_pair : Array (Option Value)} {oc_is_pair kV_is_pair dc_is_pair pm_is_pair ct_is_pair : Value} {cd_is_pair : Value}
    {ad_has_thing : Addr} {od_has_thing an_has_thing : Option Addr} {sl_has_thing : Array (Option Value)} {oc_has_thing kV_has_thing dc_has_thing pm_has_thing ct_has_thing : Value} {cd_has_thing : Value}
    {ad_has_room : Addr} {od_has_room an_has_room : Option Addr} {sl_has_room : Array (Option Value)} {oc_has_room kV_has_room dc_has_room pm_has_room ct_has_room : Value} {cd_has_room : Value}
    {ad_check_thing : Addr} {od_check_thing an_check_thing : Option Addr} {sl_check_thing : Array (Option Value)} {oc_check_thing kV_check_thing dc_check_thing pm_check_thing ct_check_thing : Value} {cd_check_thing : Value}
    {ad_check_two : Addr} {od_check_two an_check_two : Option Addr} {sl_check_two : Array (Option Value)} {oc_check_two kV_check_two dc_check_two pm_check_two ct_check_two : Value} {cd_check_two : Value}
    {ad_made_rooms : Addr} {od_made_rooms an_made_rooms : Option Addr} {sl_made_rooms : Array (Option Value)} {oc_made_rooms kV_made_rooms dc_made_rooms pm_made_rooms ct_made_rooms : Value} {cd_made_rooms : Value}
    {ad_made_forest : Addr} {od_made_forest an_made_forest : Option Addr} {sl_made_forest : Array (Option Value)} {oc_made_forest kV_made_forest dc_made_forest pm_made_forest ct_made_forest : Value} {cd_made_forest : Value}
    {ad_is_forest : Addr} {od_is_forest an_is_forest : Option Addr} {sl_is_forest : Array (Option Value)} {oc_is_forest kV_is_forest dc_is_forest pm_is_forest ct_is_forest : Value} {cd_is_forest : Value}
    {ad_room_within : Addr} {od_room_within an_room_within : Option Addr} {sl_room_within : Array (Option Value)} {oc_room_within kV_room_within dc_room_within pm_room_within ct_room_within : Value} {cd_room_within : Value}
    {ad__may_have : Addr} {od__may_have an__may_have : Option Addr} {sl__may_have : Array (Option Value)} {oc__may_have kV__may_have dc__may_have pm__may_have ct__may_have : Value} {cd__may_have : Value}
    {ad__within_itself : Addr} {od__within_itself an__within_itself : Option Addr} {sl__within_itself : Array (Option Value)} {oc__within_itself kV__within_itself dc__within_itself pm__within_itself ct__within_itself : Value} {cd__within_itself : Value}
    {ad_standings : Addr} {od_standings an_standings : Option Addr} {sl_standings : Array (Option Value)} {oc_standings kV_standings dc_standings pm_standings ct_standings : Value} {cd_standings : Value}
    {ad_turned : Addr} {od_turned an_turned : Option Addr} {sl_turned : Array (Option Value)} {oc_turned kV_turned dc_turned pm_turned ct_turned : Value} {cd_turned : Value}
    {ad_standing : Addr} {od_standing an_standing : Option Addr} {sl_standing : Array (Option Value)} {oc_standing kV_standing dc_standing pm_standing ct_standing : Value} {cd_standing : Value}
    {ad_standing_in : Addr} {od_standing_in an_standing_in : Option Addr} {sl_standing_in : Array (Option Value)} {oc_standing_in kV_standing_in dc_standing_in pm_standing_in ct_standing_in : Value} {cd_standing_in : Value}
    {ad_every_standing : Addr} {od_every_standing an_every_standing : Option Addr} {sl_every_standing : Array (Option Value)} {oc_every_standing kV_every_standing dc_every_standing pm_every_standing ct_every_standing : Value} {cd_every_standing : Value}
    {ad__law_pool : Addr} {od__law_pool an__law_pool : Option Addr} {sl__law_pool : Array (Option Value)} {oc__law_pool kV__law_pool dc__law_pool pm__law_pool ct__law_pool : Value} {cd__law_pool : Value}
    {ad__law_take : Addr} {od__law_take an__law_take : Option Addr} {sl__law_take : Array (Option Value)} {oc__law_take kV__law_take dc__law_take pm__law_take ct__law_take : Value} {cd__law_take : Value}
    {ad__law_one : Addr} {od__law_one an__law_one : Option Addr} {sl__law_one : Array (Option Value)} {oc__law_one kV__law_one dc__law_one pm__law_one ct__law_one : Value} {cd__law_one : Value}
    {ad__law_mixed : Addr} {od__law_mixed an__law_mixed : Option Addr} {sl__law_mixed : Array (Option Value)} {oc__law_mixed kV__law_mixed dc__law_mixed pm__law_mixed ct__law_mixed : Value} {cd__law_mixed : Value}
    {ad__law_climb : Addr} {od__law_climb an__law_climb : Option Addr} {sl__law_climb : Array (Option Value)} {oc__law_climb kV__law_climb dc__law_climb pm__law_climb ct__law_climb : Value} {cd__law_climb : Value}
    {ad__law_standing : Addr} {od__law_standing an__law_standing : Option Addr} {sl__law_standing : Array (Option Value)} {oc__law_standing kV__law_standing dc__law_standing pm__law_standing ct__law_standing : Value} {cd__law_standing : Value}
    {ad__law_turned : Addr} {od__law_turned an__law_turned : Option Addr} {sl__law_turned : Array (Option Value)} {oc__law_turned kV__law_turned dc__law_turned pm__law_turned ct__law_turned : Value} {cd__law_turned : Value}
    {ad__law_every : Addr} {od__law_every an__law_every : Option Addr} {sl__law_every : Array (Option Value)} {oc__law_every kV__law_every dc__law_every pm__law_every ct__law_every : Value} {cd__law_every : Value}
    {ad__law_number : Addr} {od__law_number an__law_number : Option Addr} {sl__law_number : Array (Option Value)} {oc__law_number kV__law_number dc__law_number pm__law_number ct__law_number : Value} {cd__law_number : Value}
    {ad__law_grown : Addr} {od__law_grown an__law_grown : Option Addr} {sl__law_grown : Array (Option Value)} {oc__law_grown kV__law_grown dc__law_grown pm__law_grown ct__law_grown : Value} {cd__law_grown : Value}
    {ad__law_heard : Addr} {od__law_heard an__law_heard : Option Addr} {sl__law_heard : Array (Option Value)} {oc__law_heard kV__law_heard dc__law_heard pm__law_heard ct__law_heard : Value} {cd__law_heard : Value}
    {ad__law_refused : Addr} {od__law_refused an__law_refused : Option Addr} {sl__law_refused : Array (Option Value)} {oc__law_refused kV__law_refused dc__law_refused pm__law_refused ct__law_refused : Value} {cd__law_refused : Value}
    {ad__law_is_place : Addr} {od__law_is_place an__law_is_place : Option Addr} {sl__law_is_place : Array (Option Value)} {oc__law_is_place kV__law_is_place dc__law_is_place pm__law_is_place ct__law_is_place : Value} {cd__law_is_place : Value}
    {ad__law_due : Addr} {od__law_due an__law_due : Option Addr} {sl__law_due : Array (Option Value)} {oc__law_due kV__law_due dc__law_due pm__law_due ct__law_due : Value} {cd__law_due : Value}
    {ad__law_is_made_right : Addr} {od__law_is_made_right an__law_is_made_right : Option Addr} {sl__law_is_made_right : Array (Option Value)} {oc__law_is_made_right kV__law_is_made_right dc__law_is_made_right pm__law_is_made_right ct__law_is_made_right : Value} {cc__law_is_made_right pt__law_is_made_right : Addr} {yc__law_is_made_right : Value} {yd__law_is_made_right : Option Addr} {ys__law_is_made_right : Array (Option Value)} {vs__law_is_made_right : Array Value}
    {ad__law_odd : Addr} {od__law_odd an__law_odd : Option Addr} {sl__law_odd : Array (Option Value)} {oc__law_odd kV__law_odd dc__law_odd pm__law_odd ct__law_odd : Value} {cd__law_odd : Value}
    {ad__law_bent_right : Addr} {od__law_bent_right an__law_bent_right : Option Addr} {sl__law_bent_right : Array (Option Value)} {oc__law_bent_right kV__law_bent_right dc__law_bent_right pm__law_bent_right ct__law_bent_right : Value} {cd__law_bent_right : Value}
    {ad__law_pair_right : Addr} {od__law_pair_right an__law_pair_right : Option Addr} {sl__law_pair_right : Array (Option Value)} {oc__law_pair_right kV__law_pair_right dc__law_pair_right pm__law_pair_right ct__law_pair_right : Value} {cd__law_pair_right : Value}
    {ad__law_things_right : Addr} {od__law_things_right an__law_things_right : Option Addr} {sl__law_things_right : Array (Option Value)} {oc__law_things_right kV__law_things_right dc__law_things_right pm__law_things_right ct__law_things_right : Value} {cc__law_things_right pt__law_things_right : Addr} {yc__law_things_right : Value} {yd__law_things_right : Option Addr} {ys__law_things_right : Array (Option Value)} {vs__law_things_right : Array Value}
    {ad_law : Addr} {od_law an_law : Option Addr} {sl_law : Array (Option Value)} {oc_law kV_law dc_law pm_law ct_law : Value} {cc_law pt_law : Addr} {yc_law : Value} {yd_law : Option Addr} {ys_law : Array (Option Value)} {vs_law : Array Value}
    {t_MOST_THINGS : Tok}
    {t_MOST_ROOMS : Tok}
    {ga_APART : Addr} {god_APART : Option Addr} {gi_APART : Array Value} {gn_APART : Nat} {gs_APART : Array (Option Value)} {gv_APART : List V}
    {C_Refused fI : Addr} {iod ian : Option Addr} {isl : Array (Option Value)} {ioc idc ipm icd ict : Value} {ip1 ip2 iq1 iq2 iq3 iq4 iq5 iq6 iq7 iq8 iq9 iq0 : Pos}
    {C_BadRooms : Addr} {nm_BadRooms q_BadRooms : Str} {N_BadRooms : Addr} {bs_BadRooms bm_BadRooms : List Value} {sn_BadRooms : List Str} {sub_BadRooms : List Value} {ab_BadRooms : Bool} {col_BadRooms : Option Bool} {dd_BadRooms : Option Addr} {m0_BadRooms m1_BadRooms m3_BadRooms m5_BadRooms : Option Value} {tn_BadRooms : Tok}
    {C_BadThing : Addr} {nm_BadThing q_BadThing : Str} {N_BadThing : Addr} {bs_BadThing bm_BadThing : List Value} {sn_BadThing : List Str} {sub_BadThing : List Value} {ab_BadThing : Bool} {col_BadThing : Option Bool} {dd_BadThing : Option Addr} {m0_BadThing m1_BadThing m3_BadThing m5_BadThing : Option Value} {tn_BadThing : Tok}
    {C_BadForest : Addr} {nm_BadForest q_BadForest : Str} {N_BadForest : Addr} {bs_BadForest bm_BadForest : List Value} {sn_BadForest : List Str} {sub_BadForest : List Value} {ab_BadForest : Bool} {col_BadForest : Option Bool} {dd_BadForest : Option Addr} {m0_BadForest m1_BadForest m3_BadForest m5_BadForest : Option Value} {tn_BadForest : Tok}
    {C_Ring : Addr} {nm_Ring q_Ring : Str} {N_Ring : Addr} {bs_Ring bm_Ring : List Value} {sn_Ring : List Str} {sub_Ring : List Value} {ab_Ring : Bool} {col_Ring : Option Bool} {dd_Ring : Option Addr} {m0_Ring m1_Ring m3_Ring m5_Ring : Option Value} {tn_Ring : Tok}
    {C_TooMany : Addr} {nm_TooMany q_TooMany : Str} {N_TooMany : Addr} {bs_TooMany bm_TooMany : List Value} {sn_TooMany : List Str} {sub_TooMany : List Value} {ab_TooMany : Bool} {col_TooMany : Option Bool} {dd_TooMany : Option Addr} {m0_TooMany m1_TooMany m3_TooMany m5_TooMany : Option Value} {tn_TooMany : Tok}
    (a_is_number : PySem.W.nsIn K mainGlobals "is_number" = some (some (.ref ad_is_number)))
    (l_is_number : K.lookup ad_is_number = some ⟨oc_is_number, od_is_number, .func (PySem.W.fnOf "is_number" "is_number" (defArgs s_is_number) (defBody s_is_number) (defScope s_is_number) .none kV_is_number dc_is_number pm_is_number an_is_number cd_is_number ct_is_number), sl_is_number⟩)
    (c_is_number : PySem.W.codeIn K cd_is_number "is_number" = true)
    (k_is_number : PySem.W.keepIn K (.ref ad_is_number) = true)
    (a_is_pair : PySem.W.nsIn K mainGlobals "is_pair" = some (some (.ref ad_is_pair)))
    (l_is_pair : K.lookup ad_is_pair = some ⟨oc_is_pair, od_is_pair, .func (PySem.W.fnOf "is_pair" "is_pair" (defArgs s_is_pair) (defBody s_is_pair) (defScope s_is_pair) .none kV_is_pair dc_is_pair pm_is_pair an_is_pair cd_is_pair ct_is_pair), sl_is_pair⟩)
    (c_is_pair : PySem.W.codeIn K cd_is_pair "is_pair" = true)
    (k_is_pair : PySem.W.keepIn K (.ref ad_is_pair) = true)
    (a_has_thing : PySem.W.nsIn K mainGlobals "has_thing" = some (some (.ref ad_has_thing)))
    (l_has_thing : K.lookup ad_has_thing = some ⟨oc_has_thing, od_has_thing, .func (PySem.W.fnOf "has_thing" "has_thing" (defArgs s_has_thing) (defBody s_has_thing) (defScope s_has_thing) .none kV_has_thing dc_has_thing pm_has_thing an_has_thing cd_has_thing ct_has_thing), sl_has_thing⟩)
    (c_has_thing : PySem.W.codeIn K cd_has_thing "has_thing" = true)
    (k_has_thing : PySem.W.keepIn K (.ref ad_has_thing) = true)
    (a_has_room : PySem.W.nsIn K mainGlobals "has_room" = some (some (.ref ad_has_room)))
    (l_has_room : K.lookup ad_has_room = some ⟨oc_has_room, od_has_room, .func (PySem.W.fnOf "has_room" "has_room" (defArgs s_has_room) (defBody s_has_room) (defScope s_has_room) .none kV_has_room dc_has_room pm_has_room an_has_room cd_has_room ct_has_room), sl_has_room⟩)
    (c_has_room : PySem.W.codeIn K cd_has_room "has_room" = true)
    (k_has_room : PySem.W.keepIn K (.ref ad_has_room) = true)
    (a_check_thing : PySem.W.nsIn K mainGlobals "check_thing" = some (some (.ref ad_check_thing)))
    (l_check_thing : K.lookup ad_check_thing = some ⟨oc_check_thing, od_check_thing, .func (PySem.W.fnOf "check_thing" "check_thing" (defArgs s_check_thing) (defBody s_check_thing) (defScope s_check_thing) .none kV_check_thing dc_check_thing pm_check_thing an_check_thing cd_check_thing ct_check_thing), sl_check_thing⟩)
    (c_check_thing : PySem.W.codeIn K cd_check_thing "check_thing" = true)
    (k_check_thing : PySem.W.keepIn K (.ref ad_check_thing) = true)
    (a_check_two : PySem.W.nsIn K mainGlobals "check_two" = some (some (.ref ad_check_two)))
    (l_check_two : K.lookup ad_check_two = some ⟨oc_check_two, od_check_two, .func (PySem.W.fnOf "check_two" "check_two" (defArgs s_check_two) (defBody s_check_two) (defScope s_check_two) .none kV_check_two dc_check_two pm_check_two an_check_two cd_check_two ct_check_two), sl_check_two⟩)
    (c_check_two : PySem.W.codeIn K cd_check_two "check_two" = true)
    (k_check_two : PySem.W.keepIn K (.ref ad_check_two) = true)
    (a_made_rooms : PySem.W.nsIn K mainGlobals "made_rooms" = some (some (.ref ad_made_rooms)))
    (l_made_rooms : K.lookup ad_made_rooms = some ⟨oc_made_rooms, od_made_rooms, .func (PySem.W.fnOf "made_rooms" "made_rooms" (defArgs s_made_rooms) (defBody s_made_rooms) (defScope s_made_rooms) .none kV_made_rooms dc_made_rooms pm_made_rooms an_made_rooms cd_made_rooms ct_made_rooms), sl_made_rooms⟩)
    (c_made_rooms : PySem.W.codeIn K cd_made_rooms "made_rooms" = true)
    (k_made_rooms : PySem.W.keepIn K (.ref ad_made_rooms) = true)
    (a_made_forest : PySem.W.nsIn K mainGlobals "made_forest" = some (some (.ref ad_made_forest)))
    (l_made_forest : K.lookup ad_made_forest = some ⟨oc_made_forest, od_made_forest, .func (PySem.W.fnOf "made_forest" "made_forest" (defArgs s_made_forest) (defBody s_made_forest) (defScope s_made_forest) .none kV_made_forest dc_made_forest pm_made_forest an_made_forest cd_made_forest ct_made_forest), sl_made_forest⟩)
    (c_made_forest : PySem.W.codeIn K cd_made_forest "made_forest" = true)
    (k_made_forest : PySem.W.keepIn K (.ref ad_made_forest) = true)
    (a_is_forest : PySem.W.nsIn K mainGlobals "is_forest" = some (some (.ref ad_is_forest)))
    (l_is_forest : K.lookup ad_is_forest = some ⟨oc_is_forest, od_is_forest, .func (PySem.W.fnOf "is_forest" "is_forest" (defArgs s_is_forest) (defBody s_is_forest) (defScope s_is_forest) .none kV_is_forest dc_is_forest pm_is_forest an_is_forest cd_is_forest ct_is_forest), sl_is_forest⟩)
    (c_is_forest : PySem.W.codeIn K cd_is_forest "is_forest" = true)
    (k_is_forest : PySem.W.keepIn K (.ref ad_is_forest) = true)
    (a_room_within : PySem.W.nsIn K mainGlobals "room_within" = some (some (.ref ad_room_within)))
    (l_room_within : K.lookup ad_room_within = some ⟨oc_room_within, od_room_within, .func (PySem.W.fnOf "room_within" "room_within" (defArgs s_room_within) (defBody s_room_within) (defScope s_room_within) .none kV_room_within dc_room_within pm_room_within an_room_within cd_room_within ct_room_within), sl_room_within⟩)
    (c_room_within : PySem.W.codeIn K cd_room_within "room_within" = true)
    (k_room_within : PySem.W.keepIn K (.ref ad_room_within) = true)
    (a__may_have : PySem.W.nsIn K mainGlobals "_may_have" = some (some (.ref ad__may_have)))
    (l__may_have : K.lookup ad__may_have = some ⟨oc__may_have, od__may_have, .func (PySem.W.fnOf "_may_have" "_may_have" (defArgs s__may_have) (defBody s__may_have) (defScope s__may_have) .none kV__may_have dc__may_have pm__may_have an__may_have cd__may_have ct__may_have), sl__may_have⟩)
    (c__may_have : PySem.W.codeIn K cd__may_have "_may_have" = true)
    (k__may_have : PySem.W.keepIn K (.ref ad__may_have) = true)
    (a__within_itself : PySem.W.nsIn K mainGlobals "_within_itself" = some (some (.ref ad__within_itself)))
    (l__within_itself : K.lookup ad__within_itself = some ⟨oc__within_itself, od__within_itself, .func (PySem.W.fnOf "_within_itself" "_within_itself" (defArgs s__within_itself) (defBody s__within_itself) (defScope s__within_itself) .none kV__within_itself dc__within_itself pm__within_itself an__within_itself cd__within_itself ct__within_itself), sl__within_itself⟩)
    (c__within_itself : PySem.W.codeIn K cd__within_itself "_within_itself" = true)
    (k__within_itself : PySem.W.keepIn K (.ref ad__within_itself) = true)
    (a_standings : PySem.W.nsIn K mainGlobals "standings" = some (some (.ref ad_standings)))
    (l_standings : K.lookup ad_standings = some ⟨oc_standings, od_standings, .func (PySem.W.fnOf "standings" "standings" (defArgs s_standings) (defBody s_standings) (defScope s_standings) .none kV_standings dc_standings pm_standings an_standings cd_standings ct_standings), sl_standings⟩)
    (c_standings : PySem.W.codeIn K cd_standings "standings" = true)
    (k_standings : PySem.W.keepIn K (.ref ad_standings) = true)
    (a_turned : PySem.W.nsIn K mainGlobals "turned" = some (some (.ref ad_turned)))
    (l_turned : K.lookup ad_turned = some ⟨oc_turned, od_turned, .func (PySem.W.fnOf "turned" "turned" (defArgs s_turned) (defBody s_turned) (defScope s_turned) .none kV_turned dc_turned pm_turned an_turned cd_turned ct_turned), sl_turned⟩)
    (c_turned : PySem.W.codeIn K cd_turned "turned" = true)
    (k_turned : PySem.W.keepIn K (.ref ad_turned) = true)
    (a_standing : PySem.W.nsIn K mainGlobals "standing" = some (some (.ref ad_standing)))
    (l_standing : K.lookup ad_standing = some ⟨oc_standing, od_standing, .func (PySem.W.fnOf "standing" "standing" (defArgs s_standing) (defBody s_standing) (defScope s_standing) .none kV_standing dc_standing pm_standing an_standing cd_standing ct_standing), sl_standing⟩)
    (c_standing : PySem.W.codeIn K cd_standing "standing" = true)
    (k_standing : PySem.W.keepIn K (.ref ad_standing) = true)
    (a_standing_in : PySem.W.nsIn K mainGlobals "standing_in" = some (some (.ref ad_standing_in)))
    (l_standing_in : K.lookup ad_standing_in = some ⟨oc_standing_in, od_standing_in, .func (PySem.W.fnOf "standing_in" "standing_in" (defArgs s_standing_in) (defBody s_standing_in) (defScope s_standing_in) .none kV_standing_in dc_standing_in pm_standing_in an_standing_in cd_standing_in ct_standing_in), sl_standing_in⟩)
    (c_standing_in : PySem.W.codeIn K cd_standing_in "standing_in" = true)
    (k_standing_in : PySem.W.keepIn K (.ref ad_standing_in) = true)
    (a_every_standing : PySem.W.nsIn K mainGlobals "every_standing" = some (some (.ref ad_every_standing)))
    (l_every_standing : K.lookup ad_every_standing = some ⟨oc_every_standing, od_every_standing, .func (PySem.W.fnOf "every_standing" "every_standing" (defArgs s_every_standing) (defBody s_every_standing) (defScope s_every_standing) .none kV_every_standing dc_every_standing pm_every_standing an_every_standing cd_every_standing ct_every_standing), sl_every_standing⟩)
    (c_every_standing : PySem.W.codeIn K cd_every_standing "every_standing" = true)
    (k_every_standing : PySem.W.keepIn K (.ref ad_every_standing) = true)
    (a__law_pool : PySem.W.nsIn K mainGlobals "_law_pool" = some (some (.ref ad__law_pool)))
    (l__law_pool : K.lookup ad__law_pool = some ⟨oc__law_pool, od__law_pool, .func (PySem.W.fnOf "_law_pool" "_law_pool" (defArgs s__law_pool) (defBody s__law_pool) (defScope s__law_pool) .none kV__law_pool dc__law_pool pm__law_pool an__law_pool cd__law_pool ct__law_pool), sl__law_pool⟩)
    (c__law_pool : PySem.W.codeIn K cd__law_pool "_law_pool" = true)
    (k__law_pool : PySem.W.keepIn K (.ref ad__law_pool) = true)
    (a__law_take : PySem.W.nsIn K mainGlobals "_law_take" = some (some (.ref ad__law_take)))
    (l__law_take : K.lookup ad__law_take = some ⟨oc__law_take, od__law_take, .func (PySem.W.fnOf "_law_take" "_law_take" (defArgs s__law_take) (defBody s__law_take) (defScope s__law_take) .none kV__law_take dc__law_take pm__law_take an__law_take cd__law_take ct__law_take), sl__law_take⟩)
    (c__law_take : PySem.W.codeIn K cd__law_take "_law_take" = true)
    (k__law_take : PySem.W.keepIn K (.ref ad__law_take) = true)
    (a__law_one : PySem.W.nsIn K mainGlobals "_law_one" = some (some (.ref ad__law_one)))
    (l__law_one : K.lookup ad__law_one = some ⟨oc__law_one, od__law_one, .func (PySem.W.fnOf "_law_one" "_law_one" (defArgs s__law_one) (defBody s__law_one) (defScope s__law_one) .none kV__law_one dc__law_one pm__law_one an__law_one cd__law_one ct__law_one), sl__law_one⟩)
    (c__law_one : PySem.W.codeIn K cd__law_one "_law_one" = true)
    (k__law_one : PySem.W.keepIn K (.ref ad__law_one) = true)
    (a__law_mixed : PySem.W.nsIn K mainGlobals "_law_mixed" = some (some (.ref ad__law_mixed)))
    (l__law_mixed : K.lookup ad__law_mixed = some ⟨oc__law_mixed, od__law_mixed, .func (PySem.W.fnOf "_law_mixed" "_law_mixed" (defArgs s__law_mixed) (defBody s__law_mixed) (defScope s__law_mixed) .none kV__law_mixed dc__law_mixed pm__law_mixed an__law_mixed cd__law_mixed ct__law_mixed), sl__law_mixed⟩)
    (c__law_mixed : PySem.W.codeIn K cd__law_mixed "_law_mixed" = true)
    (k__law_mixed : PySem.W.keepIn K (.ref ad__law_mixed) = true)
    (a__law_climb : PySem.W.nsIn K mainGlobals "_law_climb" = some (some (.ref ad__law_climb)))
    (l__law_climb : K.lookup ad__law_climb = some ⟨oc__law_climb, od__law_climb, .func (PySem.W.fnOf "_law_climb" "_law_climb" (defArgs s__law_climb) (defBody s__law_climb) (defScope s__law_climb) .none kV__law_climb dc__law_climb pm__law_climb an__law_climb cd__law_climb ct__law_climb), sl__law_climb⟩)
    (c__law_climb : PySem.W.codeIn K cd__law_climb "_law_climb" = true)
    (k__law_climb : PySem.W.keepIn K (.ref ad__law_climb) = true)
    (a__law_standing : PySem.W.nsIn K mainGlobals "_law_standing" = some (some (.ref ad__law_standing)))
    (l__law_standing : K.lookup ad__law_standing = some ⟨oc__law_standing, od__law_standing, .func (PySem.W.fnOf "_law_standing" "_law_standing" (defArgs s__law_standing) (defBody s__law_standing) (defScope s__law_standing) .none kV__law_standing dc__law_standing pm__law_standing an__law_standing cd__law_standing ct__law_standing), sl__law_standing⟩)
    (c__law_standing : PySem.W.codeIn K cd__law_standing "_law_standing" = true)
    (k__law_standing : PySem.W.keepIn K (.ref ad__law_standing) = true)
    (a__law_turned : PySem.W.nsIn K mainGlobals "_law_turned" = some (some (.ref ad__law_turned)))
    (l__law_turned : K.lookup ad__law_turned = some ⟨oc__law_turned, od__law_turned, .func (PySem.W.fnOf "_law_turned" "_law_turned" (defArgs s__law_turned) (defBody s__law_turned) (defScope s__law_turned) .none kV__law_turned dc__law_turned pm__law_turned an__law_turned cd__law_turned ct__law_turned), sl__law_turned⟩)
    (c__law_turned : PySem.W.codeIn K cd__law_turned "_law_turned" = true)
    (k__law_turned : PySem.W.keepIn K (.ref ad__law_turned) = true)
    (a__law_every : PySem.W.nsIn K mainGlobals "_law_every" = some (some (.ref ad__law_every)))
    (l__law_every : K.lookup ad__law_every = some ⟨oc__law_every, od__law_every, .func (PySem.W.fnOf "_law_every" "_law_every" (defArgs s__law_every) (defBody s__law_every) (defScope s__law_every) .none kV__law_every dc__law_every pm__law_every an__law_every cd__law_every ct__law_every), sl__law_every⟩)
    (c__law_every : PySem.W.codeIn K cd__law_every "_law_every" = true)
    (k__law_every : PySem.W.keepIn K (.ref ad__law_every) = true)
    (a__law_number : PySem.W.nsIn K mainGlobals "_law_number" = some (some (.ref ad__law_number)))
    (l__law_number : K.lookup ad__law_number = some ⟨oc__law_number, od__law_number, .func (PySem.W.fnOf "_law_number" "_law_number" (defArgs s__law_number) (defBody s__law_number) (defScope s__law_number) .none kV__law_number dc__law_number pm__law_number an__law_number cd__law_number ct__law_number), sl__law_number⟩)
    (c__law_number : PySem.W.codeIn K cd__law_number "_law_number" = true)
    (k__law_number : PySem.W.keepIn K (.ref ad__law_number) = true)
    (a__law_grown : PySem.W.nsIn K mainGlobals "_law_grown" = some (some (.ref ad__law_grown)))
    (l__law_grown : K.lookup ad__law_grown = some ⟨oc__law_grown, od__law_grown, .func (PySem.W.fnOf "_law_grown" "_law_grown" (defArgs s__law_grown) (defBody s__law_grown) (defScope s__law_grown) .none kV__law_grown dc__law_grown pm__law_grown an__law_grown cd__law_grown ct__law_grown), sl__law_grown⟩)
    (c__law_grown : PySem.W.codeIn K cd__law_grown "_law_grown" = true)
    (k__law_grown : PySem.W.keepIn K (.ref ad__law_grown) = true)
    (a__law_heard : PySem.W.nsIn K mainGlobals "_law_heard" = some (some (.ref ad__law_heard)))
    (l__law_heard : K.lookup ad__law_heard = some ⟨oc__law_heard, od__law_heard, .func (PySem.W.fnOf "_law_heard" "_law_heard" (defArgs s__law_heard) (defBody s__law_heard) (defScope s__law_heard) .none kV__law_heard dc__law_heard pm__law_heard an__law_heard cd__law_heard ct__law_heard), sl__law_heard⟩)
    (c__law_heard : PySem.W.codeIn K cd__law_heard "_law_heard" = true)
    (k__law_heard : PySem.W.keepIn K (.ref ad__law_heard) = true)
    (a__law_refused : PySem.W.nsIn K mainGlobals "_law_refused" = some (some (.ref ad__law_refused)))
    (l__law_refused : K.lookup ad__law_refused = some ⟨oc__law_refused, od__law_refused, .func (PySem.W.fnOf "_law_refused" "_law_refused" (defArgs s__law_refused) (defBody s__law_refused) (defScope s__law_refused) .none kV__law_refused dc__law_refused pm__law_refused an__law_refused cd__law_refused ct__law_refused), sl__law_refused⟩)
    (c__law_refused : PySem.W.codeIn K cd__law_refused "_law_refused" = true)
    (k__law_refused : PySem.W.keepIn K (.ref ad__law_refused) = true)
    (a__law_is_place : PySem.W.nsIn K mainGlobals "_law_is_place" = some (some (.ref ad__law_is_place)))
    (l__law_is_place : K.lookup ad__law_is_place = some ⟨oc__law_is_place, od__law_is_place, .func (PySem.W.fnOf "_law_is_place" "_law_is_place" (defArgs s__law_is_place) (defBody s__law_is_place) (defScope s__law_is_place) .none kV__law_is_place dc__law_is_place pm__law_is_place an__law_is_place cd__law_is_place ct__law_is_place), sl__law_is_place⟩)
    (c__law_is_place : PySem.W.codeIn K cd__law_is_place "_law_is_place" = true)
    (k__law_is_place : PySem.W.keepIn K (.ref ad__law_is_place) = true)
    (a__law_due : PySem.W.nsIn K mainGlobals "_law_due" = some (some (.ref ad__law_due)))
    (l__law_due : K.lookup ad__law_due = some ⟨oc__law_due, od__law_due, .func (PySem.W.fnOf "_law_due" "_law_due" (defArgs s__law_due) (defBody s__law_due) (defScope s__law_due) .none kV__law_due dc__law_due pm__law_due an__law_due cd__law_due ct__law_due), sl__law_due⟩)
    (c__law_due : PySem.W.codeIn K cd__law_due "_law_due" = true)
    (k__law_due : PySem.W.keepIn K (.ref ad__law_due) = true)
    (a__law_is_made_right : PySem.W.nsIn K mainGlobals "_law_is_made_right" = some (some (.ref ad__law_is_made_right)))
    (l__law_is_made_right : K.lookup ad__law_is_made_right = some ⟨oc__law_is_made_right, od__law_is_made_right, .func (PySem.W.fnOf "_law_is_made_right" "_law_is_made_right" (defArgs s__law_is_made_right) (defBody s__law_is_made_right) (defScope s__law_is_made_right) .none kV__law_is_made_right dc__law_is_made_right pm__law_is_made_right an__law_is_made_right (.ref cc__law_is_made_right) ct__law_is_made_right), sl__law_is_made_right⟩)
    (c__law_is_made_right : PySem.W.codeIn K (.ref cc__law_is_made_right) "_law_is_made_right" = true)
    (k__law_is_made_right : PySem.W.keepIn K (.ref ad__law_is_made_right) = true)
    (xc__law_is_made_right : K.lookup cc__law_is_made_right = some ⟨yc__law_is_made_right, yd__law_is_made_right, .fields vs__law_is_made_right, ys__law_is_made_right⟩)
    (xv__law_is_made_right : vs__law_is_made_right[11]? = some (.ref pt__law_is_made_right))
    (xn__law_is_made_right : K.lookup pt__law_is_made_right = none)
    (xr__law_is_made_right : ((recsOf q).find? (fun r => r.name == ("_law_is_made_right" : Str))).isSome = true)
    (a__law_odd : PySem.W.nsIn K mainGlobals "_law_odd" = some (some (.ref ad__law_odd)))
    (l__law_odd : K.lookup ad__law_odd = some ⟨oc__law_odd, od__law_odd, .func (PySem.W.fnOf "_law_odd" "_law_odd" (defArgs s__law_odd) (defBody s__law_odd) (defScope s__law_odd) .none kV__law_odd dc__law_odd pm__law_odd an__law_odd cd__law_odd ct__law_odd), sl__law_odd⟩)
    (c__law_odd : PySem.W.codeIn K cd__law_odd "_law_odd" = true)
    (k__law_odd : PySem.W.keepIn K (.ref ad__law_odd) = true)
    (a__law_bent_right : PySem.W.nsIn K mainGlobals "_law_bent_right" = some (some (.ref ad__law_bent_right)))
    (l__law_bent_right : K.lookup ad__law_bent_right = some ⟨oc__law_bent_right, od__law_bent_right, .func (PySem.W.fnOf "_law_bent_right" "_law_bent_right" (defArgs s__law_bent_right) (defBody s__law_bent_right) (defScope s__law_bent_right) .none kV__law_bent_right dc__law_bent_right pm__law_bent_right an__law_bent_right cd__law_bent_right ct__law_bent_right), sl__law_bent_right⟩)
    (c__law_bent_right : PySem.W.codeIn K cd__law_bent_right "_law_bent_right" = true)
    (k__law_bent_right : PySem.W.keepIn K (.ref ad__law_bent_right) = true)
    (a__law_pair_right : PySem.W.nsIn K mainGlobals "_law_pair_right" = some (some (.ref ad__law_pair_right)))
    (l__law_pair_right : K.lookup ad__law_pair_right = some ⟨oc__law_pair_right, od__law_pair_right, .func (PySem.W.fnOf "_law_pair_right" "_law_pair_right" (defArgs s__law_pair_right) (defBody s__law_pair_right) (defScope s__law_pair_right) .none kV__law_pair_right dc__law_pair_right pm__law_pair_right an__law_pair_right cd__law_pair_right ct__law_pair_right), sl__law_pair_right⟩)
    (c__law_pair_right : PySem.W.codeIn K cd__law_pair_right "_law_pair_right" = true)
    (k__law_pair_right : PySem.W.keepIn K (.ref ad__law_pair_right) = true)
    (a__law_things_right : PySem.W.nsIn K mainGlobals "_law_things_right" = some (some (.ref ad__law_things_right)))
    (l__law_things_right : K.lookup ad__law_things_right = some ⟨oc__law_things_right, od__law_things_right, .func (PySem.W.fnOf "_law_things_right" "_law_things_right" (defArgs s__law_things_right) (defBody s__law_things_right) (defScope s__law_things_right) .none kV__law_things_right dc__law_things_right pm__law_things_right an__law_things_right (.ref cc__law_things_right) ct__law_things_right), sl__law_things_right⟩)
    (c__law_things_right : PySem.W.codeIn K (.ref cc__law_things_right) "_law_things_right" = true)
    (k__law_things_right : PySem.W.keepIn K (.ref ad__law_things_right) = true)
    (xc__law_things_right : K.lookup cc__law_things_right = some ⟨yc__law_things_right, yd__law_things_right, .fields vs__law_things_right, ys__law_things_right⟩)
    (xv__law_things_right : vs__law_things_right[11]? = some (.ref pt__law_things_right))
    (xn__law_things_right : K.lookup pt__law_things_right = none)
    (xr__law_things_right : ((recsOf q).find? (fun r => r.name == ("_law_things_right" : Str))).isSome = true)
    (a_law : PySem.W.nsIn K mainGlobals "law" = some (some (.ref ad_law)))
    (l_law : K.lookup ad_law = some ⟨oc_law, od_law, .func (PySem.W.fnOf "law" "law" (defArgs s_law) (defBody s_law) (defScope s_law) .none kV_law dc_law pm_law an_law (.ref cc_law) ct_law), sl_law⟩)
    (c_law : PySem.W.codeIn K (.ref cc_law) "law" = true)
    (k_law : PySem.W.keepIn K (.ref ad_law) = true)
    (xc_law : K.lookup cc_law = some ⟨yc_law, yd_law, .fields vs_law, ys_law⟩)
    (xv_law : vs_law[11]? = some (.ref pt_law))
    (xn_law : K.lookup pt_law = none)
    (xr_law : ((recsOf q).find? (fun r => r.name == ("law" : Str))).isSome = true)
    (n_ValueError : PySem.W.nsIn K mainGlobals "ValueError" = some none)
    (n_bool : PySem.W.nsIn K mainGlobals "bool" = some none)
    (n_enumerate : PySem.W.nsIn K mainGlobals "enumerate" = some none)
    (n_int : PySem.W.nsIn K mainGlobals "int" = some none)
    (n_isinstance : PySem.W.nsIn K mainGlobals "isinstance" = some none)
    (n_len : PySem.W.nsIn K mainGlobals "len" = some none)
    (n_list : PySem.W.nsIn K mainGlobals "list" = some none)
    (n_max : PySem.W.nsIn K mainGlobals "max" = some none)
    (n_range : PySem.W.nsIn K mainGlobals "range" = some none)
    (n_repr : PySem.W.nsIn K mainGlobals "repr" = some none)
    (n_tuple : PySem.W.nsIn K mainGlobals "tuple" = some none)
    (v_MOST_THINGS : PySem.W.nsIn K mainGlobals "MOST_THINGS" = some (some (.int 24 t_MOST_THINGS)))
    (v_MOST_ROOMS : PySem.W.nsIn K mainGlobals "MOST_ROOMS" = some (some (.int 4 t_MOST_ROOMS)))
    (v_APART : PySem.W.nsIn K mainGlobals "APART" = some (some (.ref ga_APART)))
    (gl_APART : K.lookup ga_APART = some ⟨.type "tuple", god_APART, .seq gi_APART gn_APART, gs_APART⟩)
    (gf_APART : flats gi_APART.toList = some (gv_APART, [.str "apart", .int 0]))
    (gz_APART : gi_APART.size ≤ 1000)
    (a_Refused : PySem.W.nsIn K mainGlobals "Refused" = some (some (.ref C_Refused)))
    (i_Refused : PySem.W.isClsIn K C_Refused = true)
    (t_Refused : PySem.W.typeIn K (.ref C_Refused) = some (.type "type"))
    (b_Refused : PySem.W.subIn K (.ref C_Refused) (.type "BaseException") = some true)
    (f_init : PySem.W.findIn K (.ref C_Refused) "__init__" = some (some (.ref fI)))
    (t_init : PySem.W.typeIn K (.ref fI) = some (.type "function"))
    (l_init : K.lookup fI = some ⟨ioc, iod, .func (PySem.W.fnOf "__init__" "Refused.__init__" (PySem.NzX.iA ip1 ip2) (PySem.NzX.iB iq1 iq2 iq3 iq4 iq5 iq6 iq7 iq8 iq9 iq0) PySem.NzX.iS .none .none idc ipm ian icd ict), isl⟩)
    (c_init : PySem.W.codeIn K icd "Refused.__init__" = true)
    (z_cn : PySem.W.specialIn K (.builtin "object.__class__") "__get__" = some (some (.builtin "getset_descriptor.__get__")))
    (z_ct : PySem.W.takesIn K (.builtin "object.__class__") = some true)
    (a_BadRooms : PySem.W.nsIn K mainGlobals "BadRooms" = some (some (.ref C_BadRooms)))
    (xL_BadRooms : K.lookup C_BadRooms = some (excClassObj nm_BadRooms q_BadRooms C_BadRooms N_BadRooms bs_BadRooms bm_BadRooms true sn_BadRooms sub_BadRooms ab_BadRooms col_BadRooms dd_BadRooms m0_BadRooms m1_BadRooms (some (.str "BadRooms" tn_BadRooms)) m3_BadRooms m5_BadRooms "ValueError.__new__"))
    (bm_ok_BadRooms : PySem.HandSPX.refsVE bm_BadRooms = true)
    (sa_BadRooms : PySem.W.findIn K (.ref C_BadRooms) "__setattr__" = some (some (.builtin "object.__setattr__")))
    (ga_BadRooms : PySem.W.findIn K (.ref C_BadRooms) "__getattribute__" = some (some (.builtin "BaseException.__getattribute__")))
    (gg_BadRooms : PySem.W.findIn K (.ref C_BadRooms) "__getattr__" = some none)
    (nb_BadRooms : PySem.W.findIn K (.ref C_BadRooms) "what" = some none)
    (nk_BadRooms : PySem.W.findIn K (.ref C_BadRooms) "kind" = some none)
    (rd_BadRooms : PySem.W.readsIn K C_BadRooms (.type "type") = true)
    (ini_BadRooms : PySem.W.findIn K (.ref C_BadRooms) "__init__" = some (some (.ref fI)))
    (kC_BadRooms : PySem.W.keepIn K (.ref C_BadRooms) = true)
    (eC_BadRooms : PySem.W.subIn K (.ref C_BadRooms) (.type "BaseException") = some true)
    (tC_BadRooms : PySem.W.typeIn K (.ref C_BadRooms) = some (.type "type"))
    (hC_BadRooms : PySem.W.hasDictIn K C_BadRooms = true)
    (iC_BadRooms : PySem.W.isClsIn K C_BadRooms = true)
    (sC_BadRooms : PySem.W.subIn K (.ref C_BadRooms) (.ref C_BadRooms) = some true)
    (ca_BadRooms : PySem.W.findIn K (.ref C_BadRooms) "__class__" = some (some (.builtin "object.__class__")))
    (cm_BadRooms : PySem.W.mroIn K C_BadRooms (.type "object") = some true)
    (ve_BadRooms : PySem.W.subIn K (.ref C_BadRooms) (.type "ValueError") = some true)
    (re_BadRooms : PySem.W.subIn K (.ref C_BadRooms) (.ref C_Refused) = some true)
    (a_BadThing : PySem.W.nsIn K mainGlobals "BadThing" = some (some (.ref C_BadThing)))
    (xL_BadThing : K.lookup C_BadThing = some (excClassObj nm_BadThing q_BadThing C_BadThing N_BadThing bs_BadThing bm_BadThing true sn_BadThing sub_BadThing ab_BadThing col_BadThing dd_BadThing m0_BadThing m1_BadThing (some (.str "BadThing" tn_BadThing)) m3_BadThing m5_BadThing "ValueError.__new__"))
    (bm_ok_BadThing : PySem.HandSPX.refsVE bm_BadThing = true)
    (sa_BadThing : PySem.W.findIn K (.ref C_BadThing) "__setattr__" = some (some (.builtin "object.__setattr__")))
    (ga_BadThing : PySem.W.findIn K (.ref C_BadThing) "__getattribute__" = some (some (.builtin "BaseException.__getattribute__")))
    (gg_BadThing : PySem.W.findIn K (.ref C_BadThing) "__getattr__" = some none)
    (nb_BadThing : PySem.W.findIn K (.ref C_BadThing) "what" = some none)
    (nk_BadThing : PySem.W.findIn K (.ref C_BadThing) "kind" = some none)
    (rd_BadThing : PySem.W.readsIn K C_BadThing (.type "type") = true)
    (ini_BadThing : PySem.W.findIn K (.ref C_BadThing) "__init__" = some (some (.ref fI)))
    (kC_BadThing : PySem.W.keepIn K (.ref C_BadThing) = true)
    (eC_BadThing : PySem.W.subIn K (.ref C_BadThing) (.type "BaseException") = some true)
    (tC_BadThing : PySem.W.typeIn K (.ref C_BadThing) = some (.type "type"))
    (hC_BadThing : PySem.W.hasDictIn K C_BadThing = true)
    (iC_BadThing : PySem.W.isClsIn K C_BadThing = true)
    (sC_BadThing : PySem.W.subIn K (.ref C_BadThing) (.ref C_BadThing) = some true)
    (ca_BadThing : PySem.W.findIn K (.ref C_BadThing) "__class__" = some (some (.builtin "object.__class__")))
    (cm_BadThing : PySem.W.mroIn K C_BadThing (.type "object") = some true)
    (ve_BadThing : PySem.W.subIn K (.ref C_BadThing) (.type "ValueError") = some true)
    (re_BadThing : PySem.W.subIn K (.ref C_BadThing) (.ref C_Refused) = some true)
    (a_BadForest : PySem.W.nsIn K mainGlobals "BadForest" = some (some (.ref C_BadForest)))
    (xL_BadForest : K.lookup C_BadForest = some (excClassObj nm_BadForest q_BadForest C_BadForest N_BadForest bs_BadForest bm_BadForest true sn_BadForest sub_BadForest ab_BadForest col_BadForest dd_BadForest m0_BadForest m1_BadForest (some (.str "BadForest" tn_BadForest)) m3_BadForest m5_BadForest "ValueError.__new__"))
    (bm_ok_BadForest : PySem.HandSPX.refsVE bm_BadForest = true)
    (sa_BadForest : PySem.W.findIn K (.ref C_BadForest) "__setattr__" = some (some (.builtin "object.__setattr__")))
    (ga_BadForest : PySem.W.findIn K (.ref C_BadForest) "__getattribute__" = some (some (.builtin "BaseException.__getattribute__")))
    (gg_BadForest : PySem.W.findIn K (.ref C_BadForest) "__getattr__" = some none)
    (nb_BadForest : PySem.W.findIn K (.ref C_BadForest) "what" = some none)
    (nk_BadForest : PySem.W.findIn K (.ref C_BadForest) "kind" = some none)
    (rd_BadForest : PySem.W.readsIn K C_BadForest (.type "type") = true)
    (ini_BadForest : PySem.W.findIn K (.ref C_BadForest) "__init__" = some (some (.ref fI)))
    (kC_BadForest : PySem.W.keepIn K (.ref C_BadForest) = true)
    (eC_BadForest : PySem.W.subIn K (.ref C_BadForest) (.type "BaseException") = some true)
    (tC_BadForest : PySem.W.typeIn K (.ref C_BadForest) = some (.type "type"))
    (hC_BadForest : PySem.W.hasDictIn K C_BadForest = true)
    (iC_BadForest : PySem.W.isClsIn K C_BadForest = true)
    (sC_BadForest : PySem.W.subIn K (.ref C_BadForest) (.ref C_BadForest) = some true)
    (ca_BadForest : PySem.W.findIn K (.ref C_BadForest) "__class__" = some (some (.builtin "object.__class__")))
    (cm_BadForest : PySem.W.mroIn K C_BadForest (.type "object") = some true)
    (ve_BadForest : PySem.W.subIn K (.ref C_BadForest) (.type "ValueError") = some true)
    (re_BadForest : PySem.W.subIn K (.ref C_BadForest) (.ref C_Refused) = some true)
    (a_Ring : PySem.W.nsIn K mainGlobals "Ring" = some (some (.ref C_Ring)))
    (xL_Ring : K.lookup C_Ring = some (excClassObj nm_Ring q_Ring C_Ring N_Ring bs_Ring bm_Ring true sn_Ring sub_Ring ab_Ring col_Ring dd_Ring m0_Ring m1_Ring (some (.str "Ring" tn_Ring)) m3_Ring m5_Ring "ValueError.__new__"))
    (bm_ok_Ring : PySem.HandSPX.refsVE bm_Ring = true)
    (sa_Ring : PySem.W.findIn K (.ref C_Ring) "__setattr__" = some (some (.builtin "object.__setattr__")))
    (ga_Ring : PySem.W.findIn K (.ref C_Ring) "__getattribute__" = some (some (.builtin "BaseException.__getattribute__")))
    (gg_Ring : PySem.W.findIn K (.ref C_Ring) "__getattr__" = some none)
    (nb_Ring : PySem.W.findIn K (.ref C_Ring) "what" = some none)
    (nk_Ring : PySem.W.findIn K (.ref C_Ring) "kind" = some none)
    (rd_Ring : PySem.W.readsIn K C_Ring (.type "type") = true)
    (ini_Ring : PySem.W.findIn K (.ref C_Ring) "__init__" = some (some (.ref fI)))
    (kC_Ring : PySem.W.keepIn K (.ref C_Ring) = true)
    (eC_Ring : PySem.W.subIn K (.ref C_Ring) (.type "BaseException") = some true)
    (tC_Ring : PySem.W.typeIn K (.ref C_Ring) = some (.type "type"))
    (hC_Ring : PySem.W.hasDictIn K C_Ring = true)
    (iC_Ring : PySem.W.isClsIn K C_Ring = true)
    (sC_Ring : PySem.W.subIn K (.ref C_Ring) (.ref C_Ring) = some true)
    (ca_Ring : PySem.W.findIn K (.ref C_Ring) "__class__" = some (some (.builtin "object.__class__")))
    (cm_Ring : PySem.W.mroIn K C_Ring (.type "object") = some true)
    (ve_Ring : PySem.W.subIn K (.ref C_Ring) (.type "ValueError") = some true)
    (re_Ring : PySem.W.subIn K (.ref C_Ring) (.ref C_Refused) = some true)
    (a_TooMany : PySem.W.nsIn K mainGlobals "TooMany" = some (some (.ref C_TooMany)))
    (xL_TooMany : K.lookup C_TooMany = some (excClassObj nm_TooMany q_TooMany C_TooMany N_TooMany bs_TooMany bm_TooMany true sn_TooMany sub_TooMany ab_TooMany col_TooMany dd_TooMany m0_TooMany m1_TooMany (some (.str "TooMany" tn_TooMany)) m3_TooMany m5_TooMany "ValueError.__new__"))
    (bm_ok_TooMany : PySem.HandSPX.refsVE bm_TooMany = true)
    (sa_TooMany : PySem.W.findIn K (.ref C_TooMany) "__setattr__" = some (some (.builtin "object.__setattr__")))
    (ga_TooMany : PySem.W.findIn K (.ref C_TooMany) "__getattribute__" = some (some (.builtin "BaseException.__getattribute__")))
    (gg_TooMany : PySem.W.findIn K (.ref C_TooMany) "__getattr__" = some none)
    (nb_TooMany : PySem.W.findIn K (.ref C_TooMany) "what" = some none)
    (nk_TooMany : PySem.W.findIn K (.ref C_TooMany) "kind" = some none)
    (rd_TooMany : PySem.W.readsIn K C_TooMany (.type "type") = true)
    (ini_TooMany : PySem.W.findIn K (.ref C_TooMany) "__init__" = some (some (.ref fI)))
    (kC_TooMany : PySem.W.keepIn K (.ref C_TooMany) = true)
    (eC_TooMany : PySem.W.subIn K (.ref C_TooMany) (.type "BaseException") = some true)
    (tC_TooMany : PySem.W.typeIn K (.ref C_TooMany) = some (.type "type"))
    (hC_TooMany : PySem.W.hasDictIn K C_TooMany = true)
    (iC_TooMany : PySem.W.isClsIn K C_TooMany = true)
    (sC_TooMany : PySem.W.subIn K (.ref C_TooMany) (.ref C_TooMany) = some true)
    (ca_TooMany : PySem.W.findIn K (.ref C_TooMany) "__class__" = some (some (.builtin "object.__class__")))
    (cm_TooMany : PySem.W.mroIn K C_TooMany (.type "object") = some true)
    (ve_TooMany : PySem.W.subIn K (.ref C_TooMany) (.type "ValueError") = some true)
    (re_TooMany : PySem.W.subIn K (.ref C_TooMany) (.ref C_Refused) = some true)
    (sub_BadRooms_BadThing : PySem.W.subIn K (.ref C_BadRooms) (.ref C_BadThing) = some false)
    (sub_BadRooms_BadForest : PySem.W.subIn K (.ref C_BadRooms) (.ref C_BadForest) = some false)
    (sub_BadRooms_Ring : PySem.W.subIn K (.ref C_BadRooms) (.ref C_Ring) = some false)
    (sub_BadRooms_TooMany : PySem.W.subIn K (.ref C_BadRooms) (.ref C_TooMany) = some false)
    (sub_BadThing_BadRooms : PySem.W.subIn K (.ref C_BadThing) (.ref C_BadRooms) = some false)
    (sub_BadThing_BadForest : PySem.W.subIn K (.ref C_BadThing) (.ref C_BadForest) = some false)
    (sub_BadThing_Ring : PySem.W.subIn K (.ref C_BadThing) (.ref C_Ring) = some false)
    (sub_BadThing_TooMany : PySem.W.subIn K (.ref C_BadThing) (.ref C_TooMany) = some false)
    (sub_BadForest_BadRooms : PySem.W.subIn K (.ref C_BadForest) (.ref C_BadRooms) = some false)
    (sub_BadForest_BadThing : PySem.W.subIn K (.ref C_BadForest) (.ref C_BadThing) = some false)
    (sub_BadForest_Ring : PySem.W.subIn K (.ref C_BadForest) (.ref C_Ring) = some false)
    (sub_BadForest_TooMany : PySem.W.subIn K (.ref C_BadForest) (.ref C_TooMany) = some false)
    (sub_Ring_BadRooms : PySem.W.subIn K (.ref C_Ring) (.ref C_BadRooms) = some false)
    (sub_Ring_BadThing : PySem.W.subIn K (.ref C_Ring) (.ref C_BadThing) = some false)
    (sub_Ring_BadForest : PySem.W.subIn K (.ref C_Ring) (.ref C_BadForest) = some false)
    (sub_Ring_TooMany : PySem.W.subIn K (.ref C_Ring) (.ref C_TooMany) = some false)
    (sub_TooMany_BadRooms : PySem.W.subIn K (.ref C_TooMany) (.ref C_BadRooms) = some false)
    (sub_TooMany_BadThing : PySem.W.subIn K (.ref C_TooMany) (.ref C_BadThing) = some false)
    (sub_TooMany_BadForest : PySem.W.subIn K (.ref C_TooMany) (.ref C_BadForest) = some false)
    (sub_TooMany_Ring : PySem.W.subIn K (.ref C_TooMany) (.ref C_Ring) = some false)
    (ne__law_is_made_right__law_things_right : pt__law_is_made_right ≠ pt__law_things_right)
    (ne__law_is_made_right_law : pt__law_is_made_right ≠ pt_law)
    (ne__law_things_right__law_is_made_right : pt__law_things_right ≠ pt__law_is_made_right)
    (ne__law_things_right_law : pt__law_things_right ≠ pt_law)
    (ne_law__law_is_made_right : pt_law ≠ pt__law_is_made_right)
    (ne_law__law_things_right : pt_law ≠ pt__law_things_right)
    (ok : ∀ ns : List Int, ns.length ≤ 63 → (∀ z ∈ ns, Builtin.Int.intBits z ≤ 1048576) → ∃ st, f_law [.d (.list (ns.map .int))] [] = .ok (.d (.bool true)) st) :
    LawG l w K 13 63 "script" mg fa h := by
  have low_BadRooms : PySem.NzX.LowTxt K mg "BadRooms" C_BadRooms fI := { gC := PySem.W.mg_of X G a_BadRooms, cls := ⟨nm_BadRooms, q_BadRooms, N_BadRooms, bs_BadRooms, bm_BadRooms, sn_BadRooms, sub_BadRooms, ab_BadRooms, col_BadRooms, dd_BadRooms, m0_BadRooms, m1_BadRooms, tn_BadRooms, m3_BadRooms, m5_BadRooms, xL_BadRooms, bm_ok_BadRooms⟩, sa := sa_BadRooms, ga := ga_BadRooms, gg := gg_BadRooms, noN := nb_BadRooms, noK := nk_BadRooms, ca := ca_BadRooms, cn := z_cn, ct := z_ct, cm := cm_BadRooms, rd := rd_BadRooms, iC := ini_BadRooms, tC := t_init, kC := kC_BadRooms, exC := eC_BadRooms, tyC := tC_BadRooms, hdC := hC_BadRooms, te := exm_of eC_BadRooms iC_BadRooms tC_BadRooms sC_BadRooms, fn := ⟨_, _, _, _, _, _, _, _, _, _, _, _, _, _, _, _, _, _, _, _, l_init, c_init⟩ }
  have ex_BadRooms : ExK K C_BadRooms := ⟨ga_BadRooms, gg_BadRooms, eC_BadRooms, hC_BadRooms, nb_BadRooms, ca_BadRooms, z_cn, z_ct, cm_BadRooms⟩
  have low_BadThing : PySem.NzX.LowTxt K mg "BadThing" C_BadThing fI := { gC := PySem.W.mg_of X G a_BadThing, cls := ⟨nm_BadThing, q_BadThing, N_BadThing, bs_BadThing, bm_BadThing, sn_BadThing, sub_BadThing, ab_BadThing, col_BadThing, dd_BadThing, m0_BadThing, m1_BadThing, tn_BadThing, m3_BadThing, m5_BadThing, xL_BadThing, bm_ok_BadThing⟩, sa := sa_BadThing, ga := ga_BadThing, gg := gg_BadThing, noN := nb_BadThing, noK := nk_BadThing, ca := ca_BadThing, cn := z_cn, ct := z_ct, cm := cm_BadThing, rd := rd_BadThing, iC := ini_BadThing, tC := t_init, kC := kC_BadThing, exC := eC_BadThing, tyC := tC_BadThing, hdC := hC_BadThing, te := exm_of eC_BadThing iC_BadThing tC_BadThing sC_BadThing, fn := ⟨_, _, _, _, _, _, _, _, _, _, _, _, _, _, _, _, _, _, _, _, l_init, c_init⟩ }
  have ex_BadThing : ExK K C_BadThing := ⟨ga_BadThing, gg_BadThing, eC_BadThing, hC_BadThing, nb_BadThing, ca_BadThing, z_cn, z_ct, cm_BadThing⟩
  have low_BadForest : PySem.NzX.LowTxt K mg "BadForest" C_BadForest fI := { gC := PySem.W.mg_of X G a_BadForest, cls := ⟨nm_BadForest, q_BadForest, N_BadForest, bs_BadForest, bm_BadForest, sn_BadForest, sub_BadForest, ab_BadForest, col_BadForest, dd_BadForest, m0_BadForest, m1_BadForest, tn_BadForest, m3_BadForest, m5_BadForest, xL_BadForest, bm_ok_BadForest⟩, sa := sa_BadForest, ga := ga_BadForest, gg := gg_BadForest, noN := nb_BadForest, noK := nk_BadForest, ca := ca_BadForest, cn := z_cn, ct := z_ct, cm := cm_BadForest, rd := rd_BadForest, iC := ini_BadForest, tC := t_init, kC := kC_BadForest, exC := eC_BadForest, tyC := tC_BadForest, hdC := hC_BadForest, te := exm_of eC_BadForest iC_BadForest tC_BadForest sC_BadForest, fn := ⟨_, _, _, _, _, _, _, _, _, _, _, _, _, _, _, _, _, _, _, _, l_init, c_init⟩ }
  have ex_BadForest : ExK K C_BadForest := ⟨ga_BadForest, gg_BadForest, eC_BadForest, hC_BadForest, nb_BadForest, ca_BadForest, z_cn, z_ct, cm_BadForest⟩
  have low_Ring : PySem.NzX.LowTxt K mg "Ring" C_Ring fI := { gC := PySem.W.mg_of X G a_Ring, cls := ⟨nm_Ring, q_Ring, N_Ring, bs_Ring, bm_Ring, sn_Ring, sub_Ring, ab_Ring, col_Ring, dd_Ring, m0_Ring, m1_Ring, tn_Ring, m3_Ring, m5_Ring, xL_Ring, bm_ok_Ring⟩, sa := sa_Ring, ga := ga_Ring, gg := gg_Ring, noN := nb_Ring, noK := nk_Ring, ca := ca_Ring, cn := z_cn, ct := z_ct, cm := cm_Ring, rd := rd_Ring, iC := ini_Ring, tC := t_init, kC := kC_Ring, exC := eC_Ring, tyC := tC_Ring, hdC := hC_Ring, te := exm_of eC_Ring iC_Ring tC_Ring sC_Ring, fn := ⟨_, _, _, _, _, _, _, _, _, _, _, _, _, _, _, _, _, _, _, _, l_init, c_init⟩ }
  have ex_Ring : ExK K C_Ring := ⟨ga_Ring, gg_Ring, eC_Ring, hC_Ring, nb_Ring, ca_Ring, z_cn, z_ct, cm_Ring⟩
  have low_TooMany : PySem.NzX.LowTxt K mg "TooMany" C_TooMany fI := { gC := PySem.W.mg_of X G a_TooMany, cls := ⟨nm_TooMany, q_TooMany, N_TooMany, bs_TooMany, bm_TooMany, sn_TooMany, sub_TooMany, ab_TooMany, col_TooMany, dd_TooMany, m0_TooMany, m1_TooMany, tn_TooMany, m3_TooMany, m5_TooMany, xL_TooMany, bm_ok_TooMany⟩, sa := sa_TooMany, ga := ga_TooMany, gg := gg_TooMany, noN := nb_TooMany, noK := nk_TooMany, ca := ca_TooMany, cn := z_cn, ct := z_ct, cm := cm_TooMany, rd := rd_TooMany, iC := ini_TooMany, tC := t_init, kC := kC_TooMany, exC := eC_TooMany, tyC := tC_TooMany, hdC := hC_TooMany, te := exm_of eC_TooMany iC_TooMany tC_TooMany sC_TooMany, fn := ⟨_, _, _, _, _, _, _, _, _, _, _, _, _, _, _, _, _, _, _, _, l_init, c_init⟩ }
  have ex_TooMany : ExK K C_TooMany := ⟨ga_TooMany, gg_TooMany, eC_TooMany, hC_TooMany, nb_TooMany, ca_TooMany, z_cn, z_ct, cm_TooMany⟩
  have inE : ∀ c : Str, c ∈ errN → c = "BadRooms" ∨ c = "BadThing" ∨ c = "BadForest" ∨ c = "Ring" ∨ c = "TooMany" := fun c hc => by
    simpa [errN] using hc
  have known : ∀ (c : Str) (D : Addr), c ∈ errN → mg c = some (.ref D) → (c = "BadRooms" ∧ D = C_BadRooms) ∨ (c = "BadThing" ∧ D = C_BadThing) ∨ (c = "BadForest" ∧ D = C_BadForest) ∨ (c = "Ring" ∧ D = C_Ring) ∨ (c = "TooMany" ∧ D = C_TooMany) := fun c D hc hm => by
    rcases inE c hc with rfl | rfl | rfl | rfl | rfl
    · have e := hm.symm.trans (PySem.W.mg_of X G a_BadRooms)
      cases e
      simp
    · have e := hm.symm.trans (PySem.W.mg_of X G a_BadThing)
      cases e
      simp
    · have e := hm.symm.trans (PySem.W.mg_of X G a_BadForest)
      cases e
      simp
    · have e := hm.symm.trans (PySem.W.mg_of X G a_Ring)
      cases e
      simp
    · have e := hm.symm.trans (PySem.W.mg_of X G a_TooMany)
      cases e
      simp
  have tx : TX K mg :=
    by
    refine {
      n_ValueError := PySem.W.mg_none_of X G n_ValueError,
      n_bool := PySem.W.mg_none_of X G n_bool,
      n_enumerate := PySem.W.mg_none_of X G n_enumerate,
      n_int := PySem.W.mg_none_of X G n_int,
      n_isinstance := PySem.W.mg_none_of X G n_isinstance,
      n_len := PySem.W.mg_none_of X G n_len,
      n_list := PySem.W.mg_none_of X G n_list,
      n_max := PySem.W.mg_none_of X G n_max,
      n_range := PySem.W.mg_none_of X G n_range,
      n_repr := PySem.W.mg_none_of X G n_repr,
      n_tuple := PySem.W.mg_none_of X G n_tuple,
      c_MOST_THINGS := ⟨_, PySem.W.mg_of X G v_MOST_THINGS⟩,
      c_MOST_ROOMS := ⟨_, PySem.W.mg_of X G v_MOST_ROOMS⟩,
      c_APART := ⟨_, _, _, _, _, PySem.W.mg_of X G v_APART, gl_APART, rfl, rfl, le_line gz_APART, gf_APART⟩,
      e_BadRooms := ⟨_, _, low_BadRooms⟩,
      e_BadThing := ⟨_, _, low_BadThing⟩,
      e_BadForest := ⟨_, _, low_BadForest⟩,
      e_Ring := ⟨_, _, low_Ring⟩,
      e_TooMany := ⟨_, _, low_TooMany⟩,
      p_is_number := ⟨_, _, defK_mk X G a_is_number l_is_number c_is_number k_is_number fun _ _ _ _ _ _ us hl => match us, hl with | [_], _ => rfl⟩,
      p_is_pair := ⟨_, _, defK_mk X G a_is_pair l_is_pair c_is_pair k_is_pair fun _ _ _ _ _ _ us hl => match us, hl with | [_], _ => rfl⟩,
      p_has_thing := ⟨_, _, defK_mk X G a_has_thing l_has_thing c_has_thing k_has_thing fun _ _ _ _ _ _ us hl => match us, hl with | [_, _], _ => rfl⟩,
      p_has_room := ⟨_, _, defK_mk X G a_has_room l_has_room c_has_room k_has_room fun _ _ _ _ _ _ us hl => match us, hl with | [_, _, _], _ => rfl⟩,
      p_check_thing := ⟨_, _, defK_mk X G a_check_thing l_check_thing c_check_thing k_check_thing fun _ _ _ _ _ _ us hl => match us, hl with | [_, _], _ => rfl⟩,
      p_check_two := ⟨_, _, defK_mk X G a_check_two l_check_two c_check_two k_check_two fun _ _ _ _ _ _ us hl => match us, hl with | [_, _, _], _ => rfl⟩,
      p_made_rooms := ⟨_, _, defK_mk X G a_made_rooms l_made_rooms c_made_rooms k_made_rooms fun _ _ _ _ _ _ us hl => match us, hl with | [_], _ => rfl⟩,
      p_made_forest := ⟨_, _, defK_mk X G a_made_forest l_made_forest c_made_forest k_made_forest fun _ _ _ _ _ _ us hl => match us, hl with | [_, _], _ => rfl⟩,
      p_is_forest := ⟨_, _, defK_mk X G a_is_forest l_is_forest c_is_forest k_is_forest fun _ _ _ _ _ _ us hl => match us, hl with | [_, _], _ => rfl⟩,
      p_room_within := ⟨_, _, defK_mk X G a_room_within l_room_within c_room_within k_room_within fun _ _ _ _ _ _ us hl => match us, hl with | [_, _, _], _ => rfl⟩,
      p__may_have := ⟨_, _, defK_mk X G a__may_have l__may_have c__may_have k__may_have fun _ _ _ _ _ _ us hl => match us, hl with | [_, _, _], _ => rfl⟩,
      p__within_itself := ⟨_, _, defK_mk X G a__within_itself l__within_itself c__within_itself k__within_itself fun _ _ _ _ _ _ us hl => match us, hl with | [_, _], _ => rfl⟩,
      p_standings := ⟨_, _, defK_mk X G a_standings l_standings c_standings k_standings fun _ _ _ _ _ _ us hl => match us, hl with | [_, _, _], _ => rfl⟩,
      p_turned := ⟨_, _, defK_mk X G a_turned l_turned c_turned k_turned fun _ _ _ _ _ _ us hl => match us, hl with | [_], _ => rfl⟩,
      p_standing := ⟨_, _, defK_mk X G a_standing l_standing c_standing k_standing fun _ _ _ _ _ _ us hl => match us, hl with | [_, _, _, _], _ => rfl⟩,
      p_standing_in := ⟨_, _, defK_mk X G a_standing_in l_standing_in c_standing_in k_standing_in fun _ _ _ _ _ _ us hl => match us, hl with | [_, _, _], _ => rfl⟩,
      p_every_standing := ⟨_, _, defK_mk X G a_every_standing l_every_standing c_every_standing k_every_standing fun _ _ _ _ _ _ us hl => match us, hl with | [_, _, _], _ => rfl⟩,
      p__law_pool := ⟨_, _, defK_mk X G a__law_pool l__law_pool c__law_pool k__law_pool fun _ _ _ _ _ _ us hl => match us, hl with | [_, _], _ => rfl⟩,
      p__law_take := ⟨_, _, defK_mk X G a__law_take l__law_take c__law_take k__law_take fun _ _ _ _ _ _ us hl => match us, hl with | [_, _], _ => rfl⟩,
      p__law_one := ⟨_, _, defK_mk X G a__law_one l__law_one c__law_one k__law_one fun _ _ _ _ _ _ us hl => match us, hl with | [_, _], _ => rfl⟩,
      p__law_mixed := ⟨_, _, defK_mk X G a__law_mixed l__law_mixed c__law_mixed k__law_mixed fun _ _ _ _ _ _ us hl => match us, hl with | [_, _], _ => rfl⟩,
      p__law_climb := ⟨_, _, defK_mk X G a__law_climb l__law_climb c__law_climb k__law_climb fun _ _ _ _ _ _ us hl => match us, hl with | [_, _], _ => rfl⟩,
      p__law_standing := ⟨_, _, defK_mk X G a__law_standing l__law_standing c__law_standing k__law_standing fun _ _ _ _ _ _ us hl => match us, hl with | [_, _, _], _ => rfl⟩,
      p__law_turned := ⟨_, _, defK_mk X G a__law_turned l__law_turned c__law_turned k__law_turned fun _ _ _ _ _ _ us hl => match us, hl with | [_], _ => rfl⟩,
      p__law_every := ⟨_, _, defK_mk X G a__law_every l__law_every c__law_every k__law_every fun _ _ _ _ _ _ us hl => match us, hl with | [_, _, _], _ => rfl⟩,
      p__law_number := ⟨_, _, defK_mk X G a__law_number l__law_number c__law_number k__law_number fun _ _ _ _ _ _ us hl => match us, hl with | [_, _], _ => rfl⟩,
      p__law_grown := ⟨_, _, defK_mk X G a__law_grown l__law_grown c__law_grown k__law_grown fun _ _ _ _ _ _ us hl => match us, hl with | [_, _], _ => rfl⟩,
      p__law_heard := ⟨_, _, defK_mk X G a__law_heard l__law_heard c__law_heard k__law_heard fun _ _ _ _ _ _ us hl => match us, hl with | [_], _ => rfl⟩,
      p__law_refused := ⟨_, _, defK_mk X G a__law_refused l__law_refused c__law_refused k__law_refused fun _ _ _ _ _ _ us hl => match us, hl with | [_, _], _ => rfl⟩,
      p__law_is_place := ⟨_, _, defK_mk X G a__law_is_place l__law_is_place c__law_is_place k__law_is_place fun _ _ _ _ _ _ us hl => match us, hl with | [_, _, _], _ => rfl⟩,
      p__law_due := ⟨_, _, defK_mk X G a__law_due l__law_due c__law_due k__law_due fun _ _ _ _ _ _ us hl => match us, hl with | [_, _], _ => rfl⟩,
      p__law_is_made_right := ⟨_, _, defK_mk X G a__law_is_made_right l__law_is_made_right c__law_is_made_right k__law_is_made_right fun _ _ _ _ _ _ us hl => match us, hl with | [_, _], _ => rfl⟩,
      p__law_odd := ⟨_, _, defK_mk X G a__law_odd l__law_odd c__law_odd k__law_odd fun _ _ _ _ _ _ us hl => match us, hl with | [_, _], _ => rfl⟩,
      p__law_bent_right := ⟨_, _, defK_mk X G a__law_bent_right l__law_bent_right c__law_bent_right k__law_bent_right fun _ _ _ _ _ _ us hl => match us, hl with | [_, _, _], _ => rfl⟩,
      p__law_pair_right := ⟨_, _, defK_mk X G a__law_pair_right l__law_pair_right c__law_pair_right k__law_pair_right fun _ _ _ _ _ _ us hl => match us, hl with | [_, _, _, _], _ => rfl⟩,
      p__law_things_right := ⟨_, _, defK_mk X G a__law_things_right l__law_things_right c__law_things_right k__law_things_right fun _ _ _ _ _ _ us hl => match us, hl with | [_, _, _], _ => rfl⟩,
      p_law := ⟨_, _, defK_mk X G a_law l_law c_law k_law fun _ _ _ _ _ _ us hl => match us, hl with | [_], _ => rfl⟩,
      x_ex := ?x_ex,
      x_ct := ?x_ct,
      x_is := ?x_is,
      x_ve := ?x_ve }
    case x_ex => 
      intro c D hc hm
      rcases known c D (of_decide_eq_true hc) hm with ⟨rfl, rfl⟩ | ⟨rfl, rfl⟩ | ⟨rfl, rfl⟩ | ⟨rfl, rfl⟩ | ⟨rfl, rfl⟩
      · exact ex_BadRooms
      · exact ex_BadThing
      · exact ex_BadForest
      · exact ex_Ring
      · exact ex_TooMany
    case x_ct =>
      refine ⟨C_Refused, PySem.W.mg_of X G a_Refused, fun c D b hm hc => ?_⟩
      unfold ctE at hc
      split at hc
      · next hi =>
        cases hc
        rcases known c D hi hm with ⟨rfl, rfl⟩ | ⟨rfl, rfl⟩ | ⟨rfl, rfl⟩ | ⟨rfl, rfl⟩ | ⟨rfl, rfl⟩
        · exact exm_of b_Refused i_Refused t_Refused re_BadRooms
        · exact exm_of b_Refused i_Refused t_Refused re_BadThing
        · exact exm_of b_Refused i_Refused t_Refused re_BadForest
        · exact exm_of b_Refused i_Refused t_Refused re_Ring
        · exact exm_of b_Refused i_Refused t_Refused re_TooMany
      · cases hc
    case x_is =>
      intro d hd
      rcases inE d hd with rfl | rfl | rfl | rfl | rfl
      · refine ⟨C_BadRooms, PySem.W.mg_of X G a_BadRooms, fun c D b hc hm => ?_⟩
        unfold tabE at hc
        split at hc
        · next hi =>
          · rcases known c D hi hm with ⟨rfl, rfl⟩ | ⟨rfl, rfl⟩ | ⟨rfl, rfl⟩ | ⟨rfl, rfl⟩ | ⟨rfl, rfl⟩
            · have eb : b = true := by have z := Option.some.inj hc; rw [← z]; simp
              rw [eb]; exact kit_own iC_BadRooms tC_BadRooms sC_BadRooms fun _ => rfl
            · have eb : b = false := by have z := Option.some.inj hc; rw [← z]; decide +kernel
              rw [eb]; exact kit_own iC_BadRooms tC_BadRooms sub_BadThing_BadRooms fun z => by rw [z] at sub_BadThing_BadRooms; rw [sC_BadRooms] at sub_BadThing_BadRooms; cases sub_BadThing_BadRooms
            · have eb : b = false := by have z := Option.some.inj hc; rw [← z]; decide +kernel
              rw [eb]; exact kit_own iC_BadRooms tC_BadRooms sub_BadForest_BadRooms fun z => by rw [z] at sub_BadForest_BadRooms; rw [sC_BadRooms] at sub_BadForest_BadRooms; cases sub_BadForest_BadRooms
            · have eb : b = false := by have z := Option.some.inj hc; rw [← z]; decide +kernel
              rw [eb]; exact kit_own iC_BadRooms tC_BadRooms sub_Ring_BadRooms fun z => by rw [z] at sub_Ring_BadRooms; rw [sC_BadRooms] at sub_Ring_BadRooms; cases sub_Ring_BadRooms
            · have eb : b = false := by have z := Option.some.inj hc; rw [← z]; decide +kernel
              rw [eb]; exact kit_own iC_BadRooms tC_BadRooms sub_TooMany_BadRooms fun z => by rw [z] at sub_TooMany_BadRooms; rw [sC_BadRooms] at sub_TooMany_BadRooms; cases sub_TooMany_BadRooms
        · cases hc
      · refine ⟨C_BadThing, PySem.W.mg_of X G a_BadThing, fun c D b hc hm => ?_⟩
        unfold tabE at hc
        split at hc
        · next hi =>
          · rcases known c D hi hm with ⟨rfl, rfl⟩ | ⟨rfl, rfl⟩ | ⟨rfl, rfl⟩ | ⟨rfl, rfl⟩ | ⟨rfl, rfl⟩
            · have eb : b = false := by have z := Option.some.inj hc; rw [← z]; decide +kernel
              rw [eb]; exact kit_own iC_BadThing tC_BadThing sub_BadRooms_BadThing fun z => by rw [z] at sub_BadRooms_BadThing; rw [sC_BadThing] at sub_BadRooms_BadThing; cases sub_BadRooms_BadThing
            · have eb : b = true := by have z := Option.some.inj hc; rw [← z]; simp
              rw [eb]; exact kit_own iC_BadThing tC_BadThing sC_BadThing fun _ => rfl
            · have eb : b = false := by have z := Option.some.inj hc; rw [← z]; decide +kernel
              rw [eb]; exact kit_own iC_BadThing tC_BadThing sub_BadForest_BadThing fun z => by rw [z] at sub_BadForest_BadThing; rw [sC_BadThing] at sub_BadForest_BadThing; cases sub_BadForest_BadThing
            · have eb : b = false := by have z := Option.some.inj hc; rw [← z]; decide +kernel
              rw [eb]; exact kit_own iC_BadThing tC_BadThing sub_Ring_BadThing fun z => by rw [z] at sub_Ring_BadThing; rw [sC_BadThing] at sub_Ring_BadThing; cases sub_Ring_BadThing
            · have eb : b = false := by have z := Option.some.inj hc; rw [← z]; decide +kernel
              rw [eb]; exact kit_own iC_BadThing tC_BadThing sub_TooMany_BadThing fun z => by rw [z] at sub_TooMany_BadThing; rw [sC_BadThing] at sub_TooMany_BadThing; cases sub_TooMany_BadThing
        · cases hc
      · refine ⟨C_BadForest, PySem.W.mg_of X G a_BadForest, fun c D b hc hm => ?_⟩
        unfold tabE at hc
        split at hc
        · next hi =>
          · rcases known c D hi hm with ⟨rfl, rfl⟩ | ⟨rfl, rfl⟩ | ⟨rfl, rfl⟩ | ⟨rfl, rfl⟩ | ⟨rfl, rfl⟩
            · have eb : b = false := by have z := Option.some.inj hc; rw [← z]; decide +kernel
              rw [eb]; exact kit_own iC_BadForest tC_BadForest sub_BadRooms_BadForest fun z => by rw [z] at sub_BadRooms_BadForest; rw [sC_BadForest] at sub_BadRooms_BadForest; cases sub_BadRooms_BadForest
            · have eb : b = false := by have z := Option.some.inj hc; rw [← z]; decide +kernel
              rw [eb]; exact kit_own iC_BadForest tC_BadForest sub_BadThing_BadForest fun z => by rw [z] at sub_BadThing_BadForest; rw [sC_BadForest] at sub_BadThing_BadForest; cases sub_BadThing_BadForest
            · have eb : b = true := by have z := Option.some.inj hc; rw [← z]; simp
              rw [eb]; exact kit_own iC_BadForest tC_BadForest sC_BadForest fun _ => rfl
            · have eb : b = false := by have z := Option.some.inj hc; rw [← z]; decide +kernel
              rw [eb]; exact kit_own iC_BadForest tC_BadForest sub_Ring_BadForest fun z => by rw [z] at sub_Ring_BadForest; rw [sC_BadForest] at sub_Ring_BadForest; cases sub_Ring_BadForest
            · have eb : b = false := by have z := Option.some.inj hc; rw [← z]; decide +kernel
              rw [eb]; exact kit_own iC_BadForest tC_BadForest sub_TooMany_BadForest fun z => by rw [z] at sub_TooMany_BadForest; rw [sC_BadForest] at sub_TooMany_BadForest; cases sub_TooMany_BadForest
        · cases hc
      · refine ⟨C_Ring, PySem.W.mg_of X G a_Ring, fun c D b hc hm => ?_⟩
        unfold tabE at hc
        split at hc
        · next hi =>
          · rcases known c D hi hm with ⟨rfl, rfl⟩ | ⟨rfl, rfl⟩ | ⟨rfl, rfl⟩ | ⟨rfl, rfl⟩ | ⟨rfl, rfl⟩
            · have eb : b = false := by have z := Option.some.inj hc; rw [← z]; decide +kernel
              rw [eb]; exact kit_own iC_Ring tC_Ring sub_BadRooms_Ring fun z => by rw [z] at sub_BadRooms_Ring; rw [sC_Ring] at sub_BadRooms_Ring; cases sub_BadRooms_Ring
            · have eb : b = false := by have z := Option.some.inj hc; rw [← z]; decide +kernel
              rw [eb]; exact kit_own iC_Ring tC_Ring sub_BadThing_Ring fun z => by rw [z] at sub_BadThing_Ring; rw [sC_Ring] at sub_BadThing_Ring; cases sub_BadThing_Ring
            · have eb : b = false := by have z := Option.some.inj hc; rw [← z]; decide +kernel
              rw [eb]; exact kit_own iC_Ring tC_Ring sub_BadForest_Ring fun z => by rw [z] at sub_BadForest_Ring; rw [sC_Ring] at sub_BadForest_Ring; cases sub_BadForest_Ring
            · have eb : b = true := by have z := Option.some.inj hc; rw [← z]; simp
              rw [eb]; exact kit_own iC_Ring tC_Ring sC_Ring fun _ => rfl
            · have eb : b = false := by have z := Option.some.inj hc; rw [← z]; decide +kernel
              rw [eb]; exact kit_own iC_Ring tC_Ring sub_TooMany_Ring fun z => by rw [z] at sub_TooMany_Ring; rw [sC_Ring] at sub_TooMany_Ring; cases sub_TooMany_Ring
        · cases hc
      · refine ⟨C_TooMany, PySem.W.mg_of X G a_TooMany, fun c D b hc hm => ?_⟩
        unfold tabE at hc
        split at hc
        · next hi =>
          · rcases known c D hi hm with ⟨rfl, rfl⟩ | ⟨rfl, rfl⟩ | ⟨rfl, rfl⟩ | ⟨rfl, rfl⟩ | ⟨rfl, rfl⟩
            · have eb : b = false := by have z := Option.some.inj hc; rw [← z]; decide +kernel
              rw [eb]; exact kit_own iC_TooMany tC_TooMany sub_BadRooms_TooMany fun z => by rw [z] at sub_BadRooms_TooMany; rw [sC_TooMany] at sub_BadRooms_TooMany; cases sub_BadRooms_TooMany
            · have eb : b = false := by have z := Option.some.inj hc; rw [← z]; decide +kernel
              rw [eb]; exact kit_own iC_TooMany tC_TooMany sub_BadThing_TooMany fun z => by rw [z] at sub_BadThing_TooMany; rw [sC_TooMany] at sub_BadThing_TooMany; cases sub_BadThing_TooMany
            · have eb : b = false := by have z := Option.some.inj hc; rw [← z]; decide +kernel
              rw [eb]; exact kit_own iC_TooMany tC_TooMany sub_BadForest_TooMany fun z => by rw [z] at sub_BadForest_TooMany; rw [sC_TooMany] at sub_BadForest_TooMany; cases sub_BadForest_TooMany
            · have eb : b = false := by have z := Option.some.inj hc; rw [← z]; decide +kernel
              rw [eb]; exact kit_own iC_TooMany tC_TooMany sub_Ring_TooMany fun z => by rw [z] at sub_Ring_TooMany; rw [sC_TooMany] at sub_Ring_TooMany; cases sub_Ring_TooMany
            · have eb : b = true := by have z := Option.some.inj hc; rw [← z]; simp
              rw [eb]; exact kit_own iC_TooMany tC_TooMany sC_TooMany fun _ => rfl
        · cases hc
    case x_ve =>
      intro c D b hc hm
      unfold tabT at hc
      split at hc
      · next hi =>
        cases hc
        rcases known c D hi hm with ⟨rfl, rfl⟩ | ⟨rfl, rfl⟩ | ⟨rfl, rfl⟩ | ⟨rfl, rfl⟩ | ⟨rfl, rfl⟩
        · exact kit_blt (by decide +kernel) ve_BadRooms
        · exact kit_blt (by decide +kernel) ve_BadThing
        · exact kit_blt (by decide +kernel) ve_BadForest
        · exact kit_blt (by decide +kernel) ve_Ring
        · exact kit_blt (by decide +kernel) ve_TooMany
      · cases hc
  obtain ⟨rec__law_is_made_right, hrec__law_is_made_right⟩ := Option.isSome_iff_exists.mp xr__law_is_made_right
  obtain ⟨hd__law_is_made_right, ht__law_is_made_right⟩ := tabs "_law_is_made_right" rec__law_is_made_right cc__law_is_made_right pt__law_is_made_right hrec__law_is_made_right (tab_is a__law_is_made_right l__law_is_made_right rfl xc__law_is_made_right xv__law_is_made_right)
  obtain ⟨rec__law_things_right, hrec__law_things_right⟩ := Option.isSome_iff_exists.mp xr__law_things_right
  obtain ⟨hd__law_things_right, ht__law_things_right⟩ := tabs "_law_things_right" rec__law_things_right cc__law_things_right pt__law_things_right hrec__law_things_right (tab_is a__law_things_right l__law_things_right rfl xc__law_things_right xv__law_things_right)
  obtain ⟨rec_law, hrec_law⟩ := Option.isSome_iff_exists.mp xr_law
  obtain ⟨hd_law, ht_law⟩ := tabs "law" rec_law cc_law pt_law hrec_law (tab_is a_law l_law rfl xc_law xv_law)
  have tl : ∀ base : Heap, (∀ p ∈ ([(cc__law_is_made_right, pt__law_is_made_right), (cc__law_things_right, pt__law_things_right), (cc_law, pt_law)] : List (Addr × Addr)), TabB base mg p.1 p.2) → TL K mg base [(pt__law_is_made_right, (envOfC "_law_is_made_right" (defScope s__law_is_made_right) 0 0 .none).qual ++ "<lambda>"), (pt__law_things_right, (envOfC "_law_things_right" (defScope s__law_things_right) 0 0 .none).qual ++ "<lambda>"), (pt_law, (envOfC "law" (defScope s_law) 0 0 .none).qual ++ "<lambda>")] := fun base tb => by
    refine {l__law_is_made_right := ⟨cc__law_is_made_right, pt__law_is_made_right, by simp, fun p hp he => ?u__law_is_made_right, tb (cc__law_is_made_right, pt__law_is_made_right) (by simp), fun f oc od fd sl hm hl => ?c__law_is_made_right⟩, l__law_things_right := ⟨cc__law_things_right, pt__law_things_right, by simp, fun p hp he => ?u__law_things_right, tb (cc__law_things_right, pt__law_things_right) (by simp), fun f oc od fd sl hm hl => ?c__law_things_right⟩, l_law := ⟨cc_law, pt_law, by simp, fun p hp he => ?u_law, tb (cc_law, pt_law) (by simp), fun f oc od fd sl hm hl => ?c_law⟩}
    case u__law_is_made_right =>
      simp only [List.mem_cons, List.not_mem_nil, or_false] at hp
      rcases hp with hp | hp | hp
      · rw [hp]
      · rw [hp] at he; exact absurd he ne__law_things_right__law_is_made_right
      · rw [hp] at he; exact absurd he ne_law__law_is_made_right
    case c__law_is_made_right =>
      have e := hm.symm.trans (PySem.W.mg_of X G a__law_is_made_right)
      cases e
      have e := hl.symm.trans l__law_is_made_right
      cases e
      rfl
    case u__law_things_right =>
      simp only [List.mem_cons, List.not_mem_nil, or_false] at hp
      rcases hp with hp | hp | hp
      · rw [hp] at he; exact absurd he ne__law_is_made_right__law_things_right
      · rw [hp]
      · rw [hp] at he; exact absurd he ne_law__law_things_right
    case c__law_things_right =>
      have e := hm.symm.trans (PySem.W.mg_of X G a__law_things_right)
      cases e
      have e := hl.symm.trans l__law_things_right
      cases e
      rfl
    case u_law =>
      simp only [List.mem_cons, List.not_mem_nil, or_false] at hp
      rcases hp with hp | hp | hp
      · rw [hp] at he; exact absurd he ne__law_is_made_right_law
      · rw [hp] at he; exact absurd he ne__law_things_right_law
      · rw [hp]
    case c_law =>
      have e := hm.symm.trans (PySem.W.mg_of X G a_law)
      cases e
      have e := hl.symm.trans l_law
      cases e
      rfl
  have e := hfa.symm.trans (PySem.W.mg_of X G a_law)
  cases e
  refine ⟨⟨PySem.W.fnOf "law" "law" (defArgs s_law) (defBody s_law) (defScope s_law) .none kV_law dc_law pm_law an_law (.ref cc_law) ct_law, [(cc__law_is_made_right, pt__law_is_made_right), (cc__law_things_right, pt__law_things_right), (cc_law, pt_law)], spF K mg [(pt__law_is_made_right, (envOfC "_law_is_made_right" (defScope s__law_is_made_right) 0 0 .none).qual ++ "<lambda>"), (pt__law_things_right, (envOfC "_law_things_right" (defScope s__law_things_right) 0 0 .none).qual ++ "<lambda>"), (pt_law, (envOfC "law" (defScope s_law) 0 0 .none).qual ++ "<lambda>")] 1 f_law, ?_, ?_, ?_, fun s v => .of_eq rfl, nz_start ?_ ok, fun base kin gn tb => ?_⟩⟩
  · intro p hp
    simp only [List.mem_cons, List.not_mem_nil, or_false] at hp
    rcases hp with hp | hp | hp
    · rw [hp]; exact ht__law_is_made_right
    · rw [hp]; exact ht__law_things_right
    · rw [hp]; exact ht_law
  · intro p hp
    simp only [List.mem_cons, List.not_mem_nil, or_false] at hp
    rcases hp with hp | hp | hp
    · rw [hp]; exact xn__law_is_made_right
    · rw [hp]; exact xn__law_things_right
    · rw [hp]; exact xn_law
  · intro p hp
    simp only [List.mem_cons, List.not_mem_nil, or_false] at hp
    rcases hp with hp | hp | hp
    · rw [hp]; exact hd__law_is_made_right
    · rw [hp]; exact hd__law_things_right
    · rw [hp]; exact hd_law
  · intro p hp
    simp only [List.mem_cons, List.not_mem_nil, or_false] at hp
    rcases hp with hp | hp | hp
    · rw [hp]; simp
    · rw [hp]; simp
    · rw [hp]; simp
  · obtain ⟨f2, fd2, D2, G2⟩ := g_law (P := l.prog) (w := w) (base := base) tx (tl base tb)
    have e := D2.g.symm.trans hfa
    cases e
    obtain ⟨oc, od, kV, doc, pm, an, cv, ct, osl, rfl, lk2, _⟩ := D2.F.ex
    have e2 := lk2.symm.trans l_law
    cases e2
    exact G2
end Nz

end
section
set_option Elab.async false
set_option linter.all false
open PySem PySem.W PyProof.Rows
set_option maxRecDepth 100000 in
set_option maxHeartbeats 0 in
theorem PySem.Challenge.cw_nestsay_k00_forests_and_standings_holds : PySem.Challenge.rw_nestsay_k00_forests_and_standings.Holds := by
  w_on; o_law; k_head; (case hw => w_witness2)
  k_fill
  refine Nz.nz_end (l := PySem.Challenge.rw_nestsay_k00_forests_and_standings) (n := 63) (k := 13) (x := "script") rfl (by decide) rfl ⟨rfl, by decide, by decide⟩ (fun w h Y => PySem.W.km_in_of Y) ?F
  case F =>
    intro w mg fa h tabs KX G hmg
    refine' Nz.all_mk KX G hmg tabs ?a_is_number ?l_is_number ?c_is_number ?k_is_number ?a_is_pair ?l_is_pair ?c_is_pair ?k_is_pair ?a_has_thing ?l_has_thing ?c_has_thing ?k_has_thing ?a_has_room ?l_has_room ?c_has_room ?k_has_room ?a_check_thing ?l_check_thing ?c_check_thing ?k_check_thing ?a_check_two ?l_check_two ?c_check_two ?k_check_two ?a_made_rooms ?l_made_rooms ?c_made_rooms ?k_made_rooms ?a_made_forest ?l_made_forest ?c_made_forest ?k_made_forest ?a_is_forest ?l_is_forest ?c_is_forest ?k_is_forest ?a_room_within ?l_room_within ?c_room_within ?k_room_within ?a__may_have ?l__may_have ?c__may_have ?k__may_have ?a__within_itself ?l__within_itself ?c__within_itself ?k__within_itself ?a_standings ?l_standings ?c_standings ?k_standings ?a_turned ?l_turned ?c_turned ?k_turned ?a_standing ?l_standing ?c_standing ?k_standing ?a_standing_in ?l_standing_in ?c_standing_in ?k_standing_in ?a_every_standing ?l_every_standing ?c_every_standing ?k_every_standing ?a__law_pool ?l__law_pool ?c__law_pool ?k__law_pool ?a__law_take ?l__law_take ?c__law_take ?k__law_take ?a__law_one ?l__law_one ?c__law_one ?k__law_one ?a__law_mixed ?l__law_mixed ?c__law_mixed ?k__law_mixed ?a__law_climb ?l__law_climb ?c__law_climb ?k__law_climb ?a__law_standing ?l__law_standing ?c__law_standing ?k__law_standing ?a__law_turned ?l__law_turned ?c__law_turned ?k__law_turned ?a__law_every ?l__law_every ?c__law_every ?k__law_every ?a__law_number ?l__law_number ?c__law_number ?k__law_number ?a__law_grown ?l__law_grown ?c__law_grown ?k__law_grown ?a__law_heard ?l__law_heard ?c__law_heard ?k__law_heard ?a__law_refused ?l__law_refused ?c__law_refused ?k__law_refused ?a__law_is_place ?l__law_is_place ?c__law_is_place ?k__law_is_place ?a__law_due ?l__law_due ?c__law_due ?k__law_due ?a__law_is_made_right ?l__law_is_made_right ?c__law_is_made_right ?k__law_is_made_right ?xc__law_is_made_right ?xv__law_is_made_right ?xn__law_is_made_right ?xr__law_is_made_right ?a__law_odd ?l__law_odd ?c__law_odd ?k__law_odd ?a__law_bent_right ?l__law_bent_right ?c__law_bent_right ?k__law_bent_right ?a__law_pair_right ?l__law_pair_right ?c__law_pair_right ?k__law_pair_right ?a__law_things_right ?l__law_things_right ?c__law_things_right ?k__law_things_right ?xc__law_things_right ?xv__law_things_right ?xn__law_things_right ?xr__law_things_right ?a_law ?l_law ?c_law ?k_law ?xc_law ?xv_law ?xn_law ?xr_law ?n_ValueError ?n_bool ?n_enumerate ?n_int ?n_isinstance ?n_len ?n_list ?n_max ?n_range ?n_repr ?n_tuple ?v_MOST_THINGS ?v_MOST_ROOMS ?v_APART ?gl_APART ?gf_APART ?gz_APART ?a_Refused ?i_Refused ?t_Refused ?b_Refused ?f_init ?t_init ?l_init ?c_init ?z_cn ?z_ct ?a_BadRooms ?xL_BadRooms ?bm_ok_BadRooms ?sa_BadRooms ?ga_BadRooms ?gg_BadRooms ?nb_BadRooms ?nk_BadRooms ?rd_BadRooms ?ini_BadRooms ?kC_BadRooms ?eC_BadRooms ?tC_BadRooms ?hC_BadRooms ?iC_BadRooms ?sC_BadRooms ?ca_BadRooms ?cm_BadRooms ?ve_BadRooms ?re_BadRooms ?a_BadThing ?xL_BadThing ?bm_ok_BadThing ?sa_BadThing ?ga_BadThing ?gg_BadThing ?nb_BadThing ?nk_BadThing ?rd_BadThing ?ini_BadThing ?kC_BadThing ?eC_BadThing ?tC_BadThing ?hC_BadThing ?iC_BadThing ?sC_BadThing ?ca_BadThing ?cm_BadThing ?ve_BadThing ?re_BadThing ?a_BadForest ?xL_BadForest ?bm_ok_BadForest ?sa_BadForest ?ga_BadForest ?gg_BadForest ?nb_BadForest ?nk_BadForest ?rd_BadForest ?ini_BadForest ?kC_BadForest ?eC_BadForest ?tC_BadForest ?hC_BadForest ?iC_BadForest ?sC_BadForest ?ca_BadForest ?cm_BadForest ?ve_BadForest ?re_BadForest ?a_Ring ?xL_Ring ?bm_ok_Ring ?sa_Ring ?ga_Ring ?gg_Ring ?nb_Ring ?nk_Ring ?rd_Ring ?ini_Ring ?kC_Ring ?eC_Ring ?tC_Ring ?hC_Ring ?iC_Ring ?sC_Ring ?ca_Ring ?cm_Ring ?ve_Ring ?re_Ring ?a_TooMany ?xL_TooMany ?bm_ok_TooMany ?sa_TooMany ?ga_TooMany ?gg_TooMany ?nb_TooMany ?nk_TooMany ?rd_TooMany ?ini_TooMany ?kC_TooMany ?eC_TooMany ?tC_TooMany ?hC_TooMany ?iC_TooMany ?sC_TooMany ?ca_TooMany ?cm_TooMany ?ve_TooMany ?re_TooMany ?sub_BadRooms_BadThing ?sub_BadRooms_BadForest ?sub_BadRooms_Ring ?sub_BadRooms_TooMany ?sub_BadThing_BadRooms ?sub_BadThing_BadForest ?sub_BadThing_Ring ?sub_BadThing_TooMany ?sub_BadForest_BadRooms ?sub_BadForest_BadThing ?sub_BadForest_Ring ?sub_BadForest_TooMany ?sub_Ring_BadRooms ?sub_Ring_BadThing ?sub_Ring_BadForest ?sub_Ring_TooMany ?sub_TooMany_BadRooms ?sub_TooMany_BadThing ?sub_TooMany_BadForest ?sub_TooMany_Ring ?ne__law_is_made_right__law_things_right ?ne__law_is_made_right_law ?ne__law_things_right__law_is_made_right ?ne__law_things_right_law ?ne_law__law_is_made_right ?ne_law__law_things_right Nz.law_true
    (case a_is_number => k_is)
    (case l_is_number => k_is)
    (case c_is_number => k_is)
    (case k_is_number => k_is)
    (case a_is_pair => k_is)
    (case l_is_pair => k_is)
    (case c_is_pair => k_is)
    (case k_is_pair => k_is)
    (case a_has_thing => k_is)
    (case l_has_thing => k_is)
    (case c_has_thing => k_is)
    (case k_has_thing => k_is)
    (case a_has_room => k_is)
    (case l_has_room => k_is)
    (case c_has_room => k_is)
    (case k_has_room => k_is)
    (case a_check_thing => k_is)
    (case l_check_thing => k_is)
    (case c_check_thing => k_is)
    (case k_check_thing => k_is)
    (case a_check_two => k_is)
    (case l_check_two => k_is)
    (case c_check_two => k_is)
    (case k_check_two => k_is)
    (case a_made_rooms => k_is)
    (case l_made_rooms => k_is)
    (case c_made_rooms => k_is)
    (case k_made_rooms => k_is)
    (case a_made_forest => k_is)
    (case l_made_forest => k_is)
    (case c_made_forest => k_is)
    (case k_made_forest => k_is)
    (case a_is_forest => k_is)
    (case l_is_forest => k_is)
    (case c_is_forest => k_is)
    (case k_is_forest => k_is)
    (case a_room_within => k_is)
    (case l_room_within => k_is)
    (case c_room_within => k_is)
    (case k_room_within => k_is)
    (case a__may_have => k_is)
    (case l__may_have => k_is)
    (case c__may_have => k_is)
    (case k__may_have => k_is)
    (case a__within_itself => k_is)
    (case l__within_itself => k_is)
    (case c__within_itself => k_is)
    (case k__within_itself => k_is)
    (case a_standings => k_is)
    (case l_standings => k_is)
    (case c_standings => k_is)
    (case k_standings => k_is)
    (case a_turned => k_is)
    (case l_turned => k_is)
    (case c_turned => k_is)
    (case k_turned => k_is)
    (case a_standing => k_is)
    (case l_standing => k_is)
    (case c_standing => k_is)
    (case k_standing => k_is)
    (case a_standing_in => k_is)
    (case l_standing_in => k_is)
    (case c_standing_in => k_is)
    (case k_standing_in => k_is)
    (case a_every_standing => k_is)
    (case l_every_standing => k_is)
    (case c_every_standing => k_is)
    (case k_every_standing => k_is)
    (case a__law_pool => k_is)
    (case l__law_pool => k_is)
    (case c__law_pool => k_is)
    (case k__law_pool => k_is)
    (case a__law_take => k_is)
    (case l__law_take => k_is)
    (case c__law_take => k_is)
    (case k__law_take => k_is)
    (case a__law_one => k_is)
    (case l__law_one => k_is)
    (case c__law_one => k_is)
    (case k__law_one => k_is)
    (case a__law_mixed => k_is)
    (case l__law_mixed => k_is)
    (case c__law_mixed => k_is)
    (case k__law_mixed => k_is)
    (case a__law_climb => k_is)
    (case l__law_climb => k_is)
    (case c__law_climb => k_is)
    (case k__law_climb => k_is)
    (case a__law_standing => k_is)
    (case l__law_standing => k_is)
    (case c__law_standing => k_is)
    (case k__law_standing => k_is)
    (case a__law_turned => k_is)
    (case l__law_turned => k_is)
    (case c__law_turned => k_is)
    (case k__law_turned => k_is)
    (case a__law_every => k_is)
    (case l__law_every => k_is)
    (case c__law_every => k_is)
    (case k__law_every => k_is)
    (case a__law_number => k_is)
    (case l__law_number => k_is)
    (case c__law_number => k_is)
    (case k__law_number => k_is)
    (case a__law_grown => k_is)
    (case l__law_grown => k_is)
    (case c__law_grown => k_is)
    (case k__law_grown => k_is)
    (case a__law_heard => k_is)
    (case l__law_heard => k_is)
    (case c__law_heard => k_is)
    (case k__law_heard => k_is)
    (case a__law_refused => k_is)
    (case l__law_refused => k_is)
    (case c__law_refused => k_is)
    (case k__law_refused => k_is)
    (case a__law_is_place => k_is)
    (case l__law_is_place => k_is)
    (case c__law_is_place => k_is)
    (case k__law_is_place => k_is)
    (case a__law_due => k_is)
    (case l__law_due => k_is)
    (case c__law_due => k_is)
    (case k__law_due => k_is)
    (case a__law_is_made_right => k_is)
    (case l__law_is_made_right => k_is)
    (case c__law_is_made_right => k_is)
    (case k__law_is_made_right => k_is)
    (case xc__law_is_made_right => k_is)
    (case xv__law_is_made_right => rfl)
    (case xn__law_is_made_right => rfl)
    (case xr__law_is_made_right => decide +kernel)
    (case a__law_odd => k_is)
    (case l__law_odd => k_is)
    (case c__law_odd => k_is)
    (case k__law_odd => k_is)
    (case a__law_bent_right => k_is)
    (case l__law_bent_right => k_is)
    (case c__law_bent_right => k_is)
    (case k__law_bent_right => k_is)
    (case a__law_pair_right => k_is)
    (case l__law_pair_right => k_is)
    (case c__law_pair_right => k_is)
    (case k__law_pair_right => k_is)
    (case a__law_things_right => k_is)
    (case l__law_things_right => k_is)
    (case c__law_things_right => k_is)
    (case k__law_things_right => k_is)
    (case xc__law_things_right => k_is)
    (case xv__law_things_right => rfl)
    (case xn__law_things_right => rfl)
    (case xr__law_things_right => decide +kernel)
    (case a_law => k_is)
    (case l_law => k_is)
    (case c_law => k_is)
    (case k_law => k_is)
    (case xc_law => k_is)
    (case xv_law => rfl)
    (case xn_law => rfl)
    (case xr_law => decide +kernel)
    (case n_ValueError => k_is)
    (case n_bool => k_is)
    (case n_enumerate => k_is)
    (case n_int => k_is)
    (case n_isinstance => k_is)
    (case n_len => k_is)
    (case n_list => k_is)
    (case n_max => k_is)
    (case n_range => k_is)
    (case n_repr => k_is)
    (case n_tuple => k_is)
    (case v_MOST_THINGS => k_is)
    (case v_MOST_ROOMS => k_is)
    (case v_APART => k_is)
    (case gl_APART => k_is)
    (case gf_APART => rfl)
    (case gz_APART => decide)
    (case a_Refused => k_is)
    (case i_Refused => k_is)
    (case t_Refused => k_is)
    (case b_Refused => k_is)
    (case f_init => k_is)
    (case t_init => k_is)
    (case l_init => k_is)
    (case c_init => k_is)
    (case z_cn => k_is)
    (case z_ct => k_is)
    (case a_BadRooms => k_is)
    (case xL_BadRooms => k_is)
    (case bm_ok_BadRooms => rfl)
    (case sa_BadRooms => k_is)
    (case ga_BadRooms => k_is)
    (case gg_BadRooms => k_is)
    (case nb_BadRooms => k_is)
    (case nk_BadRooms => k_is)
    (case rd_BadRooms => k_is)
    (case ini_BadRooms => k_is)
    (case kC_BadRooms => k_is)
    (case eC_BadRooms => k_is)
    (case tC_BadRooms => k_is)
    (case hC_BadRooms => k_is)
    (case iC_BadRooms => k_is)
    (case sC_BadRooms => first | rfl | k_is)
    (case ca_BadRooms => k_is)
    (case cm_BadRooms => k_is)
    (case ve_BadRooms => k_is)
    (case re_BadRooms => k_is)
    (case a_BadThing => k_is)
    (case xL_BadThing => k_is)
    (case bm_ok_BadThing => rfl)
    (case sa_BadThing => k_is)
    (case ga_BadThing => k_is)
    (case gg_BadThing => k_is)
    (case nb_BadThing => k_is)
    (case nk_BadThing => k_is)
    (case rd_BadThing => k_is)
    (case ini_BadThing => k_is)
    (case kC_BadThing => k_is)
    (case eC_BadThing => k_is)
    (case tC_BadThing => k_is)
    (case hC_BadThing => k_is)
    (case iC_BadThing => k_is)
    (case sC_BadThing => first | rfl | k_is)
    (case ca_BadThing => k_is)
    (case cm_BadThing => k_is)
    (case ve_BadThing => k_is)
    (case re_BadThing => k_is)
    (case a_BadForest => k_is)
    (case xL_BadForest => k_is)
    (case bm_ok_BadForest => rfl)
    (case sa_BadForest => k_is)
    (case ga_BadForest => k_is)
    (case gg_BadForest => k_is)
    (case nb_BadForest => k_is)
    (case nk_BadForest => k_is)
    (case rd_BadForest => k_is)
    (case ini_BadForest => k_is)
    (case kC_BadForest => k_is)
    (case eC_BadForest => k_is)
    (case tC_BadForest => k_is)
    (case hC_BadForest => k_is)
    (case iC_BadForest => k_is)
    (case sC_BadForest => first | rfl | k_is)
    (case ca_BadForest => k_is)
    (case cm_BadForest => k_is)
    (case ve_BadForest => k_is)
    (case re_BadForest => k_is)
    (case a_Ring => k_is)
    (case xL_Ring => k_is)
    (case bm_ok_Ring => rfl)
    (case sa_Ring => k_is)
    (case ga_Ring => k_is)
    (case gg_Ring => k_is)
    (case nb_Ring => k_is)
    (case nk_Ring => k_is)
    (case rd_Ring => k_is)
    (case ini_Ring => k_is)
    (case kC_Ring => k_is)
    (case eC_Ring => k_is)
    (case tC_Ring => k_is)
    (case hC_Ring => k_is)
    (case iC_Ring => k_is)
    (case sC_Ring => first | rfl | k_is)
    (case ca_Ring => k_is)
    (case cm_Ring => k_is)
    (case ve_Ring => k_is)
    (case re_Ring => k_is)
    (case a_TooMany => k_is)
    (case xL_TooMany => k_is)
    (case bm_ok_TooMany => rfl)
    (case sa_TooMany => k_is)
    (case ga_TooMany => k_is)
    (case gg_TooMany => k_is)
    (case nb_TooMany => k_is)
    (case nk_TooMany => k_is)
    (case rd_TooMany => k_is)
    (case ini_TooMany => k_is)
    (case kC_TooMany => k_is)
    (case eC_TooMany => k_is)
    (case tC_TooMany => k_is)
    (case hC_TooMany => k_is)
    (case iC_TooMany => k_is)
    (case sC_TooMany => first | rfl | k_is)
    (case ca_TooMany => k_is)
    (case cm_TooMany => k_is)
    (case ve_TooMany => k_is)
    (case re_TooMany => k_is)
    (case sub_BadRooms_BadThing => k_is)
    (case sub_BadRooms_BadForest => k_is)
    (case sub_BadRooms_Ring => k_is)
    (case sub_BadRooms_TooMany => k_is)
    (case sub_BadThing_BadRooms => k_is)
    (case sub_BadThing_BadForest => k_is)
    (case sub_BadThing_Ring => k_is)
    (case sub_BadThing_TooMany => k_is)
    (case sub_BadForest_BadRooms => k_is)
    (case sub_BadForest_BadThing => k_is)
    (case sub_BadForest_Ring => k_is)
    (case sub_BadForest_TooMany => k_is)
    (case sub_Ring_BadRooms => k_is)
    (case sub_Ring_BadThing => k_is)
    (case sub_Ring_BadForest => k_is)
    (case sub_Ring_TooMany => k_is)
    (case sub_TooMany_BadRooms => k_is)
    (case sub_TooMany_BadThing => k_is)
    (case sub_TooMany_BadForest => k_is)
    (case sub_TooMany_Ring => k_is)
    (case ne__law_is_made_right__law_things_right => decide)
    (case ne__law_is_made_right_law => decide)
    (case ne__law_things_right__law_is_made_right => decide)
    (case ne__law_things_right_law => decide)
    (case ne_law__law_is_made_right => decide)
    (case ne_law__law_things_right => decide)

end
