import PyProof.Rows.All
import Wide.All
import OpenK.AllK
import Wide.FinOn
import HandS.ForMost
import HandS.ForExc
import HandS.Walk
import HandS.Wide
import HandS.Evl
import HandS.Deep
import HandS.Gcd
import HandS.TupAny
import HandS.Strs
import HandS.Defaults
import KE.GoesMore
import HandS.IsInst
import HandS.Property
import HandS.SetFor
import HandS.Head0
import HandS.Head1
import HandS.Head2
import HandS.HeadEnd
import HandS.HeadHook1
import HandS.HeadHook2
import HandS.HeadNt
import HandS.Ends
import HandS.Head3
import HandS.Star
import HandS.Style
import HandS.Iter
import HandS.List
import KE.GoesZip
import KE.GoesEnum
import HandS.Zip
import HandS.Conv
import HandS.TupMul
import HandS.OwnEq
import HandS.More
import HandS.Codes
import HandS.ExcOwn
import HandS.ExcInit
import HandS.TryMany
import HandS.FStr
import HandS.Nested
import KE.KExcSuper
import HandS.ExcField
import PyProof.StrLaws
import HandS.ExcIs
import HandS.Lambda
import KE.KExcIs
import HandS.HeadWalk
import HandS.HeadHook4
import PySem.Challenge.RW_fewreadings_k01_weightings_validated
set_option Elab.async false
set_option linter.all false
set_option maxRecDepth 100000
set_option maxHeartbeats 4000000
namespace Wk
open PySem L2 Evl

/-! ### outcomes -/
structure Er where
  c : Nat
  fs : List Int
inductive Mm (α : Type) where
  | ok (a : α)
  | ex (e : Er)
  | bad
def Mm.bd {α β : Type} (m : Mm α) (f : α → Mm β) : Mm β := match m with
  | .ok a => f a
  | .ex e => .ex e
  | .bad => .bad
def Out {α : Type} (m : Mm α) (p : α → Prop) (q : Er → Prop) : Prop := match m with
  | .ok a => p a
  | .ex e => q e
  | .bad => False
/-- what holds of an outcome -/
structure Post {α : Type} (m : Mm α) (p : α → Prop) (q : Er → Prop) : Prop where
  h : Out m p q
section
variable {α β : Type} {m : Mm α} {f : α → Mm β} {p : α → Prop} {r : β → Prop} {q : Er → Prop}
theorem post_bd (h : Post (m.bd f) r q) : Post m (fun a => Post (f a) r q) q := by
  cases m with
  | ok a => exact ⟨⟨h.h⟩⟩
  | ex e => exact ⟨h.h⟩
  | bad => exact ⟨h.h⟩
theorem Post.mono {p' : α → Prop} {q' : Er → Prop} (h : Post m p q) (hp : ∀ a, p a → p' a) (hq : ∀ e, q e → q' e) : Post m p' q' := by
  cases m with
  | ok a => exact ⟨hp a h.h⟩
  | ex e => exact ⟨hq e h.h⟩
  | bad => exact ⟨h.h⟩
theorem Post.of_ok {a : α} (e : m = .ok a) (h : p a) : Post m p q := by
  rw [e]; exact ⟨h⟩
theorem Post.elim {C : Prop} (h : Post (Mm.bad : Mm α) p q) : C := h.h.elim
theorem post_ok {a : α} (h : Post (.ok a) p q) : p a := h.h
end
@[simp] theorem bd_ok {α β : Type} (a : α) (f : α → Mm β) : (Mm.ok a).bd f = f a := rfl
@[simp] theorem bd_ex {α β : Type} (e : Er) (f : α → Mm β) : (Mm.ex e : Mm α).bd f = .ex e := rfl
@[simp] theorem bd_bad {α β : Type} (f : α → Mm β) : (Mm.bad : Mm α).bd f = .bad := rfl
def guardM (c : Prop) [Decidable c] : Mm Unit := if c then .ok () else .bad
instance {i j : Int} : Decidable (CMulW i j) := by unfold CMulW; exact inferInstance
instance {i j : Int} : Decidable (CDivW i j) := by unfold CDivW; exact inferInstance
def CDv (_ j : Int) : Prop := j ≠ 0 ∧ j.natAbs.log2 < 9000
instance {i j : Int} : Decidable (CDv i j) := by unfold CDv; exact inferInstance
def mulM (i j : Int) : Mm Int := if CMulW i j then .ok (i * j) else .bad
def divM (i j : Int) : Mm Int := if CDv i j then .ok (i.fdiv j) else .bad
def modM (i j : Int) : Mm Int := if j ≠ 0 then .ok (i.fmod j) else .bad
def getM {α : Type} (xs : List α) (i : Int) : Mm α := match atI xs i with
  | some a => .ok a
  | none => .bad
section
variable {β : Type} {f : Int → Mm β} {r : β → Prop} {q : Er → Prop} {i j : Int}
theorem post_mul (h : Post ((mulM i j).bd f) r q) : ∃ m, CMulW i j ∧ i * j = m ∧ Post (f m) r q := by
  unfold mulM at h
  split at h
  · exact ⟨_, ‹_›, rfl, ⟨h.h⟩⟩
  · exact h.h.elim
theorem post_div (h : Post ((divM i j).bd f) r q) : ∃ m, CDv i j ∧ i.fdiv j = m ∧ Post (f m) r q := by
  unfold divM at h
  split at h
  · exact ⟨_, ‹_›, rfl, ⟨h.h⟩⟩
  · exact h.h.elim
theorem post_mod (h : Post ((modM i j).bd f) r q) : ∃ m, j ≠ 0 ∧ i.fmod j = m ∧ Post (f m) r q := by
  unfold modM at h
  split at h
  · exact ⟨_, ‹_›, rfl, ⟨h.h⟩⟩
  · exact h.h.elim
theorem post_get {α : Type} {xs : List α} {f : α → Mm β} (h : Post ((getM xs i).bd f) r q) : ∃ a, atI xs i = some a ∧ Post (f a) r q := by
  unfold getM at h
  split at h
  · exact ⟨_, ‹_›, ⟨h.h⟩⟩
  · exact h.h.elim
theorem post_guard {c : Prop} [Decidable c] {f : Unit → Mm β} (h : Post ((guardM c).bd f) r q) : c ∧ Post (f ()) r q := by
  unfold guardM at h
  split at h
  · exact ⟨‹_›, ⟨h.h⟩⟩
  · exact h.h.elim
end
section
variable {X : Cx}
theorem op_divM : OpR X (binaryOp .FloorDiv) (fun x y H Q => ∃ i j m, x = .int i ∧ y = .int j ∧ CDv i j ∧ i.fdiv j = m ∧ Q (.int m) H) := by
  intro pins s σ H x y v u Q I rx ry h
  obtain ⟨i, j, m, rfl, rfl, c, rfl, q⟩ := h
  exact (opI (C := CDv) (g := fun i j => i.fdiv j) fun i j _ _ _ _ _ hc q => PyProof.Rows.floordiv_int hc.1 q (.inl (PyProof.noPylong_of_log2 hc.2))) pins s σ H _ _ v u Q I rx ry ⟨i, j, rfl, rfl, c, q⟩
theorem op_mulM : OpR X (binaryOp .Mult) (fun x y H Q => ∃ i j m, x = .int i ∧ y = .int j ∧ CMulW i j ∧ i * j = m ∧ Q (.int m) H) := by
  intro pins s σ H x y v u Q I rx ry h
  obtain ⟨i, j, m, rfl, rfl, c, rfl, q⟩ := h
  exact op_mulW pins s σ H _ _ v u Q I rx ry ⟨i, j, rfl, rfl, c, q⟩
theorem op_modM : OpR X (binaryOp .Mod) (fun x y H Q => ∃ i j m, x = .int i ∧ y = .int j ∧ j ≠ 0 ∧ i.fmod j = m ∧ Q (.int m) H) := by
  intro pins s σ H x y v u Q I rx ry h
  obtain ⟨i, j, m, rfl, rfl, c, rfl, q⟩ := h
  exact op_modN pins s σ H _ _ v u Q I rx ry ⟨i, j, rfl, rfl, c, q⟩
theorem pe_gint {x : Str} {i : Int} {pos : Pos} (h : ∃ t, X.mg x = some (.int i t)) (hg : Gl X x := by rfl) (hd : (x == ("__debug__" : Str)) = false := by decide) : PE X (.Name x pos) (tC (.int i)) := by
  obtain ⟨t, h⟩ := h
  exact pe_glob hg h ⟨t, rfl⟩ hd
theorem pe_gref {x : Str} {a : Addr} {pos : Pos} (h : X.mg x = some (.ref a)) (hg : Gl X x := by rfl) (hd : (x == ("__debug__" : Str)) = false := by decide) : PE X (.Name x pos) (tC (.ref a)) := pe_glob hg h rfl hd
end

/-! ### heaps: F what is fixed, H all -/
structure Gm (M : List Addr) (F H F' H' : Hp) : Prop where
  f : Ex F F'
  s : Ex F' H'
  h : ∀ a o, a ∉ M → H a = some o → H' a = some o
  n : ∀ a o, H a = some o → F a = none → F' a = none
  m : ∀ a o, H a = some o → ∃ o', H' a = some o'
section
variable {M : List Addr} {F H F1 H1 F2 H2 : Hp}
theorem Gm.refl (e : Ex F H) : Gm M F H F H := ⟨Ex.refl _, e, fun _ _ _ h => h, fun _ _ _ h => h, fun _ o h => ⟨o, h⟩⟩
theorem Gm.trans (a : Gm M F H F1 H1) (b : Gm M F1 H1 F2 H2) : Gm M F H F2 H2 :=
  ⟨a.f.trans b.f, b.s, fun x o hx h => b.h x o hx (a.h x o hx h), fun x o h hf => by
    obtain ⟨o', h'⟩ := a.m x o h
    exact b.n x o' h' (a.n x o h hf), fun x o h => by
    obtain ⟨o', h'⟩ := a.m x o h
    exact b.m x o' h'⟩
theorem Gm.up (a : Gm [] F H F1 H1) : Gm M F H F1 H1 := ⟨a.f, a.s, fun x o _ h => a.h x o (by simp) h, a.n, a.m⟩
/-- an owned object of the caller's that the callee leaves -/
theorem Gm.own (a : Gm M F H F1 H1) {p : Addr} {o : HO} (hp : p ∉ M) (h : H p = some o) (f : F p = none) : H1 p = some o ∧ F1 p = none := ⟨a.h p o hp h, a.n p o h f⟩
theorem Gm.fresh (a : Gm M F H F1 H1) {p : Addr} (h : H1 p = none) : H p = none := by
  cases e : H p with
  | none => rfl
  | some o =>
    obtain ⟨o', h'⟩ := a.m p o e
    rw [h] at h'
    cases h'
/-- a new fixed object -/
theorem Gm.new (e : Ex F H) {p : Addr} {o : HO} (h : H p = none) : Gm M F H (upd F p o) (upd H p o) := by
  have hf : F p = none := by
    cases q : F p with
    | none => rfl
    | some u => rw [e p u q] at h; cases h
  refine ⟨Ex.new hf, fun a u ha => ?_, fun a u _ ha => ?_, fun a u ha hn => ?_, fun a u ha => ?_⟩
  · by_cases q : a = p
    · subst q; rw [upd_same] at ha ⊢; exact ha
    · rw [upd_ne q] at ha ⊢; exact e a u ha
  · rw [upd_ne (ne_of_none ha h)]; exact ha
  · rw [upd_ne (ne_of_none ha h)]; exact hn
  · exact ⟨u, by rw [upd_ne (ne_of_none ha h)]; exact ha⟩
/-- a new object that may change -/
theorem Gm.newM (e : Ex F H) {p : Addr} {o : HO} (h : H p = none) : Gm M F H F (upd H p o) := by
  refine ⟨Ex.refl _, fun a u ha => ?_, fun a u _ ha => ?_, fun a u ha hn => hn, fun a u ha => ?_⟩
  · rw [upd_ne (ne_of_none (e a u ha) h)]; exact e a u ha
  · rw [upd_ne (ne_of_none ha h)]; exact ha
  · exact ⟨u, by rw [upd_ne (ne_of_none ha h)]; exact ha⟩
/-- an own object changes -/
theorem Gm.put (e : Ex F H) {p : Addr} {o u : HO} (h : H p = some u) (hf : F p = none) : Gm (p :: M) F H F (upd H p o) := by
  refine ⟨Ex.refl _, fun a u ha => ?_, fun a u hM ha => ?_, fun a u ha hn => hn, fun a u ha => ?_⟩
  · have q : a ≠ p := fun q => by rw [q, hf] at ha; cases ha
    rw [upd_ne q]; exact e a u ha
  · have q : a ≠ p := fun q => hM (by rw [q]; simp)
    rw [upd_ne q]; exact ha
  · by_cases q : a = p
    · subst q; exact ⟨o, upd_same⟩
    · exact ⟨u, by rw [upd_ne q]; exact ha⟩
/-- a change of an object that is younger than F0 H0 -/
theorem Gm.putYoung {F0 H0 : Hp} (g : Gm M F0 H0 F H) {p : Addr} {o u : HO} (h : H p = some u) (hf : F p = none) (h0 : H0 p = none) : Gm M F0 H0 F (upd H p o) := by
  refine ⟨g.f, fun a u ha => ?_, fun a u hM ha => ?_, g.n, fun a u ha => ?_⟩
  · have q : a ≠ p := fun q => by rw [q, hf] at ha; cases ha
    rw [upd_ne q]; exact g.s a u ha
  · have q : a ≠ p := fun q => by rw [q, h0] at ha; cases ha
    rw [upd_ne q]; exact g.h a u hM ha
  · by_cases q : a = p
    · subst q; exact ⟨o, upd_same⟩
    · obtain ⟨o', h'⟩ := g.m a u ha
      exact ⟨o', by rw [upd_ne q]; exact h'⟩
/-- an own young object is fixed -/
theorem Gm.fix {F0 H0 : Hp} (g : Gm M F0 H0 F H) {p : Addr} {o : HO} (h : H p = some o) (hf : F p = none) (h0 : H0 p = none) : Gm M F0 H0 (upd F p o) H := by
  refine ⟨fun a u ha => ?_, fun a u ha => ?_, g.h, fun a u ha hn => ?_, g.m⟩
  · have q : a ≠ p := fun q => by
      have z := g.f a u ha
      rw [q, hf] at z; cases z
    rw [upd_ne q]; exact g.f a u ha
  · by_cases q : a = p
    · subst q; rw [upd_same] at ha; rw [h]; exact ha
    · rw [upd_ne q] at ha; exact g.s a u ha
  · have q : a ≠ p := fun q => by rw [q, h0] at ha; cases ha
    rw [upd_ne q]; exact g.n a u ha hn
end

/-- what follows an answer -/
def Ret (M : List Addr) (F H : Hp) (S : Hp → Hp → V → Prop) (Q : VK) : Prop := ∀ v F' H', Gm M F H F' H' → S F' H' v → Q v H'
theorem Ret.then_ {M : List Addr} {F H F1 H1 : Hp} {S : Hp → Hp → V → Prop} {Q : VK} (k : Ret M F H S Q) (g : Gm M F H F1 H1) : Ret M F1 H1 S Q := fun v F' H' g' s => k v F' H' (g.trans g') s

/-! ### data -/
mutual
inductive Dq (K : PySem.W.Frag) (H : Hp) : V → PyData → Prop
  | non : Dq K H .non .none
  | bl (b : Bool) : Dq K H (.bl b) (.bool b)
  | int (i : Int) : Dq K H (.int i) (.int i)
  | str (x : Str) : Dq K H (.str x) (.str x)
  | lst {a : Addr} {xs : List V} {ds : List PyData} : H a = some (.lst xs) → DqAll K H xs ds → Dq K H (.ref a) (.list ds)
  | tup {a : Addr} {xs : List V} {ds : List PyData} : SqT K H a xs → DqAll K H xs ds → Dq K H (.ref a) (.tuple ds)
inductive DqAll (K : PySem.W.Frag) (H : Hp) : List V → List PyData → Prop
  | nil : DqAll K H [] []
  | cons {v : V} {vs : List V} {d : PyData} {ds : List PyData} : Dq K H v d → DqAll K H vs ds → DqAll K H (v :: vs) (d :: ds)
end
section
variable {K : PySem.W.Frag} {F F' H H' : Hp}
mutual
theorem dp_mono (e : Ex F F') : ∀ (d : PyData) (v : V), Dq K F v d → Dq K F' v d
  | .none, _, .non => .non
  | .bool _, _, .bl b => .bl b
  | .int _, _, .int i => .int i
  | .str _, _, .str x => .str x
  | .list ds, _, .lst h a => .lst (e _ _ h) (dpAll_mono e ds _ a)
  | .tuple ds, _, .tup h a => .tup (ex_t e h) (dpAll_mono e ds _ a)
  | .dict _, _, h => by cases h
theorem dpAll_mono (e : Ex F F') : ∀ (ds : List PyData) (vs : List V), DqAll K F vs ds → DqAll K F' vs ds
  | [], _, .nil => .nil
  | d :: ds, _, .cons h a => .cons (dp_mono e d _ h) (dpAll_mono e ds _ a)
end
mutual
theorem dq_dp : ∀ (d : PyData) (v : V), Dq K F v d → Dp K F v d
  | .none, _, .non => .non
  | .bool _, _, .bl b => .bl b
  | .int _, _, .int i => .int i
  | .str _, _, .str x => .str x
  | .list ds, _, .lst h a => .lst (sq_of h) (dqAll_dp ds _ a)
  | .tuple ds, _, .tup h a => .tup h (dqAll_dp ds _ a)
  | .dict _, _, h => by cases h
theorem dqAll_dp : ∀ (ds : List PyData) (vs : List V), DqAll K F vs ds → DpAll K F vs ds
  | [], _, .nil => .nil
  | d :: ds, _, .cons h a => .cons (dq_dp d _ h) (dqAll_dp ds _ a)
end
theorem _root_.Wk.Dq.dp {v : V} {d : PyData} (h : Dq K F v d) (e : Ex F F') : Dp K F' v d := dq_dp d v (dp_mono e d v h)
theorem _root_.Wk.Dq.up {v : V} {d : PyData} (h : Dq K F v d) (e : Ex F F') : Dq K F' v d := dp_mono e d v h
theorem _root_.Wk.DqAll.up {v : List V} {d : List PyData} (h : DqAll K F v d) (e : Ex F F') : DqAll K F' v d := dpAll_mono e d v h
theorem _root_.Wk.DqAll.len {vs : List V} {ds : List PyData} (h : DqAll K F vs ds) : vs.length = ds.length := by
  induction ds generalizing vs with
  | nil => cases h; rfl
  | cons d ds ih => cases h with | cons h a => simp [ih a]
theorem _root_.Wk.DqAll.get {vs : List V} {ds : List PyData} (h : DqAll K F vs ds) : ∀ {i : Nat} {d : PyData}, ds[i]? = some d → ∃ v, vs[i]? = some v ∧ Dq K F v d := by
  induction ds generalizing vs with
  | nil => intro i d e; simp at e
  | cons d ds ih =>
    cases h with
    | cons h a =>
      intro i x e
      cases i with
      | zero => simp at e; subst e; exact ⟨_, rfl, h⟩
      | succ i => simpa using ih a (by simpa using e)
theorem _root_.Wk.DqAll.getV {vs : List V} {ds : List PyData} (h : DqAll K F vs ds) : ∀ {i : Nat} {v : V}, vs[i]? = some v → ∃ d, ds[i]? = some d ∧ Dq K F v d := by
  induction ds generalizing vs with
  | nil => cases h; intro i d e; simp at e
  | cons d ds ih =>
    cases h with
    | cons h a =>
      intro i x e
      cases i with
      | zero => simp at e; subst e; exact ⟨_, rfl, h⟩
      | succ i => simpa using ih a (by simpa using e)
theorem _root_.Wk.DqAll.app {vs ws : List V} {ds es : List PyData} (h : DqAll K F vs ds) (h2 : DqAll K F ws es) : DqAll K F (vs ++ ws) (ds ++ es) := by
  induction ds generalizing vs with
  | nil => cases h; exact h2
  | cons d ds ih => cases h with | cons h a => exact .cons h (ih a)
theorem _root_.Wk.DqAll.take {vs : List V} {ds : List PyData} (h : DqAll K F vs ds) : ∀ n, DqAll K F (vs.take n) (ds.take n) := by
  induction ds generalizing vs with
  | nil => cases h; intro n; simp; exact .nil
  | cons d ds ih =>
    cases h with
    | cons h a =>
      intro n
      cases n with
      | zero => exact .nil
      | succ n => exact .cons h (ih a n)
theorem _root_.Wk.DqAll.drop {vs : List V} {ds : List PyData} (h : DqAll K F vs ds) : ∀ n, DqAll K F (vs.drop n) (ds.drop n) := by
  induction ds generalizing vs with
  | nil => cases h; intro n; simp; exact .nil
  | cons d ds ih =>
    cases h with
    | cons h a =>
      intro n
      cases n with
      | zero => exact .cons h a
      | succ n => exact ih a n
theorem dp_int {v : V} {i : Int} (h : Dq K F v (.int i)) : v = .int i := by cases h; rfl
theorem dp_bl {v : V} {b : Bool} (h : Dq K F v (.bool b)) : v = .bl b := by cases h; rfl
theorem dp_non {v : V} (h : Dq K F v .none) : v = .non := by cases h; rfl
theorem dp_str {v : V} {x : Str} (h : Dq K F v (.str x)) : v = .str x := by cases h; rfl
theorem dp_lst {v : V} {ds : List PyData} (h : Dq K F v (.list ds)) : ∃ p xs, v = .ref p ∧ F p = some (.lst xs) ∧ DqAll K F xs ds := by
  cases h with | lst h a => exact ⟨_, _, rfl, h, a⟩
theorem dp_tup {v : V} {ds : List PyData} (h : Dq K F v (.tuple ds)) : ∃ p xs, v = .ref p ∧ SqT K F p xs ∧ DqAll K F xs ds := by
  cases h with | tup h a => exact ⟨_, _, rfl, h, a⟩
theorem dp_tup2 {v : V} {d e : PyData} (h : Dq K F v (.tuple [d, e])) : ∃ p x y, v = .ref p ∧ SqT K F p [x, y] ∧ Dq K F x d ∧ Dq K F y e := by
  obtain ⟨p, xs, rfl, hs, a⟩ := dp_tup h
  cases a with | cons h1 a => cases a with | cons h2 a => cases a; exact ⟨p, _, _, rfl, hs, h1, h2⟩
theorem dp_tup3 {v : V} {d e f : PyData} (h : Dq K F v (.tuple [d, e, f])) : ∃ p x y z, v = .ref p ∧ SqT K F p [x, y, z] ∧ Dq K F x d ∧ Dq K F y e ∧ Dq K F z f := by
  obtain ⟨p, xs, rfl, hs, a⟩ := dp_tup h
  cases a with | cons h1 a => cases a with | cons h2 a => cases a with | cons h3 a => cases a; exact ⟨p, _, _, _, rfl, hs, h1, h2, h3⟩
end

/-! ### new tuples, new lists -/
section
variable {K : PySem.W.Frag} {M : List Addr} {F H : Hp} {Q : VK} {xs : List V} {ds : List PyData}
theorem new_tup (e : Ex F H) (a : DqAll K F xs ds) (hl : xs.length ≤ 100000) (k : Ret M F H (fun F' _ v => Dq K F' v (.tuple ds)) Q) : xs.length ≤ sizeLine ∧ ∀ p, H p = none → Q (.ref p) (upd H p (.tup xs)) :=
  ⟨sz_of hl, fun p hp => by
    have g : Gm M F H (upd F p (.tup xs)) (upd H p (.tup xs)) := Gm.new e hp
    exact k _ _ _ g (.tup (st_of upd_same) (a.up g.f))⟩
theorem new_lst (e : Ex F H) (a : DqAll K F xs ds) (hl : xs.length ≤ 100000) (k : Ret M F H (fun F' _ v => Dq K F' v (.list ds)) Q) : xs.length ≤ sizeLine ∧ ∀ p, H p = none → Q (.ref p) (upd H p (.lst xs)) :=
  ⟨sz_of hl, fun p hp => by
    have g : Gm M F H (upd F p (.lst xs)) (upd H p (.lst xs)) := Gm.new e hp
    exact k _ _ _ g (.lst upd_same (a.up g.f))⟩
end

/-! ### encoders -/
def eN (_ : Unit) : PyData := .none
def e2 {α β : Type} (f : α → PyData) (g : β → PyData) (p : α × β) : PyData := .tuple [f p.1, g p.2]
def e1 {α : Type} (f : α → PyData) (p : α) : PyData := .tuple [f p]
def e3 {α β γ : Type} (f : α → PyData) (g : β → PyData) (h : γ → PyData) (p : α × β × γ) : PyData := .tuple [f p.1, g p.2.1, h p.2.2]
def eL {α : Type} (f : α → PyData) (l : List α) : PyData := .list (l.map f)
def eV {α : Type} (f : α → PyData) (l : List α) : PyData := .tuple (l.map f)
def eO {α : Type} (f : α → PyData) (o : Option α) : PyData := match o with
  | none => .none
  | some a => f a
/-- data of a depth at most n whose equality is that of the values -/
structure Sh {α : Type} [DecidableEq α] (f : α → PyData) (n : Nat) : Prop where
  lay : ∀ a, (f a).canLay0 = true
  dep : ∀ a, (f a).depth ≤ n
  eq : ∀ a b, PyData.eqv (f a) (f b) = decide (a = b)
section
variable {α β γ : Type} [DecidableEq α] [DecidableEq β] [DecidableEq γ] {f : α → PyData} {g : β → PyData} {h : γ → PyData} {n m k : Nat}
theorem Sh.shaped (s : Sh f n) (hn : n ≤ 64 := by decide) (a : α) : SeqAt.shaped (f a) = true := by
  unfold SeqAt.shaped
  rw [s.lay a, Bool.true_and]
  exact decide_eq_true (Nat.le_trans (s.dep a) hn)
theorem sh_int : Sh PyData.int 0 := ⟨fun _ => by simp [PyData.canLay0], fun _ => by simp [PyData.depth], fun a b => by simp only [PyData.eqv]; exact Bool.eq_iff_iff.mpr (by simp)⟩
theorem sh_bool : Sh PyData.bool 0 := ⟨fun _ => by simp [PyData.canLay0], fun _ => by simp [PyData.depth], fun a b => by simp only [PyData.eqv]; exact Bool.eq_iff_iff.mpr (by simp)⟩
theorem sh_n : Sh eN 0 := ⟨fun _ => by simp [eN, PyData.canLay0], fun _ => by simp [eN, PyData.depth], fun a b => by simp [eN, PyData.eqv]⟩
theorem sh_e2 (a : Sh f n) (b : Sh g m) : Sh (e2 f g) (max n m + 1) := ⟨fun x => by simp [e2, PyData.canLay0, PyData.canLayAll0, a.lay, b.lay], fun x => by
    have := a.dep x.1
    have := b.dep x.2
    simp [e2, PyData.depth, PyData.depthAll]
    omega, fun x y => by
    obtain ⟨x1, x2⟩ := x
    obtain ⟨y1, y2⟩ := y
    simp only [e2, PyData.eqv, PyData.eqvAll, a.eq, b.eq]
    exact Bool.eq_iff_iff.mpr (by simp)⟩
theorem sh_e3 (a : Sh f n) (b : Sh g m) (c : Sh h k) : Sh (e3 f g h) (max (max n m) k + 1) := ⟨fun x => by simp [e3, PyData.canLay0, PyData.canLayAll0, a.lay, b.lay, c.lay], fun x => by
    have := a.dep x.1
    have := b.dep x.2.1
    have := c.dep x.2.2
    simp [e3, PyData.depth, PyData.depthAll]
    omega, fun x y => by
    obtain ⟨x1, x2, x3⟩ := x
    obtain ⟨y1, y2, y3⟩ := y
    simp only [e3, PyData.eqv, PyData.eqvAll, a.eq, b.eq, c.eq]
    exact Bool.eq_iff_iff.mpr (by simp)⟩
theorem lay_map (a : Sh f n) : ∀ l : List α, PyData.canLayAll0 (l.map f) = true
  | [] => by simp [PyData.canLayAll0]
  | x :: l => by simp [PyData.canLayAll0, a.lay, lay_map a l]
theorem dep_map (a : Sh f n) : ∀ l : List α, PyData.depthAll (l.map f) ≤ n
  | [] => by simp [PyData.depthAll]
  | x :: l => by
    have := a.dep x
    have := dep_map a l
    simp [PyData.depthAll]
    omega
theorem eqv_map (a : Sh f n) : ∀ l r : List α, PyData.eqvAll (l.map f) (r.map f) = decide (l = r)
  | [], [] => by simp [PyData.eqvAll]
  | [], _ :: _ => by simp [PyData.eqvAll]
  | _ :: _, [] => by simp [PyData.eqvAll]
  | x :: l, y :: r => by
    simp only [List.map_cons, PyData.eqvAll, a.eq, eqv_map a l r]
    exact Bool.eq_iff_iff.mpr (by simp)
theorem sh_eL (a : Sh f n) : Sh (eL f) (n + 1) := ⟨fun l => by simp [eL, PyData.canLay0, lay_map a l], fun l => by
    have := dep_map a l
    simp [eL, PyData.depth]
    omega, fun l r => by simp only [eL, PyData.eqv]; exact eqv_map a l r⟩
theorem sh_eV (a : Sh f n) : Sh (eV f) (n + 1) := ⟨fun l => by simp [eV, PyData.canLay0, lay_map a l], fun l => by
    have := dep_map a l
    simp [eV, PyData.depth]
    omega, fun l r => by simp only [eV, PyData.eqv]; exact eqv_map a l r⟩
end
/-! == and != of such data -/
section
variable {X : Cx} {α : Type} [DecidableEq α] {f : α → PyData} {n : Nat}
def rEqM (K : PySem.W.Frag) (f : α → PyData) : R2 := fun x y H Q => ∃ a b : α, Dp K H x (f a) ∧ Dp K H y (f b) ∧ Q (.bl (decide (a = b))) H
def rNeM (K : PySem.W.Frag) (f : α → PyData) : R2 := fun x y H Q => ∃ a b : α, Dp K H x (f a) ∧ Dp K H y (f b) ∧ Q (.bl (!decide (a = b))) H
theorem op_eqM (s : Sh f n) (hu : X.A.units + 64 < cLine) (hn : n ≤ 64 := by decide) : OpR X (compareOp .Eq) (rEqM X.K f) := by
  intro pins st σ H x y v u Q I rx ry h
  obtain ⟨a, b, ha, hb, q⟩ := h
  exact op_eqD hu pins st σ H x y v u Q I rx ry ⟨f a, f b, ha, hb, s.shaped hn a, s.shaped hn b, by rw [s.eq]; exact q⟩
theorem op_neM (s : Sh f n) (hu : X.A.units + 64 < cLine) (hn : n ≤ 64 := by decide) : OpR X (compareOp .NotEq) (rNeM X.K f) := by
  intro pins st σ H x y v u Q I rx ry h
  obtain ⟨a, b, ha, hb, q⟩ := h
  exact op_neD hu pins st σ H x y v u Q I rx ry ⟨f a, f b, ha, hb, s.shaped hn a, s.shaped hn b, by rw [s.eq]; exact q⟩
end
end Wk

set_option Elab.async false
set_option linter.all false
set_option maxRecDepth 100000
set_option maxHeartbeats 4000000
namespace Wk
open PySem L2 Evl

/-! ### defs that are known -/
structure Kn (P : Program) (w : World) (K : PySem.W.Frag) (mg : Str → Option Value) (base : Heap) (x : Str) (k : Nat) (ps : List Str) (sp : Sp) : Prop where
  ex : ∃ f fd, FnOk P w K mg base CX0 k f fd ps sp ∧ mg x = some (.ref f) ∧ PySem.W.keepIn K (.ref f) = true ∧ Binds K fd ps []
section
variable {X : Cx} {x : Str} {k : Nat} {ps : List Str} {sp : Sp} {p pos : Pos} {e : Expr} {es : List Expr} {t : TA}
theorem pe_kn (G : Kn X.prog X.w X.K X.mg X.base x k ps sp) (hr : Room k X.A) (ha : PA X (e :: es) t) (hg : Gl X x := by rfl) (hdb : (x == ("__debug__" : Str)) = false := by decide)
    (he : starEach (e :: es) X.env = (false, eval e X.env) :: starEach es X.env := by rfl) (hpl : (backTo pos (starEach es X.env)).any (·.1) = false := by rfl) : PE X (.Call (.Name x p) (e :: es) [] pos) (tCall sp [] E0 t) := by
  obtain ⟨f, fd, F, hm, hk, hb⟩ := G.ex
  exact pe_call F hr hg hm hk hb .nil pass0 ha hdb he hpl
theorem pe_kn0 (G : Kn X.prog X.w X.K X.mg X.base x k ps sp) (hr : Room k X.A) (hg : Gl X x := by rfl) (hdb : (x == ("__debug__" : Str)) = false := by decide) : PE X (.Call (.Name x p) [] [] pos) (tCall sp [] E0 tNil) := by
  obtain ⟨f, fd, F, hm, hk, hb⟩ := G.ex
  exact pe_call0 F hr hg hm hk hb .nil pass0 hdb
end

/-! ### the row of draws -/
structure Rw where
  pos : Int
  seed : Int
  left : Int
/-- the row at ra: the script at sc, ints n -/
def RowAt (K : PySem.W.Frag) (sc ra : Addr) (scr : List Int) (F H : Hp) (st : Rw) : Prop :=
  H ra = some (.lst [.ref sc, .int st.pos, .int st.seed, .int st.left]) ∧ F ra = none ∧ SqL K F sc (scr.map V.int)
theorem RowAt.keep {K : PySem.W.Frag} {sc ra : Addr} {scr : List Int} {F H F' H' : Hp} {st : Rw} (w : RowAt K sc ra scr F H st) (g : Gm [] F H F' H') : RowAt K sc ra scr F' H' st :=
  ⟨(g.own (by simp) w.1 w.2.1).1, (g.own (by simp) w.1 w.2.1).2, ex_l g.f w.2.2⟩

/-! ### loops -/
inductive Fl (R S : Type) where
  | go (s : S)
  | brk (s : S)
  | ret (r : R)
def foldM {α S : Type} (f : S → α → Mm S) : S → List α → Mm S
  | s, [] => .ok s
  | s, x :: xs => (f s x).bd fun s' => foldM f s' xs
/-- a loop that may be left -/
def foldL {α R S : Type} (f : S → α → Mm (Fl R S)) : S → List α → Mm (Fl R S)
  | s, [] => .ok (.go s)
  | s, x :: xs => (f s x).bd fun o => match o with
    | .go s' => foldL f s' xs
    | .brk s' => .ok (.go s')
    | .ret r => .ok (.ret r)
def Fl.el {R S β : Type} (o : Fl R S) (go : S → Mm β) (ret : R → Mm β) : Mm β := match o with
  | .go s => go s
  | .brk s => go s
  | .ret r => ret r
def foldW {S : Type} (c : S → Mm Bool) (f : S → Mm S) : Nat → S → Mm S
  | 0, _ => .bad
  | n + 1, s => (c s).bd fun b => match b with
    | true => (f s).bd fun s' => foldW c f n s'
    | false => .ok s
theorem post_assoc {α β γ : Type} {m : Mm α} {f : α → Mm β} {g : β → Mm γ} {p : γ → Prop} {q : Er → Prop} (h : Post ((m.bd f).bd g) p q) : Post (m.bd fun a => (f a).bd g) p q := by
  cases m <;> exact ⟨h.h⟩
section
variable {K : PySem.W.Frag} {M : List Addr} {F H : Hp} {σ : L2.St} {D : Ends} {g : TG} {tb : TS} {α β S : Type} {xs : List V} {l : List α} {step : S → α → Mm S} {rest : S → Mm β} {ok : β → Prop} {ex : Er → Prop} {s0 : S} {J : It} {n : Nat} {G : Hp → Prop} {Y : Nat → Hp → V → Hp → Prop}
/-- a for over anything that walks, no way out but by its end; Z: what a turn finds of the i-th item -/
theorem for_mir (w : Walk J n G Y) (I : S → Hp → Hp → L2.St → Prop) (k : Post ((foldM step s0 l).bd rest) ok ex) (e : Ex F H) (h0 : I s0 F H σ) (hn : l.length = n) (hG : ∀ F' H', Gm M F H F' H' → G H')
    (hb : ∀ i s x v σ' F' H' H'' , Gm M F H F' H' → I s F' H' σ' → l[i]? = some x → Y i H' v H'' → ∀ nx : L2.St → Hp → Prop,
      Post (step s x) (fun s' => ∀ σ2 F2 H2, Gm M F H F2 H2 → I s' F2 H2 σ2 → nx σ2 H2) ex → g v σ' H'' fun σ2 H2 => tb { D with nx := nx, ct := nx, bk := D.nx } σ2 H2)
    (kk : ∀ s σ' F' H', Gm M F H F' H' → I s F' H' σ' → Post (rest s) ok ex → D.nx σ' H') :
    ∃ W : Nat → Nat → L2.St → Hp → Prop, (∃ m, W 0 m σ H) ∧ ∀ i m σ H, W i m σ H →
      (J.stop i H ∧ D.nx σ H) ∨ (J.go i H ∧ ∃ N : L2.St → Hp → Prop, (∀ σ' H', N σ' H' → ∃ m', m' < m ∧ W (i + 1) m' σ' H') ∧ ∀ x H', J.yld i H x H' → g x σ H' fun σ2 H2 => tb { D with nx := N, ct := N, bk := D.nx } σ2 H2) := by
  refine for_it w (fun i σ' H' => ∃ s F', Gm M F H F' H' ∧ I s F' H' σ' ∧ Post ((foldM step s (l.drop i)).bd rest) ok ex) ⟨s0, F, Gm.refl e, h0, k⟩ (fun i σ' H' _ ⟨s, F', g', _, _⟩ => hG F' H' g') ?_ ?_
  · rintro i v σ' H' H'' hi ⟨s, F', g', i', k'⟩ y
    have hl : i < l.length := by omega
    have e1 : l.drop i = l[i] :: l.drop (i + 1) := List.drop_eq_getElem_cons hl
    rw [e1] at k'
    have k2 := post_bd (post_assoc k')
    exact hb i s l[i] v σ' F' H' H'' g' i' (List.getElem?_eq_getElem hl) y _ (k2.mono (fun s' q σ2 F2 H2 g2 i2 => ⟨s', F2, g2, i2, q⟩) fun _ z => z)
  · rintro σ' H' ⟨s, F', g', i', k'⟩
    rw [← hn, List.drop_length] at k'
    exact kk s σ' F' H' g' i' ⟨k'.h⟩
/-- the same with ways out: brk, ret -/
theorem for_mirL {R : Type} {stepL : S → α → Mm (Fl R S)} {rest : S → Mm β} {ret : R → Mm β} (w : Walk J n G Y) (I : S → Hp → Hp → L2.St → Prop) (k : Post ((foldL stepL s0 l).bd fun o => o.el rest ret) ok ex) (e : Ex F H) (h0 : I s0 F H σ) (hn : l.length = n) (hG : ∀ F' H', Gm M F H F' H' → G H')
    (hb : ∀ i s x v σ' F' H' H'' , Gm M F H F' H' → I s F' H' σ' → l[i]? = some x → Y i H' v H'' → ∀ nx : L2.St → Hp → Prop,
      Post (stepL s x) (fun o => match o with
        | .go s' => ∀ σ2 F2 H2, Gm M F H F2 H2 → I s' F2 H2 σ2 → nx σ2 H2
        | .brk s' => ∀ σ2 F2 H2, Gm M F H F2 H2 → I s' F2 H2 σ2 → D.nx σ2 H2
        | .ret r => Post (ret r) ok ex) ex → g v σ' H'' fun σ2 H2 => tb { D with nx := nx, ct := nx, bk := D.nx } σ2 H2)
    (kk : ∀ s σ' F' H', Gm M F H F' H' → I s F' H' σ' → Post (rest s) ok ex → D.nx σ' H') :
    ∃ W : Nat → Nat → L2.St → Hp → Prop, (∃ m, W 0 m σ H) ∧ ∀ i m σ H, W i m σ H →
      (J.stop i H ∧ D.nx σ H) ∨ (J.go i H ∧ ∃ N : L2.St → Hp → Prop, (∀ σ' H', N σ' H' → ∃ m', m' < m ∧ W (i + 1) m' σ' H') ∧ ∀ x H', J.yld i H x H' → g x σ H' fun σ2 H2 => tb { D with nx := N, ct := N, bk := D.nx } σ2 H2) := by
  refine for_it w (fun i σ' H' => ∃ s F', Gm M F H F' H' ∧ I s F' H' σ' ∧ Post ((foldL stepL s (l.drop i)).bd fun o => o.el rest ret) ok ex) ⟨s0, F, Gm.refl e, h0, k⟩ (fun i σ' H' _ ⟨s, F', g', _, _⟩ => hG F' H' g') ?_ ?_
  · rintro i v σ' H' H'' hi ⟨s, F', g', i', k'⟩ y
    have hl : i < l.length := by omega
    have e1 : l.drop i = l[i] :: l.drop (i + 1) := List.drop_eq_getElem_cons hl
    rw [e1] at k'
    have k2 := post_bd (post_assoc k')
    refine hb i s l[i] v σ' F' H' H'' g' i' (List.getElem?_eq_getElem hl) y _ (k2.mono (fun o q => ?_) fun _ z => z)
    cases o with
    | go s' => exact fun σ2 F2 H2 g2 i2 => ⟨s', F2, g2, i2, ⟨q.h⟩⟩
    | brk s' => exact fun σ2 F2 H2 g2 i2 => kk s' σ2 F2 H2 g2 i2 ⟨q.h⟩
    | ret r => exact ⟨q.h⟩
  · rintro σ' H' ⟨s, F', g', i', k'⟩
    rw [← hn, List.drop_length] at k'
    exact kk s σ' F' H' g' i' ⟨k'.h⟩
/-- a while -/
theorem while_mir {c : TT} {cM : S → Mm Bool} {bM : S → Mm S} {N : Nat} (I : S → Hp → Hp → L2.St → Prop) (k : Post ((foldW cM bM N s0).bd rest) ok ex) (e : Ex F H) (h0 : I s0 F H σ)
    (hc : ∀ s σ' F' H', Gm M F H F' H' → I s F' H' σ' → ∀ Q : Bool → Hp → Prop, Post (cM s) (fun b => ∀ F2 H2, Gm M F H F2 H2 → I s F2 H2 σ' → Q b H2) ex → c σ' H' Q)
    (hb : ∀ s σ' F' H', Gm M F H F' H' → I s F' H' σ' → ∀ nx : L2.St → Hp → Prop, Post (bM s) (fun s' => ∀ σ2 F2 H2, Gm M F H F2 H2 → I s' F2 H2 σ2 → nx σ2 H2) ex → tb { D with nx := nx, ct := nx, bk := D.nx } σ' H')
    (kk : ∀ s σ' F' H', Gm M F H F' H' → I s F' H' σ' → Post (rest s) ok ex → D.nx σ' H') : tWhile c tb D σ H := by
  refine ⟨fun m σ' H' => ∃ s F', Gm M F H F' H' ∧ I s F' H' σ' ∧ Post ((foldW cM bM m s).bd rest) ok ex, ⟨N, s0, F, Gm.refl e, h0, k⟩, ?_⟩
  rintro m σ' H' ⟨s, F', g', i', k'⟩
  cases m with
  | zero => exact k'.h.elim
  | succ m =>
    refine hc s σ' F' H' g' i' _ ((post_bd (post_assoc k')).mono (fun b q F2 H2 g2 i2 => ?_) fun _ z => z)
    cases b with
    | false => exact kk s σ' F2 H2 g2 i2 ⟨q.h⟩
    | true =>
      refine ⟨fun σ2 H2 => ∃ s F', Gm M F H F' H2 ∧ I s F' H2 σ2 ∧ Post ((foldW cM bM m s).bd rest) ok ex, fun σ2 H2 ⟨s', F3, z⟩ => ⟨m, Nat.lt_succ_self _, s', F3, z⟩, ?_⟩
      exact hb s σ' F2 H2 g2 i2 _ ((post_bd (post_assoc (Post.mk q.h))).mono (fun s' q' σ2 F3 H3 g3 i3 => ⟨s', F3, g3, i3, q'⟩) fun _ z => z)
end

/-! ### comprehensions -/
def noEx {α : Type} (m : Mm α) : Mm α := match m with
  | .ex _ => .bad
  | .ok a => .ok a
  | .bad => .bad
theorem post_noEx {α : Type} {m : Mm α} {p : α → Prop} {q q' : Er → Prop} (h : Post (noEx m) p q) : Post m p q' := by
  cases m with
  | ok a => exact ⟨h.h⟩
  | ex e => exact h.h.elim
  | bad => exact h.h.elim
/-- the elements in turn; a state goes through; none: left out -/
def compM {α γ S : Type} (f : S → α → Mm (Option γ × S)) : S → List α → Mm (List γ × S)
  | s, [] => .ok ([], s)
  | s, x :: xs => (f s x).bd fun o => (compM f o.2 xs).bd fun r => .ok (o.1.toList ++ r.1, r.2)
section
variable {K : PySem.W.Frag} {M : List Addr} {F H : Hp} {σ : L2.St} {g : TG} {tt : TT} {te : TE} {vs : List Nat} {α β γ S : Type} {l : List α} {f : S → α → Mm (Option γ × S)} {rest : List γ × S → Mm β} {ok : β → Prop} {ex : Er → Prop} {s0 : S} {J : It} {n : Nat} {G : Hp → Prop} {Y : Nat → Hp → V → Hp → Prop} {Q : VK}
theorem comp_post {acc : List γ} {s : S} {l : List α} {rest : List γ × S → Mm β} : ∀ {ok : β → Prop} {ex : Er → Prop} {f : S → α → Mm (Option γ × S)} {x : α},
    Post (((compM f s (x :: l)).bd fun r => rest (acc ++ r.1, r.2))) ok ex → Post (f s x) (fun o => Post ((compM f o.2 l).bd fun r => rest ((acc ++ o.1.toList) ++ r.1, r.2)) ok ex) ex := by
  intro ok ex f x h
  have h1 := post_bd (post_assoc h)
  refine h1.mono (fun o q => ?_) fun _ z => z
  have h2 := post_assoc q
  simpa only [bd_ok, List.append_assoc] using h2
/-- what a comprehension's state asks of its word: a younger object may change, may be fixed -/
structure Stab (I : S → Hp → Hp → Prop) (H : Hp) : Prop where
  put : ∀ s F' H' D xs, I s F' H' → H D = none → I s F' (upd H' D (.lst xs))
  fix : ∀ s F' H' D xs, I s F' H' → H D = none → F' D = none → I s (upd F' D (.lst xs)) H'
/-- a comprehension: enc: how an element is told -/
theorem lc_mir (w : Walk J n G Y) (en : γ → PyData) (I : S → Hp → Hp → Prop) (k : Post ((compM f s0 l).bd rest) ok ex) (e : Ex F H) (h0 : I s0 F H) (st : Stab I H) (hn : l.length = n) (hz : l.length ≤ 50000) (hG : ∀ F' H', Gm M F H F' H' → G H')
    (hM : ∀ D, H D = none → D ∉ M)
    (hb : ∀ i s x v F' H' H'', Gm M F H F' H' → I s F' H' → l[i]? = some x → Y i H' v H'' → ∀ Q : Option V → Hp → Prop,
      Post (f s x) (fun o => ∀ F2 H2 v, Gm M F' H' F2 H2 → I o.2 F2 H2 → (match o.1 with
        | some y => ∃ u, v = some u ∧ Dq K F2 u (en y)
        | none => v = none) → Q v H2) (fun _ => False) →
      g v (wipe σ vs) H'' fun σ2 H2 => wipe σ2 vs = wipe σ vs ∧ tt σ2 H2 fun b H3 => if b = true then te σ2 H3 fun y H4 => Q (some y) H4 else Q none H3)
    (hx : ∀ e, ¬ ex e)
    (kk : ∀ (r : List γ × S) v F' H', Gm M F H F' H' → I r.2 F' H' → Dq K F' v (.list (r.1.map en)) → Post (rest r) ok ex → Q v H') :
    ∀ D, H D = none → ∃ W : Nat → Nat → Hp → Prop, (∃ m, W 0 m (upd H D (.lst []))) ∧ ∀ i m H, W i m H →
      (J.stop i H ∧ Q (.ref D) H) ∨ (J.go i H ∧ ∃ Nx : Hp → Prop, (∀ H', Nx H' → ∃ m', m' < m ∧ W (i + 1) m' H') ∧ ∀ x H', J.yld i H x H' → g x (wipe σ vs) H' fun σ2 H2 => wipe σ2 vs = wipe σ vs ∧ tt σ2 H2 fun b H3 =>
        if b = true then te σ2 H3 fun y H4 => ∃ acc, H4 D = some (.lst acc) ∧ acc.length < sizeLine ∧ Nx (upd H4 D (.lst (acc ++ [y]))) else Nx H3) := by
  intro D hD
  have k0 : Post ((compM f s0 (l.drop 0)).bd fun r => rest ([] ++ r.1, r.2)) ok ex := by simpa using k
  refine lc_it w (fun i H' => ∃ (s : S) (acc : List γ) (xs : List V) (F' : Hp), Gm M F H F' H' ∧ I s F' H' ∧ H' D = some (.lst xs) ∧ F' D = none ∧ DqAll K F' xs (acc.map en) ∧ xs.length ≤ i ∧ Post ((compM f s (l.drop i)).bd fun r => rest (acc ++ r.1, r.2)) ok ex)
    ⟨s0, [], [], F, Gm.newM e hD, st.put s0 F H D _ h0 hD, upd_same, ?_, .nil, Nat.le_refl _, k0⟩ (fun i H' _ ⟨s, acc, xs, F', g', _⟩ => hG F' H' g') ?_ ?_
  · cases q : F D with
    | none => rfl
    | some u => rw [e D u q] at hD; cases hD
  · rintro i v H' H'' hi ⟨s, acc, xs, F', g', i', hL, fL, ha, hlen, k'⟩ y
    have hl : i < l.length := by omega
    have e1 : l.drop i = l[i] :: l.drop (i + 1) := List.drop_eq_getElem_cons hl
    rw [e1] at k'
    have k2 := comp_post k'
    have hDM : D ∉ M := hM D hD
    have z := hb i s l[i] v F' H' H'' g' i' (List.getElem?_eq_getElem hl) y (fun o H4 => match o with
      | some y => ∃ acc', H4 D = some (.lst acc') ∧ acc'.length < sizeLine ∧ ∃ (s : S) (acc : List γ) (xs : List V) (F' : Hp), Gm M F H F' (upd H4 D (.lst (acc' ++ [y]))) ∧ I s F' (upd H4 D (.lst (acc' ++ [y]))) ∧ (upd H4 D (.lst (acc' ++ [y]))) D = some (.lst xs) ∧ F' D = none ∧ DqAll K F' xs (acc.map en) ∧ xs.length ≤ i + 1 ∧ Post ((compM f s (l.drop (i + 1))).bd fun r => rest (acc ++ r.1, r.2)) ok ex
      | none => ∃ (s : S) (acc : List γ) (xs : List V) (F' : Hp), Gm M F H F' H4 ∧ I s F' H4 ∧ H4 D = some (.lst xs) ∧ F' D = none ∧ DqAll K F' xs (acc.map en) ∧ xs.length ≤ i + 1 ∧ Post ((compM f s (l.drop (i + 1))).bd fun r => rest (acc ++ r.1, r.2)) ok ex)
      (k2.mono (fun o q F2 H2 v2 g2 i2 hv => ?_) fun e z => (hx e z).elim)
    · exact z
    · obtain ⟨h2L, f2L⟩ := g2.own hDM hL fL
      obtain ⟨o1, o2⟩ := o
      cases o1 with
      | some y =>
        obtain ⟨u, rfl, hu⟩ := hv
        refine ⟨xs, h2L, sz_lt (by omega), o2, acc ++ [y], xs ++ [u], F2, ?_, st.put _ _ _ _ _ i2 hD, upd_same, f2L, ?_, ?_, ?_⟩
        · exact (g'.trans g2).putYoung h2L f2L hD
        · rw [List.map_append]; exact (ha.up g2.f).app (.cons hu .nil)
        · rw [List.length_append, List.length_singleton]; omega
        · simpa using q
      | none =>
        subst hv
        refine ⟨o2, acc, xs, F2, g'.trans g2, i2, h2L, f2L, ha.up g2.f, by omega, ?_⟩
        simpa using q
  · rintro H' ⟨s, acc, xs, F', g', i', hL, fL, ha, hlen, k'⟩
    rw [← hn, List.drop_length] at k'
    have up : Ex F' (upd F' D (.lst xs)) := Ex.new fL
    exact kk (acc, s) _ (upd F' D (.lst xs)) H' (g'.fix hL fL hD) (st.fix _ _ _ _ _ i' hD fL) (.lst upd_same (ha.up up)) (by simpa [compM] using k')
theorem stab_row {K : PySem.W.Frag} {sc ra : Addr} {scr : List Int} {F H : Hp} {st : Rw} (w : RowAt K sc ra scr F H st) : Stab (fun s F H => RowAt K sc ra scr F H s) H := by
  have ne : ∀ D, H D = none → ra ≠ D := fun D hD q => by
    have z := w.1
    rw [q, hD] at z
    cases z
  refine ⟨fun s F' H' D xs i hD => ⟨?_, i.2.1, i.2.2⟩, fun s F' H' D xs i hD hf => ⟨i.1, ?_, ex_l (Ex.new hf) i.2.2⟩⟩
  · rw [upd_ne (ne D hD)]; exact i.1
  · rw [upd_ne (ne D hD)]; exact i.2.1
theorem stab_t {H : Hp} : Stab (fun (_ : Unit) _ _ => True) H := ⟨fun _ _ _ _ _ _ _ => trivial, fun _ _ _ _ _ _ _ _ => trivial⟩
theorem row_notM {K : PySem.W.Frag} {sc ra : Addr} {scr : List Int} {F H : Hp} {st : Rw} (w : RowAt K sc ra scr F H st) : ∀ D, H D = none → D ∉ [ra] := fun D hD q => by
  have z := w.1
  have e : D = ra := by simpa using q
  rw [← e, hD] at z
  cases z
end
end Wk

set_option Elab.async false
set_option linter.all false
set_option maxRecDepth 100000
set_option maxHeartbeats 4000000
namespace Wk
open PySem L2 Evl
/-! ### what follows, under a name -/
def QK (Q : VK) : VK := fun v H => Q v H
def tQ (te : TE) : TE := fun σ H Q => te σ H (QK Q)
section
variable {X : Cx} {x : Expr} {te : TE} {st : Stmt} {g : TG}
theorem pe_q (h : PE X x te) : PE X x (tQ te) := ⟨fun pins s σ H Q I q => h.run pins s σ H (QK Q) I q⟩
theorem ps_q (h : PS X st (tAsg te g)) : PS X st (tAsg (tQ te) g) := ⟨fun pins s σ H D I q => h.run pins s σ H D I q⟩
end
/-! ### joins -/
section
variable {M : List Addr} {F H : Hp} {σ : L2.St} {D : Ends} {α β : Type} {c a b : Bool} {A B : Prop} {X Y : Mm β} {rest : β → Mm α} {ok : α → Prop} {ex : Er → Prop} {Q : VK} {ta tb : TE} {tu tw : TS}
theorem cs {X Y : Mm α} (k : Post (cond c X Y) ok ex) (h1 : c = true → Post X ok ex → A) (h2 : c = false → Post Y ok ex → B) : if c = true then A else B := by
  cases c with
  | true => rw [if_pos rfl]; exact h1 rfl ⟨k.h⟩
  | false => rw [if_neg Bool.false_ne_true]; exact h2 rfl ⟨k.h⟩
theorem or_j {Q : Bool → Hp → Prop} {u : TT} (hu : a = false → ∀ Q' : Bool → Hp → Prop, Q' b H → u σ H Q') (k : Q (a || b) H) : if a = true then Q true H else u σ H Q := by
  cases a with
  | true => rw [if_pos rfl]; exact k
  | false => rw [if_neg Bool.false_ne_true]; exact hu rfl Q k
theorem and_j {Q : Bool → Hp → Prop} {u : TT} (hu : a = true → ∀ Q' : Bool → Hp → Prop, Q' b H → u σ H Q') (k : Q (a && b) H) : if a = true then u σ H Q else Q false H := by
  cases a with
  | true => rw [if_pos rfl]; exact hu rfl Q k
  | false => rw [if_neg Bool.false_ne_true]; exact k
theorem orV_j {u : TE} (hu : a = false → ∀ Q' : VK, Q' (.bl b) H → u σ H Q') (k : Q (.bl (a || b)) H) : if a = true then Q (.bl true) H else u σ H Q := by
  cases a with
  | true => rw [if_pos rfl]; exact k
  | false => rw [if_neg Bool.false_ne_true]; exact hu rfl Q k
theorem andV_j {u : TE} (hu : a = true → ∀ Q' : VK, Q' (.bl b) H → u σ H Q') (k : Q (.bl (a && b)) H) : if a = true then u σ H Q else Q (.bl false) H := by
  cases a with
  | true => rw [if_pos rfl]; exact hu rfl Q k
  | false => rw [if_neg Bool.false_ne_true]; exact k
/-- the second operand wants outcomes of its own -/
theorem or_jM {Q : Bool → Hp → Prop} {u : TT} {Y : Mm Bool} {rest : Bool → Mm α} (e : Ex F H) (k : Post ((cond a (.ok true) Y).bd rest) ok ex) (hu : a = false → ∀ Q' : Bool → Hp → Prop, Post Y (fun b => ∀ F' H', Gm M F H F' H' → Q' b H') ex → u σ H Q')
    (kk : ∀ b F' H', Gm M F H F' H' → Post (rest b) ok ex → Q b H') : if a = true then Q true H else u σ H Q := by
  cases a with
  | true => rw [if_pos rfl]; exact kk true F H (Gm.refl e) ⟨k.h⟩
  | false => rw [if_neg Bool.false_ne_true]; exact hu rfl Q ((post_bd k).mono (fun b q F' H' g => kk b F' H' g q) fun _ z => z)
theorem and_jM {Q : Bool → Hp → Prop} {u : TT} {Y : Mm Bool} {rest : Bool → Mm α} (e : Ex F H) (k : Post ((cond a Y (.ok false)).bd rest) ok ex) (hu : a = true → ∀ Q' : Bool → Hp → Prop, Post Y (fun b => ∀ F' H', Gm M F H F' H' → Q' b H') ex → u σ H Q')
    (kk : ∀ b F' H', Gm M F H F' H' → Post (rest b) ok ex → Q b H') : if a = true then u σ H Q else Q false H := by
  cases a with
  | false => rw [if_neg Bool.false_ne_true]; exact kk false F H (Gm.refl e) ⟨k.h⟩
  | true => rw [if_pos rfl]; exact hu rfl Q ((post_bd k).mono (fun b q F' H' g => kk b F' H' g q) fun _ z => z)
/-- a value by a condition -/
theorem if_jM (S : β → Hp → Hp → V → Prop) (k : Post ((cond c X Y).bd rest) ok ex)
    (ha : c = true → ∀ Q' : VK, Post X (fun b => Ret M F H (S b) Q') ex → ta σ H Q') (hb : c = false → ∀ Q' : VK, Post Y (fun b => Ret M F H (S b) Q') ex → tb σ H Q')
    (kk : ∀ b v F' H', Gm M F H F' H' → S b F' H' v → Post (rest b) ok ex → Q v H') : if c = true then ta σ H Q else tb σ H Q := by
  cases c with
  | true => rw [if_pos rfl]; exact ha rfl Q ((post_bd k).mono (fun b q v F' H' g s => kk b v F' H' g s q) fun _ z => z)
  | false => rw [if_neg Bool.false_ne_true]; exact hb rfl Q ((post_bd k).mono (fun b q v F' H' g s => kk b v F' H' g s q) fun _ z => z)
/-- an if whose ways go on -/
theorem ifs_jM (I : β → Hp → Hp → L2.St → Prop) (k : Post ((cond c X Y).bd rest) ok ex)
    (ha : c = true → ∀ nx : L2.St → Hp → Prop, Post X (fun b => ∀ σ' F' H', Gm M F H F' H' → I b F' H' σ' → nx σ' H') ex → tu { D with nx := nx } σ H)
    (hb : c = false → ∀ nx : L2.St → Hp → Prop, Post Y (fun b => ∀ σ' F' H', Gm M F H F' H' → I b F' H' σ' → nx σ' H') ex → tw { D with nx := nx } σ H)
    (kk : ∀ b σ' F' H', Gm M F H F' H' → I b F' H' σ' → Post (rest b) ok ex → D.nx σ' H') : if c = true then tu D σ H else tw D σ H := by
  cases c with
  | true => rw [if_pos rfl]; exact ha rfl D.nx ((post_bd k).mono (fun b q σ' F' H' g s => kk b σ' F' H' g s q) fun _ z => z)
  | false => rw [if_neg Bool.false_ne_true]; exact hb rfl D.nx ((post_bd k).mono (fun b q σ' F' H' g s => kk b σ' F' H' g s q) fun _ z => z)
end
/-! ### items of data -/
section
variable {K : PySem.W.Frag} {F : Hp} {α : Type} {f : α → PyData} {l : List α} {vs : List V} {a : α} {i : Int}
theorem atI_at {α : Type} {xs : List α} {i : Int} {a : α} (h : atI xs i = some a) : ∃ j, ixN xs.length i = some j ∧ xs[j]? = some a := by
  unfold atI at h
  cases e : ixN xs.length i with
  | none => rw [e] at h; cases h
  | some j => rw [e] at h; exact ⟨j, rfl, h⟩
theorem dq_at (ha : DqAll K F vs (l.map f)) (h : atI l i = some a) : ∃ v, atI vs i = some v ∧ Dq K F v (f a) := by
  obtain ⟨j, hj, hg⟩ := atI_at h
  have hl : vs.length = l.length := by rw [ha.len, List.length_map]
  obtain ⟨v, hv, hd⟩ := ha.get (i := j) (d := f a) (by rw [List.getElem?_map, hg]; rfl)
  refine ⟨v, ?_, hd⟩
  unfold atI
  rw [hl, hj]
  exact hv
theorem atI_ints {l : List Int} (h : atI l i = some a') : atI (l.map V.int) i = some (V.int a') := by
  obtain ⟨j, hj, hg⟩ := atI_at h
  unfold atI
  rw [List.length_map, hj]
  show (l.map V.int)[j]? = _
  rw [List.getElem?_map, hg]
  rfl
end
/-! ### heaps, more -/
section
variable {M : List Addr} {F H F1 H1 F0 H0 : Hp}
/-- behind a loop that may change the younger object at p -/
theorem Gm.young {p : Addr} (g : Gm M F0 H0 F H) (h0 : H0 p = none) (g2 : Gm (p :: M) F H F1 H1) : Gm M F0 H0 F1 H1 :=
  ⟨g.f.trans g2.f, g2.s, fun a o hM h => g2.h a o (fun q => by
      rcases List.mem_cons.mp q with q | q
      · rw [q, h0] at h; cases h
      · exact hM q) (g.h a o hM h), fun a o h hn => by
    obtain ⟨o', h'⟩ := g.m a o h
    exact g2.n a o' h' (g.n a o h hn), fun a o h => by
    obtain ⟨o', h'⟩ := g.m a o h
    exact g2.m a o' h'⟩
theorem Gm.putIn (g : Gm M F0 H0 F H) {p : Addr} {o u : HO} (hp : p ∈ M) (h : H p = some u) (hf : F p = none) : Gm M F0 H0 F (upd H p o) := by
  refine ⟨g.f, fun a u ha => ?_, fun a u hM ha => ?_, g.n, fun a u ha => ?_⟩
  · have q : a ≠ p := fun q => by rw [q, hf] at ha; cases ha
    rw [upd_ne q]; exact g.s a u ha
  · have q : a ≠ p := fun q => hM (by rw [q]; exact hp)
    rw [upd_ne q]; exact g.h a u hM ha
  · by_cases q : a = p
    · subst q; exact ⟨o, upd_same⟩
    · obtain ⟨o', h'⟩ := g.m a u ha
      exact ⟨o', by rw [upd_ne q]; exact h'⟩
end
/-! ### built-ins by name -/
structure Bi (mg : Str → Option Value) : Prop where
  len : mg "len" = none
  int : mg "int" = none
  bool : mg "bool" = none
  str : mg "str" = none
  abs : mg "abs" = none
  sum : mg "sum" = none
  min : mg "min" = none
  max : mg "max" = none
  list : mg "list" = none
  tuple : mg "tuple" = none
  set : mg "set" = none
  dict : mg "dict" = none
  sorted : mg "sorted" = none
  range : mg "range" = none
  enumerate : mg "enumerate" = none
  zip : mg "zip" = none
  reversed : mg "reversed" = none
  isinstance : mg "isinstance" = none
end Wk

set_option Elab.async false
set_option linter.all false
set_option maxRecDepth 100000
set_option maxHeartbeats 4000000
namespace Wk
open PySem L2 Evl
theorem Gm.weak {M M' : List Addr} {F H F' H' : Hp} (g : Gm M F H F' H') (h : ∀ a, a ∈ M → a ∈ M') : Gm M' F H F' H' := ⟨g.f, g.s, fun a o hM e => g.h a o (fun q => hM (h a q)) e, g.n, g.m⟩
/-! ### ranges -/
def rangeL (lo : Int) (n : Nat) : List Int := (List.range n).map fun (i : Nat) => lo + (i : Int)
def rangeM (j : Int) : Mm (List Int) := if -(2 ^ 62) ≤ j ∧ j < 2 ^ 62 then .ok (rangeL 0 j.toNat) else .bad
def rangeM2 (i j : Int) : Mm (List Int) := if -(2 ^ 62) ≤ i ∧ i < 2 ^ 62 ∧ -(2 ^ 62) ≤ j ∧ j < 2 ^ 62 then .ok (rangeL i (j - i).toNat) else .bad
section
variable {β : Type} {r : β → Prop} {q : Er → Prop} {i j : Int} {f : List Int → Mm β}
theorem post_range (h : Post ((rangeM j).bd f) r q) : (-(2 ^ 62) ≤ j ∧ j < 2 ^ 62) ∧ Post (f (rangeL 0 j.toNat)) r q := by
  unfold rangeM at h
  split at h
  · exact ⟨‹_›, ⟨h.h⟩⟩
  · exact h.h.elim
theorem post_range2 (h : Post ((rangeM2 i j).bd f) r q) : (-(2 ^ 62) ≤ i ∧ i < 2 ^ 62 ∧ -(2 ^ 62) ≤ j ∧ j < 2 ^ 62) ∧ Post (f (rangeL i (j - i).toNat)) r q := by
  unfold rangeM2 at h
  split at h
  · exact ⟨‹_›, ⟨h.h⟩⟩
  · exact h.h.elim
end
/-! ### fors over data, one form -/
/-- what a for or a comprehension walks over, as a list of data; R: what stands of an item -/
structure Wlk (M : List Addr) (F H : Hp) (J : It) {α : Type} (l : List α) (R : Hp → V → α → Prop) : Prop where
  ex : ∃ (n : Nat) (G : Hp → Prop) (Y : Nat → Hp → V → Hp → Prop), Walk J n G Y ∧ l.length = n ∧ (∀ F' H', Gm M F H F' H' → G H') ∧
    ∀ i x v F' H' H'', Gm M F H F' H' → l[i]? = some x → Y i H' v H'' → ∃ F'', Gm [] F' H' F'' H'' ∧ R F'' v x
section
variable {K : PySem.W.Frag} {M : List Addr} {F H : Hp} {σ : L2.St} {D : Ends} {g : TG} {tb : TS} {α β S : Type} {xs ys : List V} {l : List α} {step : S → α → Mm S} {rest : S → Mm β} {ok : β → Prop} {ex : Er → Prop} {s0 : S} {J : It} {R : Hp → V → α → Prop} {en : α → PyData} {a b : Addr}
theorem wlk_list (e : Ex F H) (h : F a = some (.lst xs)) (da : DqAll K F xs (l.map en)) : Wlk M F H (Itl K a) l (fun F v x => Dq K F v (en x)) := by
  refine ⟨_, _, _, walk_list (K := K) (a := a) (xs := xs), by rw [da.len, List.length_map], fun F' H' g' => sq_of (g'.s _ _ (g'.f _ _ h)), fun i x v F' H' H'' g' hx y => ?_⟩
  obtain ⟨rfl, hv⟩ := y
  obtain ⟨d, hd, hq⟩ := (da.up g'.f).getV hv
  rw [List.getElem?_map, hx] at hd
  cases hd
  exact ⟨F', Gm.refl g'.s, hq⟩
theorem wlk_tup (e : Ex F H) (h : SqT K F a xs) (da : DqAll K F xs (l.map en)) : Wlk M F H (Itt K a) l (fun F v x => Dq K F v (en x)) := by
  refine ⟨_, _, _, walk_tup (K := K) (a := a) (xs := xs), by rw [da.len, List.length_map], fun F' H' g' => ex_t g'.s (ex_t g'.f h), fun i x v F' H' H'' g' hx y => ?_⟩
  obtain ⟨rfl, hv⟩ := y
  obtain ⟨d, hd, hq⟩ := (da.up g'.f).getV hv
  rw [List.getElem?_map, hx] at hd
  cases hd
  exact ⟨F', Gm.refl g'.s, hq⟩
theorem rangeL_at {lo : Int} {n i : Nat} {x : Int} (h : (rangeL lo n)[i]? = some x) : x = lo + i := by
  unfold rangeL at h
  rw [List.getElem?_map] at h
  cases e : (List.range n)[i]? with
  | none => rw [e] at h; cases h
  | some j =>
    rw [e] at h
    obtain ⟨h1, h2⟩ := List.getElem?_eq_some_iff.mp e
    rw [List.getElem_range] at h2
    subst h2
    exact (Option.some.inj h).symm
theorem wlk_range {lo : Int} {n : Nat} : Wlk M F H (Itr lo n) (rangeL lo n) (fun _ v x => v = V.int x) := by
  refine ⟨_, _, _, walk_range (lo := lo) (n := n), by simp [rangeL], fun _ _ _ => trivial, fun i x v F' H' H'' g' hx y => ?_⟩
  obtain ⟨rfl, hv⟩ := y
  rw [rangeL_at hx]
  exact ⟨F', Gm.refl g'.s, hv⟩
theorem wlk_rev (e : Ex F H) (h : F a = some (.lst xs)) (da : DqAll K F xs (l.map en)) : Wlk M F H (Itv K a xs.length) l.reverse (fun F v x => Dq K F v (en x)) := by
  have hl : xs.length = l.length := by rw [da.len, List.length_map]
  refine ⟨_, _, _, walk_rev (K := K) (a := a) (xs := xs), by rw [List.length_reverse, hl], fun F' H' g' => sq_of (g'.s _ _ (g'.f _ _ h)), fun i x v F' H' H'' g' hx y => ?_⟩
  obtain ⟨rfl, hv⟩ := y
  obtain ⟨d, hd, hq⟩ := (da.up g'.f).getV hv
  have hi : i < l.reverse.length := (List.getElem?_eq_some_iff.mp hx).1
  rw [List.length_reverse] at hi
  rw [List.getElem?_reverse hi] at hx
  rw [List.getElem?_map, hl, hx] at hd
  cases hd
  exact ⟨F', Gm.refl g'.s, hq⟩
/-- enumerate: the items (i, x) -/
def enumL {α : Type} (l : List α) : List (Int × α) := (rangeL 0 l.length).zip l
theorem wlk_enum (e : Ex F H) (h : F a = some (.lst xs)) (da : DqAll K F xs (l.map en)) : Wlk M F H (Ite K a) (enumL l) (fun F v x => Dq K F v (e2 PyData.int en x)) := by
  have hl : xs.length = l.length := by rw [da.len, List.length_map]
  refine ⟨_, _, _, walk_enum (K := K) (a := a) (xs := xs), by simp [enumL, rangeL, hl], fun F' H' g' => sq_of (g'.s _ _ (g'.f _ _ h)), fun i x v F' H' H'' g' hx y => ?_⟩
  obtain ⟨T, u, w, rfl, hT, rfl, h1, h2⟩ := y
  obtain ⟨d, hd, hq⟩ := (da.up g'.f).getV h2
  obtain ⟨x1, x2⟩ := x
  unfold enumL at hx
  rw [List.getElem?_zip_eq_some] at hx
  obtain ⟨hx1, hx2⟩ := hx
  have e1 := rangeL_at hx1
  simp only at e1 hx2
  rw [List.getElem?_map, hx2] at hd
  cases hd
  cases h1
  have g2 : Gm [] F' H' (upd F' T (.tup [V.int (i : Nat), w])) (upd H' T (.tup [V.int (i : Nat), w])) := Gm.new g'.s hT
  refine ⟨_, g2, .tup (st_of upd_same) (.cons ?_ (.cons (hq.up g2.f) .nil))⟩
  rw [e1, Int.zero_add]
  exact .int _
theorem wlk_zip {α' : Type} {l' : List α'} {en' : α' → PyData} (e : Ex F H) (h : F a = some (.lst xs)) (da : DqAll K F xs (l.map en)) (h' : F b = some (.lst ys)) (da' : DqAll K F ys (l'.map en')) : Wlk M F H (Itz K a b) (l.zip l') (fun F v x => Dq K F v (e2 en en' x)) := by
  have hl : xs.length = l.length := by rw [da.len, List.length_map]
  have hl' : ys.length = l'.length := by rw [da'.len, List.length_map]
  refine ⟨_, _, _, walk_zip (K := K) (a := a) (b := b) (xs := xs) (ys := ys) rfl, by simp [hl, hl'], fun F' H' g' => ⟨sq_of (g'.s _ _ (g'.f _ _ h)), sq_of (g'.s _ _ (g'.f _ _ h'))⟩, fun i x v F' H' H'' g' hx y => ?_⟩
  obtain ⟨T, u, w, rfl, hT, rfl, h1, h2⟩ := y
  obtain ⟨d, hd, hq⟩ := (da.up g'.f).getV h1
  obtain ⟨d', hd', hq'⟩ := (da'.up g'.f).getV h2
  obtain ⟨x1, x2⟩ := x
  rw [List.getElem?_zip_eq_some] at hx
  obtain ⟨hx1, hx2⟩ := hx
  simp only at hx1 hx2
  rw [List.getElem?_map, hx1] at hd
  rw [List.getElem?_map, hx2] at hd'
  cases hd
  cases hd'
  have g2 : Gm [] F' H' (upd F' T (.tup [u, w])) (upd H' T (.tup [u, w])) := Gm.new g'.s hT
  exact ⟨_, g2, .tup (st_of upd_same) (.cons (hq.up g2.f) (.cons (hq'.up g2.f) .nil))⟩
/-- a for with no way out but its end -/
theorem for_m (w : Wlk M F H J l R) (I : S → Hp → Hp → L2.St → Prop) (k : Post ((foldM step s0 l).bd rest) ok ex) (e : Ex F H) (h0 : I s0 F H σ)
    (hb : ∀ s x v σ' F1 H1 F2 H2, Gm M F H F1 H1 → I s F1 H1 σ' → Gm [] F1 H1 F2 H2 → R F2 v x → ∀ nx : L2.St → Hp → Prop,
      Post (step s x) (fun s' => ∀ σ2 F3 H3, Gm M F H F3 H3 → I s' F3 H3 σ2 → nx σ2 H3) ex → g v σ' H2 fun σ2 H3 => tb { D with nx := nx, ct := nx, bk := D.nx } σ2 H3)
    (kk : ∀ s σ' F' H', Gm M F H F' H' → I s F' H' σ' → Post (rest s) ok ex → D.nx σ' H') :
    ∃ W : Nat → Nat → L2.St → Hp → Prop, (∃ m, W 0 m σ H) ∧ ∀ i m σ H, W i m σ H →
      (J.stop i H ∧ D.nx σ H) ∨ (J.go i H ∧ ∃ N : L2.St → Hp → Prop, (∀ σ' H', N σ' H' → ∃ m', m' < m ∧ W (i + 1) m' σ' H') ∧ ∀ x H', J.yld i H x H' → g x σ H' fun σ2 H2 => tb { D with nx := N, ct := N, bk := D.nx } σ2 H2) := by
  obtain ⟨n, G, Y, w, hn, hG, hY⟩ := w.ex
  refine for_mir w I k e h0 hn hG (fun i s x v σ' F' H' H'' g' i' hx y nx k' => ?_) kk
  obtain ⟨F'', g2, r⟩ := hY i x v F' H' H'' g' hx y
  exact hb s x v σ' F' H' F'' H'' g' i' g2 r nx k'
theorem for_mL {R' : Type} {stepL : S → α → Mm (Fl R' S)} {ret : R' → Mm β} (w : Wlk M F H J l R) (I : S → Hp → Hp → L2.St → Prop) (k : Post ((foldL stepL s0 l).bd fun o => o.el rest ret) ok ex) (e : Ex F H) (h0 : I s0 F H σ)
    (hb : ∀ s x v σ' F1 H1 F2 H2, Gm M F H F1 H1 → I s F1 H1 σ' → Gm [] F1 H1 F2 H2 → R F2 v x → ∀ nx : L2.St → Hp → Prop,
      Post (stepL s x) (fun o => match o with
        | .go s' => ∀ σ2 F3 H3, Gm M F H F3 H3 → I s' F3 H3 σ2 → nx σ2 H3
        | .brk s' => ∀ σ2 F3 H3, Gm M F H F3 H3 → I s' F3 H3 σ2 → D.nx σ2 H3
        | .ret r => Post (ret r) ok ex) ex → g v σ' H2 fun σ2 H3 => tb { D with nx := nx, ct := nx, bk := D.nx } σ2 H3)
    (kk : ∀ s σ' F' H', Gm M F H F' H' → I s F' H' σ' → Post (rest s) ok ex → D.nx σ' H') :
    ∃ W : Nat → Nat → L2.St → Hp → Prop, (∃ m, W 0 m σ H) ∧ ∀ i m σ H, W i m σ H →
      (J.stop i H ∧ D.nx σ H) ∨ (J.go i H ∧ ∃ N : L2.St → Hp → Prop, (∀ σ' H', N σ' H' → ∃ m', m' < m ∧ W (i + 1) m' σ' H') ∧ ∀ x H', J.yld i H x H' → g x σ H' fun σ2 H2 => tb { D with nx := N, ct := N, bk := D.nx } σ2 H2) := by
  obtain ⟨n, G, Y, w, hn, hG, hY⟩ := w.ex
  refine for_mirL w I k e h0 hn hG (fun i s x v σ' F' H' H'' g' i' hx y nx k' => ?_) kk
  obtain ⟨F'', g2, r⟩ := hY i x v F' H' H'' g' hx y
  exact hb s x v σ' F' H' F'' H'' g' i' g2 r nx k'
end
/-! ### comprehensions, three forms -/
theorem tYes_of {σ : L2.St} {H : Hp} {Q : Bool → Hp → Prop} (h : Q true H) : tYes σ H Q := h
def GMon (g : TG) : Prop := ∀ (v : V) (σ1 : L2.St) (H1 : Hp) (Q Q' : L2.St → Hp → Prop), (∀ s h, Q s h → Q' s h) → g v σ1 H1 Q → g v σ1 H1 Q'
def GsMon (g : TGs) : Prop := ∀ (v : List V) (σ1 : L2.St) (H1 : Hp) (Q Q' : L2.St → Hp → Prop), (∀ s h, Q s h → Q' s h) → g v σ1 H1 Q → g v σ1 H1 Q'
theorem gm_name {i : Nat} : GMon (gName i) := fun _ _ _ _ _ h q => h _ _ q
theorem gms_nil : GsMon gNil := fun _ _ _ _ _ h q => ⟨q.1, h _ _ q.2⟩
theorem gms_cons {t : TG} {u : TGs} (a : GMon t) (b : GsMon u) : GsMon (gCons t u) := fun _ _ _ _ _ h q => by
  obtain ⟨v, r, e, z⟩ := q
  exact ⟨v, r, e, a _ _ _ _ _ (fun s h' z' => b _ _ _ _ _ h z') z⟩
theorem gm_tup {K : PySem.W.Frag} {n : Nat} {t : TGs} (a : GsMon t) : GMon (gTup K n t) := fun _ _ _ _ _ h q => by
  obtain ⟨p, xs, e1, e2, e3, z⟩ := q
  exact ⟨p, xs, e1, e2, e3, a _ _ _ _ _ h z⟩

def mapMm {α γ : Type} (f : α → Mm γ) : List α → Mm (List γ)
  | [] => .ok []
  | x :: xs => (f x).bd fun y => (mapMm f xs).bd fun ys => .ok (y :: ys)
def filMm {α γ : Type} (f : α → Mm (Option γ)) : List α → Mm (List γ)
  | [] => .ok []
  | x :: xs => (f x).bd fun y => (filMm f xs).bd fun ys => .ok (y.toList ++ ys)
def mapSt {α γ S : Type} (f : S → α → Mm (γ × S)) : S → List α → Mm (List γ × S)
  | s, [] => .ok ([], s)
  | s, x :: xs => (f s x).bd fun y => (mapSt f y.2 xs).bd fun ys => .ok (y.1 :: ys.1, ys.2)
theorem bd_assoc {α β γ : Type} (m : Mm α) (f : α → Mm β) (g : β → Mm γ) : (m.bd f).bd g = m.bd fun a => (f a).bd g := by cases m <;> rfl
theorem bd_id {α : Type} (m : Mm α) : m.bd Mm.ok = m := by cases m <;> rfl
theorem filMm_comp {α γ : Type} (f : α → Mm (Option γ)) : ∀ l : List α, filMm f l = (compM (fun (_ : Unit) x => (f x).bd fun o => .ok (o, ())) () l).bd fun r => .ok r.1
  | [] => rfl
  | x :: xs => by
    simp only [filMm, compM, filMm_comp f xs, bd_assoc, bd_ok]
theorem mapMm_comp {α γ : Type} (f : α → Mm γ) : ∀ l : List α, mapMm f l = (compM (fun (_ : Unit) x => (f x).bd fun o => .ok (some o, ())) () l).bd fun r => .ok r.1
  | [] => rfl
  | x :: xs => by
    simp only [mapMm, compM, mapMm_comp f xs, bd_assoc, bd_ok, Option.toList, List.cons_append, List.nil_append]
theorem mapSt_comp {α γ S : Type} (f : S → α → Mm (γ × S)) : ∀ (s : S) (l : List α), mapSt f s l = compM (fun s x => (f s x).bd fun o => .ok (some o.1, o.2)) s l
  | _, [] => rfl
  | s, x :: xs => by
    simp only [mapSt, compM, bd_assoc, bd_ok, Option.toList, List.cons_append, List.nil_append]
    congr 1
    funext o
    rw [mapSt_comp f o.2 xs]
section
variable {K : PySem.W.Frag} {M : List Addr} {F H : Hp} {σ : L2.St} {g : TG} {tt : TT} {te : TE} {vs : List Nat} {α β γ S : Type} {l : List α} {ok : β → Prop} {ex : Er → Prop} {s0 : S} {J : It} {R : Hp → V → α → Prop} {Q : VK}
theorem lc_map {f : α → Mm γ} {rest : List γ → Mm β} (w : Wlk M F H J l R) (en : γ → PyData) (k : Post ((mapMm f l).bd rest) ok ex) (e : Ex F H) (hz : l.length ≤ 50000) (hM : ∀ D, H D = none → D ∉ M)
    (hb : ∀ x v F1 H1 F2 H2, Gm M F H F1 H1 → Gm [] F1 H1 F2 H2 → R F2 v x → ∀ Q : VK, Post (f x) (fun y => Ret M F1 H1 (fun F3 _ u => Dq K F3 u (en y)) Q) (fun _ => False) →
      g v (wipe σ vs) H2 fun σ2 H3 => wipe σ2 vs = wipe σ vs ∧ te σ2 H3 Q)
    (hx : ∀ e, ¬ ex e) (kk : ∀ (r : List γ) v F' H', Gm M F H F' H' → Dq K F' v (eL en r) → Post (rest r) ok ex → Q v H') (mono : GMon g) :
    ∀ D, H D = none → ∃ W : Nat → Nat → Hp → Prop, (∃ m, W 0 m (upd H D (.lst []))) ∧ ∀ i m H, W i m H →
      (J.stop i H ∧ Q (.ref D) H) ∨ (J.go i H ∧ ∃ Nx : Hp → Prop, (∀ H', Nx H' → ∃ m', m' < m ∧ W (i + 1) m' H') ∧ ∀ x H', J.yld i H x H' → g x (wipe σ vs) H' fun σ2 H2 => wipe σ2 vs = wipe σ vs ∧ tYes σ2 H2 fun b H3 =>
        if b = true then te σ2 H3 fun y H4 => ∃ acc, H4 D = some (.lst acc) ∧ acc.length < sizeLine ∧ Nx (upd H4 D (.lst (acc ++ [y]))) else Nx H3) := by
  obtain ⟨n, G, Y, w, hn, hG, hY⟩ := w.ex
  rw [mapMm_comp, bd_assoc] at k
  refine lc_mir w en (fun _ _ _ => True) k e trivial stab_t hn hz hG hM (fun i s x v F' H' H'' g' _ hx y Q' k' => ?_) hx (fun r v F' H' g' _ d k' => kk r.1 v F' H' g' d k')
  obtain ⟨F'', g2, r⟩ := hY i x v F' H' H'' g' hx y
  refine mono _ _ _ _ _ (fun σ2 H3 z => ⟨z.1, ?_⟩) (hb x v F' H' F'' H'' g' g2 r (fun u H4 => Q' (some u) H4) ((post_bd k').mono (fun y q u F3 H3 g3 d => q.h F3 H3 _ g3 trivial ⟨u, rfl, d⟩) fun _ z => z))
  exact tYes_of (iteT z.2)
theorem lc_st {f : Rw → α → Mm (γ × Rw)} {s0 : Rw} {rest : List γ × Rw → Mm β} {sc ra : Addr} {scr : List Int} (w : Wlk [ra] F H J l R) (en : γ → PyData) (k : Post ((mapSt f s0 l).bd rest) ok ex) (e : Ex F H) (hz : l.length ≤ 50000) (h0 : RowAt K sc ra scr F H s0)
    (hb : ∀ s x v F1 H1 F2 H2, Gm [ra] F H F1 H1 → RowAt K sc ra scr F1 H1 s → Gm [] F1 H1 F2 H2 → R F2 v x → ∀ Q : VK, Post (f s x) (fun y => Ret [ra] F1 H1 (fun F3 H3 u => Dq K F3 u (en y.1) ∧ RowAt K sc ra scr F3 H3 y.2) Q) (fun _ => False) →
      g v (wipe σ vs) H2 fun σ2 H3 => wipe σ2 vs = wipe σ vs ∧ te σ2 H3 Q)
    (hx : ∀ e, ¬ ex e) (kk : ∀ (r : List γ × Rw) v F' H', Gm [ra] F H F' H' → Dq K F' v (eL en r.1) ∧ RowAt K sc ra scr F' H' r.2 → Post (rest r) ok ex → Q v H') (mono : GMon g) :
    ∀ D, H D = none → ∃ W : Nat → Nat → Hp → Prop, (∃ m, W 0 m (upd H D (.lst []))) ∧ ∀ i m H, W i m H →
      (J.stop i H ∧ Q (.ref D) H) ∨ (J.go i H ∧ ∃ Nx : Hp → Prop, (∀ H', Nx H' → ∃ m', m' < m ∧ W (i + 1) m' H') ∧ ∀ x H', J.yld i H x H' → g x (wipe σ vs) H' fun σ2 H2 => wipe σ2 vs = wipe σ vs ∧ tYes σ2 H2 fun b H3 =>
        if b = true then te σ2 H3 fun y H4 => ∃ acc, H4 D = some (.lst acc) ∧ acc.length < sizeLine ∧ Nx (upd H4 D (.lst (acc ++ [y]))) else Nx H3) := by
  obtain ⟨n, G, Y, w, hn, hG, hY⟩ := w.ex
  rw [mapSt_comp] at k
  refine lc_mir w en (fun s F H => RowAt K sc ra scr F H s) k e h0 (stab_row h0) hn hz hG (row_notM h0) (fun i s x v F' H' H'' g' i' hx y Q' k' => ?_) hx (fun r v F' H' g' i' d k' => kk r v F' H' g' ⟨d, i'⟩ k')
  obtain ⟨F'', g2, r⟩ := hY i x v F' H' H'' g' hx y
  refine mono _ _ _ _ _ (fun σ2 H3 z => ⟨z.1, ?_⟩) (hb s x v F' H' F'' H'' g' i' g2 r (fun u H4 => Q' (some u) H4) ((post_bd k').mono (fun y q u F3 H3 g3 d => q.h F3 H3 _ g3 d.2 ⟨u, rfl, d.1⟩) fun _ z => z))
  exact tYes_of (iteT z.2)
end
end Wk

set_option Elab.async false
set_option linter.all false
set_option maxRecDepth 100000
set_option maxHeartbeats 4000000
namespace Wk
open PySem L2 Evl
theorem units_of {k : Nat} {A : Around} (r : Room k A) : A.units + 64 < cLine := r.units
theorem units_of2 {k : Nat} {A : Around} (r : Room k A) : A.units + 65 < cLine := by have := r.un; omega
def absI (i : Int) : Int := if i < 0 then -i else i
def maxI (i j : Int) : Int := if j > i then j else i
def minI (i j : Int) : Int := if j < i then j else i
theorem decV_int {i j : Int} : decide (V.int i = V.int j) = decide (i = j) := Bool.eq_iff_iff.mpr (by simp)
theorem decV_bl {i j : Bool} : decide (V.bl i = V.bl j) = decide (i = j) := Bool.eq_iff_iff.mpr (by simp)
theorem decV_str {i j : Str} : decide (V.str i = V.str j) = decide (i = j) := Bool.eq_iff_iff.mpr (by simp)
section
variable {K : PySem.W.Frag} {M : List Addr} {F F' H H' : Hp} {Q : VK} {α : Type} {en : α → PyData} {l l' : List α} {xs ys : List V} {a b p : Addr} {v : V} {ds : List PyData}
theorem none_O {o : Option α} (h : Dq K F v (eO en o)) (hn : ∀ a, en a ≠ .none := by intro a; exact fun h => nomatch h) : decide (v = .non) = o.isNone := by
  cases o with
  | none => cases h; rfl
  | some a =>
    refine decide_eq_false fun q => ?_
    subst q
    have h2 : Dq K F V.non (en a) := h
    have := hn a
    cases e : en a with
    | none => exact this e
    | _ => rw [e] at h2; cases h2
theorem chain_j {a b : Bool} {Q : VK} {σ : L2.St} {u : TE} {g : V → Hp → VK → Prop} (hu : a = true → ∀ Q' : VK, Q' (.bl b) H → u σ H fun w H' => g w H' Q') (k : Q (.bl (a && b)) H) :
    if a = true then u σ H (fun w H' => g w H' Q) else Q (.bl false) H := by
  cases a with
  | true => rw [if_pos rfl]; exact hu rfl Q k
  | false => rw [if_neg Bool.false_ne_true]; exact k
theorem len_all (h : DqAll K F xs (l.map en)) : (xs.length : Int) = (l.length : Int) := by rw [h.len, List.length_map]
theorem all_ints {l : List Int} (h : DqAll K F xs (l.map PyData.int)) : xs = l.map V.int := by
  induction l generalizing xs with
  | nil => cases h; rfl
  | cons i l ih => cases h with | cons h1 h2 => cases h1; rw [ih h2]; rfl
theorem ints_all : ∀ l : List Int, DqAll K F (l.map V.int) (l.map PyData.int)
  | [] => .nil
  | i :: l => .cons (.int i) (ints_all l)
theorem cat_len {l l' : List α} (h : DqAll K F xs (l.map en)) (h' : DqAll K F ys (l'.map en)) (hl : l.length + l'.length ≤ 100000) : xs.length + ys.length ≤ sizeLine := sz_of (by
  have := h.len
  have := h'.len
  rw [List.length_map] at *
  omega)
theorem new_lstC {l l' : List α} (e : Ex F H) (h : DqAll K F xs (l.map en)) (h' : DqAll K F ys (l'.map en)) (k : Ret M F H (fun F' _ v => Dq K F' v (eL en (l ++ l'))) Q) : ∀ p, H p = none → Q (.ref p) (upd H p (.lst (xs ++ ys))) := fun p hp => by
  have g : Gm M F H (upd F p (.lst (xs ++ ys))) (upd H p (.lst (xs ++ ys))) := Gm.new e hp
  refine k _ _ _ g (.lst upd_same ?_)
  rw [List.map_append]
  exact (h.app h').up g.f
/-- tuple + tuple -/
def rCatM (K : PySem.W.Frag) : R2 := rCatA K
theorem op_catM {X : Cx} : OpR X (binaryOp .Add) (rCatM X.K) := op_catA
theorem cat_tup {l l' : List α} (e : Ex F H) (s : SqT K F a xs) (h : DqAll K F xs (l.map en)) (s' : SqT K F b ys) (h' : DqAll K F ys (l'.map en)) (hl : l.length + l'.length ≤ 100000) (k : Ret M F H (fun F' _ v => Dq K F' v (eV en (l ++ l'))) Q) : rCatM K (.ref a) (.ref b) H Q := by
  refine ⟨a, b, xs, ys, rfl, rfl, ex_t e s, ex_t e s', cat_len h h' hl, fun q => ?_, fun _ q => ?_, fun _ _ p hp => ?_⟩
  · have hl0 : l = [] := by
      have := h.len
      rw [q, List.length_map] at this
      exact List.length_eq_zero_iff.mp this.symm
    exact k _ _ _ (Gm.refl e) (by rw [hl0]; exact .tup s' h')
  · have hl0 : l' = [] := by
      have := h'.len
      rw [q, List.length_map] at this
      exact List.length_eq_zero_iff.mp this.symm
    exact k _ _ _ (Gm.refl e) (by rw [hl0, List.append_nil]; exact .tup s h)
  · have g : Gm M F H (upd F p (.tup (xs ++ ys))) (upd H p (.tup (xs ++ ys))) := Gm.new e hp
    refine k _ _ _ g (.tup (st_of upd_same) ?_)
    rw [List.map_append]
    exact (h.app h').up g.f
/-- slices -/
def cutL {α : Type} (l : List α) (lo hi : Option Int) : List α := (l.drop (HT.sIx l.length 0 lo)).take (HT.sIx l.length l.length hi - HT.sIx l.length 0 lo)
theorem cut_all {lo hi : Option Int} (h : DqAll K F xs (l.map en)) : DqAll K F (cutV xs lo hi) ((cutL l lo hi).map en) := by
  have hl : xs.length = l.length := by rw [h.len, List.length_map]
  unfold cutV cutL
  rw [hl, List.map_take, List.map_drop]
  exact (h.drop _).take _
theorem cut_lst {lo hi : Option Int} (e : Ex F H) (s : F a = some (.lst xs)) (h : DqAll K F xs (l.map en)) (k : Ret M F H (fun F' _ v => Dq K F' v (eL en (cutL l lo hi))) Q) : rSlL K (.ref a) lo hi H Q :=
  ⟨a, xs, rfl, sq_of (e _ _ s), fun p hp => by
    have g : Gm M F H (upd F p (.lst (cutV xs lo hi))) (upd H p (.lst (cutV xs lo hi))) := Gm.new e hp
    exact k _ _ _ g (.lst upd_same ((cut_all h).up g.f))⟩
theorem sl_tupM {X : Cx} : SlR X (rSlA X.K) := sl_tupA
theorem cut_whole {α : Type} {l : List α} {lo hi : Option Int} (h : HT.sIx l.length 0 lo = 0 ∧ HT.sIx l.length l.length hi = l.length) : cutL l lo hi = l := by
  unfold cutL
  rw [h.1, h.2, List.drop_zero, Nat.sub_zero, List.take_length]
theorem cut_tup {lo hi : Option Int} (e : Ex F H) (s : SqT K F a xs) (h : DqAll K F xs (l.map en)) (k : Ret M F H (fun F' _ v => Dq K F' v (eV en (cutL l lo hi))) Q) : rSlA K (.ref a) lo hi H Q := by
  have hl : xs.length = l.length := by rw [h.len, List.length_map]
  refine ⟨a, xs, rfl, ex_t e s, fun q => ?_, fun _ p hp => ?_⟩
  · rw [hl] at q
    refine k _ _ _ (Gm.refl e) ?_
    rw [cut_whole q]
    exact .tup s h
  · have g : Gm M F H (upd F p (.tup (cutV xs lo hi))) (upd H p (.tup (cutV xs lo hi))) := Gm.new e hp
    exact k _ _ _ g (.tup (st_of upd_same) ((cut_all h).up g.f))
/-- list(x), tuple(x) -/
theorem to_LL (e : Ex F H) (s : F a = some (.lst xs)) (h : DqAll K F xs (l.map en)) (k : Ret M F H (fun F' _ v => Dq K F' v (eL en l)) Q) : ∃ p ys, [V.ref a] = [.ref p] ∧ (SqL K H p ys ∨ SqT K H p ys) ∧ ∀ l, H l = none → Q (.ref l) (upd H l (.lst ys)) :=
  ⟨a, xs, rfl, .inl (sq_of (e _ _ s)), fun p hp => by
    have g : Gm M F H (upd F p (.lst xs)) (upd H p (.lst xs)) := Gm.new e hp
    exact k _ _ _ g (.lst upd_same (h.up g.f))⟩
theorem to_LV (e : Ex F H) (s : SqT K F a xs) (h : DqAll K F xs (l.map en)) (k : Ret M F H (fun F' _ v => Dq K F' v (eL en l)) Q) : ∃ p ys, [V.ref a] = [.ref p] ∧ (SqL K H p ys ∨ SqT K H p ys) ∧ ∀ l, H l = none → Q (.ref l) (upd H l (.lst ys)) :=
  ⟨a, xs, rfl, .inr (ex_t e s), fun p hp => by
    have g : Gm M F H (upd F p (.lst xs)) (upd H p (.lst xs)) := Gm.new e hp
    exact k _ _ _ g (.lst upd_same (h.up g.f))⟩
theorem to_VL (e : Ex F H) (s : F a = some (.lst xs)) (h : DqAll K F xs (l.map en)) (k : Ret M F H (fun F' _ v => Dq K F' v (eV en l)) Q) :
    ∃ p ys, [V.ref a] = [.ref p] ∧ ((SqL K H p ys ∧ ∀ l, H l = none → Q (.ref l) (upd H l (.tup ys))) ∨ (SqT K H p ys ∧ Q (.ref p) H)) :=
  ⟨a, xs, rfl, .inl ⟨sq_of (e _ _ s), fun p hp => by
    have g : Gm M F H (upd F p (.tup xs)) (upd H p (.tup xs)) := Gm.new e hp
    exact k _ _ _ g (.tup (st_of upd_same) (h.up g.f))⟩⟩
theorem to_VV (e : Ex F H) (s : SqT K F a xs) (h : DqAll K F xs (l.map en)) (k : Ret M F H (fun F' _ v => Dq K F' v (eV en l)) Q) :
    ∃ p ys, [V.ref a] = [.ref p] ∧ ((SqL K H p ys ∧ ∀ l, H l = none → Q (.ref l) (upd H l (.tup ys))) ∨ (SqT K H p ys ∧ Q (.ref p) H)) :=
  ⟨a, xs, rfl, .inr ⟨ex_t e s, k _ _ _ (Gm.refl e) (.tup s h)⟩⟩
/-- of an own list -/
theorem to_VO (e : Ex F H) (o : H a = some (.lst xs)) (h : DqAll K F xs (l.map en)) (k : Ret M F H (fun F' _ v => Dq K F' v (eV en l)) Q) :
    ∃ p ys, [V.ref a] = [.ref p] ∧ ((SqL K H p ys ∧ ∀ l, H l = none → Q (.ref l) (upd H l (.tup ys))) ∨ (SqT K H p ys ∧ Q (.ref p) H)) :=
  ⟨a, xs, rfl, .inl ⟨sq_of o, fun p hp => by
    have g : Gm M F H (upd F p (.tup xs)) (upd H p (.tup xs)) := Gm.new e hp
    exact k _ _ _ g (.tup (st_of upd_same) (h.up g.f))⟩⟩
/-- a new own list -/
theorem new_own (e : Ex F H) (h : DqAll K F xs ds) (hl : xs.length ≤ 100000) (k : ∀ p H', Gm [] F H F H' → H p = none → (H' p = some (.lst xs) ∧ F p = none) → Q (.ref p) H') : xs.length ≤ sizeLine ∧ ∀ p, H p = none → Q (.ref p) (upd H p (.lst xs)) :=
  ⟨sz_of hl, fun p hp => k p _ (Gm.newM e hp) hp ⟨upd_same, by
    cases q : F p with
    | none => rfl
    | some u => rw [e p u q] at hp; cases hp⟩⟩
theorem own_sz (h : DqAll K F xs (l.map en)) (hl : l.length < 100000) : xs.length < sizeLine := sz_lt (by rw [h.len, List.length_map]; exact hl)
theorem RowAt.put {sc ra : Addr} {scr : List Int} {st : Rw} {o : HO} (w : RowAt K sc ra scr F H st) (h : ra ≠ p) : RowAt K sc ra scr F (upd H p o) st := ⟨by rw [upd_ne h]; exact w.1, w.2.1, w.2.2⟩
theorem RowAt.fix {sc ra : Addr} {scr : List Int} {st : Rw} {o : HO} (w : RowAt K sc ra scr F H st) (h : ra ≠ p) (u : Ex F (upd F p o)) : RowAt K sc ra scr (upd F p o) H st := ⟨w.1, by rw [upd_ne h]; exact w.2.1, ex_l u w.2.2⟩
end
section
variable {X : Cx}
theorem call_lenM : CallR X (.builtin "len") (fun xs H Q => ∃ p ys n, xs = [.ref p] ∧ (SqL X.K H p ys ∨ SqT X.K H p ys) ∧ (ys.length : Int) = n ∧ Q (.int n) H) := by
  intro pins s σ H vs us Q I r h
  obtain ⟨p, ys, n, rfl, hq, rfl, q⟩ := h
  exact call_len_seq pins s σ H _ us Q I r ⟨p, ys, rfl, hq, q⟩
theorem call_intM : CallR X (.type "int") (fun xs H Q => ∃ i, xs = [.int i] ∧ Q (.int i) H) := by
  intro pins s σ H vs us Q I r h
  exact call_int1 pins s σ H vs us Q I r (.inl h)
section
variable {α : Type} [DecidableEq α] {f : α → PyData} {n : Nat}
def hasM {α : Type} [DecidableEq α] (l : List α) (a : α) : Bool := l.contains a
def rInM (K : PySem.W.Frag) (f : α → PyData) : R2 := fun x y H Q => ∃ (a : α) (l : List α), Dp K H x (f a) ∧ Dp K H y (eL f l) ∧ Q (.bl (hasM l a)) H
def rNotInM (K : PySem.W.Frag) (f : α → PyData) : R2 := fun x y H Q => ∃ (a : α) (l : List α), Dp K H x (f a) ∧ Dp K H y (eL f l) ∧ Q (.bl (!hasM l a)) H
theorem any_eqv (s : Sh f n) (a : α) (l : List α) : (l.map f).any (fun z => PyData.eqv z (f a)) = l.contains a := by
  induction l with
  | nil => rfl
  | cons b l ih =>
    rw [List.map_cons, List.any_cons, ih, List.contains_cons, s.eq]
    congr 1
    exact Bool.eq_iff_iff.mpr (by simp only [decide_eq_true_eq, beq_iff_eq]; exact ⟨Eq.symm, Eq.symm⟩)
theorem op_inM (s : Sh f n) (hu : X.A.units + 65 < cLine) (hn : n + 1 ≤ 64 := by decide) : OpR X (compareOp .In) (rInM X.K f) := by
  intro pins st σ H x y v u Q I rx ry h
  obtain ⟨a, l, ha, hl, q⟩ := h
  refine op_inD hu pins st σ H x y v u Q I rx ry ⟨f a, l.map f, ha, hl, s.shaped (by omega) a, (sh_eL s).shaped hn l, ?_⟩
  rw [any_eqv s]
  exact q
theorem op_notInM (s : Sh f n) (hu : X.A.units + 65 < cLine) (hn : n + 1 ≤ 64 := by decide) : OpR X (compareOp .NotIn) (rNotInM X.K f) := by
  intro pins st σ H x y v u Q I rx ry h
  obtain ⟨a, l, ha, hl, q⟩ := h
  refine op_notInD hu pins st σ H x y v u Q I rx ry ⟨f a, l.map f, ha, hl, s.shaped (by omega) a, (sh_eL s).shaped hn l, ?_⟩
  rw [any_eqv s]
  exact q
end
end
end Wk

set_option Elab.async false
set_option linter.all false
set_option maxRecDepth 100000
set_option maxHeartbeats 4000000
namespace Wk
open PySem L2 Evl PySem.Spec PyProof.Rows
/-! ### enumerate of a tuple -/
theorem meets_enT (a : Addr) (its : Array Value) :
    Meets (Builtin.«enumerate.__new__» ⟨[.type "enumerate", .ref a], []⟩) (fun _ R z => z.heap.IsTuple a its ∧
      R (.ok (.ret (.ref (z.heap.push { cls := .type "tuple_iterator", data := .fields #[.ref a, .int 0 0] }).objs.size)))
        { z with heap := (z.heap.push { cls := .type "tuple_iterator", data := .fields #[.ref a, .int 0 0] }).push { cls := .type "enumerate", data := .fields #[.none, .bool false, .ref z.heap.objs.size, rawInt 0, .none, .none] } }) :=
  .of_wp fun prog w A R z h => by
    obtain ⟨hp, ge, dr, tk, os⟩ := z
    obtain ⟨ht, h⟩ := h
    have sub := sub_enumerate
    have ht' : Heap.IsTuple (Shared.heap ⟨hp, ge, dr, tk, os⟩) a its := ht
    obtain ⟨⟨c, dd, dt, sl⟩, hl, hc, n, hd⟩ := ht
    replace hc : c = .type "tuple" := hc
    replace hd : dt = .seq its n := hd
    subst hc hd
    wp_walk using AutoSeq1.wpAny_loadPart' hl
    refine wpAny_stack_any fun st => wpAny_pure ?_
    split
    · rename_i c _ _ _ _ _
      cases (c == Value.type "enumerate")
      all_goals
        wp_walk using AutoSeq1.wpAny_loadPart' hl, wpAny_pyIter_tuple ht'
        exact ⟨_, rfl, h⟩
    · wp_walk using AutoSeq1.wpAny_loadPart' hl, wpAny_pyIter_tuple ht'
      exact ⟨_, rfl, h⟩
section
variable {prog : Program} {w : World} {A : Around} {E : Value → Shared → Prop} {z : Shared}
theorem call_enT {a : Addr} {its : Array Value} {Q : Value → Shared → Prop} (ht : z.heap.IsTuple a its)
    (h : ∀ h', IsEnum h' (z.heap.objs.size + 1) z.heap.objs.size 0 .none → h'.IsTupleIter z.heap.objs.size a 0 → h'.objs.size = z.heap.objs.size + 2 →
      (∀ c o, z.heap.get? c = some o → h'.get? c = some o) → Q (.ref (z.heap.objs.size + 1)) { z with heap := h' }) :
    wpAny (model prog w) A (call (.type "enumerate") [.ref a]) Q E z := by
  refine callType_new F.called_enumerate (by decide) (F.typeCall_enumerate_1 _) (F.newCall_enumerate_1 _) (fun ob => F.args_object_init_2 ob _) F.entry_enumerate_new (meets_enT a its) ⟨ht, ?_⟩
  have sz : (z.heap.push { cls := .type "tuple_iterator", data := .fields #[.ref a, .int 0 0] }).objs.size = z.heap.objs.size + 1 := Heap.size_push ..
  show _ ∧ _
  rw [sz]
  have en : IsEnum ((z.heap.push { cls := .type "tuple_iterator", data := .fields #[.ref a, .int 0 0] }).push
      { cls := .type "enumerate", data := .fields #[.none, .bool false, .ref z.heap.objs.size, rawInt 0, .none, .none] }) (z.heap.objs.size + 1) z.heap.objs.size 0 .none := by
    have q := Heap.get?_push_size (z.heap.push { cls := .type "tuple_iterator", data := .fields #[.ref a, .int 0 0] })
      (o := { cls := .type "enumerate", data := .fields #[.none, .bool false, .ref z.heap.objs.size, rawInt 0, .none, .none] }) rfl
    rw [sz] at q
    exact q
  exact ⟨⟨_, en, rfl⟩, h _ en ⟨_, Heap.get?_push_of_some _ (Heap.get?_push_size _ rfl), rfl, rfl⟩ (by rw [Heap.size_push, sz]) fun c o x => Heap.get?_push_of_some _ (Heap.get?_push_of_some _ x)⟩
end
theorem end_enT {prog : Program} {w : World} {A : Around} {E : Value → Shared → Prop} {z : Shared} {e it a : Addr} {i : Nat} {its : Array Value} {old : Value} {Q : Option Value → Shared → Prop} (hh : A.handled = none)
    (he : IsEnum z.heap e it i old) (hit : z.heap.IsTupleIter it a i) (ht : z.heap.IsTuple a its) (hx : its[i]? = none)
    (hQ : ∀ h', Heap.ExtBut it z.heap h' → Q none { z with heap := h' }) : wpAny (model prog w) A (pyNext (.ref e)) Q E z := by
  have ty : z.TypeIs (.ref e) "enumerate" := ⟨_, he, rfl⟩
  unfold pyNext
  refine wpAny_bind (wpAny_attempt (wpAny_callSpecial?_slot (name := Str.ofString "__next__") ty F.slot_enumerate_next (wpAny_call_entry F.slot_enumerate_next ty F.entry_enumerate_next ?_ (F.args_enumerate_next_1 _))))
  show wpAny _ _ (field (.ref e) 2 >>= _) _ _ _
  refine wpAny_bind (wpAny_field he rfl (x := .ref it) rfl ?_)
  refine wpAny_bind (wpAny_nextOf_tuple_end hh hit ht hx fun h' x he' hx' => ?_)
  obtain ⟨o, ho, hc⟩ := hx'
  exact wpAny_bind (wpAny_isInstance (T := "StopIteration") (b := true) ⟨o, ho, hc⟩ isSubtype_stop (wpAny_pure (hQ _ he')))
/-- the tuple at a, each item in a new pair -/
def IteT (K : PySem.W.Frag) (a : Addr) : It :=
  ⟨fun i H => ∃ (xs : List V) (x : V), SqT K H a xs ∧ xs[i]? = some x, fun i H v H' => ∃ T x, v = .ref T ∧ H T = none ∧ H' = upd H T (.tup [.int (i : Nat), x]) ∧ ∀ xs, SqT K H a xs → xs[i]? = some x, fun i H => ∃ xs : List V, SqT K H a xs ∧ xs.length ≤ i⟩
theorem turn_enT {P : Program} {w : World} {K : PySem.W.Frag} {es : List Expr} {kk : Nat} {tp : Pos} (a e it : Addr) (hai : a ≠ it) :
    Turn P w K (.Tuple es kk tp) (IteT K a) [e, it] e (fun i h => (∃ old, IsEnum h e it ((i : Nat) : Int) old) ∧ h.IsTupleIter it a i ∧ e ≠ it) where
  mem := by simp
  obj := fun i h st b hb => by
    obtain ⟨⟨old, he⟩, ⟨o, ho, hc, hd⟩, _⟩ := st
    rcases (show b = e ∨ b = it by simpa using hb) with q | q
    · rw [q]
      exact ⟨_, he, fun v q => nomatch q⟩
    · rw [q]
      exact ⟨o, ho, fun v q => by rw [hd] at q; cases q⟩
  keep := fun i h h' st k => by
    obtain ⟨⟨old, he⟩, hi, hne⟩ := st
    exact ⟨⟨old, k e (by simp) _ he⟩, hi.at fun o q => k it (by simp) o q, hne⟩
  item := by
    intro X hP hw hK hc i pins s σ H E I hf st hg
    subst hP hw hK
    obtain ⟨⟨old, he⟩, hit, hne⟩ := st
    obtain ⟨xs, x, hq, hx⟩ := hg
    obtain ⟨its, rv, p, hz⟩ := I.tuple hq
    obtain ⟨u, hu, ru⟩ := rv.get hx
    have le : e < s.heap.objs.size := Heap.lt_size he
    have li : it < s.heap.objs.size := by
      obtain ⟨_, q, _⟩ := hit
      exact Heap.lt_size q
    have pT : s.heap.IsTuple a its.toArray := p
    have D := (Draws.tuple (prog := X.prog) (w := X.w) (A := X.A.in1) (show X.A.in1.handled = none from I.ok.hd hc) it a hai its.toArray)
    have hi : i < its.toArray.size := by
      have := (List.getElem?_eq_some_iff.mp hu).1
      simpa using this
    have hnm : e ∉ [it, a] := fun hm => by
      rcases (show e = it ∨ e = a by simpa using hm) with q | q
      · exact hne q
      · obtain ⟨o1, q1, c1, _⟩ := pT
        rw [← q, he] at q1
        cases q1
        exact nomatch (show Value.type "enumerate" = Value.type "tuple" from c1) 
    refine wpAny_pyNext_enum_itemD D he ⟨hit, pT⟩ hi hne hnm fun y h' tk hy ho ht' hT hsz hk => ?_
    · have ey : u = y := by
        have hu' : its.toArray[i]? = some u := by simpa using hu
        rw [hy] at hu'
        exact (Option.some.inj hu').symm
      subst ey
      obtain ⟨hit', _⟩ := ht'
      refine ⟨_, rfl, wpAny_letOwnedTupleGo_enum (s := { s with heap := h', toks := tk + 1 }) ho fun h'' he' sb => ?_⟩
      have hT2 : h''.get? s.heap.objs.size = some { cls := .type "tuple", data := .seq #[.int i tk, u] } := (sb.2 _ (Nat.ne_of_gt le)).trans hT
      have new : ObjOk X.prog X.w (upd H s.heap.objs.size (.tup [.int (i : Nat), x])) h'' s.heap.objs.size (.tup [.int (i : Nat), x]) :=
        ⟨by show 2 ≤ sizeLine; decide, [.int i tk, u], .cons ⟨_, rfl⟩ (.cons ru .nil), ⟨_, hT2, rfl, _, rfl⟩⟩
      have J : Inv X pins σ (upd H s.heap.objs.size (.tup [.int (i : Nat), x])) { s with heap := h'', toks := tk + 1 } :=
        I.turnedNew (ch := [e, it]) (fun b ob hb q => (sb.2 b (fun q2 => hb (by simp [q2]))).trans (hk b ob (fun q2 => hb (by simp [q2])) (fun q2 => hb (by simp [q2])) q)) hf (Nat.le_refl _) new
      refine ⟨.ref s.heap.objs.size, _, J, rfl, ⟨_, x, rfl, I.hok.fresh (Nat.le_refl _), rfl, fun ys hy => by rw [I.tuple_inj hy hq]; exact hx⟩, ⟨⟨u, ?_⟩, hit'.at fun o q => (sb.2 it (Ne.symm hne)).trans q, hne⟩, fun b hb => ?_⟩
      · have e1 : ((i + 1 : Nat) : Int) = (i : Int) + 1 := by omega
        rw [e1]
        exact he'
      · have lb : b < s.heap.objs.size := by
          rcases (show b = e ∨ b = it by simpa using hb) with q | q
          · rw [q]; exact le
          · rw [q]; exact li
        rw [upd_ne (Nat.ne_of_lt lb)]
        exact (hf b hb).1
  done := by
    intro X hP hw hK hc i pins s σ H E I hf st hg
    subst hP hw hK
    obtain ⟨⟨old, he⟩, hit, hne⟩ := st
    obtain ⟨xs, hq, hx⟩ := hg
    obtain ⟨its, rv, p, hz⟩ := I.tuple hq
    obtain ⟨f0, f1, f2, f3, f4, f5⟩ := hf it (by simp)
    have hl := rv.length
    have pT : s.heap.IsTuple a its.toArray := p
    refine end_enT (I.ok.hd hc) he hit pT (by simp; omega) fun h' eb => ⟨rfl, I.turned (t' := s.toks) (fun b o hb q => eb b o hb q) f0 f1 f3 f4 f5⟩
  self := fun A i s Q E st h => by
    obtain ⟨⟨_, he⟩, _⟩ := st
    exact wpAny_pyIter_enum he h
def iEnT (K : PySem.W.Frag) (ta : TA) : TI := fun σ H R => ta σ H fun vs H1 => ∃ a xs, vs = [.ref a] ∧ SqT K H1 a xs ∧ R (IteT K a) H1
theorem pi_enumT {X : Cx} {e : Expr} {ta : TA} {p pos tp : Pos} {es : List Expr} {kk : Nat} (hg : Gl X "enumerate") (hm : X.mg "enumerate" = none) (ha : PA X [e] ta) (hs : starEach [e] X.env = [(false, eval e X.env)] := by rfl) :
    PI X (.Tuple es kk tp) (.Call (.Name "enumerate" p) [e] [] pos) (iEnT X.K ta) := by
  refine ⟨fun pins s σ H R I h => ?_⟩
  refine Call_ (ld_blt I hg hm boot_enumerate (PyProof.Rows.callWith_type1 (thn (ha.run pos pins s σ H _ I h) fun us s1 hh => ?_) hs rfl))
  obtain ⟨vs, H1, I1, r1, a, xs, ex, hq, q⟩ := hh
  subst ex
  cases r1 with
  | cons r rr =>
    cases rr
    cases r
    obtain ⟨its, rv, p', hz⟩ := I1.tuple hq
    have pT : s1.heap.IsTuple a its.toArray := p'
    have la : a < s1.heap.objs.size := by
      obtain ⟨o, q, _⟩ := pT
      exact Heap.lt_size q
    refine call_enT pT fun h' he hit hsz hk => wpAny_pyIter_enum he ?_
    have I2 : Inv X pins σ H1 { s1 with heap := h' } := I1.kept (t' := s1.toks) hk
    refine ⟨s1.heap.objs.size + 1, [s1.heap.objs.size + 1, s1.heap.objs.size], _, _, H1, rfl, I2, turn_enT a (s1.heap.objs.size + 1) s1.heap.objs.size (Nat.ne_of_lt la), ⟨⟨.none, he⟩, hit, Nat.succ_ne_self _⟩, fun b hb => ?_, q⟩
    have hle : s1.heap.objs.size ≤ b := by
      rcases (show b = s1.heap.objs.size + 1 ∨ b = s1.heap.objs.size by simpa using hb) with z | z
      · rw [z]; exact Nat.le_succ _
      · rw [z]; exact Nat.le_refl _
    exact I1.fpOk hle (I1.hok.fresh hle)
section
variable {K : PySem.W.Frag} {M : List Addr} {F H : Hp} {α : Type} {xs : List V} {l : List α} {en : α → PyData} {a : Addr}
theorem wlk_enumT (e : Ex F H) (h : SqT K F a xs) (da : DqAll K F xs (l.map en)) : Wlk M F H (IteT K a) (enumL l) (fun F v x => Dq K F v (e2 PyData.int en x)) := by
  have hl : xs.length = l.length := by rw [da.len, List.length_map]
  refine ⟨xs.length, fun H => SqT K H a xs, YPair (fun i => some (.int (i : Nat))) (fun i => xs[i]?), ⟨fun i _ hi q => ⟨xs, xs[i], q, by simp [hi]⟩, fun _ q => ⟨xs, q, Nat.le_refl _⟩, fun i H v H' _ q y => ?_⟩, by simp [enumL, rangeL, hl], fun F' H' g' => ex_t g'.s (ex_t g'.f h), fun i x v F' H' H'' g' hx y => ?_⟩
  · obtain ⟨T, x, h1, h2, h3, h4⟩ := y
    exact ⟨T, .int (i : Nat), x, h1, h2, h3, rfl, h4 xs q⟩
  · obtain ⟨T, u, w, rfl, hT, rfl, h1, h2⟩ := y
    obtain ⟨d, hd, hq⟩ := (da.up g'.f).getV h2
    obtain ⟨x1, x2⟩ := x
    unfold enumL at hx
    rw [List.getElem?_zip_eq_some] at hx
    obtain ⟨hx1, hx2⟩ := hx
    have e1 := rangeL_at hx1
    simp only at e1 hx2
    rw [List.getElem?_map, hx2] at hd
    cases hd
    cases h1
    have g2 : Gm [] F' H' (upd F' T (.tup [V.int (i : Nat), w])) (upd H' T (.tup [V.int (i : Nat), w])) := Gm.new g'.s hT
    refine ⟨_, g2, .tup (st_of upd_same) (.cons ?_ (.cons (hq.up g2.f) .nil))⟩
    rw [e1, Int.zero_add]
    exact .int _
end
end Wk

set_option Elab.async false
set_option linter.all false
set_option maxRecDepth 100000
set_option maxHeartbeats 4000000
namespace Wk
open PySem L2 Evl PySem.Spec PyProof.Rows
/-! ### set(a list of ints), sorted -/
abbrev emS (w : World) : Obj := { cls := .type "set", dict := none, data := .set #[] 0 (.fresh 0 0 (!w.params.followText "set-order")) }
section
variable {P : Program} {w : World} {A : Around} {E : Value → Shared → Prop} {z : Shared}
theorem call_set_li {u : Addr} {its : Array Value} (ks : List Int) {Q : Value → Shared → Prop} (hh : A.handled = none) (hl : z.heap.IsList u its) (hit : IntsAre its.toList ks) (hb : ks.length + 1 < scanBound)
    (h : ∀ (h' : Heap) (tk c : Nat), SetR w h' z.heap.objs.size (fun j => decide (j ∈ ks)) c → c ≤ ks.length → (∀ b o, z.heap.get? b = some o → h'.get? b = some o) → Q (.ref z.heap.objs.size) { z with heap := h', toks := tk }) :
    wpAny (model P w) A (call (.type "set") [.ref u]) Q E z := by
  have sz : its.size = ks.length := by
    have q := IntsAre.length hit
    rwa [Array.length_toList] at q
  obtain ⟨c, tl, hmro⟩ := F.called_set.mro
  have made := F.called_set.made
  have sub := F.called_set.sub
  refine wpAny_call (codeAny_of_tree ?_); (show wpAny _ _ (callAny (.type "set") _) _ _ _)
  refine wpAny_pure ⟨Code.quiet_builtin _ (by decide +kernel), codeAny_builtin F.entry_type_call ?_⟩; rw [Around.under_plain (weight_type_call_type "set" [.ref u] []) rfl]
  have n1 := F.called_set.notType
  have n2 := F.called_set.canCreate
  have n3 := F.typeCall_set_1 (.ref u)
  repeat (any_goals (first | assumption | wp_step))
  refine codeAny_mono (code_set_led1 (.ref u) (E := E) (Q₁ := fun ob z1 => ob = .ref z.heap.objs.size ∧ z1 = { z with heap := z.heap.push (emS w) }) ⟨rfl, rfl⟩) fun r z1 hr => ?_
  cases r with
  | error e => exact hr
  | ok fl =>
    cases fl with
    | ret ob =>
      obtain ⟨rfl, rfl⟩ := hr
      have atS : (z.heap.push (emS w)).get? z.heap.objs.size = some (emS w) := Heap.get?_push_size _ rfl
      have tyS : Shared.TypeIs { z with heap := z.heap.push (emS w) } (.ref z.heap.objs.size) "set" := ⟨_, atS, rfl⟩
      have i1 := F.called_set.init.lookup
      have i2 := F.called_set.init.bind (.ref z.heap.objs.size)
      repeat (any_goals (first | assumption | wp_step))
      refine codeAny_mono (codeAny_call_builtin (R := wants (fun r z2 => r = .none ∧ ∃ h' tk c, z2 = { z with heap := h', toks := tk } ∧ SetR w h' z.heap.objs.size (fun j => decide (j ∈ ks)) c ∧ c ≤ ks.length ∧
          (∀ b o, z.heap.get? b = some o → h'.get? b = some o)) E) F.called_set.init.plain F.entry_set_init (check_set_init_1 tyS ?_)) fun r2 z2 hr2 => ?_
      · obtain ⟨ol, hol, hcl, nl, hdl⟩ := hl
        obtain ⟨oc, od, dt, sl⟩ := ol
        simp only at hcl hdl
        subst hcl
        subst hdl
        have atU : (z.heap.push (emS w)).get? u = some { cls := .type "list", dict := od, data := .seq its nl, slots := sl } := Heap.get?_push_of_some _ hol
        have no1 := F.sub_list_set
        have no2 := F.sub_list_frozenset
        have no3 : (Value.type "list" == Value.type "dict") = false := by decide
        have isl : (z.heap.push (emS w)).IsList u its := ⟨_, atU, rfl, nl, rfl⟩
        unfold Builtin.«set.__init__» noKeywords Builtin.Frozenset.updateFrom
        generalize hPI : pyIter = pI
        wp_walk
        subst hPI
        refine wpAny_pyIter_list isl ?_
        refine wpAny_bind (wpAny_runValue ?_)
        have lu : u < z.heap.objs.size := Heap.lt_size hol
        have h3 : A.in1.in1.in1.handled = none := by simp [hh]
        have ux : u ≠ (z.heap.push (emS w)).objs.size := by rw [Heap.size_push]; exact Nat.ne_of_lt (Nat.lt_succ_of_lt lu)
        have nf : z.heap.objs.size ∉ [(z.heap.push (emS w)).objs.size, u] := by
          rw [Heap.size_push]
          simp only [List.mem_cons, List.mem_singleton, List.not_mem_nil, or_false, not_or]
          exact ⟨Nat.ne_of_lt (Nat.lt_succ_self _), Nat.ne_of_gt lu⟩
        have val : ∀ (i : Nat) (v : Value), its[i]? = some v → ∃ k t, ks[i]? = some k ∧ v = .int k t := fun i v hv => by
          have hi : i < ks.length := by rw [← sz]; exact (Array.getElem?_eq_some_iff.mp hv).1
          obtain ⟨t, e⟩ := PyProof.Rows.IntsAre.int_at hit i v (by rw [Array.getElem?_toList]; exact hv)
          refine ⟨ks[i], t, List.getElem?_eq_getElem hi, ?_⟩
          rw [e, List.getD_eq_getElem?_getD, List.getElem?_eq_getElem hi]
          all_goals rfl
        refine set_update_ints ((Walks.list h3 _ u ux its).toS) z.heap.objs.size nf ks sz hb val (its.size - 0) 0 _ (by omega) (Nat.zero_le _) ⟨⟨_, Heap.get?_push_size _ rfl, rfl, rfl⟩, (isl.push _)⟩ ?a0 ?a1
        case a0 =>
          have q : ((z.heap.push (emS w)).push { cls := .type "list_iterator", data := .fields #[.ref u, .int 0 0] }).get? z.heap.objs.size = some (emS w) := Heap.get?_push_of_some _ atS
          exact ⟨0, Nat.le_refl 0, setR_new_at q⟩
        case a1 =>
          intro z3 c' hm hc' hS'
          obtain ⟨h', g2, d', tk', os'⟩ := z3
          have eg : g2 = z.gens := hm.gens
          have ed : d' = z.drawn := hm.drawn
          have eo : os' = z.os := hm.os
          subst eg; subst ed; subst eo
          (show wpAny _ _ _ _ _ _); refine wpAny_pure ?_
          show wpAny _ _ (ret Value.none) _ _ _
          rw [sz] at hc'
          refine wpAny_pure ⟨rfl, h', tk', c', rfl, hS', hc', fun b o e => ?_⟩
          have b0 : b < z.heap.objs.size := Heap.lt_size e
          have b2 : b ≠ (z.heap.push (emS w)).objs.size := by rw [Heap.size_push]; exact Nat.ne_of_lt (Nat.lt_succ_of_lt b0)
          exact hm.heap b o (by simp only [List.mem_cons, List.mem_singleton, List.not_mem_nil, or_false, not_or]; exact ⟨Nat.ne_of_lt b0, b2⟩) (Heap.get?_push_of_some _ (Heap.get?_push_of_some _ e))
      · cases r2 with
        | error e => exact hr2
        | ok f2 => cases f2 with
          | ret r =>
            obtain ⟨rfl, h', tk, c', rfl, hS', hc', hk'⟩ := hr2
            repeat (any_goals (first | assumption | wp_step))
            exact h h' tk c' hS' hc' hk'
          | _ => exact False.elim hr2
    | _ => exact False.elim hr
end
end Wk

set_option Elab.async false
set_option linter.all false
set_option maxRecDepth 100000
set_option maxHeartbeats 4000000
namespace Wk
open PySem L2 Evl PySem.Spec PyProof.Rows
section
variable {X : Cx}
/-- set(a list of ints) -/
def rSetM (w : World) (K : PySem.W.Frag) : List V → Hp → VK → Prop := fun vs H Q => ∃ (a : Addr) (ns : List Int), vs = [.ref a] ∧ SqL K H a (ns.map V.int) ∧ ns.length < 64 ∧
  ∀ p c, H p = none → c ≤ ns.length → Q (.ref p) (upd H p (SetO w p (fun j => decide (j ∈ ns)) c))
theorem cr_setM (hcalm : X.calm = true) : CallR X (.type "set") (rSetM X.w X.K) := by
  intro pins s σ H vs us Q I r h
  obtain ⟨a, ns, rfl, hq, h64, q⟩ := h
  cases r with
  | cons r rr =>
    cases rr
    cases r
    obtain ⟨its, rv, pl, hz⟩ := I.list hq
    refine call_set_li ns (I.ok.hd hcalm) pl.isList (by simpa using rv.ints) (by unfold scanBound; omega) fun h' tk c hS hc hk => ?_
    have J : Inv X pins σ (upd H s.heap.objs.size (SetO X.w s.heap.objs.size (fun j => decide (j ∈ ns)) c)) { s with heap := h', toks := tk } := I.laid hk (Nat.le_refl _) (setO_new hS)
    exact ⟨.ref s.heap.objs.size, _, J, rfl, q _ c (I.hok.fresh (Nat.le_refl _)) hc⟩
end
/-! ### a sorted set -/
def insU (x : Int) : List Int → List Int
  | [] => [x]
  | y :: l => if x < y then x :: y :: l else if x = y then y :: l else y :: insU x l
def sortedSet (l : List Int) : List Int := l.foldr insU []
theorem mem_insU (x k : Int) : ∀ l, k ∈ insU x l ↔ k = x ∨ k ∈ l
  | [] => by simp [insU]
  | y :: l => by
    unfold insU
    split
    · simp
    · split
      · rename_i h
        subst h
        simp
      · simp only [List.mem_cons, mem_insU x k l]
        constructor
        · rintro (h | h | h)
          · exact .inr (.inl h)
          · exact .inl h
          · exact .inr (.inr h)
        · rintro (h | h | h)
          · exact .inr (.inl h)
          · exact .inl h
          · exact .inr (.inr h)
theorem asc_insU (x : Int) : ∀ l : List Int, l.Pairwise (· < ·) → (insU x l).Pairwise (· < ·)
  | [], _ => by simp [insU]
  | y :: l, h => by
    obtain ⟨h1, h2⟩ := List.pairwise_cons.mp h
    unfold insU
    split
    · rename_i q
      refine List.pairwise_cons.mpr ⟨fun a ha => ?_, h⟩
      rcases List.mem_cons.mp ha with e | e
      · rw [e]; exact q
      · exact Int.lt_trans q (h1 a e)
    · split
      · exact h
      · refine List.pairwise_cons.mpr ⟨fun a ha => ?_, asc_insU x l h2⟩
        rcases (mem_insU x a l).mp ha with e | e
        · rw [e]; omega
        · exact h1 a e
theorem mem_sortedSet (k : Int) : ∀ l : List Int, k ∈ sortedSet l ↔ k ∈ l
  | [] => by simp [sortedSet]
  | x :: l => by
    show k ∈ insU x (sortedSet l) ↔ _
    rw [mem_insU, mem_sortedSet k l, List.mem_cons]
theorem asc_sortedSet : ∀ l : List Int, (sortedSet l).Pairwise (· < ·)
  | [] => List.Pairwise.nil
  | x :: l => asc_insU x _ (asc_sortedSet l)
/-- two ascending lists of the same members are one -/
theorem asc_unique : ∀ l r : List Int, l.Pairwise (· < ·) → r.Pairwise (· < ·) → (∀ k, k ∈ l ↔ k ∈ r) → l = r
  | [], [], _, _, _ => rfl
  | [], y :: r, _, _, h => absurd ((h y).mpr (List.mem_cons_self ..)) (by simp)
  | x :: l, [], _, _, h => absurd ((h x).mp (List.mem_cons_self ..)) (by simp)
  | x :: l, y :: r, hl, hr, h => by
    obtain ⟨l1, l2⟩ := List.pairwise_cons.mp hl
    obtain ⟨r1, r2⟩ := List.pairwise_cons.mp hr
    have e : x = y := by
      have hx : x = y ∨ x ∈ r := List.mem_cons.mp ((h x).mp (List.mem_cons_self ..))
      have hy : y = x ∨ y ∈ l := List.mem_cons.mp ((h y).mpr (List.mem_cons_self ..))
      rcases hx with q | q
      · exact q
      · rcases hy with q' | q'
        · exact q'.symm
        · have := r1 x q
          have := l1 y q'
          omega
    subst e
    rw [asc_unique l r l2 r2 fun k => ?_]
    constructor
    · intro hk
      rcases List.mem_cons.mp ((h k).mp (List.mem_cons_of_mem _ hk)) with q | q
      · have := l1 k hk
        omega
      · exact q
    · intro hk
      rcases List.mem_cons.mp ((h k).mpr (List.mem_cons_of_mem _ hk)) with q | q
      · have := r1 k hk
        omega
      · exact q
section
variable {K : PySem.W.Frag} {M : List Addr} {F H : Hp} {Q : VK} {w : World} {a : Addr} {l : List Int}
theorem sorted_set (e : Ex F H) (s : F a = some (.lst (l.map V.int))) (hl : l.length < 64) (k : Ret M F H (fun F' _ v => Dq K F' v (eL PyData.int (sortedSet l))) Q) :
    ∃ (a' : Addr) (ns : List Int), [V.ref a] = [.ref a'] ∧ SqL K H a' (ns.map V.int) ∧ ns.length < 64 ∧ ∀ p c, H p = none → c ≤ ns.length → rSortedSet w [.ref p] (upd H p (SetO w p (fun j => decide (j ∈ ns)) c)) Q := by
  refine ⟨a, l, rfl, sq_of (e _ _ s), hl, fun p c hp hc => ⟨p, _, c, rfl, upd_same, by omega, fun ns q asc mem _ hq => ?_⟩⟩
  have g1 : Gm M F H (upd F p (SetO w p (fun j => decide (j ∈ l)) c)) (upd H p (SetO w p (fun j => decide (j ∈ l)) c)) := Gm.new e hp
  have g2 : Gm M (upd F p (SetO w p (fun j => decide (j ∈ l)) c)) (upd H p (SetO w p (fun j => decide (j ∈ l)) c)) _ _ := Gm.new (o := .lst (ns.map V.int)) g1.s hq
  have en : ns = sortedSet l := asc_unique ns _ asc (asc_sortedSet l) fun j => by
    rw [mem, mem_sortedSet]
    simp
  refine k _ _ _ (g1.trans g2) ?_
  rw [← en]
  exact .lst upd_same (ints_all ns)
end
end Wk

set_option Elab.async false
set_option linter.all false
set_option maxRecDepth 100000
set_option maxHeartbeats 1000000
namespace Wk
open PySem L2 Evl
theorem Gm.youngs {F0 H0 : Hp} {M : List Addr} {F H F1 H1 : Hp} (ps : List Addr) (g : Gm M F0 H0 F H) (h0 : ∀ p ∈ ps, H0 p = none) (g2 : Gm (ps ++ M) F H F1 H1) : Gm M F0 H0 F1 H1 :=
  ⟨g.f.trans g2.f, g2.s, fun a o hM h => g2.h a o (fun q => by
      rcases List.mem_append.mp q with q | q
      · rw [h0 a q] at h; cases h
      · exact hM q) (g.h a o hM h), fun a o h hn => by
    obtain ⟨o', h'⟩ := g.m a o h
    exact g2.n a o' h' (g.n a o h hn), fun a o h => by
    obtain ⟨o', h'⟩ := g.m a o h
    exact g2.m a o' h'⟩
/-! ### a draw -/
def seedN (s c : Int) : Int := (s * 48271 + c + 11) % 2147483647
def takenA (scr : List Int) (st : Rw) (many : Int) : Mm (Int × Rw) :=
  if 0 < many ∧ many < 1073741824 ∧ 0 ≤ st.seed ∧ st.seed < 2147483647 ∧ 0 ≤ st.pos ∧ st.pos < 1000000 then
    if st.left > 0 then .ok (st.left % many, ⟨st.pos, st.seed, st.left / many⟩)
    else match scr[st.pos.toNat]? with
      | none => .ok ((seedN st.seed 0 / 7) % many, ⟨st.pos + 1, seedN st.seed 0, st.left⟩)
      | some c => .ok (c % many, ⟨st.pos + 1, seedN st.seed c, if c ≥ 10 ^ 18 then c / many else 0⟩)
  else .bad
def takenB (scr : List Int) (st : Rw) (many : Int) : Mm (Int × Rw) :=
  if 0 < many ∧ many < 1073741824 ∧ 0 ≤ st.seed ∧ st.seed < 2147483647 ∧ 0 ≤ st.pos ∧ st.pos < 1000000 then
    if st.left > 0 then .ok (st.left % many, ⟨st.pos, st.seed, st.left / many⟩)
    else match scr[st.pos.toNat]? with
      | none => .ok ((seedN st.seed 0 / 7) % many, ⟨st.pos + 1, seedN st.seed 0, st.left⟩)
      | some c => .ok (c % many, ⟨st.pos + 1, seedN st.seed c, if c ≥ 10 ^ 18 then c / many else st.left⟩)
  else .bad
def spTaken (tk : List Int → Rw → Int → Mm (Int × Rw)) (K : PySem.W.Frag) : Sp := fun vs H Q _ => ∃ (F : Hp) (sc ra : Addr) (scr : List Int) (st : Rw) (many : Int), vs = [.ref ra, .int many] ∧ Ex F H ∧ RowAt K sc ra scr F H st ∧
  Post (tk scr st many) (fun r => Ret [ra] F H (fun F' H' v => v = .int r.1 ∧ RowAt K sc ra scr F' H' r.2) Q) (fun _ => False)
theorem iteP {c : Bool} {A B : Prop} (h : c = true) (a : A) : if c = true then A else B := by rw [if_pos h]; exact a
theorem iteN {c : Bool} {A B : Prop} (h : c = false) (b : B) : if c = true then A else B := by rw [h, if_neg Bool.false_ne_true]; exact b
theorem cmul_small {i j : Int} (h : i.natAbs < 2 ^ 62) (h' : j.natAbs < 2 ^ 62) : CMulW i j := wide_mul h h' (by decide) (by decide) (by decide)
theorem fmod_pos {i j : Int} (h : 0 < j) : i.fmod j = i % j := Int.fmod_eq_emod_of_nonneg _ (Int.le_of_lt h)
theorem fdiv_pos {i j : Int} (h : 0 < j) : i.fdiv j = i / j := Int.fdiv_eq_ediv_of_nonneg _ (Int.le_of_lt h)
/-- pick one of a list -/
def pickM {α : Type} (tk : List Int → Rw → Int → Mm (Int × Rw)) (scr : List Int) (st : Rw) (l : List α) : Mm (α × Rw) := (tk scr st (l.length : Int)).bd fun b => (getM l b.1).bd fun a => .ok (a, b.2)
def spPick (tk : List Int → Rw → Int → Mm (Int × Rw)) (K : PySem.W.Frag) : Sp := fun vs H Q _ => ∃ (F : Hp) (sc ra : Addr) (scr : List Int) (st : Rw) (α : Type) (en : α → PyData) (v : V) (l : List α), vs = [.ref ra, v] ∧ Ex F H ∧ RowAt K sc ra scr F H st ∧ Dq K F v (eL en l) ∧
  Post (pickM tk scr st l) (fun r => Ret [ra] F H (fun F' H' v => Dq K F' v (en r.1) ∧ RowAt K sc ra scr F' H' r.2) Q) (fun _ => False)
end Wk

set_option Elab.async false
set_option linter.all false
set_option maxRecDepth 100000
set_option maxHeartbeats 1000000
namespace Wk
open PySem L2 Evl
theorem notM_nil {H : Hp} : ∀ D, H D = none → D ∉ ([] : List Addr) := fun _ _ => by simp
theorem notM_cons {H : Hp} {p : Addr} {o : HO} {M : List Addr} (h : H p = some o) (k : ∀ D, H D = none → D ∉ M) : ∀ D, H D = none → D ∉ p :: M := fun D hD q => by
  rcases List.mem_cons.mp q with q | q
  · rw [q, h] at hD; cases hD
  · exact k D hD q
/-! ### own lists whose place is open -/
section
variable {M ps : List Addr} {F0 H0 F H F1 H1 : Hp} {p : Addr} {o u : HO}
theorem Gm.putOr (g : Gm M F0 H0 F H) (y : p ∈ M ∨ H0 p = none) (h : H p = some u) (hf : F p = none) : Gm M F0 H0 F (upd H p o) := by
  rcases y with y | y
  · exact g.putIn y h hf
  · exact g.putYoung h hf y
theorem Gm.outs (ps : List Addr) (hy : ∀ p ∈ ps, p ∈ M ∨ H0 p = none) (g : Gm M F0 H0 F H) (g2 : Gm (ps ++ M) F H F1 H1) : Gm M F0 H0 F1 H1 :=
  ⟨g.f.trans g2.f, g2.s, fun a o hM h => g2.h a o (fun q => by
      rcases List.mem_append.mp q with q | q
      · rcases hy a q with z | z
        · exact hM z
        · rw [z] at h; cases h
      · exact hM q) (g.h a o hM h), fun a o h hn => by
    obtain ⟨o', h'⟩ := g.m a o h
    exact g2.n a o' h' (g.n a o h hn), fun a o h => by
    obtain ⟨o', h'⟩ := g.m a o h
    exact g2.m a o' h'⟩
theorem out_y (hy : ∀ p ∈ ps, p ∈ M ∨ H0 p = none) (g : Gm M F0 H0 F H) (y : p ∈ ps ++ M ∨ H p = none) : p ∈ M ∨ H0 p = none := by
  rcases y with y | y
  · rcases List.mem_append.mp y with q | q
    · exact hy p q
    · exact .inl q
  · exact .inr (g.fresh y)
theorem y_ra {ra : Addr} (y : p ∈ [ra] ∨ H0 p = none) (n : ra ≠ p) : H0 p = none := by
  rcases y with y | y
  · exact absurd (List.mem_singleton.mp y).symm n
  · exact y
theorem y_no (y : p ∈ ([] : List Addr) ∨ H0 p = none) : H0 p = none := by
  rcases y with y | y
  · cases y
  · exact y
end
section
variable {K : PySem.W.Frag} {F H : Hp} {Q : VK} {xs ys : List V} {α : Type} {en : α → PyData} {l l' : List α} {a b : Addr}
theorem own_of (e : Ex F H) (k : ∀ p H', Gm [] F H F H' → H p = none → (H' p = some (.lst xs) ∧ F p = none) → Q (.ref p) H') : ∀ p, H p = none → Q (.ref p) (upd H p (.lst xs)) := fun p hp => k p _ (Gm.newM e hp) hp ⟨upd_same, by
    cases q : F p with
    | none => rfl
    | some u => rw [e p u q] at hp; cases hp⟩
/-- list(x) that may change -/
theorem to_own (e : Ex F H) (s : SqL K H a xs ∨ SqT K H a xs) (k : ∀ p H', Gm [] F H F H' → H p = none → (H' p = some (.lst xs) ∧ F p = none) → Q (.ref p) H') : ∃ p ys, [V.ref a] = [.ref p] ∧ (SqL K H p ys ∨ SqT K H p ys) ∧ ∀ l, H l = none → Q (.ref l) (upd H l (.lst ys)) :=
  ⟨a, xs, rfl, s, own_of e k⟩
end
/-! ### isinstance of an int -/
section
variable {X : Cx}
theorem call_isiI : CallR X (.builtin "isinstance") (fun xs H Q => ∃ (i : Int) (n : String) (b : Bool), xs = [.int i, .ty n] ∧ ((n = "int" ∧ b = true) ∨ (n = "bool" ∧ b = false)) ∧ Q (.bl b) H) := by
  intro pins s σ H vs us Q I r h
  obtain ⟨i, n, b, rfl, hn, q⟩ := h
  rcases hn with ⟨rfl, rfl⟩ | ⟨rfl, rfl⟩
  · exact call_isi pins s σ H _ us Q I r ⟨_, _, _, _, true, rfl, .ty _, .base (.int i), kit_ty (by decide +kernel), q⟩
  · exact call_isi pins s σ H _ us Q I r ⟨_, _, _, _, false, rfl, .ty _, .base (.int i), kit_ty (by decide +kernel), q⟩
end
/-! ### tuples of unlike items, empty or not -/
section
variable {K : PySem.W.Frag} {M : List Addr} {F H : Hp} {Q : VK} {α β : Type} {en : α → PyData} {en' : β → PyData} {l : List α} {l' : List β} {xs ys : List V} {a b : Addr}
theorem cat_tupD (e : Ex F H) (s : SqT K F a xs) (h : DqAll K F xs (l.map en)) (s' : SqT K F b ys) (h' : DqAll K F ys (l'.map en')) (hl : l.length + l'.length ≤ 100000) (k : Ret M F H (fun F' _ v => Dq K F' v (.tuple (l.map en ++ l'.map en'))) Q) : rCatM K (.ref a) (.ref b) H Q := by
  have n1 : xs.length = l.length := by rw [h.len, List.length_map]
  have n2 : ys.length = l'.length := by rw [h'.len, List.length_map]
  refine ⟨a, b, xs, ys, rfl, rfl, ex_t e s, ex_t e s', sz_of (by omega), fun q => ?_, fun _ q => ?_, fun _ _ p hp => ?_⟩
  · subst q
    have hl0 : l = [] := List.length_eq_zero_iff.mp n1.symm
    exact k _ _ _ (Gm.refl e) (by rw [hl0]; exact .tup s' h')
  · subst q
    have hl0 : l' = [] := List.length_eq_zero_iff.mp n2.symm
    exact k _ _ _ (Gm.refl e) (by rw [hl0, List.map_nil, List.append_nil]; exact .tup s h)
  · have g : Gm M F H (upd F p (.tup (xs ++ ys))) (upd H p (.tup (xs ++ ys))) := Gm.new e hp
    exact k _ _ _ g (.tup (st_of upd_same) ((h.app h').up g.f))
end
section
variable {X : Cx} {α β : Type} [DecidableEq α] [DecidableEq β] {f : α → PyData} {g : β → PyData} {n m : Nat}
theorem lay_app : ∀ (l r : List PyData), PyData.canLayAll0 l = true → PyData.canLayAll0 r = true → PyData.canLayAll0 (l ++ r) = true
  | [], r, _, h => h
  | x :: l, r, h, h' => by
    simp only [PyData.canLayAll0, Bool.and_eq_true] at h
    simp only [List.cons_append, PyData.canLayAll0, Bool.and_eq_true]
    exact ⟨h.1, lay_app l r h.2 h'⟩
theorem dep_app : ∀ (l r : List PyData) (k : Nat), PyData.depthAll l ≤ k → PyData.depthAll r ≤ k → PyData.depthAll (l ++ r) ≤ k
  | [], r, _, _, h => h
  | x :: l, r, k, h, h' => by
    simp only [PyData.depthAll] at h
    simp only [List.cons_append, PyData.depthAll]
    have := dep_app l r k (by omega) h'
    omega
theorem shaped_cat (s : Sh f n) (s' : Sh g m) (l : List α) (r : List β) (h : max n m + 1 ≤ 64 := by decide) : SeqAt.shaped (.tuple (l.map f ++ r.map g)) = true := by
  unfold SeqAt.shaped
  have d := dep_app (l.map f) (r.map g) (max n m) (Nat.le_trans (dep_map s l) (Nat.le_max_left ..)) (Nat.le_trans (dep_map s' r) (Nat.le_max_right ..))
  simp only [PyData.canLay0, lay_app _ _ (lay_map s l) (lay_map s' r), PyData.depth, Bool.true_and]
  exact decide_eq_true (by omega)
/-- t != (), t == () -/
def rNilM (K : PySem.W.Frag) (neg : Bool) : R2 := fun x y H Q => ∃ (ds : List PyData) (b : Bool), Dp K H x (.tuple ds) ∧ Dp K H y (.tuple []) ∧ SeqAt.shaped (.tuple ds) = true ∧ ds.isEmpty = b ∧ Q (.bl (if neg = true then !b else b)) H
theorem eqv_nil (ds : List PyData) : PyData.eqv (.tuple ds) (.tuple []) = ds.isEmpty := by
  cases ds <;> rfl
theorem op_neNil (hu : X.A.units + 64 < cLine) : OpR X (compareOp .NotEq) (rNilM X.K true) := by
  intro pins st σ H x y v u Q I rx ry h
  obtain ⟨ds, b, hd, he, sd, rfl, q⟩ := h
  exact op_neD hu pins st σ H x y v u Q I rx ry ⟨.tuple ds, .tuple [], hd, he, sd, by decide, by rw [eqv_nil]; exact q⟩
theorem op_eqNil (hu : X.A.units + 64 < cLine) : OpR X (compareOp .Eq) (rNilM X.K false) := by
  intro pins st σ H x y v u Q I rx ry h
  obtain ⟨ds, b, hd, he, sd, rfl, q⟩ := h
  exact op_eqD hu pins st σ H x y v u Q I rx ry ⟨.tuple ds, .tuple [], hd, he, sd, by decide, by rw [eqv_nil]; exact q⟩
theorem isEmpty_cat (l : List α) (r : List β) : (l.map f ++ r.map g).isEmpty = (l.isEmpty && r.isEmpty) := by
  cases l <;> cases r <;> rfl
end
/-! ### weightings -/
abbrev Ms := List (Int × Int)
abbrev Ss := List (Int × Int × Int)
abbrev Wt := Ms × Ss
abbrev eM : Ms → PyData := eV (e2 PyData.int PyData.int)
abbrev eS : Ss → PyData := eV (e3 PyData.int PyData.int PyData.int)
def wf (m s : V) : List (Str × V) := putF "_stretches" s (putF "_masses" m [])
theorem wf_eq (m s : V) : wf m s = ([("_masses", m), ("_stretches", s)] : List (Str × V)) := by
  have n : ¬ (("_masses" : Str) = "_stretches") := by decide +kernel
  show (if ("_masses" : Str) = "_stretches" then [(("_masses" : Str), s)] else (("_masses" : Str), m) :: putF "_stretches" s []) = ([("_masses", m), ("_stretches", s)] : List (Str × V))
  rw [if_neg n]
  rfl
theorem wf_m (m s : V) : (wf m s).lookup ("_masses" : Str) = some m := by
  unfold wf
  rw [lookup_putF, if_neg (by decide +kernel), lookup_putF, if_pos rfl]
theorem wf_s (m s : V) : (wf m s).lookup ("_stretches" : Str) = some s := by
  unfold wf
  rw [lookup_putF, if_pos rfl]
/-- v is a weighting that stands fixed -/
structure IsW (K : PySem.W.Frag) (C : Addr) (F : Hp) (v : V) (w : Wt) : Prop where
  ex : ∃ a dx m s, v = .ref a ∧ F a = some (.ins C dx (wf m s)) ∧ Dq K F m (eM w.1) ∧ Dq K F s (eS w.2)
theorem IsW.up {K : PySem.W.Frag} {C : Addr} {F F' : Hp} {v : V} {w : Wt} (h : IsW K C F v w) (e : Ex F F') : IsW K C F' v w := by
  obtain ⟨a, dx, m, s, rfl, h1, h2, h3⟩ := h.ex
  exact ⟨a, dx, m, s, rfl, e _ _ h1, h2.up e, h3.up e⟩
/-- a property of a class, by its name and its field -/
structure KnP (P : Program) (w : World) (K : PySem.W.Frag) (mg : Str → Option Value) (base : Heap) (C : Addr) (f fld : Str) : Prop where
  ex : ∃ p g fd, PropOf K C f p g ∧ FnOk P w K mg base CX0 1 g fd ["self"] (getSp C fld) ∧ Binds K fd ["self"] []
  cl : Cls K C
section
variable {X : Cx} {C : Addr} {f fld : Str} {e : Expr} {ta : TE} {pos : Pos}
theorem pe_propK (G : KnP X.prog X.w X.K X.mg X.base C f fld) (hr : Room 2 X.A) (he : PE X e ta) (hab : attributeBase e f X.env (eval e X.env) = eval e X.env := by rfl) : PE X (.Attribute e f pos) (tProp C (getSp C fld) [] E0 ta) := by
  obtain ⟨p, g, fd, hp, F, hb⟩ := G.ex
  exact pe_prop he G.cl hp F hr hb .nil pass0 hab
end
/-- a class that is called: by the name x its __init__ with the promise sp -/
structure KnC (P : Program) (w : World) (K : PySem.W.Frag) (mg : Str → Option Value) (base : Heap) (CX : CXT) (x : Str) (C : Addr) (k : Nat) (ps : List Str) (sp : Sp) : Prop where
  ex : ∃ f fd, Mk K C f ∧ FnOk P w K mg base CX k f fd ps sp ∧ Binds K fd ps []
  mg : mg x = some (.ref C)
section
variable {X : Cx} {C : Addr} {x : Str} {k : Nat} {ps : List Str} {sp : Sp} {e : Expr} {es : List Expr} {t : TA} {p pos : Pos} {CX : CXT} {E : XK}
theorem pe_knC (G : KnC X.prog X.w X.K X.mg X.base CX x C k ps sp) (hr : Room (k + 1) X.A) (hx : Passes CX X E) (ha : PA X (e :: es) t) (hg : Gl X x := by rfl) (hdb : (x == ("__debug__" : Str)) = false := by decide)
    (he : starEach (e :: es) X.env = (false, eval e X.env) :: starEach es X.env := by rfl) (hpl : (backTo pos (starEach es X.env)).any (·.1) = false := by rfl) : PE X (.Call (.Name x p) (e :: es) [] pos) (tMake C sp [] E t) := by
  obtain ⟨f, fd, M, F, hb⟩ := G.ex
  exact pe_make M F hr hg G.mg hb .nil hx ha hdb he hpl
end
/-- Weighting.__init__: chk tells whether the parts may be so -/
def spW0 (chk : Ms → Ss → Mm Wt) (K : PySem.W.Frag) (C : Addr) : Sp := fun vs H Q _ => ∃ (F : Hp) (x dx : Addr) (vm vs' : V) (m : Ms) (s : Ss), vs = [.ref x, vm, vs'] ∧ Ex F H ∧ H x = some (.ins C dx []) ∧ F x = none ∧
  Dq K F vm (eM m) ∧ Dq K F vs' (eS s) ∧ Post (chk m s) (fun w => ∀ F' H' a b, Gm [x] F H F' H' → H' x = some (.ins C dx (wf a b)) → F' x = none → Dq K F' a (eM w.1) → Dq K F' b (eS w.2) → Q .non H') (fun _ => False)
theorem make_W {chk : Ms → Ss → Mm Wt} {K : PySem.W.Frag} {C : Addr} {F H : Hp} {vm vs : V} {m : Ms} {s : Ss} {Q : VK} {E : XK} (e : Ex F H) (hm : Dq K F vm (eM m)) (hs : Dq K F vs (eS s))
    (k : Post (chk m s) (fun w => Ret [] F H (fun F' _ v => IsW K C F' v w) Q) (fun _ => False)) :
    ∀ x dx, H x = none → H dx = none → dx ≠ x → spW0 chk K C (.ref x :: ([vm, vs] ++ [])) (upd (upd H dx (.own x)) x (.ins C dx [])) (fun v H2 => v = .non ∧ Q (.ref x) H2) E := by
  intro x dx hx hdx hne
  have g1 : Gm [] F H (upd F dx (.own x)) (upd H dx (.own x)) := Gm.new e hdx
  have hx1 : (upd H dx (.own x)) x = none := by rw [upd_ne hne.symm]; exact hx
  have g2 : Gm [] (upd F dx (.own x)) (upd H dx (.own x)) (upd F dx (.own x)) (upd (upd H dx (.own x)) x (.ins C dx [])) := Gm.newM g1.s hx1
  have fx : (upd F dx (.own x)) x = none := by
    cases q : (upd F dx (.own x)) x with
    | none => rfl
    | some u => rw [g1.s _ _ q] at hx1; cases hx1
  refine ⟨upd F dx (.own x), x, dx, vm, vs, m, s, rfl, g2.s, upd_same, fx, hm.up g1.f, hs.up g1.f, k.mono (fun w k F' H' a b g h1 h2 ha hb => ⟨rfl, ?_⟩) fun _ z => z⟩
  have gg : Gm [] F H F' H' := by
    refine Gm.young (g1.trans g2) hx g
  have g3 := gg.fix h1 h2 hx
  have up : Ex F' (upd F' x (.ins C dx (wf a b))) := Ex.new h2
  exact k _ _ _ g3 ⟨x, dx, a, b, rfl, upd_same, ha.up up, hb.up up⟩
end Wk

set_option Elab.async false
set_option linter.all false
namespace Wk
open PySem L2 Evl
theorem new_row {K : PySem.W.Frag} {H : Hp} {sc : Addr} {scr : List Int} {Q : VK} (hs : SqL K H sc (scr.map V.int)) (k : ∀ ra H', Ex H H' → RowAt K sc ra scr H H' ⟨0, 0, 0⟩ → Q (.ref ra) H') : [V.ref sc, V.int 0, V.int 0, V.int 0].length ≤ sizeLine ∧ ∀ p, H p = none → Q (.ref p) (upd H p (.lst [V.ref sc, V.int 0, V.int 0, V.int 0])) :=
  ⟨sz_of (by show 4 ≤ 100000; decide), fun p hp => k p _ (Ex.new hp) ⟨upd_same, hp, hs⟩⟩
end Wk

set_option Elab.async false
set_option linter.all false
set_option maxRecDepth 100000
set_option maxHeartbeats 2000000
namespace Wk
open PySem PySem.W L2 He
/-! ### properties by their names -/
def propG (x f : Str) (K : Frag) : Addr := match recIn K (ma K (ga K x) f) "property" with
  | some (.ref g :: _) => g
  | _ => 0
def propB (x f : Str) (K : Frag) : Bool := eqO (findIn K (.ref (ga K x)) f) (some (some (.ref (ma K (ga K x) f)))) && (eqO (specialIn K (.ref (ma K (ga K x) f)) "__get__") (some (some (.builtin "property.__get__"))) &&
  (decide (takesIn K (.ref (ma K (ga K x) f)) = some true) && (match recIn K (ma K (ga K x) f) "property" with
    | some (.ref _ :: _) => true
    | _ => false)))
theorem propB_ok {K : Frag} {x f : Str} (h : propB x f K = true) : PropOf K (ga K x) f (ma K (ga K x) f) (propG x f K) := by
  obtain ⟨h1, h⟩ := ba h
  obtain ⟨h2, h⟩ := ba h
  obtain ⟨h3, h4⟩ := ba h
  refine ⟨eqO_ok h1, eqO_ok h2, of_decide_eq_true h3, ?_⟩
  unfold propG
  split at h4
  · rename_i g r e
    exact ⟨r, by rw [e]⟩
  · cases h4
/-- a def of a class -/
def initAt (x m : Str) (K : Frag) : Addr := ma K (ga K x) m
/-- a name that is a built-in function -/
def bltB (x : Str) (id : String) (K : Frag) : Bool := eqO (nsIn K mainGlobals x) (some (some (.builtin id)))
theorem bltB_ok {K : Frag} {h : Heap} {mg : Str → Option Value} (X : K.In h) (G : h.Ns mainGlobals mg) {x : Str} {id : String} (c : bltB x id K = true) : mg x = some (.builtin id) := mg_of X G (eqO_ok c)
/-! ### the Hook: facts, defs, what else a Bool tells -/
def obsX (fa : List Fa) (fn : List He5.DefA) (ex : Frag → Bool) (K : Frag) : He.AlD := ((fa.all fun f => f.ok K) && ((fn.all fun d => d.ok K) && ex K), fn.map fun d => He5.fnA K (d.at_ K))
def valX (fn : List He5.DefA) : He.AlD := (true, fn.map He5.DefA.val)
def SaysX (fa : List Fa) (fn : List He5.DefA) (ex : Frag → Bool) (K : Frag) : Prop := obsX fa fn ex K = valX fn
def obsXG (n : Nat) (fa : List Fa) (fn : List He5.DefA) (ex : Frag → Bool) (g : Addr → Option Obj) : He.AlD := obsX fa fn ex (frG g (He5.asA g n))
def hookX (n : Nat) (fa : List Fa) (fn : List He5.DefA) (ex : Frag → Bool) : PySem.W.Hook where
  α := He.AlD
  obs := fun s => obsXG n fa fn ex s.heap.get?
  val := fun _ => valX fn
  says := fun _ h => ∃ K : Frag, K.In h ∧ SaysX fa fn ex K
  of := fun _ _ e => ⟨_, frG_in, e⟩
  keeps := fun _ _ _ ⟨K, hK, c⟩ k => ⟨K, Frag.In.keeps hK k, c⟩
theorem obsXG_eq {n : Nat} {fa : List Fa} {fn : List He5.DefA} {ex : Frag → Bool} {g : Addr → Option Obj} {s : Shared} (h : ∀ a, g a = s.heap.get? a) : obsXG n fa fn ex g = (hookX n fa fn ex).obs s := by
  have e : g = s.heap.get? := funext h
  rw [e] <;> rfl
section
variable {fa : List Fa} {fn : List He5.DefA} {ex : Frag → Bool} {K : Frag}
theorem SaysX.bool (c : SaysX fa fn ex K) : (((fa.all fun f => f.ok K) && ((fn.all fun d => d.ok K) && ex K)) : Bool) = true := congrArg (fun z : He.AlD => z.1) c
theorem SaysX.fact (c : SaysX fa fn ex K) (i : Nat) {f : Fa} (h : fa[i]? = some f := by rfl) : f.ok K = true :=
  List.all_eq_true.mp (ba c.bool).1 f (List.mem_of_getElem? h)
theorem SaysX.ext (c : SaysX fa fn ex K) : ex K = true := (ba (ba c.bool).2).2
theorem SaysX.def_ (c : SaysX fa fn ex K) (i : Nat) {d : He5.DefA} (h : fn[i]? = some d := by rfl) : ∃ fd, L2.FunD K d.name d.qual d.params d.body d.scope (d.dvs K) (d.kws K) (d.at_ K) fd := by
  have c2 := (ba (ba c.bool).2).1
  have e : fn.map (fun d => He5.fnA K (d.at_ K)) = fn.map He5.DefA.val := congrArg (fun z : He.AlD => z.2) c
  have e2 : (fn.map fun d => He5.fnA K (d.at_ K))[i]? = (fn.map He5.DefA.val)[i]? := by rw [e]
  rw [List.getElem?_map, List.getElem?_map, h] at e2
  exact He5.DefA.funD (Option.some.inj e2) (List.all_eq_true.mp c2 d (List.mem_of_getElem? h))
end
/-- a global's def -/
def gAt (x : Str) (K : Frag) : Addr := ga K x
theorem knP_of {P : Program} {w : World} {K : Frag} {mg : Str → Option Value} {base : Heap} {x f fld qual : Str} {params : Arguments} {body : List Stmt} {scope : Scope} {fd : FuncData} {p1 p2 p3 : Pos} (hp : propB x f K = true) (cl : Cls K (ga K x)) (n : NoAttr K (ga K x) fld)
    (F : FunD K f qual params body scope [] [] (propG x f K) fd) (S : FnScope ["self"] ["self"] scope) (hb : body = [.Return (some (.Attribute (.Name "self" p1) fld p2)) p3])
    (bi : ∀ (kV doc pm : Value) (an : Option Addr) (cdv ct : Value) (us : List Value), us.length = 1 → bindArgs (PySem.W.fnOf f qual params body scope .none kV doc pm an cdv ct) ⟨us, []⟩ = pure ([("self" : Str)].zip us)) : KnP P w K mg base (ga K x) f fld := by
  have b := F.bindsN (ps := ["self"]) bi
  obtain ⟨oc, od, dV, kV, doc, pm, an, cdv, ct, osl, rfl, lk, hcd, _, _⟩ := F.ex
  exact ⟨⟨_, _, _, propB_ok hp, fn_getter lk hcd S rfl hb cl n, b⟩, cl⟩
end Wk

set_option Elab.async false
set_option linter.all false
set_option maxRecDepth 100000
namespace Wk
open PySem L2
/-! ### outcomes that are values -/
def Yes {α : Type} (m : Mm α) (p : α → Prop) : Prop := ∃ a, m = .ok a ∧ p a
section
variable {α β γ S : Type} {m : Mm α} {f : α → Mm β} {p : α → Prop} {q : β → Prop}
theorem Yes.ok {a : α} (h : p a) : Yes (.ok a) p := ⟨a, rfl, h⟩
theorem Yes.bd (h : Yes m p) (k : ∀ a, p a → Yes (f a) q) : Yes (m.bd f) q := by
  obtain ⟨a, rfl, h⟩ := h
  exact k a h
theorem Yes.eq {a : α} (h : m = .ok a) (k : Yes (f a) q) : Yes (m.bd f) q := by
  subst h
  exact k
theorem Yes.mono {p' : α → Prop} (h : Yes m p) (k : ∀ a, p a → p' a) : Yes m p' := by
  obtain ⟨a, e, h⟩ := h
  exact ⟨a, e, k a h⟩
theorem Yes.guard {c : Prop} [Decidable c] {f : Unit → Mm β} (h : c) (k : Yes (f ()) q) : Yes ((guardM c).bd f) q := by
  unfold guardM
  rw [if_pos h]
  exact k
theorem bd_eq {a : α} (h : m = .ok a) : m.bd f = f a := by subst h; rfl
theorem bd_guard {c : Prop} [Decidable c] {f : Unit → Mm β} (h : c) : (guardM c).bd f = f () := by unfold guardM; rw [if_pos h]; rfl
theorem mapMm_eq {f : α → Mm γ} {g : α → γ} : ∀ l : List α, (∀ x ∈ l, f x = .ok (g x)) → mapMm f l = .ok (l.map g)
  | [], _ => rfl
  | x :: l, h => by
    unfold mapMm
    rw [h x (List.mem_cons_self ..), mapMm_eq l fun y hy => h y (List.mem_cons_of_mem _ hy)]
    rfl
theorem foldM_eq {f : S → α → Mm S} {g : S → α → S} (I : S → List α → Prop) : ∀ (l : List α) (s : S), I s l → (∀ s x l, I s (x :: l) → f s x = .ok (g s x) ∧ I (g s x) l) → foldM f s l = .ok (l.foldl g s)
  | [], s, _, _ => rfl
  | x :: l, s, h, k => by
    obtain ⟨e, h2⟩ := k s x l h
    unfold foldM
    rw [e]
    exact foldM_eq I l _ h2 k
theorem yes_fold {f : S → α → Mm S} (I : S → List α → Prop) : ∀ (l : List α) (s : S), I s l → (∀ s x l, I s (x :: l) → Yes (f s x) fun s' => I s' l) → Yes (foldM f s l) fun s' => I s' []
  | [], s, h, _ => ⟨s, rfl, h⟩
  | x :: l, s, h, k => by
    obtain ⟨s', e, h2⟩ := k s x l h
    unfold foldM
    rw [e]
    exact yes_fold I l s' h2 k
inductive All2 {α γ : Type} (p : α → γ → Prop) : List α → List γ → Prop
  | nil : All2 p [] []
  | cons {x : α} {y : γ} {l : List α} {r : List γ} : p x y → All2 p l r → All2 p (x :: l) (y :: r)
theorem All2.len {p : α → γ → Prop} {l : List α} {r : List γ} (h : All2 p l r) : r.length = l.length := by
  induction h with
  | nil => rfl
  | cons _ _ ih => simp [ih]
theorem All2.right {p : α → γ → Prop} {q : γ → Prop} {l : List α} {r : List γ} (h : All2 p l r) (k : ∀ x y, p x y → q y) : ∀ y ∈ r, q y := by
  induction h with
  | nil => simp
  | cons a _ ih =>
    intro y hy
    rcases List.mem_cons.mp hy with rfl | hy
    · exact k _ _ a
    · exact ih y hy
theorem All2.fst {g : γ → α} {p : α → γ → Prop} {l : List α} {r : List γ} (h : All2 p l r) (k : ∀ x y, p x y → g y = x) : r.map g = l := by
  induction h with
  | nil => rfl
  | cons a _ ih => rw [List.map_cons, k _ _ a, ih]
theorem yes_mapSt {f : S → α → Mm (γ × S)} (I : S → Prop) (p : α → γ → Prop) : ∀ (l : List α) (s : S), I s → (∀ s x, x ∈ l → I s → Yes (f s x) fun y => p x y.1 ∧ I y.2) → Yes (mapSt f s l) fun r => All2 p l r.1 ∧ I r.2
  | [], s, h, _ => ⟨_, rfl, .nil, h⟩
  | x :: l, s, h, k => by
    obtain ⟨y, e, h1, h2⟩ := k s x (List.mem_cons_self ..) h
    obtain ⟨r, e2, h3, h4⟩ := yes_mapSt I p l y.2 h2 fun s z hz => k s z (List.mem_cons_of_mem _ hz)
    unfold mapSt
    rw [e]
    show Yes ((mapSt f y.2 l).bd _) _
    rw [e2]
    exact ⟨_, rfl, .cons h1 h3, h4⟩
end
theorem range_ok {j : Int} (h : -(2 ^ 62) ≤ j) (h2 : j < 2 ^ 62) : rangeM j = .ok (rangeL 0 j.toNat) := by unfold rangeM; rw [if_pos ⟨h, h2⟩]
theorem mul_ok {i j : Int} {a b : Nat} (ha : i.natAbs < 2 ^ a) (hb : j.natAbs < 2 ^ b) (h : a + b ≤ 900000) : mulM i j = .ok (i * j) := by
  unfold mulM
  refine if_pos (wide_mul (a := a + 1) (b := b + 1) ?_ ?_ (by omega) (by omega) (by omega))
  · rw [Nat.pow_succ]; omega
  · rw [Nat.pow_succ]; omega
theorem div_any {i j : Int} {b : Nat} (h : j ≠ 0) (hb : j.natAbs < 2 ^ b) (h2 : b < 9000) : divM i j = .ok (i.fdiv j) := by
  unfold divM
  have hb' : j.natAbs < 2 ^ (b + 1) := by rw [Nat.pow_succ]; omega
  exact if_pos ⟨h, Nat.lt_of_lt_of_le (PySem.Flt.log2_lt_of (by omega) hb') (by omega)⟩
theorem div_ok {i j : Int} {b : Nat} (h : 0 < j) (hb : j.natAbs < 2 ^ b) (h2 : b < 9000) : divM i j = .ok (i / j) := by
  rw [div_any (by omega) hb h2, Int.fdiv_eq_ediv_of_nonneg _ (Int.le_of_lt h)]
theorem mod_ok {i j : Int} (h : 0 < j) : modM i j = .ok (i % j) := by
  unfold modM
  rw [if_pos (by omega), Int.fmod_eq_emod_of_nonneg _ (Int.le_of_lt h)]
theorem mod_ne {i j : Int} (h : j ≠ 0) : modM i j = .ok (i.fmod j) := by
  unfold modM
  rw [if_pos h]
/-! ### fractions -/
def fr (q : Rat) : Int × Int := (q.num, (q.den : Int))
def Sq (n : Nat) (q : Rat) : Prop := q.num.natAbs < 2 ^ n ∧ q.den < 2 ^ n
theorem fr_nat (a : Int) {d : Nat} (h : d ≠ 0) : fr ((a : Rat) / (d : Rat)) = (a / ((Nat.gcd a.natAbs d : Nat) : Int), ((d / Nat.gcd a.natAbs d : Nat) : Int)) := by
  unfold fr
  rw [← Rat.mkRat_eq_div, Rat.num_mkRat, Rat.den_mkRat, if_neg h, if_neg h, Nat.gcd_comm]
theorem fr_int (a : Int) {b : Int} (h : 0 < b) : fr ((a : Rat) / (b : Rat)) = (a / ((Nat.gcd a.natAbs b.natAbs : Nat) : Int), b / ((Nat.gcd a.natAbs b.natAbs : Nat) : Int)) := by
  obtain ⟨d, rfl⟩ := Int.eq_ofNat_of_zero_le (Int.le_of_lt h)
  have hd : d ≠ 0 := by omega
  have := fr_nat a hd
  rw [Int.natAbs_natCast, ← Int.natCast_ediv]
  exact this
theorem gcd_pos_int {a b : Int} (h : 0 < b) : 0 < ((Nat.gcd a.natAbs b.natAbs : Nat) : Int) := by
  have : 0 < Nat.gcd a.natAbs b.natAbs := Nat.gcd_pos_of_pos_right _ (by omega)
  omega
theorem gcd_le_int {a b : Int} (h : 0 < b) : ((Nat.gcd a.natAbs b.natAbs : Nat) : Int).natAbs ≤ b.natAbs := by
  rw [Int.natAbs_natCast]
  exact Nat.gcd_le_right _ (by omega)
theorem den_posI (q : Rat) : 0 < (q.den : Int) := by
  have := q.den_nz
  omega
theorem fr_val (q : Rat) : ((fr q).1 : Rat) / ((fr q).2 : Rat) = q := by
  have h := Rat.mkRat_eq_div q.num q.den
  rw [Rat.mkRat_self] at h
  unfold fr
  rw [show (((q.den : Nat) : Int) : Rat) = ((q.den : Nat) : Rat) from rfl]
  exact h.symm
theorem sq_div {n : Nat} {a b : Int} (h : 0 < b) (ha : a.natAbs < 2 ^ n) (hb : b.natAbs < 2 ^ n) : Sq n ((a : Rat) / (b : Rat)) := by
  have e := fr_int a h
  unfold fr at e
  simp only [Prod.mk.injEq] at e
  obtain ⟨e1, e2⟩ := e
  unfold Sq
  have g0 := gcd_pos_int (a := a) h
  constructor
  · rw [e1]
    exact Nat.lt_of_le_of_lt (Int.natAbs_ediv_le_natAbs _ _) ha
  · have : ((a : Rat) / (b : Rat)).den = (((a : Rat) / (b : Rat)).den : Int).natAbs := by omega
    rw [this, e2]
    exact Nat.lt_of_le_of_lt (Int.natAbs_ediv_le_natAbs _ _) hb
theorem two_le (n : Nat) : 1 ≤ 2 ^ n := Nat.one_le_two_pow
theorem add_lt {x y : Int} {a b n : Nat} (ha : x.natAbs < 2 ^ a) (hb : y.natAbs < 2 ^ b) (h : a < n) (h' : b < n) : (x + y).natAbs < 2 ^ n := by
  have e1 : 2 ^ a ≤ 2 ^ (n - 1) := Nat.pow_le_pow_right (by decide) (by omega)
  have e2 : 2 ^ b ≤ 2 ^ (n - 1) := Nat.pow_le_pow_right (by decide) (by omega)
  have e3 : 2 ^ n = 2 * 2 ^ (n - 1) := by
    rw [← Nat.pow_succ']
    congr 1
    omega
  omega
theorem sub_lt {x y : Int} {a b n : Nat} (ha : x.natAbs < 2 ^ a) (hb : y.natAbs < 2 ^ b) (h : a < n) (h' : b < n) : (x - y).natAbs < 2 ^ n := by
  have := add_lt (x := x) (y := -y) ha (by omega) h h'
  rwa [Int.sub_eq_add_neg]
theorem mul_lt {x y : Int} {a b n : Nat} (ha : x.natAbs < 2 ^ a) (hb : y.natAbs < 2 ^ b) (h : a + b ≤ n) : (x * y).natAbs < 2 ^ n :=
  Nat.lt_of_lt_of_le (wide_lt ha hb) (Nat.pow_le_pow_right (by decide) h)
theorem up_lt {x : Int} {a n : Nat} (ha : x.natAbs < 2 ^ a) (h : a ≤ n) : x.natAbs < 2 ^ n := Nat.lt_of_lt_of_le ha (Nat.pow_le_pow_right (by decide) h)
theorem Sq.up {q : Rat} {a n : Nat} (h : Sq a q) (l : a ≤ n) : Sq n q := ⟨up_lt h.1 l, Nat.lt_of_lt_of_le h.2 (Nat.pow_le_pow_right (by decide) l)⟩
theorem Sq.d {q : Rat} {a : Nat} (h : Sq a q) : ((q.den : Nat) : Int).natAbs < 2 ^ a := by rw [Int.natAbs_natCast]; exact h.2
theorem rat_add (p q : Rat) : p + q = ((p.num * (q.den : Int) + q.num * (p.den : Int) : Int) : Rat) / (((p.den : Int) * (q.den : Int) : Int) : Rat) := by
  have a := fr_val p
  have b := fr_val q
  unfold fr at a b
  have x : ((p.den : Int) : Rat) ≠ 0 := by
    have := den_posI p
    intro z
    have := Rat.intCast_inj.mp (show ((p.den : Int) : Rat) = ((0 : Int) : Rat) from z)
    omega
  have y : ((q.den : Int) : Rat) ≠ 0 := by
    have := den_posI q
    intro z
    have := Rat.intCast_inj.mp (show ((q.den : Int) : Rat) = ((0 : Int) : Rat) from z)
    omega
  push_cast
  push_cast at a b x y
  grind
theorem rat_mul (p q : Rat) : p * q = ((p.num * q.num : Int) : Rat) / (((p.den : Int) * (q.den : Int) : Int) : Rat) := by
  have a := fr_val p
  have b := fr_val q
  unfold fr at a b
  push_cast
  push_cast at a b
  grind
theorem rat_div (p q : Rat) : p / q = ((p.num * (q.den : Int) : Int) : Rat) / (((p.den : Int) * q.num : Int) : Rat) := by
  have a := fr_val p
  have b := fr_val q
  unfold fr at a b
  push_cast
  push_cast at a b
  grind
theorem sq_add {p q : Rat} {a b n : Nat} (ha : Sq a p) (hb : Sq b q) (h : a + b < n) : Sq n (p + q) := by
  rw [rat_add]
  refine sq_div (Int.mul_pos (den_posI p) (den_posI q)) ?_ (mul_lt ha.d hb.d (by omega))
  exact add_lt (mul_lt ha.1 hb.d (Nat.le_refl _)) (mul_lt hb.1 ha.d (Nat.le_refl _)) (by omega) (by omega)
theorem sq_mul {p q : Rat} {a b n : Nat} (ha : Sq a p) (hb : Sq b q) (h : a + b ≤ n) : Sq n (p * q) := by
  rw [rat_mul]
  exact sq_div (Int.mul_pos (den_posI p) (den_posI q)) (mul_lt ha.1 hb.1 h) (mul_lt ha.d hb.d h)
theorem num_pos' {q : Rat} (h : 0 < q) : 0 < q.num := by
  have := Rat.num_nonneg (q := q)
  have h1 : 0 ≤ q.num := this.mpr (Rat.le_of_lt h)
  have h2 : q.num ≠ 0 := fun z => by
    have : q = 0 := Rat.num_eq_zero.mp z
    rw [this] at h
    exact absurd h (by decide)
  omega
theorem sq_quo {p q : Rat} {a b n : Nat} (ha : Sq a p) (hb : Sq b q) (hq : 0 < q) (h : a + b ≤ n) : Sq n (p / q) := by
  rw [rat_div]
  exact sq_div (Int.mul_pos (den_posI p) (num_pos' hq)) (mul_lt ha.1 hb.d h) (mul_lt ha.d hb.1 h)
theorem fr_inj {p q : Rat} (h : fr p = fr q) : p = q := by
  have a := fr_val p
  rw [h, fr_val] at a
  exact a.symm
end Wk

set_option Elab.async false
set_option linter.all false
set_option maxRecDepth 100000
namespace Wk
open PySem L2 Evl
section
variable {K : PySem.W.Frag} {M : List Addr} {F F' H H' : Hp} {Q : VK} {α : Type} {en : α → PyData} {l l' : List α} {xs ys : List V} {a b p : Addr} {v : V} {ds : List PyData}
/-! ### None or a value -/
theorem sh_eO [DecidableEq α] {f : α → PyData} {n : Nat} (s : Sh f n) (h1 : ∀ a, PyData.eqv .none (f a) = false := by intro a; rfl) (h2 : ∀ a, PyData.eqv (f a) .none = false := by intro a; rfl) : Sh (eO f) (n + 1) :=
  ⟨fun o => by cases o with
    | none => rfl
    | some a => exact s.lay a, fun o => by cases o with
    | none => simp [eO, PyData.depth]
    | some a => exact Nat.le_succ_of_le (s.dep a), fun o o' => by
      cases o with
      | none => cases o' with
        | none => simp [eO, PyData.eqv]
        | some b => rw [show eO f none = .none from rfl, show eO f (some b) = f b from rfl, h1]; simp
      | some a => cases o' with
        | none => rw [show eO f none = .none from rfl, show eO f (some a) = f a from rfl, h2]; simp
        | some b => rw [show eO f (some a) = f a from rfl, show eO f (some b) = f b from rfl, s.eq]; simp⟩
theorem isN_go {o : Option α} {Q : VK} (h : Dq K F v (eO en o)) (q : Q (.bl o.isNone) H) (hn : ∀ a, en a ≠ .none := by intro a; exact fun h => nomatch h) : (fun (x : V) (H1 : Hp) => Q (.bl (decide (x = V.non))) H1) v H := by
  show Q (.bl (decide (v = V.non))) H
  rw [none_O h hn]
  exact q
def getO {α : Type} (o : Option α) : Mm α := match o with
  | some a => .ok a
  | none => .bad
theorem post_getO {β : Type} {f : α → Mm β} {r : β → Prop} {q : Er → Prop} {o : Option α} (h : Post ((getO o).bd f) r q) : ∃ a, o = some a ∧ Post (f a) r q := by
  cases o with
  | none => exact h.h.elim
  | some a => exact ⟨a, rfl, ⟨h.h⟩⟩
theorem dq_some {o : Option α} {x : α} (d : Dq K F v (eO en o)) (h : o = some x) : Dq K F v (en x) := by
  subst h
  exact d
/-! ### a list display with a list in it -/
theorem new_star {pre : List V} {pm : List α} (e : Ex F H) (a : DqAll K F pre (pm.map en)) (b : DqAll K F xs (l.map en)) (hl : pm.length + l.length ≤ 100000) (k : Ret M F H (fun F' _ v => Dq K F' v (eL en (pm ++ l))) Q) :
    (pre ++ (xs ++ [])).length ≤ sizeLine ∧ ∀ p, H p = none → Q (.ref p) (upd H p (.lst (pre ++ (xs ++ [])))) := by
  rw [List.append_nil]
  refine new_lst e (ds := (pm ++ l).map en) ?_ ?_ k
  · rw [List.map_append]
    exact a.app b
  · rw [List.length_append, a.len, b.len, List.length_map, List.length_map]
    exact hl
/-- a tuple of any values -/
theorem new_tupR (e : Ex F H) (hl : xs.length ≤ 100000) (k : ∀ p F' H', Gm M F H F' H' → SqT K F' p xs → Q (.ref p) H') : xs.length ≤ sizeLine ∧ ∀ p, H p = none → Q (.ref p) (upd H p (.tup xs)) :=
  ⟨sz_of hl, fun p hp => k p _ _ (Gm.new e hp) (st_of upd_same)⟩
/-! ### an item is set -/
def setM {α : Type} (l : List α) (i : Int) (v : α) : Mm (List α) := match ixN l.length i with
  | some j => .ok (l.set j v)
  | none => .bad
theorem post_set {β : Type} {f : List α → Mm β} {r : β → Prop} {q : Er → Prop} {i : Int} {x : α} (h : Post ((setM l i x).bd f) r q) : ∃ m j, ixN l.length i = some j ∧ l.set j x = m ∧ Post (f m) r q := by
  unfold setM at h
  cases e : ixN l.length i with
  | none =>
    rw [e] at h
    exact h.h.elim
  | some j =>
    rw [e] at h
    exact ⟨_, j, rfl, rfl, ⟨h.h⟩⟩
theorem all_ix {i : Int} {j : Nat} (a : DqAll K F xs (l.map en)) (h : ixN l.length i = some j) : ixN xs.length i = some j := by
  rw [a.len, List.length_map]
  exact h
theorem dqAll_set {v : V} {d : PyData} : ∀ {xs : List V} {ds : List PyData} (j : Nat), DqAll K F xs ds → Dq K F v d → DqAll K F (xs.set j v) (ds.set j d)
  | _, _, j, .nil, _ => .nil
  | _, _, 0, .cons _ b, h => .cons h b
  | _, _, j + 1, .cons a b, h => .cons a (dqAll_set j b h)
theorem all_set {j : Nat} {x : α} {m : List α} (a : DqAll K F xs (l.map en)) (h : Dq K F v (en x)) (e : l.set j x = m) : DqAll K F (xs.set j v) (m.map en) := by
  subst e
  rw [List.map_set]
  exact dqAll_set j a h
end
section
variable {K : PySem.W.Frag} {M : List Addr} {F H : Hp} {σ : L2.St} {g : TG} {tt : TT} {te : TE} {vs : List Nat} {α β γ : Type} {l : List α} {ok : β → Prop} {ex : Er → Prop} {J : It} {R : Hp → V → α → Prop} {Q : VK}
theorem lc_fil {f : α → Mm (Option γ)} {rest : List γ → Mm β} (w : Wlk M F H J l R) (en : γ → PyData) (k : Post ((filMm f l).bd rest) ok ex) (e : Ex F H) (hz : l.length ≤ 50000) (hM : ∀ D, H D = none → D ∉ M)
    (hb : ∀ x v F1 H1 F2 H2, Gm M F H F1 H1 → Gm [] F1 H1 F2 H2 → R F2 v x → ∀ Q' : Option V → Hp → Prop, Post (f x) (fun o => ∀ F3 H3 v, Gm M F1 H1 F3 H3 → (match o with
        | some y => ∃ u, v = some u ∧ Dq K F3 u (en y)
        | none => v = none) → Q' v H3) (fun _ => False) →
      g v (wipe σ vs) H2 fun σ2 H3 => wipe σ2 vs = wipe σ vs ∧ tt σ2 H3 fun b H4 => if b = true then te σ2 H4 fun y H5 => Q' (some y) H5 else Q' none H4)
    (hx : ∀ e, ¬ ex e) (kk : ∀ (r : List γ) v F' H', Gm M F H F' H' → Dq K F' v (eL en r) → Post (rest r) ok ex → Q v H') (mono : GMon g) :
    ∀ D, H D = none → ∃ W : Nat → Nat → Hp → Prop, (∃ m, W 0 m (upd H D (.lst []))) ∧ ∀ i m H, W i m H →
      (J.stop i H ∧ Q (.ref D) H) ∨ (J.go i H ∧ ∃ Nx : Hp → Prop, (∀ H', Nx H' → ∃ m', m' < m ∧ W (i + 1) m' H') ∧ ∀ x H', J.yld i H x H' → g x (wipe σ vs) H' fun σ2 H2 => wipe σ2 vs = wipe σ vs ∧ tt σ2 H2 fun b H3 =>
        if b = true then te σ2 H3 fun y H4 => ∃ acc, H4 D = some (.lst acc) ∧ acc.length < sizeLine ∧ Nx (upd H4 D (.lst (acc ++ [y]))) else Nx H3) := by
  obtain ⟨n, G, Y, w, hn, hG, hY⟩ := w.ex
  rw [filMm_comp, bd_assoc] at k
  refine lc_mir w en (fun _ _ _ => True) k e trivial stab_t hn hz hG hM (fun i s x v F' H' H'' g' _ hx y Q' k' => ?_) hx (fun r v F' H' g' _ d k' => kk r.1 v F' H' g' d k')
  obtain ⟨F'', g2, r⟩ := hY i x v F' H' H'' g' hx y
  exact hb x v F' H' F'' H'' g' g2 r Q' ((post_bd k').mono (fun o q F3 H3 v g3 d => q.h F3 H3 v g3 trivial (by cases o <;> exact d)) fun _ z => z)
end
end Wk

set_option Elab.async false
set_option linter.all false
set_option maxRecDepth 100000
set_option maxHeartbeats 2000000
namespace Wk
open PySem L2 Evl
theorem cdv_small {i j : Int} (h : j ≠ 0 ∧ j.natAbs < 1073741824) : CDv i j := by
  have e : j.natAbs < 2 ^ 30 := by have : (2 : Nat) ^ 30 = 1073741824 := by decide
                                   omega
  exact ⟨h.1, Nat.lt_of_lt_of_le (PySem.Flt.log2_lt_of (by decide) e) (by decide)⟩
/-! ### and, or: the second operand draws -/
section
variable {M : List Addr} {F H : Hp} {σ : L2.St} {α S : Type} {a : Bool} {Y : Mm (Bool × S)} {rest : Bool × S → Mm α} {st : S} {ok : α → Prop} {ex : Er → Prop} {Q : Bool → Hp → Prop} {u : TT} {QV : VK} {uE : TE}
theorem and_jS (W : S → Hp → Hp → Prop) (e : Ex F H) (h0 : W st F H) (k : Post ((cond a Y (.ok (false, st))).bd rest) ok ex)
    (hu : a = true → ∀ Q' : Bool → Hp → Prop, Post Y (fun b => ∀ F' H', Gm M F H F' H' → W b.2 F' H' → Q' b.1 H') ex → u σ H Q')
    (kk : ∀ b F' H', Gm M F H F' H' → W b.2 F' H' → Post (rest b) ok ex → Q b.1 H') : if a = true then u σ H Q else Q false H := by
  cases a with
  | false => rw [if_neg Bool.false_ne_true]; exact kk (false, st) F H (Gm.refl e) h0 ⟨k.h⟩
  | true => rw [if_pos rfl]; exact hu rfl Q ((post_bd k).mono (fun b q F' H' g s => kk b F' H' g s q) fun _ z => z)
theorem or_jS (W : S → Hp → Hp → Prop) (e : Ex F H) (h0 : W st F H) (k : Post ((cond a (.ok (true, st)) Y).bd rest) ok ex)
    (hu : a = false → ∀ Q' : Bool → Hp → Prop, Post Y (fun b => ∀ F' H', Gm M F H F' H' → W b.2 F' H' → Q' b.1 H') ex → u σ H Q')
    (kk : ∀ b F' H', Gm M F H F' H' → W b.2 F' H' → Post (rest b) ok ex → Q b.1 H') : if a = true then Q true H else u σ H Q := by
  cases a with
  | true => rw [if_pos rfl]; exact kk (true, st) F H (Gm.refl e) h0 ⟨k.h⟩
  | false => rw [if_neg Bool.false_ne_true]; exact hu rfl Q ((post_bd k).mono (fun b q F' H' g s => kk b F' H' g s q) fun _ z => z)
/-- as values -/
theorem andV_jS (W : S → Hp → Hp → Prop) (e : Ex F H) (h0 : W st F H) (k : Post ((cond a Y (.ok (false, st))).bd rest) ok ex)
    (hu : a = true → ∀ Q' : VK, Post Y (fun b => ∀ F' H', Gm M F H F' H' → W b.2 F' H' → Q' (.bl b.1) H') ex → uE σ H Q')
    (kk : ∀ b F' H', Gm M F H F' H' → W b.2 F' H' → Post (rest b) ok ex → QV (.bl b.1) H') : if a = true then uE σ H QV else QV (.bl false) H := by
  cases a with
  | false => rw [if_neg Bool.false_ne_true]; exact kk (false, st) F H (Gm.refl e) h0 ⟨k.h⟩
  | true => rw [if_pos rfl]; exact hu rfl QV ((post_bd k).mono (fun b q F' H' g s => kk b F' H' g s q) fun _ z => z)
theorem orV_jS (W : S → Hp → Hp → Prop) (e : Ex F H) (h0 : W st F H) (k : Post ((cond a (.ok (true, st)) Y).bd rest) ok ex)
    (hu : a = false → ∀ Q' : VK, Post Y (fun b => ∀ F' H', Gm M F H F' H' → W b.2 F' H' → Q' (.bl b.1) H') ex → uE σ H Q')
    (kk : ∀ b F' H', Gm M F H F' H' → W b.2 F' H' → Post (rest b) ok ex → QV (.bl b.1) H') : if a = true then QV (.bl true) H else uE σ H QV := by
  cases a with
  | true => rw [if_pos rfl]; exact kk (true, st) F H (Gm.refl e) h0 ⟨k.h⟩
  | false => rw [if_neg Bool.false_ne_true]; exact hu rfl QV ((post_bd k).mono (fun b q F' H' g s => kk b F' H' g s q) fun _ z => z)
end
/-! ### own lists: as data, repeated, popped -/
section
variable {K : PySem.W.Frag} {M : List Addr} {F F' H H' : Hp} {Q : VK} {α : Type} {en : α → PyData} {l m : List α} {xs ys : List V} {a p : Addr} {v : V} {j : Int}
theorem own_dp (h : H p = some (.lst xs)) (a : DqAll K F xs (l.map en)) (e : Ex F H) : Dp K H (.ref p) (eL en l) := .lst (sq_of h) (dqAll_dp _ _ (a.up e))
def repM {α : Type} (l : List α) (k : Int) : Mm (List α) := if -(2 ^ 63) ≤ k ∧ k < 2 ^ 63 ∧ l.length * k.toNat ≤ 100000 then .ok (List.replicate k.toNat l).flatten else .bad
theorem post_rep {β : Type} {f : List α → Mm β} {r : β → Prop} {q : Er → Prop} (h : Post ((repM l j).bd f) r q) : ∃ m, (-(2 ^ 63) ≤ j ∧ j < 2 ^ 63 ∧ l.length * j.toNat ≤ 100000) ∧ (List.replicate j.toNat l).flatten = m ∧ Post (f m) r q := by
  unfold repM at h
  split at h
  · exact ⟨_, ‹_›, rfl, ⟨h.h⟩⟩
  · exact h.h.elim
theorem all_rep (d : DqAll K F xs (l.map en)) : ∀ n : Nat, DqAll K F (List.replicate n xs).flatten ((List.replicate n l).flatten.map en)
  | 0 => .nil
  | n + 1 => by
    rw [List.replicate_succ, List.replicate_succ, List.flatten_cons, List.flatten_cons, List.map_append]
    exact d.app (all_rep d n)
theorem rep_sz (d : DqAll K F xs (l.map en)) {n : Nat} (h : l.length * n ≤ 100000) : xs.length * n ≤ sizeLine := sz_of (by rw [d.len, List.length_map]; exact h)
theorem rep_lst (e : Ex F H) (s : H a = some (.lst xs)) (d : DqAll K F xs (l.map en)) (h : -(2 ^ 63) ≤ j ∧ j < 2 ^ 63 ∧ l.length * j.toNat ≤ 100000) (hm : (List.replicate j.toNat l).flatten = m) (k : Ret M F H (fun F' _ v => Dq K F' v (eL en m)) Q) : rRep (.ref a) (.int j) H Q := by
  subst hm
  refine ⟨a, j, xs, rfl, rfl, s, h.1, h.2.1, rep_sz d h.2.2, fun p hp => ?_⟩
  have g : Gm M F H (upd F p (.lst (List.replicate j.toNat xs).flatten)) (upd H p (.lst (List.replicate j.toNat xs).flatten)) := Gm.new e hp
  exact k _ _ _ g (.lst upd_same ((all_rep d _).up g.f))
theorem rep_own (e : Ex F H) (s : H a = some (.lst xs)) (d : DqAll K F xs (l.map en)) (h : -(2 ^ 63) ≤ j ∧ j < 2 ^ 63 ∧ l.length * j.toNat ≤ 100000) (k : ∀ p H', Gm [] F H F H' → H p = none → (H' p = some (.lst (List.replicate j.toNat xs).flatten) ∧ F p = none) → Q (.ref p) H') : rRep (.ref a) (.int j) H Q :=
  ⟨a, j, xs, rfl, rfl, s, h.1, h.2.1, rep_sz d h.2.2, own_of e k⟩
theorem all_repM (d : DqAll K F xs (l.map en)) (hm : (List.replicate j.toNat l).flatten = m) : DqAll K F (List.replicate j.toNat xs).flatten (m.map en) := by
  subst hm
  exact all_rep d _
def popN {α : Type} (l : List α) : Mm (List α) := match l with
  | [] => .bad
  | x :: r => .ok (x :: r).dropLast
theorem post_pop {β : Type} {f : List α → Mm β} {r : β → Prop} {q : Er → Prop} (h : Post ((popN l).bd f) r q) : l ≠ [] ∧ Post (f l.dropLast) r q := by
  cases l with
  | nil => exact h.h.elim
  | cons x l => exact ⟨by simp, ⟨h.h⟩⟩
theorem all_pop (d : DqAll K F xs (l.map en)) : DqAll K F xs.dropLast (l.dropLast.map en) := by
  have e1 : xs.dropLast = xs.take (xs.length - 1) := List.dropLast_eq_take
  have e2 : l.dropLast.map en = (l.map en).take (xs.length - 1) := by
    rw [List.dropLast_eq_take, List.map_take, d.len, List.length_map]
  rw [e1, e2]
  exact d.take _
theorem pop_at (d : DqAll K F xs (l.map en)) (h : l ≠ []) : ∃ y, xs[xs.length - 1]? = some y := by
  have n : xs.length = l.length := by rw [d.len, List.length_map]
  have : 0 < l.length := List.length_pos_iff.mpr h
  exact ⟨_, List.getElem?_eq_getElem (by omega)⟩
end
/-! ### range that goes down -/
def rangeDn (lo : Int) (n : Nat) : List Int := (List.range n).map fun (i : Nat) => lo - (i : Int)
def rangeM3 (i j : Int) : Mm (List Int) := if -(2 ^ 62) ≤ i ∧ i < 2 ^ 62 ∧ -(2 ^ 62) ≤ j ∧ j < 2 ^ 62 then .ok (rangeDn i (i - j).toNat) else .bad
section
variable {β : Type} {r : β → Prop} {q : Er → Prop} {i j : Int} {f : List Int → Mm β}
theorem post_range3 (h : Post ((rangeM3 i j).bd f) r q) : RgC i j (-1) (i - j).toNat ∧ Post (f (rangeDn i (i - j).toNat)) r q := by
  unfold rangeM3 at h
  split at h
  · rename_i c
    exact ⟨RgC.neg c.1 c.2.1 c.2.2.1 c.2.2.2, ⟨h.h⟩⟩
  · exact h.h.elim
theorem rangeDn_at {lo : Int} {n i : Nat} {x : Int} (h : (rangeDn lo n)[i]? = some x) : x = lo - i := by
  unfold rangeDn at h
  rw [List.getElem?_map] at h
  cases e : (List.range n)[i]? with
  | none => rw [e] at h; cases h
  | some j =>
    rw [e] at h
    obtain ⟨h1, h2⟩ := List.getElem?_eq_some_iff.mp e
    rw [List.getElem_range] at h2
    subst h2
    exact (Option.some.inj h).symm
theorem wlk_rangeDn {M : List Addr} {F H : Hp} {lo : Int} {n : Nat} : Wlk M F H (Itc lo (-1) n) (rangeDn lo n) (fun _ v x => v = V.int x) := by
  refine ⟨_, _, _, walk_rangeC (lo := lo) (c := -1) (n := n), by simp [rangeDn], fun _ _ _ => trivial, fun i x v F' H' H'' g' hx y => ?_⟩
  obtain ⟨rfl, hv⟩ := y
  rw [rangeDn_at hx]
  have e2 : lo + (i : Int) * (-1) = lo - (i : Int) := by omega
  rw [← e2]
  exact ⟨F', Gm.refl g'.s, hv⟩
end
/-! ### comprehensions whose list may change -/
section
variable {K : PySem.W.Frag} {M : List Addr} {F H : Hp} {σ : L2.St} {g : TG} {tt : TT} {te : TE} {vs : List Nat} {α β γ S : Type} {l : List α} {f : S → α → Mm (Option γ × S)} {rest : List γ × S → Mm β} {ok : β → Prop} {ex : Er → Prop} {s0 : S} {J : It} {n : Nat} {G : Hp → Prop} {Y : Nat → Hp → V → Hp → Prop} {Q : VK}
theorem lc_mirO (w : Walk J n G Y) (en : γ → PyData) (I : S → Hp → Hp → Prop) (k : Post ((compM f s0 l).bd rest) ok ex) (e : Ex F H) (h0 : I s0 F H) (st : Stab I H) (hn : l.length = n) (hz : l.length ≤ 50000) (hG : ∀ F' H', Gm M F H F' H' → G H')
    (hM : ∀ D, H D = none → D ∉ M)
    (hb : ∀ i s x v F' H' H'', Gm M F H F' H' → I s F' H' → l[i]? = some x → Y i H' v H'' → ∀ Q : Option V → Hp → Prop,
      Post (f s x) (fun o => ∀ F2 H2 v, Gm M F' H' F2 H2 → I o.2 F2 H2 → (match o.1 with
        | some y => ∃ u, v = some u ∧ Dq K F2 u (en y)
        | none => v = none) → Q v H2) (fun _ => False) →
      g v (wipe σ vs) H'' fun σ2 H2 => wipe σ2 vs = wipe σ vs ∧ tt σ2 H2 fun b H3 => if b = true then te σ2 H3 fun y H4 => Q (some y) H4 else Q none H3)
    (hx : ∀ e, ¬ ex e)
    (kk : ∀ (r : List γ × S) D xs F' H', Gm M F H F' H' → I r.2 F' H' → H D = none → (H' D = some (.lst xs) ∧ F' D = none) → DqAll K F' xs (r.1.map en) → Post (rest r) ok ex → Q (.ref D) H') :
    ∀ D, H D = none → ∃ W : Nat → Nat → Hp → Prop, (∃ m, W 0 m (upd H D (.lst []))) ∧ ∀ i m H, W i m H →
      (J.stop i H ∧ Q (.ref D) H) ∨ (J.go i H ∧ ∃ Nx : Hp → Prop, (∀ H', Nx H' → ∃ m', m' < m ∧ W (i + 1) m' H') ∧ ∀ x H', J.yld i H x H' → g x (wipe σ vs) H' fun σ2 H2 => wipe σ2 vs = wipe σ vs ∧ tt σ2 H2 fun b H3 =>
        if b = true then te σ2 H3 fun y H4 => ∃ acc, H4 D = some (.lst acc) ∧ acc.length < sizeLine ∧ Nx (upd H4 D (.lst (acc ++ [y]))) else Nx H3) := by
  intro D hD
  have k0 : Post ((compM f s0 (l.drop 0)).bd fun r => rest ([] ++ r.1, r.2)) ok ex := by simpa using k
  refine lc_it w (fun i H' => ∃ (s : S) (acc : List γ) (xs : List V) (F' : Hp), Gm M F H F' H' ∧ I s F' H' ∧ H' D = some (.lst xs) ∧ F' D = none ∧ DqAll K F' xs (acc.map en) ∧ xs.length ≤ i ∧ Post ((compM f s (l.drop i)).bd fun r => rest (acc ++ r.1, r.2)) ok ex)
    ⟨s0, [], [], F, Gm.newM e hD, st.put s0 F H D _ h0 hD, upd_same, ?_, .nil, Nat.le_refl _, k0⟩ (fun i H' _ ⟨s, acc, xs, F', g', _⟩ => hG F' H' g') ?_ ?_
  · cases q : F D with
    | none => rfl
    | some u => rw [e D u q] at hD; cases hD
  · rintro i v H' H'' hi ⟨s, acc, xs, F', g', i', hL, fL, ha, hlen, k'⟩ y
    have hl : i < l.length := by omega
    have e1 : l.drop i = l[i] :: l.drop (i + 1) := List.drop_eq_getElem_cons hl
    rw [e1] at k'
    have k2 := comp_post k'
    have hDM : D ∉ M := hM D hD
    have z := hb i s l[i] v F' H' H'' g' i' (List.getElem?_eq_getElem hl) y (fun o H4 => match o with
      | some y => ∃ acc', H4 D = some (.lst acc') ∧ acc'.length < sizeLine ∧ ∃ (s : S) (acc : List γ) (xs : List V) (F' : Hp), Gm M F H F' (upd H4 D (.lst (acc' ++ [y]))) ∧ I s F' (upd H4 D (.lst (acc' ++ [y]))) ∧ (upd H4 D (.lst (acc' ++ [y]))) D = some (.lst xs) ∧ F' D = none ∧ DqAll K F' xs (acc.map en) ∧ xs.length ≤ i + 1 ∧ Post ((compM f s (l.drop (i + 1))).bd fun r => rest (acc ++ r.1, r.2)) ok ex
      | none => ∃ (s : S) (acc : List γ) (xs : List V) (F' : Hp), Gm M F H F' H4 ∧ I s F' H4 ∧ H4 D = some (.lst xs) ∧ F' D = none ∧ DqAll K F' xs (acc.map en) ∧ xs.length ≤ i + 1 ∧ Post ((compM f s (l.drop (i + 1))).bd fun r => rest (acc ++ r.1, r.2)) ok ex)
      (k2.mono (fun o q F2 H2 v2 g2 i2 hv => ?_) fun e z => (hx e z).elim)
    · exact z
    · obtain ⟨h2L, f2L⟩ := g2.own hDM hL fL
      obtain ⟨o1, o2⟩ := o
      cases o1 with
      | some y =>
        obtain ⟨u, rfl, hu⟩ := hv
        refine ⟨xs, h2L, sz_lt (by omega), o2, acc ++ [y], xs ++ [u], F2, ?_, st.put _ _ _ _ _ i2 hD, upd_same, f2L, ?_, ?_, ?_⟩
        · exact (g'.trans g2).putYoung h2L f2L hD
        · rw [List.map_append]; exact (ha.up g2.f).app (.cons hu .nil)
        · rw [List.length_append, List.length_singleton]; omega
        · simpa using q
      | none =>
        subst hv
        refine ⟨o2, acc, xs, F2, g'.trans g2, i2, h2L, f2L, ha.up g2.f, by omega, ?_⟩
        simpa using q
  · rintro H' ⟨s, acc, xs, F', g', i', hL, fL, ha, hlen, k'⟩
    rw [← hn, List.drop_length] at k'
    exact kk (acc, s) D xs F' H' g' i' hD ⟨hL, fL⟩ ha (by simpa [compM] using k')
end
section
variable {K : PySem.W.Frag} {M : List Addr} {F H : Hp} {σ : L2.St} {g : TG} {tt : TT} {te : TE} {vs : List Nat} {α β γ S : Type} {l : List α} {ok : β → Prop} {ex : Er → Prop} {s0 : S} {J : It} {R : Hp → V → α → Prop} {Q : VK}
theorem lc_mapO {f : α → Mm γ} {rest : List γ → Mm β} (w : Wlk M F H J l R) (en : γ → PyData) (k : Post ((mapMm f l).bd rest) ok ex) (e : Ex F H) (hz : l.length ≤ 50000) (hM : ∀ D, H D = none → D ∉ M)
    (hb : ∀ x v F1 H1 F2 H2, Gm M F H F1 H1 → Gm [] F1 H1 F2 H2 → R F2 v x → ∀ Q : VK, Post (f x) (fun y => Ret M F1 H1 (fun F3 _ u => Dq K F3 u (en y)) Q) (fun _ => False) →
      g v (wipe σ vs) H2 fun σ2 H3 => wipe σ2 vs = wipe σ vs ∧ te σ2 H3 Q)
    (hx : ∀ e, ¬ ex e) (kk : ∀ (r : List γ) D xs F' H', Gm M F H F' H' → H D = none → (H' D = some (.lst xs) ∧ F' D = none) → DqAll K F' xs (r.map en) → Post (rest r) ok ex → Q (.ref D) H') (mono : GMon g) :
    ∀ D, H D = none → ∃ W : Nat → Nat → Hp → Prop, (∃ m, W 0 m (upd H D (.lst []))) ∧ ∀ i m H, W i m H →
      (J.stop i H ∧ Q (.ref D) H) ∨ (J.go i H ∧ ∃ Nx : Hp → Prop, (∀ H', Nx H' → ∃ m', m' < m ∧ W (i + 1) m' H') ∧ ∀ x H', J.yld i H x H' → g x (wipe σ vs) H' fun σ2 H2 => wipe σ2 vs = wipe σ vs ∧ tYes σ2 H2 fun b H3 =>
        if b = true then te σ2 H3 fun y H4 => ∃ acc, H4 D = some (.lst acc) ∧ acc.length < sizeLine ∧ Nx (upd H4 D (.lst (acc ++ [y]))) else Nx H3) := by
  obtain ⟨n, G, Y, w, hn, hG, hY⟩ := w.ex
  rw [mapMm_comp, bd_assoc] at k
  refine lc_mirO w en (fun _ _ _ => True) k e trivial stab_t hn hz hG hM (fun i s x v F' H' H'' g' _ hx y Q' k' => ?_) hx (fun r D xs F' H' g' _ hD o d k' => kk r.1 D xs F' H' g' hD o d k')
  obtain ⟨F'', g2, r⟩ := hY i x v F' H' H'' g' hx y
  refine mono _ _ _ _ _ (fun σ2 H3 z => ⟨z.1, ?_⟩) (hb x v F' H' F'' H'' g' g2 r (fun u H4 => Q' (some u) H4) ((post_bd k').mono (fun y q u F3 H3 g3 d => q.h F3 H3 _ g3 trivial ⟨u, rfl, d⟩) fun _ z => z))
  exact tYes_of (iteT z.2)
theorem lc_stO {f : Rw → α → Mm (γ × Rw)} {s0 : Rw} {rest : List γ × Rw → Mm β} {sc ra : Addr} {scr : List Int} (w : Wlk [ra] F H J l R) (en : γ → PyData) (k : Post ((mapSt f s0 l).bd rest) ok ex) (e : Ex F H) (hz : l.length ≤ 50000) (h0 : RowAt K sc ra scr F H s0)
    (hb : ∀ s x v F1 H1 F2 H2, Gm [ra] F H F1 H1 → RowAt K sc ra scr F1 H1 s → Gm [] F1 H1 F2 H2 → R F2 v x → ∀ Q : VK, Post (f s x) (fun y => Ret [ra] F1 H1 (fun F3 H3 u => Dq K F3 u (en y.1) ∧ RowAt K sc ra scr F3 H3 y.2) Q) (fun _ => False) →
      g v (wipe σ vs) H2 fun σ2 H3 => wipe σ2 vs = wipe σ vs ∧ te σ2 H3 Q)
    (hx : ∀ e, ¬ ex e) (kk : ∀ (r : List γ × Rw) D xs F' H', Gm [ra] F H F' H' → H D = none → (H' D = some (.lst xs) ∧ F' D = none) → DqAll K F' xs (r.1.map en) → RowAt K sc ra scr F' H' r.2 → Post (rest r) ok ex → Q (.ref D) H') (mono : GMon g) :
    ∀ D, H D = none → ∃ W : Nat → Nat → Hp → Prop, (∃ m, W 0 m (upd H D (.lst []))) ∧ ∀ i m H, W i m H →
      (J.stop i H ∧ Q (.ref D) H) ∨ (J.go i H ∧ ∃ Nx : Hp → Prop, (∀ H', Nx H' → ∃ m', m' < m ∧ W (i + 1) m' H') ∧ ∀ x H', J.yld i H x H' → g x (wipe σ vs) H' fun σ2 H2 => wipe σ2 vs = wipe σ vs ∧ tYes σ2 H2 fun b H3 =>
        if b = true then te σ2 H3 fun y H4 => ∃ acc, H4 D = some (.lst acc) ∧ acc.length < sizeLine ∧ Nx (upd H4 D (.lst (acc ++ [y]))) else Nx H3) := by
  obtain ⟨n, G, Y, w, hn, hG, hY⟩ := w.ex
  rw [mapSt_comp] at k
  refine lc_mirO w en (fun s F H => RowAt K sc ra scr F H s) k e h0 (stab_row h0) hn hz hG (row_notM h0) (fun i s x v F' H' H'' g' i' hx y Q' k' => ?_) hx (fun r D xs F' H' g' i' hD o d k' => kk r D xs F' H' g' hD o d i' k')
  obtain ⟨F'', g2, r⟩ := hY i x v F' H' H'' g' hx y
  refine mono _ _ _ _ _ (fun σ2 H3 z => ⟨z.1, ?_⟩) (hb s x v F' H' F'' H'' g' i' g2 r (fun u H4 => Q' (some u) H4) ((post_bd k').mono (fun y q u F3 H3 g3 d => q.h F3 H3 _ g3 d.2 ⟨u, rfl, d.1⟩) fun _ z => z))
  exact tYes_of (iteT z.2)
end
end Wk

set_option Elab.async false
set_option linter.all false
set_option maxRecDepth 100000
set_option maxHeartbeats 4000000
namespace Wk
open PySem L2 Evl PySem.Spec PyProof.Rows
/-! ### zip of a tuple and a list -/
/-- the tuple at a and the list at b, side by side -/
def ItzM (K : PySem.W.Frag) (a b : Addr) : It :=
  ⟨fun n H => ∃ (us vs : List V) (u v : V), (SqT K H a us ∧ us[n]? = some u) ∧ SqL K H b vs ∧ vs[n]? = some v,
   fun n H r H' => ∃ c u v, r = .ref c ∧ H c = none ∧ H' = upd H c (.tup [u, v]) ∧ (∀ l, SqT K H a l → l[n]? = some u) ∧ ∀ l, SqL K H b l → l[n]? = some v,
   fun n H => ∃ us vs : List V, (SqT K H a us ∧ SqL K H b vs) ∧ (n ≤ us.length ∧ n ≤ vs.length) ∧ (n = us.length ∨ n = vs.length)⟩
/-- where such a zip stands -/
structure StM (z TI TO i1 i2 a b : Addr) (n : Nat) (h : Heap) : Prop where
  hz : IsZip h z TI TO .none
  hi : IsTupOf2 h TI (.ref i1) (.ref i2)
  ho : ∃ p q, IsTupOf2 h TO p q
  h1 : h.IsTupleIter i1 a n
  h2 : h.IsListIter i2 b n
theorem five {α : Type} {c z TI TO i1 i2 : α} (h : c ∈ [z, TI, TO, i1, i2]) : c = z ∨ c = TI ∨ c = TO ∨ c = i1 ∨ c = i2 := by simpa using h
theorem turn_zipM {P : Program} {w : World} {K : PySem.W.Frag} {es : List Expr} {kk : Nat} {tp : Pos} {a b z TI TO i1 i2 : Addr} (S : ZipSep2 z TI TO i1 i2 [i1, a] [i2, b]) (na : a ≠ i1) (nb : b ≠ i2) :
    Turn P w K (.Tuple es kk tp) (ItzM K a b) [z, TI, TO, i1, i2] z (StM z TI TO i1 i2 a b) where
  mem := by simp
  obj := fun n h st c hc => by
    obtain ⟨hz, hi, ⟨p, q, ho⟩, ⟨o1, e1, _, d1⟩, ⟨o2, e2, _, d2⟩⟩ := st
    rcases five hc with rfl | rfl | rfl | rfl | rfl
    · exact ⟨_, hz, fun _ k => nomatch k⟩
    · exact ⟨_, hi, fun _ k => nomatch k⟩
    · exact ⟨_, ho, fun _ k => nomatch k⟩
    · exact ⟨o1, e1, fun _ k => by rw [d1] at k; cases k⟩
    · exact ⟨o2, e2, fun _ k => by rw [d2] at k; cases k⟩
  keep := fun n h h' st k => by
    obtain ⟨hz, hi, ⟨p, q, ho⟩, h1, h2⟩ := st
    exact ⟨k z (by simp) _ hz, k TI (by simp) _ hi, ⟨p, q, k TO (by simp) _ ho⟩, h1.at fun o e => k i1 (by simp) o e, h2.at fun o e => k i2 (by simp) o e⟩
  item := by
    intro X hP hw hK hc n pins s σ H E I hf st hg
    subst hP hw hK
    obtain ⟨hz, hi, ⟨p0, q0, ho⟩, h1, h2⟩ := st
    obtain ⟨us, vs, u, v, ⟨qa, ga⟩, qb, gb⟩ := hg
    obtain ⟨A1, ra, pa, _⟩ := I.tuple qa
    obtain ⟨A2, rb, pb, _⟩ := I.list qb
    obtain ⟨x, hx, rx⟩ := ra.get ga
    obtain ⟨y, hy, ry⟩ := rb.get gb
    have lz : z < s.heap.objs.size := Heap.lt_size hz
    have pT : s.heap.IsTuple a A1.toArray := pa
    have pL : s.heap.IsList b A2.toArray := pb.isList
    have hand : X.A.in1.handled = none := I.ok.hd hc
    have D1 := Draws.tuple (prog := X.prog) (w := X.w) (A := X.A.in1) hand i1 a na A1.toArray
    have D2 := Draws.list (prog := X.prog) (w := X.w) (A := X.A.in1) hand i2 b nb A2.toArray
    have n1 : n < A1.toArray.size := by
      have := (List.getElem?_eq_some_iff.mp hx).1
      simpa using this
    have n2 : n < A2.toArray.size := by
      have := (List.getElem?_eq_some_iff.mp hy).1
      simpa using this
    refine wpAny_pyNext_zipD2_item S D1 D2 hz hi ho ⟨h1, pT⟩ ⟨h2, pL⟩ n1 n2 fun x' y' h' tk ex ey z' o' s1' s2' hT hsz hk => ?_
    have e1 : x = x' := by
      have k : A1.toArray[n]? = some x := by simpa using hx
      exact Option.some.inj (k.symm.trans ex)
    have e2 : y = y' := by
      have k : A2.toArray[n]? = some y := by simpa using hy
      exact Option.some.inj (k.symm.trans ey)
    subst e1 e2
    refine ⟨_, rfl, wpAny_letOwnedTupleGo_zip (s := { s with heap := h', toks := tk }) z' fun h'' z'' sb => ?_⟩
    have cell : h''.get? s.heap.objs.size = some { cls := .type "tuple", data := .seq #[x, y] } := (sb.2 _ (Nat.ne_of_gt lz)).trans hT
    have new : ObjOk X.prog X.w (upd H s.heap.objs.size (.tup [u, v])) h'' s.heap.objs.size (.tup [u, v]) := by
      refine ⟨?_, [x, y], .cons rx (.cons ry .nil), _, cell, rfl, _, rfl⟩
      show 2 ≤ sizeLine
      decide
    have same : ∀ c o, c ∉ [z, TI, TO, i1, i2] → s.heap.get? c = some o → h''.get? c = some o := fun c o hn e => by
      simp only [List.mem_cons, List.not_mem_nil, or_false, not_or] at hn
      exact (sb.2 c hn.1).trans (hk c o hn.1 hn.2.2.1 hn.2.2.2.1 hn.2.2.2.2 e)
    have J := I.turnedNew (t' := tk) (ch := [z, TI, TO, i1, i2]) same hf (Nat.le_refl _) new
    obtain ⟨it1, _⟩ := s1'
    obtain ⟨it2, _⟩ := s2'
    have dz : i1 ≠ z := fun e => S.zi1 e.symm
    have dz2 : i2 ≠ z := fun e => S.zi2 e.symm
    refine ⟨.ref s.heap.objs.size, _, J, rfl, ⟨_, u, v, rfl, I.hok.fresh (Nat.le_refl _), rfl, fun l hl => ?_, fun l hl => ?_⟩, ⟨z'', ?_, ⟨x, y, ?_⟩, it1.at fun o q => (sb.2 _ dz).trans q, it2.at fun o q => (sb.2 _ dz2).trans q⟩, fun c hc' => ?_⟩
    · rw [I.tuple_inj hl qa]
      exact ga
    · rw [I.list_inj hl qb]
      exact gb
    · exact (sb.2 _ S.TIz).trans (hk _ _ S.TIz S.TITO S.TIi1 S.TIi2 hi)
    · exact (sb.2 _ S.TOz).trans o'
    · have lt : c < s.heap.objs.size := by
        rcases five hc' with rfl | rfl | rfl | rfl | rfl
        · exact lz
        · exact Heap.lt_size hi
        · exact Heap.lt_size ho
        · obtain ⟨_, q, _⟩ := h1
          exact Heap.lt_size q
        · obtain ⟨_, q, _⟩ := h2
          exact Heap.lt_size q
      rw [upd_ne (Nat.ne_of_lt lt)]
      exact (hf c hc').1
  done := by
    intro X hP hw hK hc n pins s σ H E I hf st hg
    subst hP hw hK
    obtain ⟨hz, hi, ⟨p0, q0, ho⟩, h1, h2⟩ := st
    obtain ⟨us, vs, ⟨qa, qb⟩, ⟨l1, l2⟩, hend⟩ := hg
    obtain ⟨A1, ra, pa, _⟩ := I.tuple qa
    obtain ⟨A2, rb, pb, _⟩ := I.list qb
    have w1 := ra.length
    have w2 := rb.length
    have pT : s.heap.IsTuple a A1.toArray := pa
    have pL : s.heap.IsList b A2.toArray := pb.isList
    have hand : X.A.in1.handled = none := I.ok.hd hc
    have D1 := Draws.tuple (prog := X.prog) (w := X.w) (A := X.A.in1) hand i1 a na A1.toArray
    have D2 := Draws.list (prog := X.prog) (w := X.w) (A := X.A.in1) hand i2 b nb A2.toArray
    have m1 : A1.toArray.size = us.length := by simp only [List.size_toArray]; omega
    have m2 : A2.toArray.size = vs.length := by simp only [List.size_toArray]; omega
    refine wpAny_pyNext_zipD2_end S D1 D2 hz hi ho ⟨h1, pT⟩ ⟨h2, pL⟩ (by omega) (by omega) (by omega) fun h' tk hk => ⟨rfl, I.turnedL (t' := tk) (ch := [z, TI, TO, i1, i2]) (fun c o hn e => ?_) hf⟩
    simp only [List.mem_cons, List.not_mem_nil, or_false, not_or] at hn
    exact hk c o hn.1 hn.2.2.1 hn.2.2.2.1 hn.2.2.2.2 e
  self := fun A i s Q E st h => wpAny_pyIter_zip st.hz h
def iZipM (K : PySem.W.Frag) (ta : TA) : TI := fun σ H R => ta σ H fun rs H1 => ∃ a b us vs, rs = [.ref a, .ref b] ∧ (SqT K H1 a us ∧ SqL K H1 b vs) ∧ R (ItzM K a b) H1
theorem pi_zipM {X : Cx} {e e2 : Expr} {ta : TA} {p pos tp : Pos} {es : List Expr} {kk : Nat} (hg : Gl X "zip") (hm : X.mg "zip" = none) (ha : PA X [e, e2] ta)
    (hs : starEach [e, e2] X.env = (false, eval e X.env) :: starEach [e2] X.env := by rfl) (hp : (backTo pos (starEach [e2] X.env)).any (·.1) = false := by rfl) :
    PI X (.Tuple es kk tp) (.Call (.Name "zip" p) [e, e2] [] pos) (iZipM X.K ta) := by
  refine ⟨fun pins s σ H R I h => Call_ (ld_blt I hg hm PyProof.Rows.boot_zip (PyProof.Rows.callWith_type1 (thn (ha.run pos pins s σ H _ I h) fun rs s1 got => ?_) hs hp))⟩
  obtain ⟨vs', H1, I1, rel, a, b, us, vs, rfl, ⟨qa, qb⟩, q⟩ := got
  cases rel with
  | cons r1 rel =>
    cases rel with
    | cons r2 rel =>
      cases rel
      cases r1
      cases r2
      obtain ⟨A1, ra, pa, _⟩ := I1.tuple qa
      obtain ⟨A2, rb, pb, _⟩ := I1.list qb
      have pT : s1.heap.IsTuple a A1.toArray := pa
      have pL : s1.heap.IsList b A2.toArray := pb.isList
      have la : a < s1.heap.objs.size := by
        obtain ⟨o, g, _⟩ := pT
        exact Heap.lt_size g
      have lb : b < s1.heap.objs.size := by
        obtain ⟨o, g, _⟩ := pL
        exact Heap.lt_size g
      refine zip_begins2 (begins_tuple a A1.toArray) (begins_list b A2.toArray) pT pL fun h' hz hi ho g1 g2 hsz hk => wpAny_pyIter_zip hz ?_
      have I2 : Inv X pins σ H1 { s1 with heap := h' } := I1.kept (t' := s1.toks) hk
      have S := zip_sep2 (N := s1.heap.objs.size) (fp1 := [a]) (fp2 := [b]) (fun c hc => by rw [List.mem_singleton.mp hc]; exact la) (fun c hc => by rw [List.mem_singleton.mp hc]; exact lb)
      refine ⟨_, _, _, _, H1, rfl, I2, turn_zipM (a := a) (b := b) S (Nat.ne_of_lt la) (Nat.ne_of_lt (Nat.lt_succ_of_lt lb)), ⟨hz, hi, ⟨_, _, ho⟩, ⟨_, g1, rfl, rfl⟩, ⟨_, g2, rfl, rfl⟩⟩, fun c hc => ?_, q⟩
      have le : s1.heap.objs.size ≤ c := by
        rcases five hc with rfl | rfl | rfl | rfl | rfl
        · exact Nat.le_add_right _ _
        · exact Nat.le_add_right _ _
        · exact Nat.le_add_right _ _
        · exact Nat.le_refl _
        · exact Nat.le_add_right _ _
      exact I1.fpOk le (I1.hok.fresh le)
section
variable {K : PySem.W.Frag} {M : List Addr} {F H : Hp} {α α' : Type} {us vs : List V} {l : List α} {l' : List α'} {en : α → PyData} {en' : α' → PyData} {a b : Addr}
theorem wlk_zipM (e : Ex F H) (h : SqT K F a us) (da : DqAll K F us (l.map en)) (h' : F b = some (.lst vs)) (da' : DqAll K F vs (l'.map en')) : Wlk M F H (ItzM K a b) (l.zip l') (fun F v x => Dq K F v (e2 en en' x)) := by
  have hl : us.length = l.length := by rw [da.len, List.length_map]
  have hl' : vs.length = l'.length := by rw [da'.len, List.length_map]
  refine ⟨min us.length vs.length, fun H => SqT K H a us ∧ SqL K H b vs, YPair (fun i => us[i]?) (fun i => vs[i]?), ⟨fun i _ hi q => ⟨us, vs, us[i], vs[i], ⟨q.1, by simp⟩, q.2, by simp⟩, fun _ q => ⟨us, vs, q, by omega, by omega⟩, fun i H v H' _ q y => ?_⟩, by rw [List.length_zip, hl, hl'], fun F' H' g' => ⟨ex_t g'.s (ex_t g'.f h), sq_of (g'.s _ _ (g'.f _ _ h'))⟩, fun i x v F' H' H'' g' hx y => ?_⟩
  · obtain ⟨T, x, y, h1, h2, h3, h4, h5⟩ := y
    exact ⟨T, x, y, h1, h2, h3, h4 us q.1, h5 vs q.2⟩
  · obtain ⟨c, u, w, rfl, hc, rfl, h1, h2⟩ := y
    obtain ⟨d1, k1, q1⟩ := (da.up g'.f).getV h1
    obtain ⟨d2, k2, q2⟩ := (da'.up g'.f).getV h2
    obtain ⟨x1, x2⟩ := x
    obtain ⟨hx1, hx2⟩ := List.getElem?_zip_eq_some.mp hx
    have f1 : l[i]? = some x1 := hx1
    have f2 : l'[i]? = some x2 := hx2
    rw [List.getElem?_map, f1] at k1
    rw [List.getElem?_map, f2] at k2
    cases k1
    cases k2
    have g2 : Gm [] F' H' (upd F' c (.tup [u, w])) (upd H' c (.tup [u, w])) := Gm.new g'.s hc
    refine ⟨_, g2, .tup (st_of upd_same) (.cons (q1.up g2.f) (.cons (q2.up g2.f) .nil))⟩
end
end Wk

set_option Elab.async false
set_option linter.all false
set_option maxRecDepth 100000
set_option maxHeartbeats 2000000
namespace Wk
open PySem L2 Evl
section
variable {K : PySem.W.Frag} {M : List Addr} {F H : Hp} {Q : VK} {j : Int}
/-- list(range(j)) -/
theorem lst_rg (e : Ex F H) (h : 0 ≤ j ∧ j ≤ 100000) (k : Ret M F H (fun F' _ v => Dq K F' v (eL PyData.int (rangeL 0 j.toNat))) Q) : RgOk 0 j ∧ ∀ q, H q = none → Q (.ref q) (upd H q (.lst (rgV 0 j))) :=
  ⟨RgOk.of_le (by omega) (by omega) (by omega) (by omega), fun p hp => by
    have g : Gm M F H (upd F p (.lst (rgV 0 j))) (upd H p (.lst (rgV 0 j))) := Gm.new e hp
    have e1 : rgV 0 j = (rangeL 0 j.toNat).map V.int := by
      unfold rgV rangeL
      rw [List.map_map, Int.sub_zero]
      rfl
    refine k _ _ _ g (.lst upd_same ?_)
    rw [e1]
    exact ints_all _⟩
end
/-! ### an int in a tuple of ints -/
section
variable {X : Cx}
def rInV (K : PySem.W.Frag) : R2 := fun x y H Q => ∃ (a : Int) (l : List Int), Dp K H x (.int a) ∧ Dp K H y (eV PyData.int l) ∧ Q (.bl (hasM l a)) H
def rNotInV (K : PySem.W.Frag) : R2 := fun x y H Q => ∃ (a : Int) (l : List Int), Dp K H x (.int a) ∧ Dp K H y (eV PyData.int l) ∧ Q (.bl (!hasM l a)) H
theorem dpAll_ints {K : PySem.W.Frag} {H : Hp} : ∀ {l : List Int} {xs : List V}, DpAll K H xs (l.map PyData.int) → xs = l.map V.int
  | [], _, h => by cases h; rfl
  | i :: l, _, h => by
    cases h with
    | cons h hr =>
      cases h
      rw [dpAll_ints hr]
      rfl
theorem flat_ints : ∀ l : List Int, (l.map V.int).all flatV = true
  | [] => rfl
  | i :: l => by rw [List.map_cons, List.all_cons, flat_ints l]; rfl
theorem inV_ints (a : Int) : ∀ l : List Int, inV (V.int a) (l.map V.int) = hasM l a
  | [] => rfl
  | i :: l => by
    have e := inV_ints a l
    unfold inV hasM at e ⊢
    rw [List.map_cons, List.any_cons, e, List.contains_cons]
    congr 1
    show decide (i = a) = decide (a = i)
    exact decide_eq_decide.mpr ⟨Eq.symm, Eq.symm⟩
theorem op_inV : OpR X (compareOp .In) (rInV X.K) := by
  intro pins s σ H x y v u Q I rx ry h
  obtain ⟨a, l, hx, hy, q⟩ := h
  cases hx
  cases hy with
  | tup st da =>
    obtain rfl := dpAll_ints da
    refine op_in_seq pins s σ H _ _ v u Q I rx ry ⟨_, _, rfl, .inr st, rfl, flat_ints l, ?_⟩
    rw [if_neg Bool.false_ne_true, inV_ints]
    exact q
theorem op_notInV : OpR X (compareOp .NotIn) (rNotInV X.K) := by
  intro pins s σ H x y v u Q I rx ry h
  obtain ⟨a, l, hx, hy, q⟩ := h
  cases hx
  cases hy with
  | tup st da =>
    obtain rfl := dpAll_ints da
    refine op_notIn_seq pins s σ H _ _ v u Q I rx ry ⟨_, _, rfl, .inr st, rfl, flat_ints l, ?_⟩
    rw [if_pos rfl, inV_ints]
    exact q
end
/-! ### the run's equation, part by part -/
section
open PySem.W PySem.Calls PyProof.Rows HandSHeadRun
theorem runI_of3 {r : OpenRow} {q : Program} {H : Hook} {ob : SharedT → H.α} {M : Nat} {loose : List PySem.Str} {w : World}
    (h1 : (wholeF (fun p => stepQ (denQ tabQ) p w) fenceQ M r.prog).map (fun x => looksF r.prog x.1.heap x.2.abs) = some true)
    (h2 : (wholeF (fun p => stepQ (denQ tabQ) p w) fenceQ M r.prog).map (fun x => seenQ q loose (importedModules r.prog.main.body) (fun s => xlAt q [] s && recOk r.toRowW.records s) x.2.abs) = some (openGood q loose))
    (h3 : (wholeF (fun p => stepQ (denQ tabQ) p w) fenceQ M r.prog).map (fun x => ob x.2) = some (H.val w)) : RunEqI r q H ob M loose w := by
  unfold RunEqI
  generalize wholeF (fun p => stepQ (denQ tabQ) p w) fenceQ M r.prog = o at h1 h2 h3 ⊢
  cases o with
  | none => cases h1
  | some x =>
    have e1 := Option.some.inj h1
    have e2 := Option.some.inj h2
    have e3 := Option.some.inj h3
    exact congrArg some (Prod.ext e1 (Prod.ext e2 e3))
end
end Wk

set_option Elab.async false
set_option linter.all false
set_option maxRecDepth 100000
set_option maxHeartbeats 4000000
namespace Wk
open PySem L2 Evl PySem.Spec PyProof.Rows
theorem tuple_mulW1 (l : Addr) (items : Array Value) (n : Nat) (dd : Option Addr) (sl : Array (Option Value)) (u : Tok) :
    Meets (Builtin.«tuple.__mul__» ⟨[.ref l, .int 1 u], []⟩) (fun _ R s => s.heap.get? l = some { cls := .type "tuple", dict := dd, data := .seq items n, slots := sl } ∧ R (.ok (.ret (Value.ref l))) s) :=
  .of_wp fun prog w A R s h => by
    obtain ⟨hp, g, d, tk, os⟩ := s
    obtain ⟨hl, h⟩ := h
    have f1 := AutoSeq1.idx_int
    have c0 : (decide ((1 : Int) < -(2 ^ 63)) || decide ((1 : Int) ≥ 2 ^ 63)) = false := by decide
    have c1 : (items.isEmpty || (1 : Int) == 1) = true := by simp
    wp_walk using wpAny_loadPart' hl
    repeat (first
      | (refine wpAny_ite_false (decide_eq_false (by rw [c0]; exact Bool.false_ne_true)) ?_; wp_walk using wpAny_loadPart' hl)
      | (refine wpAny_ite_true (decide_eq_true (by rw [c1])) ?_; wp_walk using wpAny_loadPart' hl))
    exact ⟨_, rfl, h⟩
def rRepTM (K : PySem.W.Frag) : R2 := fun x y H Q => ∃ l k xs, x = .ref l ∧ y = .int k ∧ SqT K H l xs ∧ xs ≠ [] ∧ 1 ≤ k ∧ k ≤ 1000 ∧ xs.length ≤ 1000 ∧ (k = 1 → Q (.ref l) H) ∧ (2 ≤ k → ∀ p, H p = none → Q (.ref p) (upd H p (.tup (List.replicate k.toNat xs).flatten)))
theorem op_repTM {X : Cx} : OpR X (binaryOp .Mult) (rRepTM X.K) := by
  intro pins s σ H x y v u Q I rx ry h
  obtain ⟨l, k, xs, rfl, rfl, hT, hne, h1, h2, hz, q1, q2⟩ := h
  by_cases e : k = 1
  · subst e
    cases rx
    obtain ⟨t, rfl⟩ := ry
    obtain ⟨its, r, ⟨⟨cls, dd, data, sl⟩, ho, hc, n, hd⟩, hs⟩ := I.tuple hT
    simp only at hc hd
    subst hc hd
    refine wpAny_binaryOp_repeat_ref (T := "tuple") (U := "int") (by decide) ⟨_, ho, rfl⟩ (fun s' => typeIs_int s' 1 t) noFill_tuple_mul F.fills_int_mul F.slot_int_rmul repeat_tuple F.slot_int_index.lookup
      (call_meets F.slot_int_rmul (typeIs_int s 1 t) F.entry_int_rmul (F.args_int_rmul_2 _ _) (int_rmul_tuple 1 t l its.toArray n dd sl)
        ⟨ho, rfl, ⟨_, ho, rfl⟩, call_meets F.slot_tuple_mul ⟨_, ho, rfl⟩ F.entry_tuple_mul (F.args_tuple_mul_2 _ _) (tuple_mulW1 l its.toArray n dd sl t) ⟨ho, ?_⟩⟩)
    exact ⟨.ref l, H, I, rfl, q1 rfl⟩
  · exact op_repT pins s σ H _ _ v u Q I rx ry ⟨l, k, xs, rfl, rfl, hT, hne, by omega, h2, hz, q2 (by omega)⟩
section
variable {K : PySem.W.Frag} {M : List Addr} {F H : Hp} {Q : VK} {α : Type} {en : α → PyData} {l : List α} {xs : List V} {a : Addr} {j : Int}
/-- a tuple, repeated -/
theorem rep_tup (e : Ex F H) (s : SqT K F a xs) (d : DqAll K F xs (l.map en)) (h : 1 ≤ l.length ∧ l.length ≤ 1000 ∧ 1 ≤ j ∧ j ≤ 1000) (k : Ret M F H (fun F' _ v => Dq K F' v (eV en (List.replicate j.toNat l).flatten)) Q) : rRepTM K (.ref a) (.int j) H Q := by
  have hl : xs.length = l.length := by rw [d.len, List.length_map]
  refine ⟨a, j, xs, rfl, rfl, ex_t e s, fun z => ?_, h.2.2.1, h.2.2.2, by omega, fun z => ?_, fun _ p hp => ?_⟩
  · rw [z] at hl
    simp only [List.length_nil] at hl
    omega
  · have e1 : (List.replicate j.toNat l).flatten = l := by
      rw [z]
      simp
    rw [e1] at k
    exact k _ _ _ (Gm.refl e) (.tup s d)
  · have g : Gm M F H (upd F p (.tup (List.replicate j.toNat xs).flatten)) (upd H p (.tup (List.replicate j.toNat xs).flatten)) := Gm.new e hp
    exact k _ _ _ g (.tup (st_of upd_same) ((all_rep d _).up g.f))
end
end Wk

set_option Elab.async false
set_option linter.all false
set_option maxRecDepth 100000
set_option maxHeartbeats 2000000
namespace Wk
open PySem PySem.W L2 He
/-! ### the Hook over a written list of addresses -/
def obsXL (as : List Addr) (fa : List Fa) (fn : List He5.DefA) (ex : Frag → Bool) (g : Addr → Option Obj) : He.AlD := obsX fa fn ex (frG g as)
def hookXL (as : List Addr) (fa : List Fa) (fn : List He5.DefA) (ex : Frag → Bool) : PySem.W.Hook where
  α := He.AlD
  obs := fun s => obsXL as fa fn ex s.heap.get?
  val := fun _ => valX fn
  says := fun _ h => ∃ K : Frag, K.In h ∧ SaysX fa fn ex K
  of := fun _ _ e => ⟨_, frG_in, e⟩
  keeps := fun _ _ _ ⟨K, hK, c⟩ k => ⟨K, Frag.In.keeps hK k, c⟩
theorem obsXL_eq {as : List Addr} {fa : List Fa} {fn : List He5.DefA} {ex : Frag → Bool} {g : Addr → Option Obj} {s : Shared} (h : ∀ a, g a = s.heap.get? a) : obsXL as fa fn ex g = (hookXL as fa fn ex).obs s := by
  have e : g = s.heap.get? := funext h
  rw [e] <;> rfl
end Wk

set_option Elab.async false
set_option linter.all false
set_option maxRecDepth 100000
set_option maxHeartbeats 4000000
namespace WNe
open PySem PySem.Spec PyProof.Rows
section
variable {M : Model} {prog : Program} {w : World} {A : Around} {E : Value → Shared → Prop} {s : Shared} {K : PySem.W.Frag} {x y C D f : Addr} {ox : Obj} {od : Option Obj}
theorem ifBound_objNe {args : List Value} {Q : Option Value → Shared → Prop} (X : K.In s.heap) (I : PySem.W.InstAt s.heap x ox C od) (hs : PySem.W.findIn K (.ref C) "__ne__" = some (some (.builtin "object.__ne__")))
    (h : wpAny M A (call (.builtin "object.__ne__") (.ref x :: args)) (fun v => Q (some v)) E s) : wpAny M A (callSpecialIfBound? (.ref x) "__ne__" args) Q E s := by
  simp only [callSpecialIfBound?, bindSpecialIfBound?]
  refine wpAny_holding (wpAny_bind (wpAny_bind (wpAny_bind (I.type.here ((PySem.W.looks_findIn X hs).here ?_)))))
  refine wpAny_bind (wpAny_askSetting (wpAny_ite ?_))
  have fin : wpAny M A (call (.builtin "object.__ne__") ([.ref x] ++ args) >>= fun v => pure (some v)) Q E s := wpAny_bind (wpAny_mono h (fun v s' h' => wpAny_pure h') fun _ _ h' => h')
  split
  · exact wpAny_bind (wpAny_of_eq (F.cmp_object.ne.bind _) (wpAny_pure (by exact fin)))
  · exact wpAny_tryCatch (wpAny_bind (wpAny_of_eq (F.cmp_object.ne.bind _) (wpAny_pure (by exact fin))))
theorem entry_ne (X : K.In s.heap) (I : PySem.W.InstAt s.heap x ox C od) (hs : PySem.W.findIn K (.ref C) "__eq__" = some (some (.ref f))) (hf : PySem.W.isFn K (.ref f) = true) (hu : A.units < cLine) {Q : Fin → Shared → Prop}
    (hcall : wpAny (model prog w) A (call (.ref f) [.ref x, .ref y]) (fun v s' => ∃ b, v = .bool b ∧ Q (.done (.ret (.bool (!b)))) s') E s) :
    wpAny (model prog w) A (Builtin.«object.__ne__» ⟨[.ref x, .ref y], []⟩) Q E s := by
  unfold Builtin.«object.__ne__»
  repeat (first
    | with_reducible refine wpAny_cRoomFor hu ?_
    | (refine wpAny_bind (m := callSpecialIfBound? (.ref x) (Str.ofString "__eq__") [.ref y])
        (PySem.W.ifBound_K X I hs hf (wpAny_mono hcall (fun r s' hr => by
          obtain ⟨b, rfl, hq⟩ := hr
          repeat (first | exact hq | exact wpAny_pure hq | exact wpAny_truthy_bool hq | (refine wpAny_bind (m := truthy (.bool _)) (wpAny_truthy_bool ?_)) | wp_step)) fun _ _ e => e)))
    | wp_step)
theorem ne_K {Q : Value → Shared → Prop} (hu : A.units + 1 < cLine) (X : K.In s.heap) (I : PySem.W.InstAt s.heap x ox C od) (hb : PySem.W.Looks (model prog w) s.heap (typeOf (.ref y)) (.ref C))
    (hm : PySem.W.mroIn K C (.type "object") = some true) (hn : PySem.W.findIn K (.ref C) "__ne__" = some (some (.builtin "object.__ne__")))
    (hs : PySem.W.findIn K (.ref C) "__eq__" = some (some (.ref f))) (hf : PySem.W.isFn K (.ref f) = true)
    (hcall : wpAny (model prog w) A.in1 (call (.ref f) [.ref x, .ref y]) (fun v s' => ∃ b, v = .bool b ∧ Q (.bool (!b)) s') E s) : wpAny (model prog w) A (richCompare .NotEq (.ref x) (.ref y)) Q E s := by
  have one : wpAny (model prog w) A (tryCompare (.ref x) "__ne__" (.ref y)) (fun r s' => ∃ v, r = some v ∧ Q v s') E s := by
    unfold tryCompare
    refine wpAny_bind (ifBound_objNe X I hn (wpAny_call (codeAny_call_builtin F.cmp_object.ne.plain F.cmpEntry_ne (PySem.W.check_slot F.cmpKind_ne F.cmpSplit_ne (I.type.andThen (PySem.W.looks_mroIn X hm)) (F.cmpArgs_ne _ _)
      (entry_ne X I hs hf (by exact hu) (wpAny_mono hcall (fun v s' hv => ?_) fun _ _ e => e))))))
    obtain ⟨b, rfl, hq⟩ := hv
    exact ⟨b, rfl, wpAny_pure ⟨_, rfl, hq⟩⟩
  unfold richCompare
  simp only [oneThing_ref]
  refine wpAny_holding (wpAny_bind (wpAny_cRoomFor (by omega) ?_))
  rw [cmpInfo_NotEq]
  dsimp only
  refine wpAny_bind (I.type.here (wpAny_bind (hb.here ?_)))
  rw [show (Value.ref C != Value.ref C) = false from by simp]
  simp only [Bool.false_eq_true, if_false]
  refine wpAny_bind (wpAny_pure ?_)
  simp only [Bool.false_eq_true, if_false]
  refine wpAny_bind (wpAny_mono one (fun r s' z => ?_) fun _ _ e => e)
  obtain ⟨v, rfl, hq⟩ := z
  exact wpAny_pure hq
end

end WNe
namespace Wk
open PySem L2 Evl PySem.Spec PyProof.Rows
/-- two instances of C compared by C's own ==, which promises sp -/
def rOwnE (C : Addr) (sp : Sp) : R2 := fun x y H Q => ∃ a b dx dy fs gs, x = .ref a ∧ y = .ref b ∧ H a = some (.ins C dx fs) ∧ H b = some (.ins C dy gs) ∧ sp [.ref a, .ref b] H (fun v H' => ∃ r, v = .bl r ∧ Q (.bl r) H') E0
def rOwnN (C : Addr) (sp : Sp) : R2 := fun x y H Q => ∃ a b dx dy fs gs, x = .ref a ∧ y = .ref b ∧ H a = some (.ins C dx fs) ∧ H b = some (.ins C dy gs) ∧ sp [.ref a, .ref b] H (fun v H' => ∃ r, v = .bl r ∧ Q (.bl (!r)) H') E0
/-- the class's own == with its promise, and no != of its own -/
structure KnE (P : Program) (w : World) (K : PySem.W.Frag) (mg : Str → Option Value) (base : Heap) (C : Addr) (k : Nat) (ps : List Str) (sp : Sp) : Prop where
  ex : ∃ f fd, FnOk P w K mg base CX0 k f fd ps sp ∧ PySem.W.findIn K (.ref C) "__eq__" = some (some (.ref f)) ∧ PySem.W.isFn K (.ref f) = true ∧ Binds K fd ps []
  ne : PySem.W.findIn K (.ref C) "__ne__" = some (some (.builtin "object.__ne__"))
  ob : PySem.W.mroIn K C (.type "object") = some true
section
variable {X : Cx} {C : Addr} {n : Nat} {ps : List Str} {sp : Sp}
theorem own_call {f : Addr} {fd : FuncData} (F : FnOk X.prog X.w X.K X.mg X.base CX0 n f fd ps sp) (hb : Binds X.K fd ps []) {A : Around} (sb : Sub X n A) {pins : List (Addr × Obj)} {s : Shared} {σ : L2.St} {H : Hp} {a b : Addr} {Q : VK} (I : Inv X pins σ H s)
    (hsp : sp [.ref a, .ref b] H Q E0) : wpAny (model X.prog X.w) A (call (.ref f) [.ref a, .ref b]) (fun v s' => ∃ z H', Inv X pins σ H' s' ∧ RelV z v ∧ Q z H') X.xe s := by
  have e0 : Env0 X.prog X.w X.K X.mg X.base A X.stack s H := by
    have e := I.env0
    exact ⟨by rw [sb.fr]; exact e.frames, e.mod, e.bs, e.bsz, e.funs, e.frf, e.hok, e.bare⟩
  have hl := F.len _ _ _ _ hsp
  have r2 : Vals [V.ref a, V.ref b] [Value.ref a, Value.ref b] := .cons rfl (.cons rfl .nil)
  refine wpAny_call (codeAny_mono (F.run A X.stack s H ⟨[.ref a, .ref b], []⟩ [.ref a, .ref b] [.ref a, .ref b] _ E0 sb.room e0 (by
    have := hb s [.ref a, .ref b] I.kIn (by simpa using hl)
    simpa using this) r2 hsp) fun r s' hq => ?_)
  cases r with
  | error e => exact pass0 pins σ H s e s' I hq
  | ok fl =>
    cases fl with
    | ret w =>
      obtain ⟨z, H', I', rz, ez⟩ := I.after hq
      exact ⟨z, H', I', rz, ez⟩
    | next => exact False.elim hq
    | brk => exact False.elim hq
    | cont => exact False.elim hq
theorem op_neOwn (G : KnE X.prog X.w X.K X.mg X.base C n ps sp) (hr : Room (n + 1) X.A) : OpR X (compareOp .NotEq) (rOwnN C sp) := by
  intro pins s σ H x y v u Q I rx ry h
  obtain ⟨f, fd, F, hs, hf, hb⟩ := G.ex
  obtain ⟨a, b, dx, dy, fs, gs, rfl, rfl, ha, hb', hsp⟩ := h
  cases rx
  cases ry
  obtain ⟨mA, J, _⟩ := ins_get I.hok ha
  obtain ⟨mB, J', _⟩ := ins_get I.hok hb'
  obtain ⟨od, J, _⟩ := J.look
  obtain ⟨od', J', _⟩ := J'.look
  have un := hr.un
  refine WNe.ne_K (by omega) I.kIn J J'.type G.ob G.ne hs hf (wpAny_mono (own_call F hb (A := X.A.in1) ⟨hr.in1, rfl⟩ I hsp) (fun v s' q => ?_) fun _ _ e => e)
  obtain ⟨z, H', I', rz, r, rfl, q⟩ := q
  cases rz
  exact ⟨r, rfl, .bl (!r), H', I', rfl, q⟩
theorem op_eqOwn (G : KnE X.prog X.w X.K X.mg X.base C n ps sp) (hr : Room (n + 1) X.A) : OpR X (compareOp .Eq) (rOwnE C sp) := by
  intro pins s σ H x y v u Q I rx ry h
  obtain ⟨f, fd, F, hs, hf, hb⟩ := G.ex
  obtain ⟨a, b, dx, dy, fs, gs, rfl, rfl, ha, hb', hsp⟩ := h
  cases rx
  cases ry
  obtain ⟨mA, J, _⟩ := ins_get I.hok ha
  obtain ⟨mB, J', _⟩ := ins_get I.hok hb'
  obtain ⟨od, J, _⟩ := J.look
  obtain ⟨od', J', _⟩ := J'.look
  have un := hr.un
  obtain ⟨m, hF⟩ := I.fr
  refine PySem.W.cmp_K (op := .Eq) (tb := .ref C) (by omega) hF I.ok.mod.kin J J'.type (by simp [PySem.W.notFirst]) hs hf (wpAny_mono (own_call F hb (A := X.A) ⟨hr.mono (by omega), rfl⟩ I hsp) (fun v s' q => ?_) fun _ _ e => e)
  obtain ⟨z, H', I', rz, r, rfl, q⟩ := q
  cases rz
  exact ⟨.bl r, H', I', rfl, q⟩
end
end Wk

set_option Elab.async false
set_option linter.all false
set_option maxRecDepth 100000
set_option maxHeartbeats 2000000
namespace Wk
open PySem L2 Evl
/-- a list that a call reads, and nothing of it stays -/
theorem Gm.lend {F H F' H' : Hp} {p : Addr} {o : HO} (e : Ex F H) (g : Gm [] (upd F p o) H F' H') : Gm [] F H F H' :=
  ⟨Ex.refl _, fun a u ha => g.h a u (by simp) (e a u ha), g.h, fun _ _ _ hn => hn, g.m⟩
theorem ex_fix {F H : Hp} {p : Addr} {o : HO} (e : Ex F H) (h : H p = some o) : Ex (upd F p o) H := fun a u ha => by
  by_cases q : a = p
  · subst q
    rw [upd_same] at ha
    cases ha
    exact h
  · rw [upd_ne q] at ha
    exact e a u ha
/-! ### what an own == asks of the class, as the head tells it -/
section
open PySem.W He
variable {K : Frag}
def insB (x : Str) (K : Frag) : Bool := eqO (findIn K (.ref (ga K x)) "__class__") (some (some (.builtin "object.__class__"))) && (eqO (specialIn K (.builtin "object.__class__") "__get__") (some (some (.builtin "getset_descriptor.__get__"))) &&
  (decide (takesIn K (.builtin "object.__class__") = some true) && (decide (mroIn K (ga K x) (.type "object") = some true) && decide (kitOne K (.ref (ga K x)) (.ref (ga K x)) = some true))))
theorem insB_ok {x : Str} (cl : Cls K (ga K x)) (h : insB x K = true) : C8.InsC K (ga K x) := by
  obtain ⟨h1, h⟩ := ba h
  obtain ⟨h2, h⟩ := ba h
  obtain ⟨h3, h⟩ := ba h
  obtain ⟨h4, h5⟩ := ba h
  exact ⟨cl, eqO_ok h1, eqO_ok h2, of_decide_eq_true h3, of_decide_eq_true h4, of_decide_eq_true h5⟩
def neB (x : Str) (K : Frag) : Bool := eqO (findIn K (.ref (ga K x)) "__ne__") (some (some (.builtin "object.__ne__"))) && decide (mroIn K (ga K x) (.type "object") = some true)
theorem knE_of {P : Program} {w : World} {mg : Str → Option Value} {base : Heap} {x : Str} {fd : FuncData} {k : Nat} {ps : List Str} {sp : Sp} (M : Meth K (ga K x) "__eq__" (ma K (ga K x) "__eq__")) (h : neB x K = true)
    (F : FnOk P w K mg base CX0 k (ma K (ga K x) "__eq__") fd ps sp) (hb : Binds K fd ps []) : KnE P w K mg base (ga K x) k ps sp := by
  obtain ⟨h1, h2⟩ := ba h
  exact ⟨⟨_, fd, F, M.1, M.2, hb⟩, eqO_ok h1, of_decide_eq_true h2⟩
end
end Wk

set_option Elab.async false
set_option linter.all false
set_option maxRecDepth 100000
set_option maxHeartbeats 4000000
namespace Wk
open PySem L2 Evl PySem.Spec PyProof.Rows NdefX LamX
/-! ### an exception's __init__ that says super().__init__(..) -/
/-- what the written part says of the class at D -/
structure SupC (K : PySem.W.Frag) (P : Program) (mg : Str → Option Value) (D cda cc : Addr) : Prop where
  oex : OexC K D
  sup : PySem.W.ks_superIn K D D "__init__" = some (some (.builtin "ValueError.__init__"))
  sub : PySem.W.subIn K (.ref D) (.type "ValueError") = some true
  self : PySem.W.mroIn K D (.ref D) = some true
  opq : PySem.W.nsIn K cStatics "thirdparty.any" = some none
  code : ∃ ccl cdd vs ccs file tf, K.lookup cda = some ⟨ccl, cdd, .fields vs, ccs⟩ ∧ vs[2]? = some (.str file tf) ∧ ((P.main.file : Str) == file) = true
  cell : ∃ cl cld csl, K.lookup cc = some ⟨cl, cld, .cell (some (.ref D)), csl⟩
  sup0 : mg "super" = none
  top : (P.main.scope.names.lookup ("super" : Str)).isSome = false
section
variable {K : PySem.W.Frag} {P : Program} {mg : Str → Option Value} {D cda cc : Addr}
theorem SupC.cls {h : Heap} (S : SupC K P mg D cda cc) (X : K.In h) : ∃ cd oD, PySem.W.clsIn K D = some cd ∧ h.get? D = some oD ∧ oD.data = .cls cd := by
  obtain ⟨nm, q, N, bs, bm, sn, sub, ab, col, dd, k0, k1, k2, k3, k5, hC, hbm⟩ := S.oex.cls
  refine ⟨_, _, ?_, X _ _ hC, rfl⟩
  unfold PySem.W.clsIn
  rw [hC]
end
section
variable {prog : Program} {w : World} {A : Around} {E : Value → Shared → Prop} {h : Heap} {g : Array GenState} {d : Drawn} {t : Nat} {os : OsState}
variable {nm q : Str} {C N : Addr} {bs bm bmB : List Value} {hdct : Bool} {sn : List Str} {sub : List Value} {ab : Bool} {col : Option Bool} {dd : Option Addr} {k0 k1 k2 k3 k5 : Option Value} {B newId i : String}
theorem call_mw (FB : ExcBaseFacts B newId i bmB) {u e t0 : Addr} {rest : List Value} {Q : Value → Shared → Prop}
    (hC : h.get? C = some (excClassObj nm q C N bs bm hdct sn sub ab col dd k0 k1 k2 k3 k5 newId)) (he : h.get? e = some (PySem.HandSPX.excO C t0)) (hu : h.get? u = some (PySem.W.kxs_mw i e)) (hrest : rest.length ≤ sizeLine)
    (hq : ∀ h' t1, (∀ b o, b ≠ e → h.get? b = some o → h'.get? b = some o) → h'.get? e = some (PySem.HandSPX.excO C t1) → Q .none ⟨h', g, d, t, os⟩) :
    wpAny (model prog w) A (call (.ref u) rest) Q E ⟨h, g, d, t, os⟩ := by
  refine wpAny_call (codeAny_of_tree ?_)
  show wpAny _ A.in1 (callAny (.ref u) ⟨rest, []⟩) _ _ _
  simp only [callAny]
  refine wpAny_bind (wpAny_load hu ?_)
  simp only [PySem.W.kxs_mw, show (Value.type "method-wrapper" == Value.type "method" || Value.type "method-wrapper" == Value.type "builtin_function_or_method" || Value.type "method-wrapper" == Value.type "method-wrapper") = true by decide, if_true]
  refine PySem.W.KFB.if_so (by decide) ?_
  refine wpAny_bind (PySem.W.check_bound_init FB.toExcCallFacts hC he rfl ?_)
  refine wpAny_bind (wpAny_pure (wpAny_pure ?_))
  refine ⟨plainId_quiet FB.init.plain _, codeAny_builtin FB.initEntry ?_⟩
  refine PySem.W.exc_init_tree (cls := .ref C) (t0 := t0) (dv := none) (c2 := .none) (c3 := .none) (b4 := .bool false) he hrest fun h' k e' t' => ?_
  exact hq h' _ k e'
end
theorem clo_one {x k : Str} {v c : Addr} (h : ([(k, v)] : List (Str × Addr)).lookup x = some c) : x = k ∧ c = v := by
  have m := PySem.mem_of_lookup h
  rw [List.mem_singleton] at m
  exact ⟨congrArg Prod.fst m, congrArg Prod.snd m⟩
theorem clo_self {k : Str} {v : Addr} : ([(k, v)] : List (Str × Addr)).lookup k = some v := by simp [List.lookup]
abbrev nfS (name qual : Str) (params : Arguments) (body : List Stmt) (scope : Scope) (cda cc : Addr) : NF := ⟨name, qual, params, body, scope, [("__class__", cc)], cda⟩
abbrev supSt (e : Expr) (es : List Expr) (p0 p1 p2 pos pos' : Pos) : Stmt := .Expr (.Call (.Attribute (.Call (.Name "super" p0) [] [] p1) "__init__" p2) (e :: es) [] pos) pos'
theorem fn_ofS {CX : CXT} {P : Program} {w : World} {K : PySem.W.Frag} {mg : Str → Option Value} {base : Heap} {k : Nat} {f D cda cc : Addr} {name qual : Str} {params : Arguments} {e : Expr} {es : List Expr} {rest : List Stmt} {p0 p1 p2 pos pos' : Pos} {scope : Scope} {dV kV doc pm ct oc : Value} {an od : Option Addr}
    {osl : Array (Option Value)} {N ps : List Str} {sp : Sp} {ar : Arg} {pl : Env → Sem Bool}
    (hcall : ∀ env, eval (.Call (.Attribute (.Call (.Name "super" p0) [] [] p1) "__init__" p2) (e :: es) [] pos) env = (do
      let ov ← attributeBase (.Call (.Name "super" p0) [] [] p1) "__init__" env (eval (.Call (.Name "super" p0) [] [] p1) env)
      standAt p2.atName
      let (f, first) ← holding [ov] (getMethod ov "__init__" (pl env))
      callWith pos f first (backTo pos (starEach (e :: es) env)) []))
    (lk : K.lookup f = some ⟨oc, od, .func (PySem.W.ksFn name qual params (supSt e es p0 p1 p2 pos pos' :: rest) scope dV kV doc pm an (.ref cda) ct cc), osl⟩)
    (hcd : PySem.W.codeIn K (.ref cda) qual = true) (S : NScope N ps ["__class__"] scope) (SC : SupC K P mg D cda cc) (hp : (params.posonlyargs ++ params.args).head? = some ar) (h0 : ps[0]? = some ar.arg)
    (hks : scope.names.lookup ("super" : Str) = some .globalImplicit) (he : ∀ env, starEach (e :: es) env = (false, eval e env) :: starEach es env) (hpl : ∀ env, (backTo pos (starEach es env)).any (·.1) = false)
    (len : ∀ vs H Q E, sp vs H Q E → vs.length = ps.length)
    (hbody : ∀ (A : Around) (outer : List Env) (s : Shared) (H : Hp) (vs : List V) (Q : VK) (E : XK), sp vs H Q E →
      ∃ (a : Addr) (ta : TA) (tr : TS), vs[0]? = some (V.ref a) ∧ H a = some (exo a D none) ∧ PA (ncx CX P w K mg base N (nfS name qual params (supSt e es p0 p1 p2 pos pos' :: rest) scope cda cc) f A outer s H E) (e :: es) ta ∧
        PSs (ncx CX P w K mg base N (nfS name qual params (supSt e es p0 p1 p2 pos pos' :: rest) scope cda cc) f A outer s H E) rest tr ∧
        ta (startF N vs [some (V.ref D)]) H fun us H1 => us.length ≤ 1000 ∧ H1 a = some (exo a D none) ∧ tr { nx := fun _ H' => Q .non H', rt := Q } (startF N vs [some (V.ref D)]) H1) :
    FnOk P w K mg base CX (k + 1) f (PySem.W.ksFn name qual params (supSt e es p0 p1 p2 pos pos' :: rest) scope dV kV doc pm an (.ref cda) ct cc) ps sp := by
  refine ⟨len, fun A outer s H args us vs Q E hr e0 hb r hsp => ?_⟩
  have hl := len _ _ _ _ hsp
  obtain ⟨a, ta, tr, hv0, ha, hpa, hps, hq⟩ := hbody A outer s H vs Q E hsp
  have KX : K.In s.heap := e0.mod.kin.keeps fun b o e => (e0.bs b o e).1
  have lim : s.heap.NoLimit := e0.mod.nolimit.keeps fun b o e => (e0.bs b o e).1
  obtain ⟨cl, cld, csl, hcell⟩ := SC.cell
  obtain ⟨ccl, cdd, vsC, ccs, file, tf, hcode, hvs, hfile⟩ := SC.code
  have C : CellsAt [("__class__", cc)] ["__class__"] [some (V.ref D)] s.heap H := by
    refine ⟨rfl, fun y c hy => ?_, fun x y c hx hy => ?_, fun i y hi => ?_⟩
    · obtain ⟨rfl, rfl⟩ := clo_one hy
      exact ⟨(e0.bs _ _ (e0.mod.kin _ _ hcell)).2, _, _, KX _ _ hcell, rfl⟩
    · rw [(clo_one hx).1, (clo_one hy).1]
    · have hi0 : i = 0 := by
        have := (List.getElem?_eq_some_iff.mp hi).1
        simp only [List.length_cons, List.length_nil] at this
        omega
      subst hi0
      obtain rfl : "__class__" = y := by simpa using hi
      refine ⟨cc, clo_self, fun v hv => ?_⟩
      obtain rfl : V.ref D = v := by simpa using hv
      exact ⟨.ref D, rfl, _, KX _ _ hcell, rfl⟩
  refine ks_codeAny_call_defAt hr.depth (KX _ _ lk) rfl lim (PySem.W.codeRec_of KX hcd) rfl hb S.nocell (fun ⟨n, _⟩ hy => S.par n (List.of_mem_zip hy).1) (fun h₀ hns kp => ?_) S.co S.gen S.kind
  have I : Inv (ncx CX P w K mg base N (nfS name qual params (supSt e es p0 p1 p2 pos pos' :: rest) scope cda cc) f A outer s H E) [] (startF N vs [some (V.ref D)]) H { s with heap := h₀, toks := s.toks + (ps.zip us).length } :=
    inv_startN (F := nfS name qual params (supSt e es p0 p1 p2 pos pos' :: rest) scope cda cc) S hr.hd e0 hl r C hns kp
  show _root_.PySem.wpAt _ (ncx CX P w K mg base N (nfS name qual params (supSt e es p0 p1 p2 pos pos' :: rest) scope cda cc) f A outer s H E).A (.func (supSt e es p0 p1 p2 pos pos' :: rest) (ncx CX P w K mg base N (nfS name qual params (supSt e es p0 p1 p2 pos pos' :: rest) scope cda cc) f A outer s H E).env) (execs (supSt e es p0 p1 p2 pos pos' :: rest) (ncx CX P w K mg base N (nfS name qual params (supSt e es p0 p1 p2 pos pos' :: rest) scope cda cc) f A outer s H E).env) _ _ _
  have hout : ∀ fl s', SP (ncx CX P w K mg base N (nfS name qual params (supSt e es p0 p1 p2 pos pos' :: rest) scope cda cc) f A outer s H E) [] { nx := fun _ H' => Q .non H', rt := Q } fl s' → CR CX outer P w H s Q E (.ok (.ret (match fl with | .ret v => v | _ => .none))) s' := fun fl s' hs => by
    have fin : ∀ {σ' : L2.St} {H' : Hp} {v : V} {u : Value}, Inv (ncx CX P w K mg base N (nfS name qual params (supSt e es p0 p1 p2 pos pos' :: rest) scope cda cc) f A outer s H E) [] σ' H' s' → L2.RelV v u → Q v H' → CE outer P w H s Q u s' :=
      fun {σ' H' v u} J rv q => ⟨v, H', J.os, J.bare, J.base, J.hok, rv, q⟩
    cases fl with
    | ret u =>
      obtain ⟨v, σ', H', J, rv, q⟩ := hs
      exact fin J rv q
    | next =>
      obtain ⟨σ', H', J, q⟩ := hs
      exact fin (v := V.non) (u := Value.none) J rfl q
    | brk =>
      obtain ⟨_, _, _, q⟩ := hs
      exact False.elim q
    | cont =>
      obtain ⟨_, _, _, q⟩ := hs
      exact False.elim q
  have hk0 : (K.lookup f) = some ⟨oc, od, .func (PySem.W.ksFn name qual params (supSt e es p0 p1 p2 pos pos' :: rest) scope dV kV doc pm an (.ref cda) ct cc), osl⟩ := lk
  have KX0 : K.In h₀ := KX.keeps kp
  obtain ⟨cdD, oD, hclD, hD1, hD2⟩ := SC.cls KX0
  obtain ⟨t1, hx⟩ := exo_at I.hok ha
  have hx : h₀.get? a = some ({ cls := .ref D, dict := none, data := .fields #[.ref t1, .none, .none, .none, .bool false, .none] } : Obj) := hx
  have hne : a ≠ D := fun z => by
    rw [z, hD1] at hx
    cases hx
    cases hD2
  obtain ⟨m, hns', hlk⟩ := id I.loc
  have hN0 : N[0]? = some ar.arg := by
    have q := S.pre
    have z : (N.take (ps.length + 1))[0]? = (ps ++ ([("__class__" : Str)] : List Str))[0]? := by rw [← q]; rfl
    rw [List.getElem?_take_of_lt (by omega)] at z
    have lp : 0 < ps.length := (List.getElem?_eq_some_iff.mp h0).1
    rw [z, List.getElem?_append_left lp]
    exact h0
  have kself : scope.names.lookup ar.arg = some .local := S.par _ (List.mem_of_getElem? h0)
  have hmx : m ar.arg = some (.ref a) := by
    have hs0 : (startF N vs [some (V.ref D)])[0]? = some (some (V.ref a)) := by
      unfold startF
      rw [List.getElem?_append_left (by rw [List.length_map]; exact (List.getElem?_eq_some_iff.mp hv0).1), List.getElem?_map, hv0]
      rfl
    obtain ⟨u, ru, hlu⟩ := hlk 0 ar.arg _ hN0 hs0 (.inl kself)
    obtain rfl : u = Value.ref a := ru
    rcases hlu with ⟨_, z⟩ | ⟨k, _⟩
    · exact z
    · have k : scope.names.lookup ar.arg = some .cell ∨ scope.names.lookup ar.arg = some .free := k
      rw [kself] at k
      rcases k with k | k <;> cases k
  obtain ⟨mb, hb1, hb2⟩ := I.mod.blt
  have kcls : scope.names.lookup ("__class__" : Str) = some .free := S.frk _ (List.mem_singleton.mpr rfl)
  refine ks_wpAt_execs_cons (ks_wpAt_Expr_any (hi := I.quiet) (ks_wpAt_MethodCall (he := hcall _) ?_))
  refine ks_wpAt_super_base hks kcls (by decide) rfl (KX0 _ _ lk) rfl hp rfl (KX0 _ _ hcode) rfl hvs hfile SC.top ?_
  refine PySem.W.ks_loadName_global I.ok.kind hks (PySem.Calls.loadGlobal_builtin (by rw [I.ok.glob]; exact I.mod.glob.keeps I.bk) SC.sup0 (by rw [I.ok.blt]; exact hb1.keeps I.bk) ((hb2 "super" (by decide)).trans PyProof.Rows.Boot.«super») ⟨rfl, ?_⟩)
  refine wpAny_loadName_free I.ok.kind kcls clo_self ⟨_, KX0 _ _ hcell, rfl⟩ ?_
  refine wpAny_loadName_local I.ok.kind kself hns' hmx ?_
  refine ks_wpAny_isType_cls hD1 hD2 ⟨rfl, ?_⟩
  refine ks_wpAny_call_super hD1 hD2 hx rfl (fun c z => by cases z) (PySem.W.looks_mroIn KX0 SC.self) (fun h1 hso k1 => ?_)
  have I1 := I.kept (h' := h1) (t' := s.toks + (ps.zip us).length) k1
  have KX1 : K.In h1 := KX0.keeps k1
  have hx1 := k1 _ _ hx
  have IA : PySem.W.InstAt h1 a ({ cls := .ref D, dict := none, data := .fields #[.ref t1, .none, .none, .none, .bool false, .none] } : Obj) D none := ⟨hx1, rfl, rfl, trivial⟩
  have hm := SC.sup
  unfold PySem.W.ks_superIn at hm
  rw [hclD] at hm
  refine PySem.W.kxs_getMethod PySem.W.kxs_ValueError hso (PySem.W.looks_opaque KX1 SC.opq) (l₀ := cdD.mro) (fun A Q E s k q => wpAny_bind ((PySem.W.looks_clsIn KX1 hclD) A _ E s k (wpAny_pure q))) rfl KX1 hm (IA.type.andThen (PySem.W.looks_subIn KX1 SC.sub)) hne (by decide) ?_
  have hmw : (h1.push (PySem.W.kxs_mw "ValueError.__init__" a)).get? h1.objs.size = some (PySem.W.kxs_mw "ValueError.__init__" a) := Heap.get?_push_at rfl rfl
  have k2 : ∀ b o, h1.get? b = some o → (h1.push (PySem.W.kxs_mw "ValueError.__init__" a)).get? b = some o := fun b o e => Heap.get?_push_of_some _ e
  have I2 := (I1.kept (h' := h1.push (PySem.W.kxs_mw "ValueError.__init__" a)) (t' := s.toks + (ps.zip us).length + 1) k2).pins_of (pins' := [(h1.objs.size, PySem.W.kxs_mw "ValueError.__init__" a)]) fun p hp => by
    rw [List.mem_singleton] at hp
    subst hp
    exact ⟨hmw, I1.hok.fresh (Nat.le_refl _), Nat.ne_of_gt I1.lt, I1.nofs (Nat.le_refl _), fun v z => by cases z⟩
  refine PySem.W.kxs_callWith (i := "ValueError.__init__") (x := a) (by rw [he]; show (false || (backTo pos (starEach es _)).any (·.1)) = false; rw [hpl]; rfl) ?_
  rw [he]
  refine PySem.Calls.evalArgs_plain (thn (by have z := hpa.run pos [(h1.objs.size, PySem.W.kxs_mw "ValueError.__init__" a)] _ _ H _ I2 hq; rw [he] at z; exact z) fun vals s3 hv3 => ?_)
  obtain ⟨vs3, H3, I3, r3, hl3, ha3, hq3⟩ := hv3
  obtain ⟨t3, ho3⟩ := exo_at I3.hok ha3
  have pin3 := I3.pin (h1.objs.size, PySem.W.kxs_mw "ValueError.__init__" a) (by simp)
  refine ⟨pin3.1, ?_⟩
  obtain ⟨nm, q, Nn, bs, bm, sn, sub, ab, col, dd, k0, k1', k2', k3', k5, hC, hbm⟩ := SC.oex.cls
  obtain ⟨hp3, g3, d3, tk3, os3⟩ := s3
  have hl : vals.length ≤ sizeLine := by
    rw [← Paired.length r3, sizeLine_eq]
    omega
  refine call_mw F.excBase_ValueError (I3.kIn _ _ hC) ho3 pin3.1 hl fun h4 t4 k4 hx4 => ?_
  have J := I3.write (t' := tk3) (x := a) (e := a) (o := exo a D none) (by rw [ha3]; exact True.intro) (.inl rfl) k4 ⟨_, hx4⟩ (exo_ok hx4)
  have eu : upd H3 a (exo a D none) = H3 := by
    funext b
    by_cases hb : b = a
    · rw [hb, upd_same, ha3]
    · rw [upd_ne hb]
  rw [eu] at J
  have J0 := J.pins_of (pins' := []) fun p hp => by cases hp
  exact wpAt_of_wpAny (wpAny_mono (hps.run [] _ _ H3 _ J0 hq3) hout fun e s' hs => hs)
end Wk

set_option Elab.async false
set_option linter.all false
set_option maxRecDepth 100000
set_option maxHeartbeats 4000000
namespace Wk
open PySem PySem.W L2 He
/-! ### what the head tells of an exception class with an own __init__ -/
def oexB (x : Str) (K : Frag) : Bool := (match K.lookup (ga K x) with
    | some ⟨.type t, _, .cls cd, sl⟩ => t == "type" && ((match cd.mro with
      | .ref C :: bm => C == ga K x && PySem.HandSPX.refsVE bm
      | _ => false) && (cd.hasDict && (!cd.hasDel && (match sl.toList with
      | [_, _, _, _, some (.builtin n), _] => n == "ValueError.__new__"
      | _ => false))))
    | _ => false) && (eqO (findIn K (.ref (ga K x)) "__setattr__") (some (some (.builtin "object.__setattr__"))) && (decide (subIn K (.ref (ga K x)) (.type "BaseException") = some true) &&
    (decide (typeIn K (.ref (ga K x)) = some (.type "type")) && keepIn K (.ref (ga K x)))))
theorem oexB_ok {x : Str} {K : Frag} (h : oexB x K = true) : OexC K (ga K x) := by
  obtain ⟨h1, h⟩ := ba h
  obtain ⟨h2, h⟩ := ba h
  obtain ⟨h3, h⟩ := ba h
  obtain ⟨h4, h5⟩ := ba h
  refine ⟨?_, eqO_ok h2, of_decide_eq_true h3, of_decide_eq_true h4, h5⟩
  generalize ga K x = C0 at *
  split at h1
  · rename_i t dd cd sl ho
    obtain ⟨a1, h1⟩ := ba h1
    obtain ⟨a2, h1⟩ := ba h1
    obtain ⟨a3, h1⟩ := ba h1
    obtain ⟨a4, a5⟩ := ba h1
    obtain ⟨nm, bs, mro, ns, qn, hd, sn, sub, ab, col, del⟩ := cd
    split at a2
    · rename_i C bm hm
      obtain ⟨b1, b2⟩ := ba a2
      split at a5
      · rename_i k0 k1 k2 k3 n k5 hs
        have e1 := eq_of_beq a1
        have e2 := eq_of_beq b1
        have e3 := eq_of_beq a5
        have e4 : del = false := by simpa using a4
        have e5 : hd = true := a3
        have hm : mro = .ref C :: bm := hm
        subst e1 e2 e3 e4 e5 hm
        have hsl : sl = #[k0, k1, k2, k3, some (.builtin "ValueError.__new__"), k5] := by
          obtain ⟨l⟩ := sl
          simp only at hs
          rw [hs]
        subst hsl
        exact ⟨nm, qn, ns, bs, bm, sn, sub, ab, col, dd, k0, k1, k2, k3, k5, ho, b2⟩
      · cases a5
    · cases a2
  · cases h1
def cfB (file : Str) (K : Frag) : Value → Bool
  | .ref cda => (match K.lookup cda with
    | some ⟨_, _, .fields vs, _⟩ => (match (vs[2]? : Option Value) with
      | some (.str fl _) => decide (fl = file)
      | _ => false)
    | _ => false)
  | _ => false
theorem cfB_ok {file : Str} {K : Frag} {v : Value} (h : cfB file K v = true) : ∃ cda ccl cdd vs ccs tf, v = .ref cda ∧ K.lookup cda = some ⟨ccl, cdd, .fields vs, ccs⟩ ∧ (vs[2]? : Option Value) = some (.str file tf) := by
  unfold cfB at h
  split at h
  · rename_i cda
    split at h
    · rename_i ccl cdd vs ccs hcode
      split at h
      · rename_i fl tf hvs
        obtain rfl := of_decide_eq_true h
        exact ⟨cda, _, _, _, _, _, rfl, hcode, hvs⟩
      · cases h
    · cases h
  · cases h
def ceB (x : Str) (K : Frag) : List (Str × Addr) → Bool
  | [(n, cc)] => decide (n = "__class__") && (match K.lookup cc with
      | some ⟨_, _, .cell (some (.ref D)), _⟩ => decide (D = ga K x)
      | _ => false)
  | _ => false
theorem ceB_ok {x : Str} {K : Frag} {l : List (Str × Addr)} (h : ceB x K l = true) : ∃ (cc : Addr) (cl : Value) (cld : Option Addr) (csl : Array (Option Value)), l = [(("__class__" : Str), cc)] ∧ K.lookup cc = some ⟨cl, cld, .cell (some (.ref (ga K x))), csl⟩ := by
  unfold ceB at h
  split at h
  · rename_i n cc
    obtain ⟨b1, b2⟩ := ba h
    obtain rfl := of_decide_eq_true b1
    split at b2
    · rename_i cl cld D csl hcell
      obtain rfl := of_decide_eq_true b2
      exact ⟨cc, _, _, _, rfl, hcell⟩
    · cases b2
  · cases h
def noneB : Value → Bool
  | .none => true
  | _ => false
theorem noneB_ok {v : Value} (h : noneB v = true) : v = .none := by
  cases v <;> first | rfl | cases h
def cloB (x : Str) (file : Str) (K : Frag) : Bool := match K.lookup (ma K (ga K x) "__init__") with
  | some ⟨_, _, .func fd, _⟩ => ceB x K fd.closure && (noneB fd.defaults && cfB file K fd.code)
  | _ => false
def supB (x : Str) (file : Str) (K : Frag) : Bool := oexB x K && (decide (ks_superIn K (ga K x) (ga K x) "__init__" = some (some (.builtin "ValueError.__init__"))) && (decide (subIn K (.ref (ga K x)) (.type "ValueError") = some true) && (decide (mroIn K (ga K x) (.ref (ga K x)) = some true) &&
  (eqO (nsIn K cStatics "thirdparty.any") (some none) && (cloB x file K && (eqO (findIn K (.ref (ga K x)) "__init__") (some (some (.ref (ma K (ga K x) "__init__")))) && decide (typeIn K (.ref (ma K (ga K x) "__init__")) = some (.type "function"))))))))
/-- a def, its closure told apart -/
def fnSA (K : Frag) (a : Addr) : FnW := match K.lookup a with
  | some ⟨_, _, .func fd, _⟩ => some (fd.name, fd.qualname, fd.params, fd.body, fd.scope, fd.globals, [], fd.builtins)
  | _ => none
structure IniD (K : Frag) (P : Program) (mg : Str → Option Value) (x name qual : Str) (params : Arguments) (body : List Stmt) (scope : Scope) (fd : FuncData) (cda cc : Addr) : Prop where
  lk : ∃ (oc : Value) (od : Option Addr) (kV doc pm ct : Value) (an : Option Addr) (osl : Array (Option Value)),
    fd = ksFn name qual params body scope .none kV doc pm an (.ref cda) ct cc ∧ K.lookup (ma K (ga K x) "__init__") = some ⟨oc, od, .func fd, osl⟩
  cd : codeIn K (.ref cda) qual = true
  sc : SupC K P mg (ga K x) cda cc
  ini : findIn K (.ref (ga K x)) "__init__" = some (some (.ref (ma K (ga K x) "__init__")))
  typ : typeIn K (.ref (ma K (ga K x) "__init__")) = some (.type "function")
theorem iniD_of {K : Frag} {P : Program} {mg : Str → Option Value} {d : He5.DefA} {x file : Str} (hat : d.at_ K = ma K (ga K x) "__init__") (e : fnSA K (d.at_ K) = d.val) (c : d.ok K = true) (h : supB x file K = true) (hf : ((P.main.file : Str) == file) = true) (hs : mg "super" = none)
    (ht : (P.main.scope.names.lookup ("super" : Str)).isSome = false) : ∃ fd cda cc, IniD K P mg x d.name d.qual d.params d.body d.scope fd cda cc := by
  obtain ⟨h1, h⟩ := ba h
  obtain ⟨h2, h⟩ := ba h
  obtain ⟨h3, h⟩ := ba h
  obtain ⟨h4, h⟩ := ba h
  obtain ⟨h5, h⟩ := ba h
  obtain ⟨h6, h⟩ := ba h
  obtain ⟨h7, h8⟩ := ba h
  obtain ⟨kp, c2⟩ := ba c
  unfold cloB at h6
  unfold fnSA at e
  rw [hat] at e c2
  cases q : K.lookup (ma K (ga K x) "__init__") with
  | none =>
    rw [q] at c2
    cases c2
  | some o =>
    obtain ⟨oc, od, dt, osl⟩ := o
    rw [q] at c2 e h6
    cases dt with
    | func fd =>
      obtain ⟨n1, n2, n3, n4, n5, n6, n7, n8, n9, n10, n11, n12, n13, n14, n15⟩ := fd
      have e2 : (some (n1, n2, n3, n4, n5, n6, ([] : List (Str × Addr)), n15) : FnW) = some (d.name, d.qual, d.params, .stmts d.body, d.scope, mainGlobals, [], builtinsNs) := e
      simp only [Option.some.injEq, Prod.mk.injEq] at e2
      obtain ⟨g1, g2, g3, g4, g5, g6, _, g8⟩ := e2
      obtain ⟨a1, a2⟩ := ba h6
      obtain ⟨a0, a2⟩ := ba a2
      have c3 := (ba c2).1
      dsimp only at a0 a1 a2 c3
      have z8 := noneB_ok a0
      obtain ⟨cc, cl, cld, csl, z7, hcell⟩ := ceB_ok a1
      obtain ⟨cda, ccl, cdd, vs, ccs, tf, zc, hcode, hvs⟩ := cfB_ok a2
      subst z8 z7 zc
      subst g1 g2 g3 g4 g5 g6 g8
      exact ⟨_, cda, cc, ⟨_, _, _, _, _, _, _, _, rfl, q⟩, c3, ⟨oexB_ok h1, of_decide_eq_true h2, of_decide_eq_true h3, of_decide_eq_true h4, eqO_ok h5, ⟨_, _, _, _, _, _, hcode, hvs, hf⟩, ⟨_, _, _, hcell⟩, hs, ht⟩, eqO_ok h7, of_decide_eq_true h8⟩
    | _ => cases c2
/-! ### the Hook with such classes -/
def obsXS (as : List Addr) (fa : List Fa) (fn es : List He5.DefA) (ex : Frag → Bool) (g : Addr → Option Obj) : He.AlD :=
  (((fa.all fun f => f.ok (frG g as)) && ((fn.all fun d => d.ok (frG g as)) && ((es.all fun d => d.ok (frG g as)) && ex (frG g as)))), (fn.map fun d => He5.fnA (frG g as) (d.at_ (frG g as))) ++ es.map fun d => fnSA (frG g as) (d.at_ (frG g as)))
def valXS (fn es : List He5.DefA) : He.AlD := (true, fn.map He5.DefA.val ++ es.map He5.DefA.val)
structure SaysXS (fa : List Fa) (fn es : List He5.DefA) (ex : Frag → Bool) (K : Frag) : Prop where
  old : SaysX fa fn ex K
  own : (es.map fun d => fnSA K (d.at_ K)) = es.map He5.DefA.val
  ok : ∀ d ∈ es, d.ok K = true
theorem saysXS_of {as : List Addr} {fa : List Fa} {fn es : List He5.DefA} {ex : Frag → Bool} {g : Addr → Option Obj} (h : obsXS as fa fn es ex g = valXS fn es) : SaysXS fa fn es ex (frG g as) := by
  have h1 : ((fa.all fun f => f.ok (frG g as)) && ((fn.all fun d => d.ok (frG g as)) && ((es.all fun d => d.ok (frG g as)) && ex (frG g as)))) = true := congrArg (fun z : He.AlD => z.1) h
  have h2 : (fn.map fun d => He5.fnA (frG g as) (d.at_ (frG g as))) ++ (es.map fun d => fnSA (frG g as) (d.at_ (frG g as))) = fn.map He5.DefA.val ++ es.map He5.DefA.val := congrArg (fun z : He.AlD => z.2) h
  obtain ⟨a1, a2⟩ := ba h1
  obtain ⟨a2, a3⟩ := ba a2
  obtain ⟨a3, a4⟩ := ba a3
  obtain ⟨b1, b2⟩ := List.append_inj h2 (by rw [List.length_map, List.length_map])
  refine ⟨?_, b2, fun d hd => List.all_eq_true.mp a3 d hd⟩
  unfold SaysX obsX valX
  rw [a1, a2, a4, b1]
  rfl
def hookXS (as : List Addr) (fa : List Fa) (fn es : List He5.DefA) (ex : Frag → Bool) : PySem.W.Hook where
  α := He.AlD
  obs := fun s => obsXS as fa fn es ex s.heap.get?
  val := fun _ => valXS fn es
  says := fun _ h => ∃ K : Frag, K.In h ∧ SaysXS fa fn es ex K
  of := fun _ _ e => ⟨_, frG_in, saysXS_of e⟩
  keeps := fun _ _ _ ⟨K, hK, c⟩ k => ⟨K, Frag.In.keeps hK k, c⟩
theorem obsXS_eq {as : List Addr} {fa : List Fa} {fn es : List He5.DefA} {ex : Frag → Bool} {g : Addr → Option Obj} {s : Shared} (h : ∀ a, g a = s.heap.get? a) : obsXS as fa fn es ex g = (hookXS as fa fn es ex).obs s := by
  have e : g = s.heap.get? := funext h
  rw [e] <;> rfl
theorem SaysXS.ini {fa : List Fa} {fn es : List He5.DefA} {ex : Frag → Bool} {K : Frag} {P : Program} {mg : Str → Option Value} {x file : Str} (c : SaysXS fa fn es ex K) (i : Nat) {d : He5.DefA} (h : es[i]? = some d) (hat : d.at_ K = ma K (ga K x) "__init__") (hb : supB x file K = true)
    (hf : ((P.main.file : Str) == file) = true) (hs : mg "super" = none) (ht : (P.main.scope.names.lookup ("super" : Str)).isSome = false) : ∃ fd cda cc, IniD K P mg x d.name d.qual d.params d.body d.scope fd cda cc := by
  have e2 : (es.map fun d => fnSA K (d.at_ K))[i]? = (es.map He5.DefA.val)[i]? := by rw [c.own]
  rw [List.getElem?_map, List.getElem?_map, h] at e2
  exact iniD_of hat (Option.some.inj e2) (c.ok d (List.mem_of_getElem? h)) hb hf hs ht
end Wk

set_option Elab.async false
set_option linter.all false
set_option maxRecDepth 100000
set_option maxHeartbeats 4000000
namespace Wk
open PySem L2 Evl PySem.Spec PyProof.Rows NdefX LamX
/-! ### the kinds of exceptions, by number -/
def exN : Nat → Str
  | 0 => "InvalidWeighting" | 1 => "InvalidPlaces" | 2 => "InvalidWeights" | 3 => "InvalidSums" | 4 => "InvalidNumber" | 5 => "InvalidPolynomial" | 6 => "TooFew" | 7 => "InvalidFraction" | 8 => "NoWeighting"
  | 9 => "DecodeError" | 10 => "InvalidReadings" | 11 => "UnknownPlace" | 12 => "Clash" | 13 => "InvalidText"
  | _ => ""
def exF : Nat → List Str
  | 0 => ["part", "index"] | 1 => ["index"] | 2 => ["index"] | 3 => ["index"] | 9 => ["offset"]
  | _ => []
/-- its fields, as they stand -/
def xfs (e : Er) : List (Str × V) := ((exF e.c).zip (e.fs.map V.int)).reverse
/-- an exception of the kind e: its class, its dict -/
def XD (K : PySem.W.Frag) (F : Hp) (cls : Value) (d : Option Addr) (e : Er) : Prop :=
  cls = .ref (He.ga K (exN e.c)) ∧ ((e.fs = [] ∧ d = none) ∨ ∃ dx, d = some dx ∧ F dx = some (.xd (xfs e)))
theorem XD.up {K : PySem.W.Frag} {F F' : Hp} {cls : Value} {d : Option Addr} {e : Er} (h : XD K F cls d e) (x : Ex F F') : XD K F' cls d e := by
  obtain ⟨h1, h2⟩ := h
  refine ⟨h1, ?_⟩
  rcases h2 with h2 | ⟨dx, h3, h4⟩
  · exact .inl h2
  · exact .inr ⟨dx, h3, x _ _ h4⟩
/-- what follows an exception -/
def RetX (M : List Addr) (K : PySem.W.Frag) (F H : Hp) (e : Er) (E : XK) : Prop := ∀ cls d F' H', Gm M F H F' H' → XD K F' cls d e → E cls d H'
theorem RetX.then_ {M : List Addr} {K : PySem.W.Frag} {F H F1 H1 : Hp} {e : Er} {E : XK} (k : RetX M K F H e E) (g : Gm M F H F1 H1) : RetX M K F1 H1 e E := fun cls d F' H' g' s => k cls d F' H' (g.trans g') s
/-! ### __init__ with one field, with two -/
def spI1 (C : Addr) (f : Str) : Sp := fun vs H Q _ => ∃ (a : Addr) (i : Int), vs = [.ref a, .int i] ∧ i.natAbs < 18446744073709551616 ∧ H a = some (exo a C none) ∧
  ∀ dx, H dx = none → dx ≠ a → Q .non (upd (upd H dx (exd dx [(f, .int i)])) a (exo a C (some dx)))
def spI2 (C : Addr) (f g : Str) : Sp := fun vs H Q _ => ∃ (a : Addr) (i j : Int), vs = [.ref a, .int i, .int j] ∧ i.natAbs < 18446744073709551616 ∧ j.natAbs < 18446744073709551616 ∧ H a = some (exo a C none) ∧
  ∀ dx, H dx = none → dx ≠ a → Q .non (upd (upd (upd H dx (exd dx [(f, .int i)])) a (exo a C (some dx))) dx (exd dx [(g, .int j), (f, .int i)]))
theorem log_small {i : Int} (h : i.natAbs < 18446744073709551616) : i.natAbs.log2 < 1920 := by
  by_cases z : i.natAbs = 0
  · rw [z]; decide
  · have := (Nat.log2_lt z (k := 64)).mpr (by rw [show (2 : Nat) ^ 64 = 18446744073709551616 by decide]; exact h)
    omega
theorem txt_small {i : Int} (h : i.natAbs < 18446744073709551616) : (PySem.Str.ofString (toString i)).length ≤ 1921 := PyProof.Rows.int_text_len_1921 (log_small h)
theorem del_upd {H : Hp} {a d : Addr} {o1 o2 : HO} {x : HO} (ha : H a = none) (hd : d ≠ a) : upd (del (upd (upd H d o1) a o2) a) d x = upd H d x := by
  funext b
  by_cases q : b = d
  · rw [q, upd_same, upd_same]
  · rw [upd_ne q, upd_ne q]
    by_cases r : b = a
    · rw [r, del_same, ha]
    · rw [del_ne r, upd_ne r, upd_ne q]
theorem del_upd2 {H : Hp} {a d : Addr} {o1 o2 o3 : HO} {x : HO} (ha : H a = none) (hd : d ≠ a) : upd (del (upd (upd (upd H d o1) a o2) d o3) a) d x = upd H d x := by
  funext b
  by_cases q : b = d
  · rw [q, upd_same, upd_same]
  · rw [upd_ne q, upd_ne q]
    by_cases r : b = a
    · rw [r, del_same, ha]
    · rw [del_ne r, upd_ne q, upd_ne r, upd_ne q]
theorem mk1 {C : Addr} {f : Str} {H : Hp} {i : Int} {Q : XK} (hi : i.natAbs < 18446744073709551616) (q : ∀ d, H d = none → Q (.ref C) (some d) (upd H d (.xd [(f, .int i)]))) :
    [V.int i].length ≤ 1000 ∧ ∀ a, H a = none → spI1 C f (.ref a :: ([V.int i] ++ [])) (upd H a (exo a C none))
      (fun v H2 => v = .non ∧ ∃ (d : Addr) (fs : List (Str × V)), H2 a = some (exo a C (some d)) ∧ H2 d = some (exd d fs) ∧ H d = none ∧ Q (.ref C) (some d) (upd (del H2 a) d (.xd fs))) (fun _ _ _ => False) := by
  refine ⟨by show 1 ≤ 1000; decide, fun a ha => ⟨a, i, rfl, hi, upd_same, fun dx hdx hne => ⟨rfl, dx, [(f, .int i)], upd_same, ?_, ?_, ?_⟩⟩⟩
  · rw [upd_ne hne, upd_same]
  · rw [upd_ne hne] at hdx
    exact hdx
  · rw [upd_ne hne] at hdx
    have e : upd (del (upd (upd (upd H a (exo a C none)) dx (exd dx [(f, .int i)])) a (exo a C (some dx))) a) dx (.xd [(f, .int i)]) = upd H dx (.xd [(f, .int i)]) := by
      funext b
      by_cases z : b = dx
      · rw [z, upd_same, upd_same]
      · rw [upd_ne z, upd_ne z]
        by_cases r : b = a
        · rw [r, del_same, ha]
        · rw [del_ne r, upd_ne r, upd_ne z, upd_ne r]
    rw [e]
    exact q dx hdx
theorem mk2 {C : Addr} {f g : Str} {H : Hp} {i j : Int} {Q : XK} (hi : i.natAbs < 18446744073709551616) (hj : j.natAbs < 18446744073709551616) (q : ∀ d, H d = none → Q (.ref C) (some d) (upd H d (.xd [(g, .int j), (f, .int i)]))) :
    [V.int i, V.int j].length ≤ 1000 ∧ ∀ a, H a = none → spI2 C f g (.ref a :: ([V.int i, V.int j] ++ [])) (upd H a (exo a C none))
      (fun v H2 => v = .non ∧ ∃ (d : Addr) (fs : List (Str × V)), H2 a = some (exo a C (some d)) ∧ H2 d = some (exd d fs) ∧ H d = none ∧ Q (.ref C) (some d) (upd (del H2 a) d (.xd fs))) (fun _ _ _ => False) := by
  refine ⟨by show 2 ≤ 1000; decide, fun a ha => ⟨a, i, j, rfl, hi, hj, upd_same, fun dx hdx hne => ⟨rfl, dx, [(g, .int j), (f, .int i)], ?_, upd_same, ?_, ?_⟩⟩⟩
  · rw [upd_ne (Ne.symm hne), upd_same]
  · rw [upd_ne hne] at hdx
    exact hdx
  · rw [upd_ne hne] at hdx
    have e : upd (del (upd (upd (upd (upd H a (exo a C none)) dx (exd dx [(f, .int i)])) a (exo a C (some dx))) dx (exd dx [(g, .int j), (f, .int i)])) a) dx (.xd [(g, .int j), (f, .int i)]) = upd H dx (.xd [(g, .int j), (f, .int i)]) := by
      funext b
      by_cases z : b = dx
      · rw [z, upd_same, upd_same]
      · rw [upd_ne z, upd_ne z]
        by_cases r : b = a
        · rw [r, del_same, ha]
        · rw [del_ne r, upd_ne z, upd_ne r, upd_ne z, upd_ne r]
    rw [e]
    exact q dx hdx
/-! ### a class that is known, raised -/
structure KnX (P : Program) (w : World) (K : PySem.W.Frag) (mg : Str → Option Value) (base : Heap) (x : Str) (k : Nat) (ps : List Str) (sp : Sp) : Prop where
  ex : ∃ fd, FnOk P w K mg base CX0 k (He.ma K (He.ga K x) "__init__") fd ps sp ∧ Binds K fd ps []
  oex : OexC K (He.ga K x)
  ini : PySem.W.findIn K (.ref (He.ga K x)) "__init__" = some (some (.ref (He.ma K (He.ga K x) "__init__")))
  typ : PySem.W.typeIn K (.ref (He.ma K (He.ga K x) "__init__")) = some (.type "function")
  glo : mg x = some (.ref (He.ga K x))
section
variable {X : Cx} {W : WX} {x : Str} {k : Nat} {ps : List Str} {sp : Sp} {e : Expr} {es : List Expr} {ta : TA} {p pos pos' : Pos}
theorem ps_raiseX (G : KnX X.prog X.w X.K X.mg X.base x k ps sp) (hr : Room (k + 1) X.A) (tk : Takes X W) (ha : PA X (e :: es) ta) (hc : X.calm = true := by rfl) (hg : Gl X x := by rfl) (hdb : (x == ("__debug__" : Str)) = false := by decide)
    (he : starEach (e :: es) X.env = (false, eval e X.env) :: starEach es X.env := by rfl) (hpl : (backTo pos (starEach es X.env)).any (·.1) = false := by rfl) :
    PS X (.Raise (some (.Call (.Name x p) (e :: es) [] pos)) none pos') (fun _ σ H => tMkO (He.ga X.K x) sp [] ta σ H fun cls d H' => W cls d σ H') := by
  obtain ⟨fd, F, hb⟩ := G.ex
  exact ps_raise hc tk (pmk_oex G.oex G.ini G.typ F hr hb .nil pass0 hg G.glo ha hdb he hpl)
end
/-- a def that may raise -/
structure Kx (P : Program) (w : World) (K : PySem.W.Frag) (mg : Str → Option Value) (base : Heap) (x : Str) (k : Nat) (ps : List Str) (sp : Sp) : Prop where
  ex : ∃ f fd, FnOk P w K mg base (L2.CX P w) k f fd ps sp ∧ mg x = some (.ref f) ∧ PySem.W.keepIn K (.ref f) = true ∧ Binds K fd ps []
section
variable {X : Cx} {W : WX} {x : Str} {k : Nat} {ps : List Str} {sp : Sp} {e : Expr} {es : List Expr} {t : TA} {p pos : Pos}
theorem pe_kx (G : Kx X.prog X.w X.K X.mg X.base x k ps sp) (hr : Room k X.A) (tk : Takes X W) (ha : PA X (e :: es) t) (hg : Gl X x := by rfl) (hdb : (x == ("__debug__" : Str)) = false := by decide)
    (he : starEach (e :: es) X.env = (false, eval e X.env) :: starEach es X.env := by rfl) (hpl : (backTo pos (starEach es X.env)).any (·.1) = false := by rfl) : PE X (.Call (.Name x p) (e :: es) [] pos) (tCallS sp (WE W) t) := by
  obtain ⟨f, fd, F, hm, hk, hb⟩ := G.ex
  exact pe_callS F hr hg hm hk hb (passAt tk) ha hdb he hpl
end
theorem Kn.x {P : Program} {w : World} {K : PySem.W.Frag} {mg : Str → Option Value} {base : Heap} {x : Str} {k : Nat} {ps : List Str} {sp : Sp} (G : Kx P w K mg base x k ps sp) : True := trivial
/-! ### words of one raising def -/
theorem post_noEx' {α β : Type} {m : Mm α} {f : α → Mm β} {ok : β → Prop} {ex : Er → Prop} (h : Post ((noEx m).bd f) ok ex) : Post (m.bd Mm.ok) (fun r => Post (f r) ok ex) (fun _ => False) := by
  cases m with
  | ok a => exact ⟨⟨h.h⟩⟩
  | ex e => exact h.h.elim
  | bad => exact h.h.elim
/-! ### try -/
/-- an exception of the body is met: what follows by the kind -/
def Mm.tr {α β : Type} (m : Mm α) (h : Er → Mm β) (k : α → Mm β) : Mm β := match m with
  | .ok a => k a
  | .ex e => h e
  | .bad => .bad
theorem post_tr {α β : Type} {m : Mm α} {h : Er → Mm β} {k : α → Mm β} {p : β → Prop} {q : Er → Prop} (x : Post (m.tr h k) p q) : Post m (fun a => Post (k a) p q) (fun e => Post (h e) p q) := by
  cases m with
  | ok a => exact ⟨⟨x.h⟩⟩
  | ex e => exact ⟨⟨x.h⟩⟩
  | bad => exact ⟨x.h⟩
end Wk

set_option Elab.async false
set_option linter.all false
set_option maxRecDepth 100000
set_option maxHeartbeats 4000000
namespace Wk
open PySem L2 Evl PySem.Spec PyProof.Rows
/-! ### several except clauses, each with a name -/
abbrev SuiteR := Addr → Value → Option Addr → TS
/-- the ends of a suite whose clause's name has slot i -/
def endsAs (D : Ends) (i : Nat) : Ends := { nx := fun τ G => D.nx (τ.set i none) G, rt := D.rt, bk := fun τ G => D.bk (τ.set i none) G, ct := fun τ G => D.ct (τ.set i none) G }
def wManyA (K : PySem.W.Frag) (n : Nat) (Wout : WX) (D : Ends) : List (Value × Nat × SuiteR) → WX
  | [] => Wout
  | (c, i, ts) :: r => fun cls d σ H => ∃ b, PySem.W.exmOne K cls c = some b ∧ (b = true → ∀ a, H a = none → σ.length = n → ts a cls d (endsAs D i) (σ.set i (some (.ref a))) H) ∧ (b = false → wManyA K n Wout D r cls d σ H)
inductive HdsA (X : Cx) : List ExceptHandler → List (Value × Nat × SuiteR) → Prop
  | nil : HdsA X [] []
  | cons {x n : Str} {c : Value} {i : Nat} {ts : SuiteR} {b₀ : Stmt} {suite : List Stmt} {np q : Pos} {hs : List ExceptHandler} {l : List (Value × Nat × SuiteR)} (hc : Names X x c) (hi : X.N[i]? = some n) (hk : X.env.kindOf n = some .local)
      (hsu : ∀ a oe cls d pn, Zc cls d oe → (∃ vs, oe.data = .fields vs) → PSs (X.suite a ((a, oe) :: pn)) (b₀ :: suite) (ts a cls d)) (r : HdsA X hs l) :
      HdsA X (.ExceptHandler (some (.Name x np)) (some n) (b₀ :: suite) q :: hs) ((c, i, ts) :: l)
/-- an exception at a, noted by the running frame, its flight ended: what is known then -/
structure Met (X : Cx) (pins : List (Addr × Obj)) (σ : L2.St) (H : Hp) (a : Addr) (cls : Value) (d : Option Addr) (s : Shared) : Prop where
  base : ∃ (B : Heap) (sI : Shared), Inv X pins σ H sI ∧ (∀ b o, sI.heap.get? b = some o → b ∉ frs X.stack → B.get? b = some o) ∧ sI.heap.UpToSlots s.heap ∧ s.os = sI.os ∧ AllBare s.gens ∧ PySem.HandSPX.FlyingZ B (X.env :: X.outer) a (Zc cls d) s.heap
  free : H a = none
section
variable {X : Cx} {pins : List (Addr × Obj)} {σ : L2.St} {H : Hp} {a : Addr} {cls : Value} {d : Option Addr} {s : Shared}
theorem Met.inv (m : Met X pins σ H a cls d s) : Inv X pins σ H s := by
  obtain ⟨⟨B, sI, J, nb, up, os, ag, fl⟩, _⟩ := m
  exact J.landed nb fl.1 up os ag
/-- it is an exception's record, and no frame -/
theorem Met.obj (m : Met X pins σ H a cls d s) (hf : X.env.frame = some X.env.locals) : ∃ oe vs, s.heap.get? a = some oe ∧ Zc cls d oe ∧ oe.data = .fields vs ∧ a ≠ X.env.locals ∧ a ∉ X.fs := by
  obtain ⟨⟨B, sI, J, nb, up, os, ag, fl⟩, _⟩ := m
  obtain ⟨oe, vs, h1, h2, h3⟩ := fl.there
  have out : a ∉ frs (X.env :: X.outer) := by
    intro hm
    obtain ⟨_, o, h, hn⟩ := fl.2.2.1.mem hm
    cases h1.symm.trans h
    exact hn _ h3
  refine ⟨oe, vs, h1, h2, h3, fun z => out ?_, fun hm => out ?_⟩
  · exact List.mem_filterMap.mpr ⟨X.env, by simp, by rw [hf, z]⟩
  · obtain ⟨e, he, q⟩ := List.mem_filterMap.mp hm
    exact List.mem_filterMap.mpr ⟨e, by simp [he], q⟩
/-- the heap's slots may change under it -/
theorem Met.on (m : Met X pins σ H a cls d s) {h : Heap} (fl : ∀ B, PySem.HandSPX.FlyingZ B (X.env :: X.outer) a (Zc cls d) s.heap → PySem.HandSPX.FlyingZ B (X.env :: X.outer) a (Zc cls d) h) (u : s.heap.UpToSlots h) : Met X pins σ H a cls d { s with heap := h } := by
  obtain ⟨⟨B, sI, J, nb, up, os, ag, f⟩, n⟩ := m
  exact ⟨⟨B, sI, J, nb, up.trans u, os, ag, fl B f⟩, n⟩
/-- the class that a clause names, asked of it -/
theorem Met.asks (m : Met X pins σ H a cls d s) (hf : X.env.frame = some X.env.locals) {x : Str} {np : Pos} {c : Value} (hc : Names X x c) {Q : Value → Shared → Prop} {E : Value → Shared → Prop} (q : Q c s) : wpAny (model X.prog X.w) (X.A.mark (some (.ref a))) (eval (.Name x np) X.env) Q E s := by
  obtain ⟨oe, vs, h1, h2, h3, h4, h5⟩ := m.obj hf
  have S := m.inv.suite h1 h3 m.free h4 h5
  obtain ⟨g, db, k⟩ := hc
  rcases k with k | ⟨k, kv, kn⟩
  · exact ld_glob (X := X.suite a ((a, oe) :: (X.pn ++ pins))) S g k q db
  · exact ld_blt (X := X.suite a ((a, oe) :: (X.pn ++ pins))) S g k kv q kn db
/-- no clause is left -/
theorem Met.none_ (m : Met X pins σ H a cls d s) (hs : X.stack = X.env :: X.outer) (hf : X.env.frame = some X.env.locals) {W : WX} (tk : Takes X W) (w : W cls d σ H) {D : Ends} : wpAny (model X.prog X.w) X.A (handleBy (.ref a) X.env []) (SP X pins D) X.xe s := by
  have na := m.free
  obtain ⟨⟨B, sI, J, nb, up, os, ag, fl⟩, _⟩ := m
  obtain ⟨_, _, _, oe, vs, T, _, _, he, _, hd, h1, _⟩ := id fl
  have out : wpAny (model X.prog X.w) X.A (setFlight (.ref a) X.env.frame) (fun _ t => wpAny (model X.prog X.w) X.A (throw (.ref a) : Sem Flow) (SP X pins D) X.xe t) X.xe s := by
    rw [hf]
    exact PySem.HandSPX.setFlight_upZ fl fun h hh u => wpAny_throw (tk _ _ ⟨a, B, sI, pins, σ, H, cls, d, rfl, J, nb, up.trans u, .inr (.inr (by rw [hs]; exact hh)), na, os, ag, w⟩)
  refine wpAny_handleBy_nil ?_
  unfold PySem.passOn
  refine wpAny_bind (wpAny_field he hd h1 ?_)
  rw [if_neg (show ¬ ((Value.ref T == Value.none) = true) from by simp)]
  first | exact wpAny_bind (wpAny_pure (wpAny_bind out)) | exact wpAny_bind out
/-- the clauses, one behind the other -/
theorem Met.goes (hs : X.stack = X.env :: X.outer) (hf : X.env.frame = some X.env.locals) (hN : X.N.Nodup) {W : WX} (tk : Takes X W) {D : Ends} : ∀ {hds : List ExceptHandler} {l : List (Value × Nat × SuiteR)}, HdsA X hds l → Met X pins σ H a cls d s → wManyA X.K X.N.length W D l cls d σ H →
    wpAny (model X.prog X.w) X.A (handleBy (.ref a) X.env hds) (SP X pins D) X.xe s
  | _, _, .nil, m, w => m.none_ hs hf tk w
  | _, _, .cons (i := i) (n := n) (q := q) hc hi hk hsu r, m, w => by
    obtain ⟨b, hb, yes, no⟩ := w
    obtain ⟨oe, vs, o1, o2, o3, o4, o5⟩ := m.obj hf
    have I0 := m.inv
    have ask := PySem.W.exm_one (M := model X.prog X.w) I0.kIn (fun A Q E s k q => wpAny_typeOf_ref (k _ _ o1) (by rw [o2.1]; exact q)) hb
    refine wpAny_handleBy_cons (codeAny_handlers_test (m.asks hf hc (ask.here ?_))) (fun z => nomatch z)
    cases b with
    | false => exact Met.goes hs hf hN tk r m (no rfl)
    | true =>
      obtain ⟨⟨B, sI, J, nb, up, os, ag, fl⟩, fr⟩ := id m
      refine codeAny_handlers_suite_as (HandSPX.lands_againZ fl fun h4 f4 u4 => ?_)
      have m4 : Met X pins σ H a cls d { s with heap := h4 } := ⟨⟨B, sI, J, nb, up.trans u4, os, ag, f4⟩, fr⟩
      obtain ⟨o, vs, p1, p2, p3, p4, p5⟩ := m4.obj hf
      have ok := I0.ok
      refine store_ok (X := X.suite a ((a, o) :: (X.pn ++ pins))) (v := .ref a) (m4.inv.suite p1 p3 fr p4 p5) hN hi (.inl hk) rfl (fun t St => ?_) (.inr hk)
      refine wpAny_mono ((hsu a o cls d (X.pn ++ pins) p2 ⟨_, p3⟩).run [] t _ H _ St (yes rfl a fr J.len)) (fun fl2 u end2 => ?_) (fun _ _ z => z.elim)
      have leave : ∀ {τ : L2.St} {G : Hp} {Q : Shared → Prop}, Inv (X.suite a ((a, o) :: (X.pn ++ pins))) [] τ G u → (∀ u', Inv X pins (τ.set i none) G u' → Q u') → wpAny (model X.prog X.w) X.A (do bindName X.env n .none; unbindBehindTheSuite X.env n q) (fun _ u' => Q u') X.xe u :=
        fun I6 k => gone_ok (I6.unsuite ok) hN hi hk k
      cases fl2 <;> (first
        | (obtain ⟨τ, G, I6, k⟩ := end2; exact leave I6 fun u' J6 => ⟨_, _, J6, k⟩)
        | (obtain ⟨v, τ, G, I6, r6, k⟩ := end2; exact leave I6 fun u' J6 => ⟨_, _, _, J6, r6, k⟩))
end
/-- what the flow of the body was, out of the try -/
theorem sp_out {X : Cx} {pins pn : List (Addr × Obj)} {xe : Value → Shared → Prop} {D : Ends} {f : Flow} {s : Shared} (ok : X.Ok) (h : SP (X.tr (X.pn ++ pins) xe) pn D f s) : SP X pins D f s := by
  cases f <;> (first
    | (obtain ⟨τ, G, I, k⟩ := h; exact ⟨τ, G, I.ofTry ok, k⟩)
    | (obtain ⟨v, τ, G, I, r, k⟩ := h; exact ⟨v, τ, G, I.ofTry ok, r, k⟩))
theorem ps_try_manyA {X : Cx} {body : List Stmt} {h₀ : ExceptHandler} {hds : List ExceptHandler} {l : List (Value × Nat × SuiteR)} {pos : Pos} {tb : WX → TS} {Wout : WX} (hs : X.stack = X.env :: X.outer) (hf : X.env.frame = some X.env.locals) (hN : X.N.Nodup) (tk : Takes X Wout)
    (hb : ∀ W pn xe, Takes (X.tr pn xe) W → PassesOwn (model X.prog X.w) X.A X.env xe → PSs (X.tr pn xe) body (tb W)) (hh : HdsA X (h₀ :: hds) l) : PS X (.Try body (h₀ :: hds) [] [] pos) (fun D σ H => tb (wManyA X.K X.N.length Wout D l) D σ H) := by
  constructor
  intro pins s σ H D I h
  have ok := I.ok
  have fr : X.A.frames = some (X.env :: X.outer) := ok.frames.trans (by rw [hs])
  have B := hb (wManyA X.K X.N.length Wout D l) (X.pn ++ pins) (fun e t => wpAny (model X.prog X.w) X.A (noteFrame e X.env) (fun _ t => wpAny (model X.prog X.w) X.A (setFlight e none) (fun _ t => wpAny (model X.prog X.w) X.A (handleBy e X.env (h₀ :: hds)) (SP X pins D) X.xe t) X.xe t) X.xe t) ?_ PassesOwn.looking
  · refine wpAny_Try_except (wpAny_mono (B.run [] s σ H D (I.toTry _) h) (fun f t e => ?_) fun _ _ z => z)
    have e' := sp_out ok e
    cases f with
    | next => exact wpAny_execs_nil e'
    | _ => exact e'
  · rintro u t ⟨a, G, sI, pins', τ, H', cls, d, rfl, J', nb, up, sky, na, os, ag, w⟩
    have J : Inv X pins τ H' sI := J'.ofTry ok
    have sky2 : Sky G (X.env :: X.outer) a (Zc cls d) X.env.locals t.heap := hs ▸ sky
    exact Sky.land Zc.steady fr hf sky2 fun h3 fl u3 => Met.goes hs hf hN tk hh ⟨⟨G, sI, J, nb, up.trans u3, os, ag, fl⟩, na⟩ w
end Wk

set_option Elab.async false
set_option linter.all false
set_option maxRecDepth 100000
set_option maxHeartbeats 4000000
namespace Wk
open PySem L2 Evl
/-! ### a weighting that is made where an exception may leave -/
def spWX (chk : Ms → Ss → Mm Wt) (K : PySem.W.Frag) (C : Addr) : Sp := fun vs H Q E => ∃ (F : Hp) (x dx : Addr) (vm vs' : V) (m : Ms) (s : Ss), vs = [.ref x, vm, vs'] ∧ Ex F H ∧ H x = some (.ins C dx []) ∧ F x = none ∧
  Dq K F vm (eM m) ∧ Dq K F vs' (eS s) ∧ Post (chk m s) (fun w => ∀ F' H' a b, Gm [x] F H F' H' → H' x = some (.ins C dx (wf a b)) → F' x = none → Dq K F' a (eM w.1) → Dq K F' b (eS w.2) → Q .non H') (fun e_ => RetX [x] K F H e_ E)
theorem make_WX {chk : Ms → Ss → Mm Wt} {K : PySem.W.Frag} {C : Addr} {F H : Hp} {vm vs : V} {m : Ms} {s : Ss} {Q : VK} {E : XK} (e : Ex F H) (hm : Dq K F vm (eM m)) (hs : Dq K F vs (eS s))
    (k : Post (chk m s) (fun w => Ret [] F H (fun F' _ v => IsW K C F' v w) Q) (fun e_ => RetX [] K F H e_ E)) :
    ∀ x dx, H x = none → H dx = none → dx ≠ x → spWX chk K C (.ref x :: ([vm, vs] ++ [])) (upd (upd H dx (.own x)) x (.ins C dx [])) (fun v H2 => v = .non ∧ Q (.ref x) H2) E := by
  intro x dx hx hdx hne
  have g1 : Gm [] F H (upd F dx (.own x)) (upd H dx (.own x)) := Gm.new e hdx
  have hx1 : (upd H dx (.own x)) x = none := by rw [upd_ne hne.symm]; exact hx
  have g2 : Gm [] (upd F dx (.own x)) (upd H dx (.own x)) (upd F dx (.own x)) (upd (upd H dx (.own x)) x (.ins C dx [])) := Gm.newM g1.s hx1
  have fx : (upd F dx (.own x)) x = none := by
    cases q : (upd F dx (.own x)) x with
    | none => rfl
    | some u => rw [g1.s _ _ q] at hx1; cases hx1
  refine ⟨_, x, dx, vm, vs, m, s, rfl, g2.s, upd_same, fx, hm.up g1.f, hs.up g1.f, k.mono (fun w k F' H' a b g h1 h2 ha hb => ⟨rfl, ?_⟩) (fun e_ z cls d F' H' g y => z cls d F' H' (Gm.young (g1.trans g2) hx g) y)⟩
  have gg : Gm [] F H F' H' := Gm.young (g1.trans g2) hx g
  have g3 := gg.fix h1 h2 hx
  have up : Ex F' (upd F' x (.ins C dx (wf a b))) := Ex.new h2
  exact k _ _ _ g3 ⟨x, dx, a, b, rfl, upd_same, ha.up up, hb.up up⟩
/-! ### values of unlike kinds -/
def asI (d : PyData) : Mm Int := match d with
  | .int i => .ok i
  | _ => .bad
theorem post_asI {β : Type} {d : PyData} {f : Int → Mm β} {ok : β → Prop} {ex : Er → Prop} (h : Post ((asI d).bd f) ok ex) : ∃ i, d = .int i ∧ Post (f i) ok ex := by
  cases d with
  | int i => exact ⟨i, rfl, ⟨h.h⟩⟩
  | _ => exact h.h.elim
section
variable {K : PySem.W.Frag} {F : Hp} {v : V} {xs : List V} {l : List Int}
theorem map_intD (l : List Int) : List.map id (List.map PyData.int l) = List.map PyData.int l := by simp
theorem dq_LI (h : Dq K F v (eL PyData.int l)) : Dq K F v (eL id (l.map PyData.int)) := by
  show Dq K F v (.list ((l.map PyData.int).map id))
  rw [map_intD]
  exact h
theorem all_LI (h : DqAll K F xs (List.map PyData.int l)) : DqAll K F xs (List.map id (l.map PyData.int)) := by
  rw [map_intD]
  exact h
end
section
variable {X : Cx}
theorem call_isiB : CallR X (.builtin "isinstance") (fun xs H Q => ∃ (b : Bool) (n : String), xs = [.bl b, .ty n] ∧ (n = "int" ∨ n = "bool") ∧ Q (.bl true) H) := by
  intro pins s σ H vs us Q I r h
  obtain ⟨i, n, rfl, hn, q⟩ := h
  rcases hn with rfl | rfl
  · exact call_isi pins s σ H _ us Q I r ⟨_, _, _, _, true, rfl, .ty _, .base (.bl i), kit_ty (by decide +kernel), q⟩
  · exact call_isi pins s σ H _ us Q I r ⟨_, _, _, _, true, rfl, .ty _, .base (.bl i), kit_ty (by decide +kernel), q⟩
end
/-! ### answers of unlike kinds: None, an int, a tuple of a text and ints -/
inductive Kw where
  | weighting | places | weights | sums | number | polynomial | few | fraction | none_ | other | readings | place | clash | text
deriving DecidableEq
def Kw.w : Kw → Str
  | .weighting => "weighting" | .places => "places" | .weights => "weights" | .sums => "sums" | .number => "number" | .polynomial => "polynomial" | .few => "few" | .fraction => "fraction" | .none_ => "none" | .other => "other"
  | .readings => "readings" | .place => "place" | .clash => "clash" | .text => "text"
theorem Kw.inj : ∀ a b : Kw, (a.w == b.w) = decide (a = b) := by
  intro a b
  cases a <;> cases b <;> rfl
inductive Xr where
  | non
  | int (i : Int)
  | tup (s : Kw) (is : List Int)
deriving DecidableEq
def eX : Xr → PyData
  | .non => .none
  | .int i => .int i
  | .tup s is => .tuple (.str s.w :: is.map PyData.int)
theorem eqv_ints : ∀ l r : List Int, PyData.eqvAll (l.map PyData.int) (r.map PyData.int) = decide (l = r) := fun l r => eqv_map sh_int l r
theorem sh_X : Sh eX 2 := ⟨fun x => by
    cases x with
    | non => simp [eX, PyData.canLay0]
    | int i => simp [eX, PyData.canLay0]
    | tup s is =>
      have z : PyData.strOk s.w = true := by cases s <;> decide +kernel
      simp [eX, PyData.canLay0, PyData.canLayAll0, lay_map sh_int is, z], fun x => by
    cases x with
    | non => simp [eX, PyData.depth]
    | int i => simp [eX, PyData.depth]
    | tup s is =>
      have := dep_map sh_int is
      simp [eX, PyData.depth, PyData.depthAll]
      omega, fun x y => by
    cases x with
    | non => cases y <;> simp [eX, PyData.eqv]
    | int i =>
      cases y with
      | int j =>
        simp only [eX, PyData.eqv]
        exact Bool.eq_iff_iff.mpr (by simp)
      | _ => simp [eX, PyData.eqv]
    | tup s is =>
      cases y with
      | non => simp [eX, PyData.eqv]
      | int i => simp [eX, PyData.eqv]
      | tup s' is' =>
        simp only [eX, PyData.eqv, PyData.eqvAll, eqv_ints, Kw.inj]
        exact Bool.eq_iff_iff.mpr (by simp)⟩
theorem none_X {K : PySem.W.Frag} {F : Hp} {v : V} {x : Xr} (h : Dq K F v (eX x)) : decide (v = V.non) = decide (x = Xr.non) := by
  cases x with
  | non =>
    cases h
    rfl
  | int i =>
    cases h
    rfl
  | tup s is =>
    cases h
    rfl
/-! ### words of defs that may raise -/
theorem post_noE {α β : Type} {m : Mm α} {f : α → Mm β} {ok : β → Prop} {ex : Er → Prop} (h : Post ((noEx m).bd f) ok ex) : Post m (fun a => Post (f a) ok ex) (fun _ => False) := by
  cases m with
  | ok a => exact ⟨⟨h.h⟩⟩
  | ex e => exact h.h.elim
  | bad => exact h.h.elim
@[simp] theorem noEx_ok {α : Type} (a : α) : noEx (Mm.ok a) = Mm.ok a := rfl
def Er.f1 (e : Er) : Mm Int := match e.fs with
  | [i] => .ok i
  | _ => .bad
def Er.f2 (e : Er) : Mm (Int × Int) := match e.fs with
  | [i, j] => .ok (i, j)
  | _ => .bad
theorem post_f1 {β : Type} {e : Er} {f : Int → Mm β} {ok : β → Prop} {ex : Er → Prop} (h : Post ((e.f1).bd f) ok ex) : ∃ i, e.fs = [i] ∧ Post (f i) ok ex := by
  unfold Er.f1 at h
  split at h
  · rename_i i he
    exact ⟨i, he, ⟨h.h⟩⟩
  · exact h.h.elim
theorem post_f2 {β : Type} {e : Er} {f : Int × Int → Mm β} {ok : β → Prop} {ex : Er → Prop} (h : Post ((e.f2).bd f) ok ex) : ∃ i j, e.fs = [i, j] ∧ Post (f (i, j)) ok ex := by
  unfold Er.f2 at h
  split at h
  · rename_i i j he
    exact ⟨i, j, he, ⟨h.h⟩⟩
  · exact h.h.elim
theorem xd1 {K : PySem.W.Frag} {F : Hp} {cls : Value} {d : Option Addr} {e : Er} {c : Nat} {i : Int} (h : XD K F cls d e) (hc : e.c = c) (hf : e.fs = [i]) : cls = .ref (He.ga K (exN c)) ∧ ∃ dx, d = some dx ∧ F dx = some (.xd ((exF c).zip [V.int i]).reverse) := by
  obtain ⟨h1, h2⟩ := h
  obtain ⟨ec, efs⟩ := e
  dsimp only at hc hf
  subst hc
  subst hf
  refine ⟨h1, ?_⟩
  rcases h2 with ⟨z, _⟩ | h2
  · cases z
  · exact h2
theorem xd2 {K : PySem.W.Frag} {F : Hp} {cls : Value} {d : Option Addr} {e : Er} {c : Nat} {i j : Int} (h : XD K F cls d e) (hc : e.c = c) (hf : e.fs = [i, j]) : cls = .ref (He.ga K (exN c)) ∧ ∃ dx, d = some dx ∧ F dx = some (.xd ((exF c).zip [V.int i, V.int j]).reverse) := by
  obtain ⟨h1, h2⟩ := h
  obtain ⟨ec, efs⟩ := e
  dsimp only at hc hf
  subst hc
  subst hf
  refine ⟨h1, ?_⟩
  rcases h2 with ⟨z, _⟩ | h2
  · cases z
  · exact h2
end Wk
namespace Wk
open PySem L2 Evl
theorem post_cond {α : Type} {c : Bool} {X Y : Mm α} {p : α → Prop} {q : Er → Prop} (k : Post (cond c X Y) p q) : (c = true ∧ Post X p q) ∨ (c = false ∧ Post Y p q) := by
  cases c with
  | true => exact .inl ⟨rfl, ⟨k.h⟩⟩
  | false => exact .inr ⟨rfl, ⟨k.h⟩⟩
end Wk
namespace Wk
open PySem L2 Evl
def Er.g2 {β : Type} (e : Er) (f : Int → Int → Mm β) : Mm β := match e.fs with
  | [i, j] => f i j
  | _ => .bad
theorem post_g2 {β : Type} {e : Er} {f : Int → Int → Mm β} {ok : β → Prop} {ex : Er → Prop} (h : Post (Er.g2 e f) ok ex) : ∃ i j, e.fs = [i, j] ∧ Post (f i j) ok ex := by
  unfold Er.g2 at h
  split at h
  · rename_i i j he
    exact ⟨i, j, he, ⟨h.h⟩⟩
  · exact h.h.elim
end Wk

set_option Elab.async false
set_option linter.all false
set_option maxRecDepth 100000
set_option maxHeartbeats 4000000
namespace Wk
open PySem L2 Evl
theorem txt_app {a : Str} {i : Int} {n : Nat} (ha : a.length ≤ n) (hi : i.natAbs < 18446744073709551616) : (a ++ (PySem.Str.ofString (toString i))).length ≤ n + 1921 := by
  have := txt_small hi
  rw [PySem.Str.length_append]
  omega
theorem txt_app2 {a b : Str} {n m : Nat} (ha : a.length ≤ n) (hb : b.length ≤ m) : (a ++ b).length ≤ n + m := by
  rw [PySem.Str.length_append]
  omega
theorem txt_fit {a : Str} {n : Nat} (h : a.length ≤ n) (hn : n ≤ 10000) : a.length ≤ sizeLine := by
  rw [sizeLine_eq]
  omega
/-- the reading of f'..{i}' -/
theorem js1 {w1 : Str} {te : TE} {σ : L2.St} {H : Hp} {Q : Str → Hp → Prop} {i : Int} (h1 : w1.length ≤ 100) (hi : i.natAbs < 18446744073709551616) (ht : ∀ Q : VK, Q (.int i) H → te σ H Q) (q : ∀ y : Str, Q y H) :
    tJs [tC (.str w1), tFmt te] Str.empty σ H Q := by
  have e0 : (Str.empty ++ w1).length ≤ 100 := by rw [PySem.Str.length_append, show Str.empty.length = 0 from rfl]; omega
  exact ⟨w1, rfl, txt_fit e0 (by decide), ht _ (.inr ⟨i, rfl, log_small hi, _, rfl, txt_fit (txt_app e0 hi) (by decide), q _⟩)⟩
/-- the reading of f'..{i}..{j}' -/
theorem js2 {w1 w2 : Str} {te te' : TE} {σ : L2.St} {H : Hp} {Q : Str → Hp → Prop} {i j : Int} (h1 : w1.length ≤ 100) (h2 : w2.length ≤ 100) (hi : i.natAbs < 18446744073709551616) (hj : j.natAbs < 18446744073709551616)
    (ht : ∀ Q : VK, Q (.int i) H → te σ H Q) (ht' : ∀ Q : VK, Q (.int j) H → te' σ H Q) (q : ∀ y : Str, Q y H) : tJs [tC (.str w1), tFmt te, tC (.str w2), tFmt te'] Str.empty σ H Q := by
  have e0 : (Str.empty ++ w1).length ≤ 100 := by rw [PySem.Str.length_append, show Str.empty.length = 0 from rfl]; omega
  have e1 := txt_app e0 hi
  have e2 := txt_app2 e1 h2
  exact ⟨w1, rfl, txt_fit e0 (by decide), ht _ (.inr ⟨i, rfl, log_small hi, _, rfl, txt_fit e1 (by decide), w2, rfl, txt_fit e2 (by decide), ht' _ (.inr ⟨j, rfl, log_small hj, _, rfl, txt_fit (txt_app e2 hj) (by decide), q _⟩)⟩)⟩
end Wk
namespace Wk
open PySem L2 Evl
theorem IniD.binds {K : PySem.W.Frag} {P : Program} {mg : Str → Option Value} {x name qual : Str} {params : Arguments} {body : List Stmt} {scope : Scope} {fd : FuncData} {cda cc : Addr} {ps : List Str} (I : IniD K P mg x name qual params body scope fd cda cc) (hd : params.defaults = [])
    (h : ∀ (kV doc pm ct : Value) (an : Option Addr) (cdv : Value) (cc : Addr) (us : List Value), us.length = ps.length → bindArgs (PySem.W.ksFn name qual params body scope .none kV doc pm an cdv ct cc) ⟨us, []⟩ = pure (ps.zip us)) : Binds K fd ps [] := by
  obtain ⟨oc, od, kV, doc, pm, ct, an, osl, rfl, lk⟩ := I.lk
  exact .all (h kV doc pm ct an (.ref cda) cc)
end Wk

set_option Elab.async false
set_option linter.all false
set_option maxRecDepth 100000
set_option maxHeartbeats 4000000
namespace Wk
open PySem L2 Evl PySem.Spec PyProof.Rows
/-! ### xs.count(y), flat items -/
section
variable {X : Cx}
def rCount (K : PySem.W.Frag) : V → List V → Hp → VK → Prop := fun x xs H Q => ∃ (a : Addr) (ys : List V) (y : V), x = V.ref a ∧ xs = [y] ∧ SqL K H a ys ∧ flatV y = true ∧ ys.all flatV = true ∧ Q (.int ((ys.countP fun z => eqV z y : Nat) : Int)) H
theorem countP_vals {y : V} {ys : List V} {us : List Value} (r : Vals ys us) (f : ys.all flatV = true) : us.countP (eqU y) = ys.countP fun z => eqV z y := by
  induction r with
  | nil => rfl
  | cons h _ ih =>
    obtain ⟨f1, f2⟩ := Bool.and_eq_true_iff.mp (List.all_cons ▸ f)
    simp only [List.countP_cons, eqU_of h f1, ih f2]
theorem mt_count : MtR X "list.count" (rCount X.K) := by
  rintro pins s σ H x zs v us Q I rx rz ⟨a, ys, y, rfl, rfl, hs, fy, fys, q⟩
  obtain rfl : v = Value.ref a := rx
  obtain ⟨u, rfl, ru⟩ : ∃ u, us = [u] ∧ RelV y u := by
    cases rz with
    | cons h t =>
      cases t
      exact ⟨_, rfl, h⟩
  obtain ⟨its, rv, pl, _⟩ := I.list hs
  obtain ⟨⟨oc, od, dt, sl⟩, n, ho, k1, _, k2⟩ := pl
  dsimp only at k1 k2
  subst k1 k2
  have each : ∀ w ∈ its.toArray, SeqAt.EqAt X.A.in1 s w u (eqU y w) := fun w hw => mem_eqAt ru fy rv fys w (by simpa using hw)
  have c : its.toArray.toList.countP (eqU y) = ys.countP fun z => eqV z y := countP_vals rv fys
  refine call_meets F.slot_list_count ⟨_, ho, rfl⟩ F.entry_list_count (F.args_list_count_2 _ _) (SeqAt.list_countAt a _ n od sl u (eqU y)) ⟨ho, each, ?_⟩
  rw [c]
  exact ⟨.int _, H, I.tok _, ⟨_, rfl⟩, q⟩
end
/-! ### isinstance of a caught exception, with or without fields -/
/-- what the class D must say -/
structure ExcI (K : PySem.W.Frag) (D : Addr) : Prop where
  cl : (PySem.W.clsIn K D).isSome = true
  hg : PySem.W.findIn K (.ref D) "__getattribute__" = some (some (.builtin "BaseException.__getattribute__"))
  hk : PySem.W.findIn K (.ref D) "__getattr__" = some none
  hs : PySem.W.subIn K (.ref D) (.type "BaseException") = some true
  ha : PySem.W.findIn K (.ref D) "__class__" = some (some (.builtin "object.__class__"))
  hn : PySem.W.specialIn K (.builtin "object.__class__") "__get__" = some (some (.builtin "getset_descriptor.__get__"))
  ht : PySem.W.takesIn K (.builtin "object.__class__") = some true
  hm : PySem.W.mroIn K D (.type "object") = some true
def excIB (K : PySem.W.Frag) (D : Addr) : Bool := (PySem.W.clsIn K D).isSome && (He.eqO (PySem.W.findIn K (.ref D) "__getattribute__") (some (some (.builtin "BaseException.__getattribute__"))) && (He.eqO (PySem.W.findIn K (.ref D) "__getattr__") (some none) && (decide (PySem.W.subIn K (.ref D) (.type "BaseException") = some true) &&
  (He.eqO (PySem.W.findIn K (.ref D) "__class__") (some (some (.builtin "object.__class__"))) && (He.eqO (PySem.W.specialIn K (.builtin "object.__class__") "__get__") (some (some (.builtin "getset_descriptor.__get__"))) && (decide (PySem.W.takesIn K (.builtin "object.__class__") = some true) && decide (PySem.W.mroIn K D (.type "object") = some true)))))))
theorem excIB_ok {K : PySem.W.Frag} {D : Addr} (h : excIB K D = true) : ExcI K D := by
  obtain ⟨h1, h⟩ := He.ba h
  obtain ⟨h2, h⟩ := He.ba h
  obtain ⟨h3, h⟩ := He.ba h
  obtain ⟨h4, h⟩ := He.ba h
  obtain ⟨h5, h⟩ := He.ba h
  obtain ⟨h6, h⟩ := He.ba h
  obtain ⟨h7, h8⟩ := He.ba h
  exact ⟨h1, He.eqO_ok h2, He.eqO_ok h3, of_decide_eq_true h4, He.eqO_ok h5, He.eqO_ok h6, of_decide_eq_true h7, of_decide_eq_true h8⟩
/-- isinstance(e, c): e the exception that the suite holds, of the class cls, its dict d -/
def rIsX (K : PySem.W.Frag) (a : Addr) (cls : Value) (d : Option Addr) : List V → Hp → VK → Prop := fun xs H Q => ∃ (D : Addr) (c : V) (cv : Value) (b : Bool), cls = .ref D ∧ ExcI K D ∧ xs = [.ref a, c] ∧ (∀ u, RelV c u → u = cv) ∧
  (d = none ∨ ∃ (dx : Addr) (fs : List (Str × V)), d = some dx ∧ H dx = some (.xd fs)) ∧ PySem.W.kitOne K (.ref D) cv = some b ∧ Q (.bl b) H
theorem call_isX {X : Cx} {a : Addr} {cls : Value} {oe : Obj} {d : Option Addr} {pn : List (Addr × Obj)} (hz : Zc cls d oe) (hf : ∃ vs, oe.data = .fields vs) : CallR (X.suite a ((a, oe) :: pn)) (.builtin "isinstance") (rIsX X.K a cls d) := by
  rintro pins s σ H xs us Q I r ⟨D, c, cv, b, rfl, C, rfl, hcv, hd, e, q⟩
  obtain ⟨ve, vc, rfl, re, rc⟩ : ∃ ve vc, us = [ve, vc] ∧ RelV (V.ref a) ve ∧ RelV c vc := by
    cases r with
    | cons h1 t =>
      cases t with
      | cons h2 t =>
        cases t
        exact ⟨_, _, rfl, h1, h2⟩
  obtain rfl : ve = Value.ref a := re
  rw [hcv _ rc]
  have stands : s.heap.get? a = some oe := (I.pin (a, oe) (List.mem_append_left _ List.mem_cons_self)).1
  obtain ⟨vs, hv⟩ := hf
  have nc : PySem.W.notCls oe = true := by unfold PySem.W.notCls; rw [hv] <;> rfl
  have inst : ∃ od, PySem.W.InstAt s.heap a oe D od := by
    rcases hd with rfl | ⟨dx, fs, rfl, hx⟩
    · exact ⟨none, stands, hz.1, nc, by rw [hz.2]; trivial⟩
    · have z : ObjOk X.prog X.w H s.heap dx (.xd fs) := I.hok dx _ hx
      obtain ⟨m, hm, _⟩ := z
      obtain ⟨od, h1, _⟩ := lookIn_ns hm
      exact ⟨some od, stands, hz.1, nc, by rw [hz.2]; exact h1⟩
  obtain ⟨od, J⟩ := inst
  exact PySem.W.kia_one (PySem.W.kitx_exc C.cl C.hg C.hk C.hs C.ha C.hn C.ht C.hm) I.kIn J e (fun z => nomatch z) fun tk => ⟨.bl b, H, I.kept (t' := tk) fun _ _ z => z, rfl, q⟩
/-- e.f, whatever the class is -/
def tXfG (K : PySem.W.Frag) (a : Addr) (cls : Value) (d : Option Addr) (f : Str) (te : TE) : TE := fun σ H Q => te σ H fun x H1 => x = .ref a ∧ ∃ C : Addr, cls = .ref C ∧ XfC K C ∧ PySem.W.findIn K (.ref C) f = some none ∧
  ∃ (dd : Addr) (fs : List (Str × V)) (v : V), d = some dd ∧ H1 dd = some (.xd fs) ∧ fs.lookup f = some v ∧ Q v H1
theorem pe_xfG {X : Cx} {a : Addr} {oe : Obj} {cls : Value} {d : Option Addr} {pn : List (Addr × Obj)} {e : Expr} {te : TE} {pos : Pos} {n : Str} (hz : Zc cls d oe) (hf : ∃ vs, oe.data = .fields vs) (he : PE (X.suite a ((a, oe) :: pn)) e te)
    (hb : attributeBase e n X.env (eval e X.env) = eval e X.env := by rfl) : PE (X.suite a ((a, oe) :: pn)) (.Attribute e n pos) (tXfG X.K a cls d n te) := by
  constructor
  intro pins s σ H Q I h
  refine attr_of hb (thn (he.run pins s σ H _ I h) fun u t => ?_)
  rintro ⟨x, G, I1, rx, rfl, C, rfl, T, no, dd, fs, v, rfl, ea, l, q⟩
  obtain rfl : u = Value.ref a := rx
  have at_ : t.heap.get? a = some oe := (I1.pin (a, oe) (List.mem_append_left _ List.mem_cons_self)).1
  obtain ⟨vs, hv⟩ := hf
  have z : ObjOk X.prog X.w G t.heap dd (.xd fs) := I1.hok dd _ ea
  obtain ⟨m, hm, hr⟩ := z
  obtain ⟨od, k1, k2⟩ := lookIn_ns hm
  obtain ⟨y, k3, k4⟩ := RelO.some_of (v := v) (o := m n) (by rw [← l]; exact hr n)
  have J : PySem.W.InstAt t.heap a oe C (some od) := ⟨at_, hz.1, by unfold PySem.W.notCls; rw [hv] <;> rfl, by rw [hz.2]; exact k1⟩
  exact HandSPX.exc_get I1.kIn J T.ga T.gg T.exC (PySem.W.findObj_own T.hdC no rfl (by rw [k2, k3])) (handed_of k4) ⟨v, G, I1.tok _, k4, q⟩
/-! ### a class without own __init__, called with what you will -/
section
variable {X : Cx} {C : Addr} {bmB : List Value} {B newId initId : String}
theorem pmk_own1 {x : Str} {e : Expr} {es : List Expr} {ta : TA} {p pos : Pos} (F : ExcBaseFacts B newId initId bmB) (q : PySem.W.excIn X.K C bmB newId = true) (gC : X.mg x = some (.ref C)) (kC : PySem.W.keepIn X.K (.ref C) = true) (r : Raises X (.ref C)) (ha : PA X (e :: es) ta) (hg : Gl X x)
    (hdb : (x == ("__debug__" : Str)) = false := by decide) (he : starEach (e :: es) X.env = (false, eval e X.env) :: starEach es X.env := by rfl) (hpl : (backTo pos (starEach es X.env)).any (·.1) = false := by rfl) :
    PMk X (.Call (.Name x p) (e :: es) [] pos) (fun σ H Q => ta σ H fun vs H1 => vs.length ≤ 1000 ∧ Q (.ref C) none H1) := by
  intro pins s σ H Q I h
  refine wpAny_Call_Name_kw (ld_glob I hg gC ?_ hdb)
  refine PySem.W.callWith_K (h₀ := X.base) I.ok.mod.kin kC (thn (ha.run pos pins s σ H _ I h) fun us s1 hh => ?_) he hpl
  obtain ⟨vs, H1, I1, r1, hz, q1⟩ := hh
  refine ⟨I1.kIn, ?_⟩
  have hus : us.length ≤ sizeLine := by
    rw [← Paired.length r1, sizeLine_eq]
    omega
  show wpAny _ _ (call (.ref C) us) _ _ _
  obtain ⟨bm, N, nm, qn, bs, hdct, sn, sub, ab, col, dd, k0, k1, k2, k3, k5, mN, hC, hN, hni, T⟩ := exc_obj I1.kIn q
  refine wpAny_call_exc_subT F T hC hN hni (fun h' e hm => ?_) hus
  exact mk_of I1 hm r q1 (I1.hok.gone hm.new)
/-- a class without own __init__ that is known -/
structure KnP0 (K : PySem.W.Frag) (mg : Str → Option Value) (x : Str) : Prop where
  ex : PySem.W.excIn K (He.ga K x) He.veBase "ValueError.__new__" = true
  kp : PySem.W.keepIn K (.ref (He.ga K x)) = true
  sub : PySem.W.subIn K (.ref (He.ga K x)) (.type "BaseException") = some true
  typ : PySem.W.typeIn K (.ref (He.ga K x)) = some (.type "type")
  glo : mg x = some (.ref (He.ga K x))
theorem ps_raise0 {W : WX} {x : Str} {e : Expr} {es : List Expr} {ta : TA} {p pos pos' : Pos} (G : KnP0 X.K X.mg x) (tk : Takes X W) (ha : PA X (e :: es) ta) (hc : X.calm = true := by rfl) (hg : Gl X x := by rfl) (hdb : (x == ("__debug__" : Str)) = false := by decide)
    (he : starEach (e :: es) X.env = (false, eval e X.env) :: starEach es X.env := by rfl) (hpl : (backTo pos (starEach es X.env)).any (·.1) = false := by rfl) :
    PS X (.Raise (some (.Call (.Name x p) (e :: es) [] pos)) none pos') (fun _ σ H => ta σ H fun vs H1 => vs.length ≤ 1000 ∧ W (.ref (He.ga X.K x)) none σ H1) :=
  ps_raise hc tk (pmk_own1 F.excBase_ValueError G.ex G.glo G.kp (raises_own G.sub G.typ) ha hg hdb he hpl)
end
/-- a method of a list with arguments; the reading names the table of classes, not the suite -/
theorem pe_bmK {X : Cx} {K : PySem.W.Frag} {o e : Expr} {es : List Expr} {to : TE} {t : TA} {name : Str} {apos cpos : Pos} {T id : String} {rr : PySem.W.Frag → V → List V → Hp → VK → Prop} (hK : X.K = K) (pa : PlainAttrs T) (slot : Slot T name id) (hty : typeOf (.builtin id) = pure (.type "method_descriptor"))
    (hm : ∀ Y : Cx, MtR Y id (rr Y.K)) (ho : PE X o to) (ha : PA X (e :: es) t) (hbase : attributeBase o name X.env (eval o X.env) = eval o X.env := by rfl)
    (hfew : ((backTo cpos (starEach (e :: es) X.env)).all (fun x => !x.1) && (backToKw cpos (keywordEach [] X.env)).all (fun x => x.1.isSome) && decide ((e :: es).length + ([] : List Keyword).length + (if ([] : List Keyword).isEmpty then 0 else 1) < 30)) = true := by rfl)
    (hline : (apos.endLine == cpos.line) = true := by rfl) (hs : starEach (e :: es) X.env = (false, eval e X.env) :: starEach es X.env := by rfl) (hplain : (backTo cpos (starEach es X.env)).any (·.1) = false := by rfl) : PE X (.Call (.Attribute o name apos) (e :: es) [] cpos) (tBM K T (rr K) to t) := by
  subst hK
  exact pe_bm pa slot hty (hm X) ho ha hbase hfew hline hs hplain
end Wk

set_option Elab.async false
set_option linter.all false
set_option maxRecDepth 100000
set_option maxHeartbeats 4000000
namespace Wk
open PySem L2 Evl LamX
/-! ### laws that make lambdas: the tables of code objects -/
/-- the fixed part without tables -/
def noTab (F : Hp) : Hp := fun b => match F b with
  | some (.tbl _) => none
  | o => o
theorem noTab_at {F : Hp} {b : Addr} {o : HO} (h : F b = some o) (n : ∀ ps, o ≠ .tbl ps) : noTab F b = some o := by
  unfold noTab
  rw [h]
  cases o <;> first | rfl | exact absurd rfl (n _)
theorem noTab_of {F : Hp} {b : Addr} {o : HO} (h : noTab F b = some o) : F b = some o ∧ ∀ ps, o ≠ .tbl ps := by
  unfold noTab at h
  split at h
  · cases h
  · rename_i hn
    refine ⟨h, fun ps z => ?_⟩
    subst z
    exact hn _ h
/-- over the making of a lambda it is kept -/
theorem noTab_ext {F H H1 : Hp} (e : Ex F H) (x : ExtN H H1) : Ex (noTab F) H1 := fun b o h => by
  obtain ⟨h1, h2⟩ := noTab_of h
  exact x b o (e b o h1) h2
/-- two heaps that differ by tables only -/
def ExN (F F' : Hp) : Prop := ∀ b o, F b = some o → (∀ ps, o ≠ .tbl ps) → F' b = some o
theorem exN_noTab (F : Hp) : ExN F (noTab F) := fun _ _ h n => noTab_at h n
section
variable {K : PySem.W.Frag} {F F' : Hp}
theorem exN_sq {a : Addr} {xs : List V} (e : ExN F F') (h : SqT K F a xs) : SqT K F' a xs := by
  rcases h with (h | ⟨o, h⟩) | h
  · exact .inl (.inl (e _ _ h fun ps z => by cases z))
  · exact .inl (.inr ⟨o, e _ _ h fun ps z => by cases z⟩)
  · exact .inr h
mutual
theorem dqN (e : ExN F F') : ∀ (d : PyData) (v : V), Dq K F v d → Dq K F' v d
  | .none, _, .non => .non
  | .bool _, _, .bl b => .bl b
  | .int _, _, .int i => .int i
  | .str _, _, .str x => .str x
  | .list ds, _, .lst h a => .lst (e _ _ h fun ps z => by cases z) (dqAllN e ds _ a)
  | .tuple ds, _, .tup h a => .tup (exN_sq e h) (dqAllN e ds _ a)
  | .dict _, _, h => by cases h
theorem dqAllN (e : ExN F F') : ∀ (ds : List PyData) (vs : List V), DqAll K F vs ds → DqAll K F' vs ds
  | [], _, .nil => .nil
  | d :: ds, _, .cons h a => .cons (dqN e d _ h) (dqAllN e ds _ a)
end
theorem isWN {C : Addr} {v : V} {w : Wt} (e : ExN F F') (h : IsW K C F v w) : IsW K C F' v w := by
  obtain ⟨a, dx, m, s, rfl, h1, h2, h3⟩ := h.ex
  exact ⟨a, dx, m, s, rfl, e _ _ h1 (fun ps z => nomatch z), dqN e _ _ h2, dqN e _ _ h3⟩
end
/-! ### the asker of errors: what it makes of a call that may raise -/
/-- rX: what is answered to an exception, by its kind -/
def TTr (K : PySem.W.Frag) (rX : Er → Mm Xr) : (XK → Hp → VK → Prop) → Hp → VK → Prop := fun tl H Q =>
  tl (fun cls d H' => ∃ (e : Er) (F' : Hp), Ex F' H' ∧ XD K F' cls d e ∧ Post (rX e) (fun r => Ret [] F' H' (fun F2 _ v => Dq K F2 v (eX r)) Q) (fun _ => False)) H (fun _ H' => Q .non H')
/-- a list of so many -/
theorem len_succ {α : Type} {l : List α} {n : Nat} (h : l.length = n + 1) : ∃ a t, l = a :: t ∧ t.length = n := by
  cases l with
  | nil => cases h
  | cons a t => exact ⟨a, t, rfl, by simpa using h⟩
/-- the reading of f'..{i}..' -/
theorem js3 {w1 w2 : Str} {te : TE} {σ : L2.St} {H : Hp} {Q : Str → Hp → Prop} {i : Int} (h1 : w1.length ≤ 100) (h2 : w2.length ≤ 100) (hi : i.natAbs < 18446744073709551616) (ht : ∀ Q : VK, Q (.int i) H → te σ H Q) (q : ∀ y : Str, Q y H) : tJs [tC (.str w1), tFmt te, tC (.str w2)] Str.empty σ H Q := by
  have e0 : (Str.empty ++ w1).length ≤ 100 := by rw [PySem.Str.length_append, show Str.empty.length = 0 from rfl]; omega
  have e1 := txt_app e0 hi
  exact ⟨w1, rfl, txt_fit e0 (by decide), ht _ (.inr ⟨i, rfl, log_small hi, _, rfl, txt_fit e1 (by decide), w2, rfl, txt_fit (txt_app2 e1 h2) (by decide), q _⟩)⟩
end Wk

set_option Elab.async false
set_option linter.all false
set_option maxRecDepth 100000
set_option maxHeartbeats 4000000
namespace Wk
open PySem L2 Evl
/-! ### the asker of errors -/
/-- what it answers to an exception -/
def raisedX (e : Er) : Mm Xr := match e.c, e.fs with
  | 0, [p, i] => .ok (.tup .weighting [p, i])
  | 1, [i] => .ok (.tup .places [i])
  | 2, [i] => .ok (.tup .weights [i])
  | 3, [i] => .ok (.tup .sums [i])
  | 4, [] => .ok (.tup .number [])
  | 5, [] => .ok (.tup .polynomial [])
  | 6, [] => .ok (.tup .few [])
  | 7, [] => .ok (.tup .fraction [])
  | 8, [] => .ok (.tup .none_ [])
  | _, _ => .bad
/-- what is known of the classes -/
structure RaisedK (K : PySem.W.Frag) : Prop where
  one : ∀ c ∈ List.range 9, PySem.W.exmOne K (.ref (He.ga K (exN c))) (.ref (He.ga K "ReadingError")) = some true
  is : ∀ c ∈ List.range 9, ∀ j ∈ List.range 9, PySem.W.kitOne K (.ref (He.ga K (exN c))) (.ref (He.ga K (exN j))) = some (c == j)
  ve : ∀ c ∈ List.range 9, PySem.W.kitOne K (.ref (He.ga K (exN c))) (.type "ValueError") = some true
  ec : ∀ c ∈ List.range 9, ExcI K (He.ga K (exN c))
  xf : ∀ c ∈ List.range 4, XfC K (He.ga K (exN c))
  nf : ∀ c ∈ List.range 4, ∀ f ∈ exF c, PySem.W.findIn K (.ref (He.ga K (exN c))) f = some none
def raisedB (K : PySem.W.Frag) : Bool :=
  ((List.range 9).all fun c => decide (PySem.W.exmOne K (.ref (He.ga K (exN c))) (.ref (He.ga K "ReadingError")) = some true)) && (((List.range 9).all fun c => (List.range 9).all fun j => decide (PySem.W.kitOne K (.ref (He.ga K (exN c))) (.ref (He.ga K (exN j))) = some (c == j))) &&
  (((List.range 9).all fun c => decide (PySem.W.kitOne K (.ref (He.ga K (exN c))) (.type "ValueError") = some true)) && (((List.range 9).all fun c => excIB K (He.ga K (exN c))) && (((List.range 4).all fun c => xfB K (He.ga K (exN c))) &&
  ((List.range 4).all fun c => (exF c).all fun f => He.eqO (PySem.W.findIn K (.ref (He.ga K (exN c))) f) (some none))))))
theorem raisedB_ok {K : PySem.W.Frag} (h : raisedB K = true) : RaisedK K := by
  obtain ⟨h1, h⟩ := He.ba h
  obtain ⟨h2, h⟩ := He.ba h
  obtain ⟨h3, h⟩ := He.ba h
  obtain ⟨h4, h⟩ := He.ba h
  obtain ⟨h5, h6⟩ := He.ba h
  exact ⟨fun c m => of_decide_eq_true (List.all_eq_true.mp h1 c m), fun c m j n => of_decide_eq_true (List.all_eq_true.mp (List.all_eq_true.mp h2 c m) j n), fun c m => of_decide_eq_true (List.all_eq_true.mp h3 c m), fun c m => excIB_ok (List.all_eq_true.mp h4 c m),
    fun c m => xfB_ok (List.all_eq_true.mp h5 c m), fun c m f n => He.eqO_ok (List.all_eq_true.mp (List.all_eq_true.mp h6 c m) f n)⟩
section
variable {K : PySem.W.Frag} {a : Addr} {cls : Value} {d : Option Addr}
def rdIs (K : PySem.W.Frag) (a : Addr) (cls : Value) (d : Option Addr) (v : V) : TE := tCB (rIsX K a cls d) (tCons (tVar 1) (tCons (tC v) tNil))
def rdKind (K : PySem.W.Frag) (a : Addr) (cls : Value) (d : Option Addr) (x : Str) : TE := rdIs K a cls d (V.ref (He.ga K x))
def rd3 (K : PySem.W.Frag) (a : Addr) (cls : Value) (d : Option Addr) (x y z : Str) : TE := tQ (tLst (tCons (rdKind K a cls d x) (tCons (rdKind K a cls d y) (tCons (rdKind K a cls d z) tNil))))
/-- the suite's words -/
def rdRaised (K : PySem.W.Frag) (a : Addr) (cls : Value) (d : Option Addr) : TS :=
  tSeq (tAsg (rd3 K a cls d "InvalidWeighting" "InvalidPlaces" "InvalidWeights") (gName 2)) (tSeq (tAsg (tQ (tOp rCat (tVar 2) (rd3 K a cls d "InvalidSums" "InvalidNumber" "InvalidPolynomial"))) (gName 2)) (tSeq (tAsg (tQ (tOp rCat (tVar 2) (rd3 K a cls d "TooFew" "InvalidFraction" "NoWeighting"))) (gName 2))
    (tSeq (tIfS (tOr (tTest (tOp rNe (tBM K "list" (rCount K) (tVar 2) (tCons (tC (V.bl true)) tNil)) (tC (V.int 1)))) (tNot (tB (rdIs K a cls d (V.ty "ValueError"))))) (tRet (tQ (tTup (tCons (tC (V.str "other")) tNil)))) tNext)
    (tSeq (tAsg (tBM K "list" (rIndex K) (tVar 2) (tCons (tC (V.bl true)) tNil)) (gName 3)) (tSeq (tIfS (tTest (tOp rEq (tVar 3) (tC (V.int 0)))) (tRet (tQ (tTup (tCons (tC (V.str "weighting")) (tCons (tXfG K a cls d "part" (tVar 1)) (tCons (tXfG K a cls d "index" (tVar 1)) tNil)))))) tNext)
    (tSeq (tAsg (tQ (tLst (tCons (tC (V.str "")) (tCons (tC (V.str "places")) (tCons (tC (V.str "weights")) (tCons (tC (V.str "sums")) (tCons (tC (V.str "number")) (tCons (tC (V.str "polynomial")) (tCons (tC (V.str "few")) (tCons (tC (V.str "fraction")) (tCons (tC (V.str "none")) tNil))))))))))) (gName 4))
    (tRet (tIf (tTest (tOp (rI0 fun i j => V.bl (decide (i < j))) (tVar 3) (tC (V.int 4)))) (tQ (tTup (tCons (tOp (rIxL K) (tVar 4) (tVar 3)) (tCons (tXfG K a cls d "index" (tVar 1)) tNil)))) (tQ (tTup (tCons (tOp (rIxL K) (tVar 4) (tVar 3)) tNil)))))))))))
/-- the exception is there -/
structure Held (K : PySem.W.Frag) (a : Addr) (cls : Value) (d : Option Addr) (F : Hp) (c : Nat) (vs : List V) : Prop where
  cl : cls = .ref (He.ga K (exN c))
  dd : (d = none ∧ vs = []) ∨ ∃ dx, d = some dx ∧ F dx = some (.xd ((exF c).zip vs).reverse)
theorem Held.up {F H : Hp} {c : Nat} {vs : List V} (h : Held K a cls d F c vs) (e : Ex F H) : Held K a cls d H c vs := by
  refine ⟨h.cl, ?_⟩
  rcases h.dd with z | ⟨dx, z, w⟩
  · exact .inl z
  · exact .inr ⟨dx, z, e _ _ w⟩
variable (R : RaisedK K) {c : Nat} (hc : c ∈ List.range 9) {vs : List V} {σ : L2.St} (h1 : σ[1]? = some (some (.ref a))) {H : Hp} (X : Held K a cls d H c vs) {Q : VK}
include R hc h1 X
theorem rdIs_ok {v : V} {cv : Value} {b : Bool} (hcv : ∀ u, RelV v u → u = cv) (k : PySem.W.kitOne K (.ref (He.ga K (exN c))) cv = some b) (q : Q (.bl b) H) : rdIs K a cls d v σ H Q := by
  refine ⟨.ref a, h1, ⟨_, v, cv, b, X.cl, R.ec c hc, rfl, hcv, ?_, k, q⟩⟩
  rcases X.dd with z | ⟨dx, z, w⟩
  · exact .inl z.1
  · exact .inr ⟨dx, _, z, w⟩
theorem rdKind_ok {j : Nat} (hj : j ∈ List.range 9) {x : Str} (hx : x = exN j) (q : Q (.bl (c == j)) H) : rdKind K a cls d x σ H Q := by
  subst hx
  exact rdIs_ok R hc h1 X (fun u r => r) (R.is c hc j hj) q
theorem rd3_ok {i j k : Nat} (hi : i ∈ List.range 9) (hj : j ∈ List.range 9) (hk : k ∈ List.range 9) {x y z : Str} (hx : x = exN i) (hy : y = exN j) (hz : z = exN k) (q : ∀ p, H p = none → Q (.ref p) (upd H p (.lst [.bl (c == i), .bl (c == j), .bl (c == k)]))) : rd3 K a cls d x y z σ H Q :=
  rdKind_ok R hc h1 X hi hx (rdKind_ok R hc h1 X hj hy (rdKind_ok R hc h1 X hk hz ⟨by show 3 ≤ sizeLine; decide +kernel, q⟩))
end
/-- which kind it is -/
def kinds (c : Nat) : List V := [.bl (c == 0), .bl (c == 1), .bl (c == 2), .bl (c == 3), .bl (c == 4), .bl (c == 5), .bl (c == 6), .bl (c == 7), .bl (c == 8)]
section
variable {K : PySem.W.Frag} {a : Addr} {cls : Value} {d : Option Addr} (R : RaisedK K)
def rdLate (K : PySem.W.Frag) (a : Addr) (cls : Value) (d : Option Addr) : TS :=
    (tSeq (tIfS (tOr (tTest (tOp rNe (tBM K "list" (rCount K) (tVar 2) (tCons (tC (V.bl true)) tNil)) (tC (V.int 1)))) (tNot (tB (rdIs K a cls d (V.ty "ValueError"))))) (tRet (tQ (tTup (tCons (tC (V.str "other")) tNil)))) tNext)
    (tSeq (tAsg (tBM K "list" (rIndex K) (tVar 2) (tCons (tC (V.bl true)) tNil)) (gName 3)) (tSeq (tIfS (tTest (tOp rEq (tVar 3) (tC (V.int 0)))) (tRet (tQ (tTup (tCons (tC (V.str "weighting")) (tCons (tXfG K a cls d "part" (tVar 1)) (tCons (tXfG K a cls d "index" (tVar 1)) tNil)))))) tNext)
    (tSeq (tAsg (tQ (tLst (tCons (tC (V.str "")) (tCons (tC (V.str "places")) (tCons (tC (V.str "weights")) (tCons (tC (V.str "sums")) (tCons (tC (V.str "number")) (tCons (tC (V.str "polynomial")) (tCons (tC (V.str "few")) (tCons (tC (V.str "fraction")) (tCons (tC (V.str "none")) tNil))))))))))) (gName 4))
    (tRet (tIf (tTest (tOp (rI0 fun i j => V.bl (decide (i < j))) (tVar 3) (tC (V.int 4)))) (tQ (tTup (tCons (tOp (rIxL K) (tVar 4) (tVar 3)) (tCons (tXfG K a cls d "index" (tVar 1)) tNil)))) (tQ (tTup (tCons (tOp (rIxL K) (tVar 4) (tVar 3)) tNil)))))))))
theorem sz_few {n : Nat} (h : n ≤ 100) : n ≤ sizeLine := by rw [sizeLine_eq]; omega
include R in
theorem rdEarly_ok {c : Nat} (hc : c ∈ List.range 9) {vs : List V} {x0 x2 x3 x4 : Option V} {F H : Hp} (e : Ex F H) (X : Held K a cls d F c vs) {D : Ends} (k : ∀ p H', Gm [] F H F H' → H' p = some (.lst (kinds c)) → rdLate K a cls d D [x0, some (.ref a), some (.ref p), x3, x4] H') : rdRaised K a cls d D [x0, some (.ref a), x2, x3, x4] H := by
  refine rd3_ok R hc rfl (X.up e) (i := 0) (j := 1) (k := 2) (by decide) (by decide) (by decide) rfl rfl rfl fun p1 n1 => ?_
  have g1 := Gm.newM (M := []) e (o := .lst [.bl (c == 0), .bl (c == 1), .bl (c == 2)]) n1
  refine ⟨.ref p1, rfl, ?_⟩
  refine rd3_ok R hc rfl (X.up g1.s) (i := 3) (j := 4) (k := 5) (by decide) (by decide) (by decide) rfl rfl rfl fun p2 n2 => ?_
  have g2 := g1.trans (Gm.newM g1.s (o := .lst [.bl (c == 3), .bl (c == 4), .bl (c == 5)]) n2)
  have at1 := ne_of_none upd_same n2
  refine ⟨p1, p2, _, _, rfl, rfl, by rw [upd_ne at1, upd_same], upd_same, sz_few (by show 6 ≤ 100; decide), fun p3 n3 => ?_⟩
  have g3 := g2.trans (Gm.newM g2.s (o := .lst [.bl (c == 0), .bl (c == 1), .bl (c == 2), .bl (c == 3), .bl (c == 4), .bl (c == 5)]) n3)
  refine ⟨.ref p3, rfl, ?_⟩
  refine rd3_ok R hc rfl (X.up g3.s) (i := 6) (j := 7) (k := 8) (by decide) (by decide) (by decide) rfl rfl rfl fun p4 n4 => ?_
  have g4 := g3.trans (Gm.newM g3.s (o := .lst [.bl (c == 6), .bl (c == 7), .bl (c == 8)]) n4)
  have at3 := ne_of_none upd_same n4
  refine ⟨p3, p4, _, _, rfl, rfl, (by rw [upd_ne at3]; exact upd_same), upd_same, sz_few (by show 9 ≤ 100; decide), fun p5 n5 => ?_⟩
  have g5 := g4.trans (Gm.newM g4.s (o := .lst (kinds c)) n5)
  exact k p5 _ g5 upd_same
theorem iteF {b : Bool} {A B : Prop} (h : b = false) (q : B) : if b = true then A else B := by rw [h, if_neg Bool.false_ne_true]; exact q
theorem iteT {b : Bool} {A B : Prop} (h : b = true) (q : A) : if b = true then A else B := by rw [if_pos h]; exact q
theorem r9 {P : Nat → Prop} (h0 : P 0) (h1 : P 1) (h2 : P 2) (h3 : P 3) (h4 : P 4) (h5 : P 5) (h6 : P 6) (h7 : P 7) (h8 : P 8) : ∀ c ∈ List.range 9, P c := fun c h => by
  have hc : c < 9 := List.mem_range.mp h
  match c, hc with
  | 0, _ => exact h0
  | 1, _ => exact h1
  | 2, _ => exact h2
  | 3, _ => exact h3
  | 4, _ => exact h4
  | 5, _ => exact h5
  | 6, _ => exact h6
  | 7, _ => exact h7
  | 8, _ => exact h8
theorem kinds_count : ∀ c ∈ List.range 9, (kinds c).countP (fun z => eqV z (V.bl true)) = 1 := r9 rfl rfl rfl rfl rfl rfl rfl rfl rfl
theorem kinds_flat : ∀ c ∈ List.range 9, (kinds c).all flatV = true := r9 rfl rfl rfl rfl rfl rfl rfl rfl rfl
theorem kinds_at : ∀ c ∈ List.range 9, (kinds c)[c]? = some (V.bl true) := r9 rfl rfl rfl rfl rfl rfl rfl rfl rfl
theorem kinds_before : ∀ c ∈ List.range 9, ∀ (m : Nat) (z : V), m < c → (kinds c)[m]? = some z → eqV z (V.bl true) = false := fun c hc m z h hz => by
  have e : ∀ c ∈ List.range 9, (List.range c).all (fun m => match (kinds c)[m]? with | some z => !eqV z (V.bl true) | none => true) = true := r9 rfl rfl rfl rfl rfl rfl rfl rfl rfl
  have := List.all_eq_true.mp (e c hc) m (List.mem_range.mpr h)
  rw [hz] at this
  simpa using this
/-- the words -/
def words : List V := [.str "", .str "places", .str "weights", .str "sums", .str "number", .str "polynomial", .str "few", .str "fraction", .str "none"]
include R in
theorem xfG_ok {c : Nat} (hc : c ∈ List.range 4) {vs : List V} {σ : L2.St} (h1 : σ[1]? = some (some (.ref a))) {H : Hp} (hcl : cls = .ref (He.ga K (exN c))) {dx : Addr} {fs : List (Str × V)} (hd : d = some dx) (hx : H dx = some (.xd fs)) {f : Str} (hf : f ∈ exF c) {v : V} (hl : fs.lookup f = some v) {Q : VK} (q : Q v H) : tXfG K a cls d f (tVar 1) σ H Q :=
  ⟨.ref a, h1, rfl, _, hcl, R.xf c hc, R.nf c hc f hf, dx, fs, v, hd, hx, hl, q⟩
include R in
theorem rdLate_ok {c : Nat} (hc : c ∈ List.range 9) {vs : List V} {x0 x3 x4 : Option V} {p : Addr} {F H : Hp} (e : Ex F H) (X : Held K a cls d F c vs) (hp : H p = some (.lst (kinds c))) {D : Ends}
    (k0 : c = 0 → ∃ i j, vs = [.int i, .int j] ∧ Ret [] F H (fun F2 _ v => Dq K F2 v (eX (.tup .weighting [i, j]))) D.rt)
    (k1 : c ≠ 0 → c < 4 → ∃ i w, vs = [.int i] ∧ words[c]? = some (.str (Kw.w w)) ∧ Ret [] F H (fun F2 _ v => Dq K F2 v (eX (.tup w [i]))) D.rt)
    (k2 : ¬ c < 4 → ∃ w, words[c]? = some (.str (Kw.w w)) ∧ Ret [] F H (fun F2 _ v => Dq K F2 v (eX (.tup w []))) D.rt) : rdLate K a cls d D [x0, some (.ref a), some (.ref p), x3, x4] H := by
  refine ⟨.ref p, rfl, .inl ⟨rfl, _, sq_of hp⟩, p, _, _, rfl, rfl, sq_of hp, rfl, kinds_flat c hc, ?_⟩
  rw [kinds_count c hc]
  refine ⟨rfl, false, rfl, ?_⟩
  refine iteF rfl ?_
  refine rdIs_ok R hc rfl (X.up e) (cv := .type "ValueError") (fun u r => r) (R.ve c hc) ⟨true, rfl, ?_⟩
  refine iteF rfl ?_
  refine ⟨.ref p, rfl, .inl ⟨rfl, _, sq_of hp⟩, p, _, _, c, _, rfl, rfl, sq_of hp, rfl, kinds_flat c hc, kinds_at c hc, rfl, kinds_before c hc, ?_⟩
  refine ⟨.int c, rfl, rfl, _, rfl, ?_⟩
  by_cases c0 : c = 0
  · obtain ⟨i, j, hv, k⟩ := k0 c0
    have Xu := X.up e
    subst c0 hv
    refine iteT rfl ?_
    rcases Xu.dd with ⟨_, z⟩ | ⟨dx, hd, hx⟩
    · cases z
    dsimp only [tRet, tQ, tTup, tCons, tC]
    refine xfG_ok R (c := 0) (vs := [.int i, .int j]) (by decide) rfl Xu.cl hd hx (f := "part") (by decide) (v := .int i) rfl ?_
    refine xfG_ok R (c := 0) (vs := [.int i, .int j]) (by decide) rfl Xu.cl hd hx (f := "index") (by decide) (v := .int j) rfl ?_
    exact new_tup e (.cons (Dq.str _) (.cons (Dq.int i) (.cons (Dq.int j) .nil))) (by show 3 ≤ 100000; decide) k
  · refine iteF (by simpa using c0) ?_
    refine ⟨sz_few (by show 9 ≤ 100; decide), fun p2 n2 => ?_⟩
    have g := Gm.newM (M := []) e (o := .lst words) n2
    have hw : upd H p2 (.lst words) p2 = some (.lst words) := upd_same
    refine ⟨.int c, rfl, _, _, rfl, rfl, _, rfl, ?_⟩
    by_cases c4 : c < 4
    · obtain ⟨i, w, hv, hcw, k⟩ := k1 c0 c4
      refine iteT (decide_eq_true (Int.ofNat_lt.mpr c4)) ?_
      refine ⟨.ref p2, rfl, .int c, rfl, p2, _, c, _, rfl, rfl, sq_of hw, atI_nat hcw, ?_⟩
      have Xu := X.up g.s
      subst hv
      rcases Xu.dd with ⟨_, z⟩ | ⟨dx, hd, hx⟩
      · cases z
      have hF : exF c = [("index" : Str)] := by
        match c, c0, c4 with
        | 1, _, _ => rfl
        | 2, _, _ => rfl
        | 3, _, _ => rfl
      refine xfG_ok R (vs := [.int i]) (List.mem_range.mpr c4) rfl Xu.cl hd hx (f := "index") (by rw [hF]; decide) (v := .int i) (by rw [hF]; rfl) ?_
      exact new_tup g.s (.cons (Dq.str _) (.cons (Dq.int i) .nil)) (by show 2 ≤ 100000; decide) (k.then_ g)
    · obtain ⟨w, hcw, k⟩ := k2 c4
      refine iteF (decide_eq_false fun z => c4 (Int.ofNat_lt.mp z)) ?_
      refine ⟨.ref p2, rfl, .int c, rfl, p2, _, c, _, rfl, rfl, sq_of hw, atI_nat hcw, ?_⟩
      exact new_tup g.s (.cons (Dq.str _) .nil) (by show 1 ≤ 100000; decide) (k.then_ g)
end
section
variable {K : PySem.W.Frag} {a : Addr} {cls : Value} {d : Option Addr} (R : RaisedK K)
include R
theorem raised_suite {e : Er} {F H : Hp} (x : Ex F H) (h : XD K F cls d e) {D : Ends} (k : Post (raisedX e) (fun r => Ret [] F H (fun F2 _ v => Dq K F2 v (eX r)) D.rt) (fun _ => False)) {σ : L2.St} (hl : σ.length = 5) : rdRaised K a cls d D (σ.set 1 (some (.ref a))) H := by
  obtain ⟨x0, σ1, rfl, hl1⟩ := len_succ hl
  obtain ⟨x1, σ2, rfl, hl2⟩ := len_succ hl1
  obtain ⟨x2, σ3, rfl, hl3⟩ := len_succ hl2
  obtain ⟨x3, σ4, rfl, hl4⟩ := len_succ hl3
  obtain ⟨x4, σ5, rfl, hl5⟩ := len_succ hl4
  obtain rfl := List.length_eq_zero_iff.mp hl5
  obtain ⟨c, fs⟩ := e
  have held : Held K a cls d F c (fs.map V.int) := by
    obtain ⟨h1, h2⟩ := h
    refine ⟨h1, ?_⟩
    rcases h2 with ⟨z1, z2⟩ | z
    · exact .inl ⟨z2, by simp [show fs = [] from z1]⟩
    · exact .inr z
  have fin : ∀ (hc : c ∈ List.range 9) (k0 : ∀ H', Gm [] F H F H' → c = 0 → ∃ i j, fs.map V.int = [.int i, .int j] ∧ Ret [] F H' (fun F2 _ v => Dq K F2 v (eX (.tup .weighting [i, j]))) D.rt)
    (k1 : ∀ H', Gm [] F H F H' → c ≠ 0 → c < 4 → ∃ i w, fs.map V.int = [.int i] ∧ words[c]? = some (.str (Kw.w w)) ∧ Ret [] F H' (fun F2 _ v => Dq K F2 v (eX (.tup w [i]))) D.rt)
    (k2 : ∀ H', Gm [] F H F H' → ¬ c < 4 → ∃ w, words[c]? = some (.str (Kw.w w)) ∧ Ret [] F H' (fun F2 _ v => Dq K F2 v (eX (.tup w []))) D.rt), rdRaised K a cls d D [x0, some (.ref a), x2, x3, x4] H :=
    fun hc k0 k1 k2 => rdEarly_ok R hc x held fun p H' g hp => rdLate_ok R hc g.s held hp (k0 H' g) (k1 H' g) (k2 H' g)
  unfold raisedX at k
  split at k <;> dsimp only at * <;> first
    | exact k.h.elim
    | (subst_vars; exact fin (by decide) (fun H' g _ => ⟨_, _, rfl, (post_ok k).then_ g⟩) (fun _ _ z => absurd rfl z) (fun _ _ z => absurd (by decide) z))
    | (subst_vars; exact fin (by decide) (fun _ _ z => by cases z) (fun H' g _ _ => ⟨_, _, rfl, rfl, (post_ok k).then_ g⟩) (fun _ _ z => absurd (by decide) z))
    | (subst_vars; exact fin (by decide) (fun _ _ z => by cases z) (fun _ _ _ z => absurd z (by decide)) (fun H' g _ => ⟨_, rfl, (post_ok k).then_ g⟩))
theorem raised_c {e : Er} {p : Xr → Prop} {q : Er → Prop} (k : Post (raisedX e) p q) : e.c ∈ List.range 9 := by
  obtain ⟨c, fs⟩ := e
  unfold raisedX at k
  split at k <;> dsimp only at * <;> first
    | exact k.h.elim
    | (subst_vars; decide)
theorem raised_many {e : Er} {F H : Hp} (x : Ex F H) (h : XD K F cls d e) {Q : VK} {nx : L2.St → Hp → Prop} (k : Post (raisedX e) (fun r => Ret [] F H (fun F2 _ v => Dq K F2 v (eX r)) Q) (fun _ => False)) {σ : L2.St} :
    wManyA K 5 (fun _ _ _ _ => False) { nx := nx, rt := Q } [(Value.ref (He.ga K "ReadingError"), 1, fun a cls d => rdRaised K a cls d)] cls d σ H := by
  refine ⟨true, by rw [h.1]; exact R.one _ (raised_c R k), fun _ a _ hl => ?_, fun z => by cases z⟩
  exact raised_suite R (D := endsAs { nx := nx, rt := Q } 1) x h k hl
end
end Wk

set_option Elab.async false
set_option linter.all false
set_option maxRecDepth 100000
set_option maxHeartbeats 4000000
namespace Wk
open PySem L2 Evl LamX PyProof.Rows
/-! ### a lambda handed to the asker -/
structure Ask (K : PySem.W.Frag) (mg : Str → Option Value) (x a : Str) (pg : Arguments) (bg : List Stmt) (sg : Scope) : Prop where
  ex : ∃ (g : Addr) (oc : Value) (od : Option Addr) (dV kV doc pm : Value) (an : Option Addr) (cdv ct : Value) (osl : Array (Option Value)), mg x = some (.ref g) ∧ PySem.W.keepIn K (.ref g) = true ∧
    K.lookup g = some ⟨oc, od, .func (PySem.W.fnOf x x pg bg sg dV kV doc pm an cdv ct), osl⟩ ∧ PySem.W.codeIn K cdv x = true ∧ Binds K (PySem.W.fnOf x x pg bg sg dV kV doc pm an cdv ct) [a] []
theorem ask_of {K : PySem.W.Frag} {mg : Str → Option Value} {x a : Str} {pg : Arguments} {bg : List Stmt} {sg : Scope} {g : Addr} {fd : FuncData} (F : FunD K x x pg bg sg [] [] g fd) (hm : mg x = some (.ref g)) (hb : Binds K fd [a] []) : Ask K mg x a pg bg sg := by
  obtain ⟨oc, od, dV, kV, doc, pm, an, cdv, ct, osl, rfl, lk, hcd, _, _⟩ := F.ex
  exact ⟨g, oc, od, dV, kV, doc, pm, an, cdv, ct, osl, hm, F.kp, lk, hcd, hb⟩
theorem pe_ask {X : Cx} {TT : (XK → Hp → VK → Prop) → Hp → VK → Prop} {x a : Str} {c P : Addr} {k : Nat} {pg : Arguments} {bg : List Stmt} {sg : Scope} {Ng : List Str} {body : Expr} {scope : Scope} {t : XK → TE} {p lpos pos : Pos} {params : Arguments} {sc : Scope} (G : Ask X.K X.mg x a pg bg sg)
    (give : ∀ g cdv, GivesTo X Ng x sg g cdv bg a (X.env.qual ++ "<lambda>") TT) (TB : TabB X.base X.mg c P) (hr : Room (k + 2) X.A) (Sg : FnScope Ng [a] sg) (hcode : X.env.code = .ref c) (hg : Gl X x) (hNg : Ng[0]? = some a) (hva : Vis sg a) (hsc : X.env.scope = sc) (L : lamSB sc scope = true) (hdef : defaultsOf params X.env = ([], []))
    (hbind : ∀ (q : Str) (cl : List (Str × Addr)) (pm cv ctv : Value), bindArgs (PySem.W.kla_fn "<lambda>" q params body scope cl pm cv ctv) ⟨[], []⟩ = pure [])
    (hbody : ∀ (A : Around) (outer : List Env) (s : Shared) (H : Hp) (E : XK) (f c' : Addr), Room k (A.deeper (lamEnv X scope s.heap.objs.size f c')) → PE (lamCx X A outer s H E scope f c') body (t E))
    (hdb : (x == ("__debug__" : Str)) = false := by decide) (hd : (a == ("__debug__" : Str)) = false := by decide) (hcd : (a == ("__classdict__" : Str)) = false := by decide) :
    PE X (.Call (.Name x p) [.Lambda params body scope lpos] [] pos) (tLam [(P, X.env.qual ++ "<lambda>")] TT t) := by
  obtain ⟨g, oc, od, dV, kV, doc, pm, an, cdv, ct, osl, hm, kp, lk, hcg, hb⟩ := G.ex
  exact pe_lamcall hg hm kp lk hcg hb Sg hNg hva (give g cdv) TB hcode (List.mem_singleton.mpr rfl) (fun q hq _ => by rw [List.mem_singleton.mp hq]) hr (lamS_by (hsc ▸ L)) hdef hbind hbody hdb hd hcd
theorem pe_castT {X : Cx} {e : Expr} {t t' : TE} (h : PE X e t') (q : t' = t) : PE X e t := q ▸ h
/-! ### tables while other things change -/
def NoTbl (H : Hp) (a : Addr) : Prop := H a = none ∨ ∃ xs, H a = some (.lst xs)
theorem nt_nil {H : Hp} : ∀ m ∈ ([] : List Addr), NoTbl H m := fun _ h => by cases h
theorem nt_cons {H : Hp} {a : Addr} {M : List Addr} {xs : List V} (h : H a = some (.lst xs)) (r : ∀ m ∈ M, NoTbl H m) : ∀ m ∈ a :: M, NoTbl H m := fun m hm => by
  rcases List.mem_cons.mp hm with rfl | hm
  · exact .inr ⟨_, h⟩
  · exact r m hm
theorem tabs_gm {T : List (Addr × Str)} {M : List Addr} {F H F' H' : Hp} (t : Tabs T H) (n : ∀ m ∈ M, NoTbl H m) (g : Gm M F H F' H') : Tabs T H' := fun p hp => by
  obtain ⟨ps, h1, h2, h3⟩ := t p hp
  have out : ∀ b o, H b = some o → (∀ xs, o ≠ .lst xs) → H' b = some o := fun b o e z => g.h b o (fun hm => by
    rcases n b hm with q | ⟨xs, q⟩
    · rw [e] at q; cases q
    · rw [e] at q; exact z xs (Option.some.inj q)) e
  refine ⟨ps, out _ _ h1 (fun xs z => by cases z), h2, fun pos cv hc => ?_⟩
  obtain ⟨c, e1, e2⟩ := h3 pos cv hc
  exact ⟨c, e1, out _ _ e2 fun xs z => by unfold CodeO at z; cases z⟩
theorem tabs_start {P : Addr} {q : Str} {H H0 : Hp} (h : H P = some (.tbl #[])) (e : Ex H H0) : Tabs [(P, q)] H0 := fun p hp => by
  rw [List.mem_singleton.mp hp]
  exact TabS.nil (e _ _ h)
section
variable {K : PySem.W.Frag} {F F' H H1 : Hp}
theorem exN_l {a : Addr} {xs : List V} (e : ExN F F') (h : SqL K F a xs) : SqL K F' a xs := by
  rcases h with (h | ⟨o, h⟩) | h
  · exact .inl (.inl (e _ _ h fun ps z => by cases z))
  · exact .inl (.inr ⟨o, e _ _ h fun ps z => by cases z⟩)
  · exact .inr h
theorem noTab_none {b : Addr} (h : F b = none) : noTab F b = none := by
  unfold noTab
  rw [h]
theorem row_noTab {sc ra : Addr} {scr : List Int} {st : Rw} (w : RowAt K sc ra scr F H st) (x : ExtN H H1) : RowAt K sc ra scr (noTab F) H1 st :=
  ⟨x _ _ w.1 (fun ps z => by cases z), noTab_none w.2.1, exN_l (exN_noTab F) w.2.2⟩
theorem own_noTab {p : Addr} {xs : List V} (o : H p = some (.lst xs) ∧ F p = none) (x : ExtN H H1) : H1 p = some (.lst xs) ∧ noTab F p = none := ⟨x _ _ o.1 (fun ps z => by cases z), noTab_none o.2⟩
theorem noTab_sub (F : Hp) : Ex (noTab F) F := fun b o h => (noTab_of h).1
theorem new_rowT {sc : Addr} {scr : List Int} {Q : VK} (hs : SqL K H sc (scr.map V.int)) (k : ∀ ra H', Ex H H' → Ex (noTab H) H' → RowAt K sc ra scr (noTab H) H' ⟨0, 0, 0⟩ → Q (.ref ra) H') :
    [V.ref sc, V.int 0, V.int 0, V.int 0].length ≤ sizeLine ∧ ∀ p, H p = none → Q (.ref p) (upd H p (.lst [V.ref sc, V.int 0, V.int 0, V.int 0])) :=
  ⟨sz_of (by show 4 ≤ 100000; decide), fun p hp => k p _ (Ex.new hp) (fun b o h => Ex.new hp _ _ (noTab_sub H b o h)) ⟨upd_same, noTab_none hp, exN_l (exN_noTab H) hs⟩⟩
end
/-! ### the walk over the asker's call -/
theorem raised_noex {e : Er} {p : Xr → Prop} {q : Er → Prop} (k : Post (raisedX e) p q) : Post (raisedX e) p (fun _ => False) := by
  unfold raisedX at *
  split at k <;> exact ⟨k.h⟩
theorem lam_jM {α β : Type} {K : PySem.W.Frag} {F H : Hp} {Q : VK} {t : XK → Hp → VK → Prop} {m : Mm β} {rest : Xr → Mm α} {ok : α → Prop} {ex : Er → Prop} (k : Post ((m.tr raisedX fun _ => Mm.ok Xr.non).bd rest) ok ex)
    (hb : ∀ (Q' : VK) (E' : XK), Post m (fun _ => ∀ v F' H', Gm [] F H F' H' → Q' v H') (fun e => RetX [] K F H e E') → t E' H Q')
    (kk : ∀ x v F' H', Gm [] F H F' H' → Dq K F' v (eX x) → Post (rest x) ok ex → Q v H') : TTr K raisedX t H Q := by
  refine hb _ _ ((post_tr (post_bd k)).mono (fun a h v F' H' g => kk .non .non F' H' g Dq.non h.h) fun e h cls d F' H' g xd => ?_)
  exact ⟨e, F', g.s, xd, (raised_noex h).mono (fun r p v F2 H2 g2 dq => kk r v F2 H2 (g.trans g2) dq p) fun _ z => z⟩
/-! ### a def whose code object is known -/
theorem fn_code {CX : CXT} {P : Program} {w : World} {K : PySem.W.Frag} {mg : Str → Option Value} {base : Heap} {x qual : Str} {params : Arguments} {body : List Stmt} {scope : Scope} {fd : FuncData} {N ps : List Str} {k : Nat} {sp : Sp} (F : FunD K x qual params body scope [] [] (He.ga K x) fd) (S : FnScope N ps scope)
    (len : ∀ vs H Q E, sp vs H Q E → vs.length = ps.length)
    (hbody : ∀ (A : Around) (outer : List Env) (s : Shared) (H : Hp) (vs : List V) (Q : VK) (E : XK), Room k (A.deeper (envOfC qual scope s.heap.objs.size (He.ga K x) (.ref (He.codeOf K (x, none))))) → sp vs H Q E →
      ∃ t, PSs (cxOf CX P w K mg base N qual scope (He.ga K x) (.ref (He.codeOf K (x, none))) A outer s H E) body t ∧ t { nx := fun _ H' => Q .non H', rt := Q } (L2.start N vs) H) : FnOk P w K mg base CX (k + 1) (He.ga K x) fd ps sp := by
  obtain ⟨oc, od, dV, kV, doc, pm, an, cdv, ct, osl, rfl, lk, hcd, _, _⟩ := F.ex
  obtain ⟨c, rfl⟩ := He.codeIn_ref hcd
  have e : He.codeOf K (x, none) = c := He.codeOf_eq (p := (x, none)) lk rfl
  rw [e] at hbody
  exact fn_of lk hcd S len hbody
/-! ### the Hook with tables -/
open PySem.W He in
def tabOk (g : Addr → Option Obj) (K : Frag) (p : Defn) : Bool := codeHdIn K (cT K p).1 (cT K p).2 && ((K.lookup (cT K p).2).isNone && (g (cT K p).2).any emptyTab)
structure TabK (K : PySem.W.Frag) (h : Heap) (p : He.Defn) : Prop where
  hd : PySem.W.codeHdIn K (He.cT K p).1 (He.cT K p).2 = true
  out : K.lookup (He.cT K p).2 = none
  empty : h.get? (He.cT K p).2 = some { cls := .none, data := .fields #[] }
theorem tabOk_ok {K : PySem.W.Frag} {h : Heap} {p : He.Defn} (e : tabOk h.get? K p = true) : TabK K h p := by
  obtain ⟨h1, e⟩ := He.ba e
  obtain ⟨h2, h3⟩ := He.ba e
  refine ⟨h1, by simpa using h2, ?_⟩
  cases q : h.get? (He.cT K p).2 with
  | none => rw [q] at h3; cases h3
  | some o => rw [q] at h3; rw [He.emptyTab_eq h3]
open PySem.W He in
def obsXT (as : List Addr) (fa : List Fa) (fn es : List He5.DefA) (ts : List Defn) (ex : Frag → Bool) (g : Addr → Option Obj) : He.AlD := ((obsXS as fa fn es ex g).1 && ts.all fun p => tabOk g (frG g as) p, (obsXS as fa fn es ex g).2)
open PySem.W He in
def hookXT (as : List Addr) (fa : List Fa) (fn es : List He5.DefA) (ts : List Defn) (ex : Frag → Bool) : PySem.W.Hook where
  α := He.AlD
  obs := fun s => obsXT as fa fn es ts ex s.heap.get?
  val := fun _ => valXS fn es
  says := fun _ h => ∃ K : Frag, K.In h ∧ SaysXS fa fn es ex K ∧ ∀ p ∈ ts, TabK K h p
  of := fun _ s e => by
    have e1 : (obsXT as fa fn es ts ex s.heap.get?).1 = true := congrArg Prod.fst e
    have e2 : (obsXT as fa fn es ts ex s.heap.get?).2 = _ := congrArg Prod.snd e
    obtain ⟨a1, a2⟩ := ba e1
    exact ⟨_, frG_in, saysXS_of (Prod.ext a1 e2), fun p hp => tabOk_ok (List.all_eq_true.mp a2 p hp)⟩
  keeps := fun _ _ _ ⟨K, hK, c, t⟩ k => ⟨K, Frag.In.keeps hK k, c, fun p hp => ⟨(t p hp).hd, (t p hp).out, k _ _ (t p hp).empty⟩⟩
open PySem.W He in
theorem obsXT_eq {as : List Addr} {fa : List Fa} {fn es : List He5.DefA} {ts : List Defn} {ex : Frag → Bool} {g : Addr → Option Obj} {s : Shared} (h : ∀ a, g a = s.heap.get? a) : obsXT as fa fn es ts ex g = (hookXT as fa fn es ts ex).obs s := by
  have e : g = s.heap.get? := funext h
  rw [e] <;> rfl
end Wk

set_option Elab.async false
set_option linter.all false
set_option maxRecDepth 100000
set_option maxHeartbeats 4000000
namespace Wk
open PySem L2 Evl
/-! ### a mirror without exceptions, and the same with them -/
/-- where m answers, m' answers the same -/
structure Le {α : Type} (m m' : Mm α) : Prop where
  h : ∀ a, m = .ok a → m' = .ok a
namespace Le
variable {α β γ S R : Type}
theorem refl (m : Mm α) : Le m m := ⟨fun _ h => h⟩
theorem bad (m : Mm α) : Le .bad m := ⟨fun _ h => by cases h⟩
theorem bd {m m' : Mm α} {f f' : α → Mm β} (h : Le m m') (k : ∀ a, Le (f a) (f' a)) : Le (m.bd f) (m'.bd f') := ⟨fun b e => by
  cases m with
  | ok a => rw [h.h a rfl]; exact (k a).h b e
  | ex _ => cases e
  | bad => cases e⟩
theorem noEx {m m' : Mm α} (h : Le m m') : Le m (Wk.noEx m') := ⟨fun a e => by rw [h.h a e] <;> rfl⟩
theorem noE (m : Mm α) : Le m (Wk.noEx m) := noEx (refl m)
theorem cond {c : Bool} {m n m' n' : Mm α} (h : Le m m') (k : Le n n') : Le (_root_.cond c m n) (_root_.cond c m' n') := by cases c <;> assumption
theorem foldM {f f' : S → α → Mm S} (h : ∀ s x, Le (f s x) (f' s x)) : ∀ (s : S) (l : List α), Le (Wk.foldM f s l) (Wk.foldM f' s l)
  | s, [] => refl _
  | s, x :: l => bd (h s x) fun s' => foldM h s' l
theorem foldL {f f' : S → α → Mm (Fl R S)} (h : ∀ s x, Le (f s x) (f' s x)) : ∀ (s : S) (l : List α), Le (Wk.foldL f s l) (Wk.foldL f' s l)
  | s, [] => refl _
  | s, x :: l => bd (h s x) fun o => by cases o <;> first | exact foldL h _ l | exact refl _
theorem el {o : Fl R S} {g g' : S → Mm β} {r r' : R → Mm β} (h : ∀ s, Le (g s) (g' s)) (k : ∀ x, Le (r x) (r' x)) : Le (o.el g r) (o.el g' r') := by
  cases o with
  | go s => exact h s
  | brk s => exact h s
  | ret x => exact k x
theorem foldW {c c' : S → Mm Bool} {f f' : S → Mm S} (h : ∀ s, Le (c s) (c' s)) (k : ∀ s, Le (f s) (f' s)) : ∀ (n : Nat) (s : S), Le (Wk.foldW c f n s) (Wk.foldW c' f' n s)
  | 0, s => bad _
  | n + 1, s => bd (h s) fun b => by cases b <;> first | exact bd (k s) fun s' => foldW h k n s' | exact refl _
theorem mapMm {f f' : α → Mm γ} (h : ∀ x, Le (f x) (f' x)) : ∀ l : List α, Le (Wk.mapMm f l) (Wk.mapMm f' l)
  | [] => refl _
  | x :: l => bd (h x) fun y => bd (mapMm h l) fun ys => refl _
theorem filMm {f f' : α → Mm (Option γ)} (h : ∀ x, Le (f x) (f' x)) : ∀ l : List α, Le (Wk.filMm f l) (Wk.filMm f' l)
  | [] => refl _
  | x :: l => bd (h x) fun y => bd (filMm h l) fun ys => refl _
end Le
theorem post_le {α β : Type} {m m' : Mm α} {f : α → Mm β} {ok : β → Prop} (l : Le m m') (h : Post (m.bd f) ok fun _ => False) : Post m' (fun a => Post (f a) ok fun _ => False) (fun _ => False) := by
  cases m with
  | ok a => rw [l.h a rfl]; exact ⟨⟨h.h⟩⟩
  | ex e => exact h.h.elim
  | bad => exact h.h.elim
end Wk

set_option Elab.async false
set_option linter.all false
set_option maxRecDepth 100000
set_option maxHeartbeats 4000000
namespace Wk
open PySem L2 Evl PySem.Spec PyProof.Rows
/-! ### a tuple, repeated not at all -/
theorem tuple_mulW0 (l : Addr) (items : Array Value) (n : Nat) (dd : Option Addr) (sl : Array (Option Value)) (x : Int) (u : Tok) (c0 : (decide (x < -(2 ^ 63)) || decide (x ≥ 2 ^ 63)) = false) (c1 : (items.isEmpty || x == 1) = false) (c2 : (decide (x ≤ 0) || items.isEmpty) = true) :
    Meets (Builtin.«tuple.__mul__» ⟨[.ref l, .int x u], []⟩) (fun _ R s => s.heap.get? l = some { cls := .type "tuple", dict := dd, data := .seq items n, slots := sl } ∧
      R (.ok (.ret (Value.ref s.heap.objs.size))) { s with heap := s.heap.push { cls := Value.type "tuple", data := Data.seq #[] }, toks := s.toks }) :=
  .of_wp fun prog w A R s h => by
    obtain ⟨hp, g, d, tk, os⟩ := s
    obtain ⟨hl, h⟩ := h
    have f1 := AutoSeq1.idx_int
    wp_walk using wpAny_loadPart' hl
    repeat (first
      | (refine wpAny_ite_false (decide_eq_false (by rw [c0]; exact Bool.false_ne_true)) ?_; wp_walk using wpAny_loadPart' hl)
      | (refine wpAny_ite_false (decide_eq_false (by rw [c1]; exact Bool.false_ne_true)) ?_; wp_walk using wpAny_loadPart' hl)
      | (refine wpAny_ite_true (decide_eq_true (by rw [c2])) ?_; wp_walk using wpAny_loadPart' hl))
    exact ⟨_, rfl, h⟩
def rRepZ (K : PySem.W.Frag) : R2 := fun x y H Q => ∃ l k xs, x = .ref l ∧ y = .int k ∧ SqT K H l xs ∧ xs ≠ [] ∧ -(2 ^ 62) ≤ k ∧ k ≤ 1000 ∧ xs.length ≤ 1000 ∧ (k = 1 → Q (.ref l) H) ∧ (k ≠ 1 → ∀ p, H p = none → Q (.ref p) (upd H p (.tup (List.replicate k.toNat xs).flatten)))
theorem op_repZ {X : Cx} : OpR X (binaryOp .Mult) (rRepZ X.K) := by
  intro pins s σ H x y v u Q I rx ry h
  obtain ⟨l, k, xs, rfl, rfl, hT, hne, h1, h2, hz, q1, q2⟩ := h
  by_cases e : 1 ≤ k
  · exact op_repTM pins s σ H _ _ v u Q I rx ry ⟨l, k, xs, rfl, rfl, hT, hne, e, h2, hz, q1, fun z => q2 (by omega)⟩
  · cases rx
    obtain ⟨t, rfl⟩ := ry
    obtain ⟨its, r, ⟨⟨cls, dd, data, sl⟩, ho, hc, n, hd⟩, hs⟩ := I.tuple hT
    simp only at hc hd
    subst hc hd
    have hle : its.length = xs.length := r.length.symm
    have hi : its.toArray.isEmpty = false := by
      cases its with
      | nil => exact absurd (List.eq_nil_of_length_eq_zero hle.symm) hne
      | cons a b => rfl
    have c0 : (decide (k < -(2 ^ 63)) || decide (k ≥ 2 ^ 63)) = false := by rw [decide_eq_false (by omega), decide_eq_false (by omega)] <;> rfl
    have c1 : (its.toArray.isEmpty || k == 1) = false := by rw [hi, Bool.false_or]; exact beq_eq_false_iff_ne.mpr (by omega)
    have c2 : (decide (k ≤ 0) || its.toArray.isEmpty) = true := by rw [decide_eq_true (by omega)]; rfl
    have q3 := q2 (by omega)
    have e0 : (List.replicate k.toNat xs).flatten = [] := by
      rw [show k.toNat = 0 by omega]
      rfl
    rw [e0] at q3
    refine wpAny_binaryOp_repeat_ref (T := "tuple") (U := "int") (by decide) ⟨_, ho, rfl⟩ (fun s' => typeIs_int s' k t) noFill_tuple_mul F.fills_int_mul F.slot_int_rmul repeat_tuple F.slot_int_index.lookup
      (call_meets F.slot_int_rmul (typeIs_int s k t) F.entry_int_rmul (F.args_int_rmul_2 _ _) (int_rmul_tuple k t l its.toArray n dd sl)
        ⟨ho, rfl, ⟨_, ho, rfl⟩, call_meets F.slot_tuple_mul ⟨_, ho, rfl⟩ F.entry_tuple_mul (F.args_tuple_mul_2 _ _) (tuple_mulW0 l its.toArray n dd sl k t c0 c1 c2) ⟨ho, ?_⟩⟩)
    refine ⟨.ref s.heap.objs.size, _, I.laid (t' := s.toks) (o := .tup []) (fun b ob q => Heap.get?_push_of_some _ q) (Nat.le_refl _) ?_, rfl, q3 _ (I.hok.fresh (Nat.le_refl _))⟩
    exact ⟨by rw [sizeLine_eq]; exact Nat.zero_le _, _, .nil, IsTup.new _ _⟩
section
variable {K : PySem.W.Frag} {M : List Addr} {F H : Hp} {Q : VK} {α : Type} {en : α → PyData} {l : List α} {xs : List V} {a : Addr} {j : Int}
/-- a tuple, repeated, perhaps not at all -/
theorem rep_tupZ (e : Ex F H) (s : SqT K F a xs) (d : DqAll K F xs (l.map en)) (h : 1 ≤ l.length ∧ l.length ≤ 1000 ∧ -4611686018427387904 ≤ j ∧ j ≤ 1000) (k : Ret M F H (fun F' _ v => Dq K F' v (eV en (List.replicate j.toNat l).flatten)) Q) : rRepZ K (.ref a) (.int j) H Q := by
  have hl : xs.length = l.length := by rw [d.len, List.length_map]
  refine ⟨a, j, xs, rfl, rfl, ex_t e s, fun z => ?_, by have := h.2.2.1; omega, h.2.2.2, by omega, fun z => ?_, fun _ p hp => ?_⟩
  · rw [z] at hl
    simp only [List.length_nil] at hl
    omega
  · have e1 : (List.replicate j.toNat l).flatten = l := by
      rw [z]
      simp
    rw [e1] at k
    exact k _ _ _ (Gm.refl e) (.tup s d)
  · have g : Gm M F H (upd F p (.tup (List.replicate j.toNat xs).flatten)) (upd H p (.tup (List.replicate j.toNat xs).flatten)) := Gm.new e hp
    exact k _ _ _ g (.tup (st_of upd_same) ((all_rep d _).up g.f))
end
end Wk
namespace Wk
open PySem L2 Evl
section
variable {K : PySem.W.Frag} {M : List Addr} {F H : Hp} {Q : VK} {α : Type} {en : α → PyData} {l : List α} {xs : List V} {a : Addr}
/-- a cut of an own list -/
theorem cut_lstO {lo hi : Option Int} (e : Ex F H) (s : H a = some (.lst xs)) (h : DqAll K F xs (l.map en)) (k : Ret M F H (fun F' _ v => Dq K F' v (eL en (cutL l lo hi))) Q) : rSlL K (.ref a) lo hi H Q :=
  ⟨a, xs, rfl, sq_of s, fun p hp => by
    have g : Gm M F H (upd F p (.lst (cutV xs lo hi))) (upd H p (.lst (cutV xs lo hi))) := Gm.new e hp
    exact k _ _ _ g (.lst upd_same ((cut_all h).up g.f))⟩
end
end Wk

set_option Elab.async false
set_option linter.all false
set_option maxRecDepth 100000
set_option maxHeartbeats 1000000
set_option exponentiation.threshold 100
namespace Wk
open PySem L2
theorem bdo {α β : Type} {a : α} {f : α → Mm β} : (Mm.ok a).bd f = f a := rfl
theorem cF {α : Type} {c : Bool} {x y : α} (h : c = false) : cond c x y = y := by subst h; rfl
theorem cT {α : Type} {c : Bool} {x y : α} (h : c = true) : cond c x y = x := by subst h; rfl
theorem guard_ok {c : Prop} [Decidable c] (h : c) : guardM c = .ok () := if_pos h
theorem intc_ne {n : Int} (h : n ≠ 0) : ((n : Int) : Rat) ≠ 0 := fun z => h (Rat.intCast_inj.mp (show ((n : Int) : Rat) = ((0 : Int) : Rat) from z))
theorem fr_zero : fr 0 = (0, 1) := by decide
theorem fr_one : fr 1 = (1, 1) := by decide
theorem fr_of_int (n : Int) : fr ((n : Int) : Rat) = (n, 1) := by
  unfold fr
  rw [Rat.num_intCast, Rat.den_intCast]
  rfl
theorem sq_int {n : Int} {a : Nat} (h : n.natAbs < 2 ^ a) (h0 : 0 < a) : Sq a ((n : Int) : Rat) := by
  unfold Sq
  rw [Rat.num_intCast, Rat.den_intCast]
  exact ⟨h, Nat.one_lt_two_pow (by omega)⟩
theorem zero_sq : Sq 1 0 := by unfold Sq; decide
theorem one_sq : Sq 1 1 := by unfold Sq; decide
theorem zero_sqn {a : Nat} (h : 0 < a) : Sq a 0 := zero_sq.up h
/-- a fraction by any terms -/
theorem fr_flip (a b : Int) : (a : Rat) / (b : Rat) = (((-a : Int) : Rat) / ((-b : Int) : Rat)) := by
  push_cast
  grind
theorem fdiv_neg_dvd {g a : Int} (h : 0 < g) (d : g ∣ a) : a.fdiv (-g) = (-a) / g := by
  obtain ⟨c, rfl⟩ := d
  have e : g * c = (-g) * (-c) := by rw [Int.neg_mul_neg]
  have e2 : -(g * c) = g * (-c) := by rw [Int.mul_neg]
  rw [e2, Int.mul_ediv_cancel_left _ (by omega), e, Int.mul_fdiv_cancel_left _ (by omega)]
theorem gcd_posZ {a b : Int} (h : b ≠ 0) : 0 < ((Nat.gcd a.natAbs b.natAbs : Nat) : Int) := by
  have : 0 < Nat.gcd a.natAbs b.natAbs := Nat.gcd_pos_of_pos_right _ (by omega)
  omega
theorem gcd_leZ {a b : Int} (h : b ≠ 0) : ((Nat.gcd a.natAbs b.natAbs : Nat) : Int).natAbs ≤ b.natAbs := by
  rw [Int.natAbs_natCast]
  exact Nat.gcd_le_right _ (by omega)
theorem fr_pos {a b : Int} (h : 0 < b) : fr ((a : Rat) / (b : Rat)) = (a.fdiv ((Nat.gcd a.natAbs b.natAbs : Nat) : Int), b.fdiv ((Nat.gcd a.natAbs b.natAbs : Nat) : Int)) := by
  have g0 := gcd_posZ (a := a) (b := b) (by omega)
  rw [Int.fdiv_eq_ediv_of_nonneg _ (Int.le_of_lt g0), Int.fdiv_eq_ediv_of_nonneg _ (Int.le_of_lt g0)]
  exact fr_int a h
theorem fr_neg {a b : Int} (h : b < 0) : fr ((a : Rat) / (b : Rat)) = (a.fdiv (-((Nat.gcd a.natAbs b.natAbs : Nat) : Int)), b.fdiv (-((Nat.gcd a.natAbs b.natAbs : Nat) : Int))) := by
  have g0 := gcd_posZ (a := a) (b := b) (by omega)
  rw [fdiv_neg_dvd g0 (Int.ofNat_dvd_left.mpr (Nat.gcd_dvd_left _ _)), fdiv_neg_dvd g0 (Int.ofNat_dvd_left.mpr (Nat.gcd_dvd_right _ _)), fr_flip, fr_int (-a) (show 0 < -b by omega), Int.natAbs_neg, Int.natAbs_neg]
theorem sq_any {n : Nat} {a b : Int} (h : b ≠ 0) (ha : a.natAbs < 2 ^ n) (hb : b.natAbs < 2 ^ n) : Sq n ((a : Rat) / (b : Rat)) := by
  by_cases q : 0 < b
  · exact sq_div q ha hb
  · rw [fr_flip]
    exact sq_div (by omega) (by omega) (by omega)
/-- x stands for q, in any terms -/
structure Rx (n : Nat) (x : Int × Int) (q : Rat) : Prop where
  nz : x.2 ≠ 0
  t : x.1.natAbs < 2 ^ n
  b : x.2.natAbs < 2 ^ n
  v : (x.1 : Rat) / (x.2 : Rat) = q
theorem Rx.sq {n : Nat} {x : Int × Int} {q : Rat} (h : Rx n x q) : Sq n q := by
  rw [← h.v]
  exact sq_any h.nz h.t h.b
theorem Rx.up {n m : Nat} {x : Int × Int} {q : Rat} (h : Rx n x q) (l : n ≤ m) : Rx m x q := ⟨h.nz, up_lt h.t l, up_lt h.b l, h.v⟩
theorem rx_fr {n : Nat} {q : Rat} (h : Sq n q) : Rx n (fr q) q := ⟨by have := den_posI q; show ((q.den : Nat) : Int) ≠ 0; omega, h.1, h.d, fr_val q⟩
theorem rx_int {n : Nat} {i : Int} (h : i.natAbs < 2 ^ n) (h0 : 0 < n) : Rx n (i, 1) (i : Rat) := by
  rw [← fr_of_int]
  exact rx_fr (sq_int h h0)
theorem mul_nz {a b : Int} (h : a ≠ 0) (h2 : b ≠ 0) : a * b ≠ 0 := Int.mul_ne_zero h h2
theorem rx_add {x y : Int × Int} {p q : Rat} {a b : Nat} (hx : Rx a x p) (hy : Rx b y q) : ((x.1 * y.2 + y.1 * x.2 : Int) : Rat) / ((x.2 * y.2 : Int) : Rat) = p + q := by
  rw [← hx.v, ← hy.v]
  have h1 := intc_ne hx.nz
  have h2 := intc_ne hy.nz
  push_cast
  grind
theorem rx_sub {x y : Int × Int} {p q : Rat} {a b : Nat} (hx : Rx a x p) (hy : Rx b y q) : ((x.1 * y.2 - y.1 * x.2 : Int) : Rat) / ((x.2 * y.2 : Int) : Rat) = p - q := by
  rw [← hx.v, ← hy.v]
  have h1 := intc_ne hx.nz
  have h2 := intc_ne hy.nz
  push_cast
  grind
theorem rx_mul {x y : Int × Int} {p q : Rat} {a b : Nat} (hx : Rx a x p) (hy : Rx b y q) : ((x.1 * y.1 : Int) : Rat) / ((x.2 * y.2 : Int) : Rat) = p * q := by
  rw [← hx.v, ← hy.v]
  have h1 := intc_ne hx.nz
  have h2 := intc_ne hy.nz
  push_cast
  grind
theorem Rx.top {x : Int × Int} {q : Rat} {n : Nat} (h : Rx n x q) (hq : q ≠ 0) : x.1 ≠ 0 := fun z => by
  have := h.v
  rw [z] at this
  have e : ((0 : Int) : Rat) / (x.2 : Rat) = 0 := by
    push_cast
    grind
  exact hq (by rw [← this, e])
theorem rx_div {x y : Int × Int} {p q : Rat} {a b : Nat} (hx : Rx a x p) (hy : Rx b y q) (hq : q ≠ 0) : ((x.1 * y.2 : Int) : Rat) / ((x.2 * y.1 : Int) : Rat) = p / q := by
  have h0 := intc_ne (hy.top hq)
  have h1 := intc_ne hx.nz
  have h2 := intc_ne hy.nz
  rw [← hx.v, ← hy.v]
  push_cast
  grind
theorem sq_subB {p q : Rat} {a b n : Nat} (ha : Sq a p) (hb : Sq b q) (h : a + b < n) : Sq n (p - q) := by
  rw [← rx_sub (rx_fr ha) (rx_fr hb)]
  refine sq_div (Int.mul_pos (den_posI p) (den_posI q)) ?_ (mul_lt ha.d hb.d (by omega))
  exact sub_lt (mul_lt ha.1 hb.d (Nat.le_refl _)) (mul_lt hb.1 ha.d (Nat.le_refl _)) (by omega) (by omega)
theorem sq_negB {q : Rat} {a : Nat} (h : Sq a q) : Sq a (-q) := by
  unfold Sq
  rw [Rat.neg_num, Rat.neg_den, Int.natAbs_neg]
  exact h
theorem sq_divB {p q : Rat} {a b n : Nat} (ha : Sq a p) (hb : Sq b q) (hq : q ≠ 0) (h : a + b ≤ n) : Sq n (p / q) := by
  rw [← rx_div (rx_fr ha) (rx_fr hb) hq]
  exact sq_any (mul_nz (rx_fr ha).nz ((rx_fr hb).top hq)) (mul_lt ha.1 hb.d h) (mul_lt ha.d hb.1 h)
theorem fr_negv (q : Rat) : ((0 : Int) - (fr q).1, (fr q).2) = fr (-q) := by
  unfold fr
  rw [Rat.neg_num, Rat.neg_den, Int.zero_sub]
def Sqs (a : Nat) (l : List Rat) : Prop := ∀ q ∈ l, Sq a q
theorem Sqs.up {a b : Nat} {l : List Rat} (h : Sqs a l) (k : a ≤ b) : Sqs b l := fun q hq => (h q hq).up k
/-! ### folds -/
theorem foldM_map {α β S : Type} {f : S → β → Mm S} {g : α → β} : ∀ (l : List α) (s : S), foldM f s (l.map g) = foldM (fun s x => f s (g x)) s l
  | [], s => rfl
  | x :: l, s => by
    rw [List.map_cons]
    show (f s (g x)).bd _ = (f s (g x)).bd _
    congr 1
    funext s'
    exact foldM_map l s'
theorem mapMm_map {α β γ : Type} {f : β → Mm γ} {g : α → β} : ∀ l : List α, mapMm f (l.map g) = mapMm (fun x => f (g x)) l
  | [] => rfl
  | x :: l => by
    rw [List.map_cons]
    unfold mapMm
    rw [mapMm_map l]
theorem zero_add' (q : Rat) : 0 + q = q := by grind
theorem fold_fr {α : Type} {f : Int × Int → α → Mm (Int × Int)} {v : α → Rat} {c : Nat} : ∀ (l : List α), (∀ x ∈ l, Sq c (v x) ∧ ∀ p a, Sq a p → a + c < 8999 → f (fr p) x = .ok (fr (p + v x))) → ∀ (p : Rat) (a : Nat), Sq a p → a + (c + 1) * l.length < 8998 →
    foldM f (fr p) l = .ok (fr (p + (l.map v).sum)) ∧ Sq (a + (c + 1) * l.length) (p + (l.map v).sum)
  | [], _, p, a, ha, _ => by
    have e : p + ([].map v).sum = p := by
      show p + 0 = p
      grind
    rw [e]
    exact ⟨rfl, ha⟩
  | x :: l, h, p, a, ha, hl => by
    have e1 : (c + 1) * (x :: l).length = (c + 1) * l.length + (c + 1) := by rw [List.length_cons, Nat.mul_succ]
    obtain ⟨sx, hx⟩ := h x (List.mem_cons_self ..)
    obtain ⟨h1, h2⟩ := fold_fr l (fun y hy => h y (List.mem_cons_of_mem _ hy)) (p + v x) (a + c + 1) (sq_add ha sx (by omega)) (by omega)
    have e2 : p + ((x :: l).map v).sum = p + v x + (l.map v).sum := by
      rw [List.map_cons, List.sum_cons]
      grind
    rw [e2]
    refine ⟨?_, h2.up (by omega)⟩
    unfold foldM
    rw [hx p a ha (by omega)]
    exact h1
/-- a sum that begins with 0 -/
theorem fold_fr0 {α : Type} {f : Int × Int → α → Mm (Int × Int)} {v : α → Rat} {c : Nat} (l : List α) (h : ∀ x ∈ l, Sq c (v x) ∧ ∀ p a, Sq a p → a + c < 8999 → f (fr p) x = .ok (fr (p + v x))) (hl : (c + 1) * l.length < 8996) :
    foldM f ((0, 1) : Int × Int) l = .ok (fr (l.map v).sum) ∧ Sq (1 + (c + 1) * l.length) (l.map v).sum := by
  have := fold_fr l h 0 1 zero_sq (by omega)
  rw [zero_add', fr_zero] at this
  exact this
/-! ### polynomials -/
def ev : List Rat → Rat → Rat
  | [], _ => 0
  | c :: l, x => c + x * ev l x
theorem ev_sq {p : Rat} {b c : Nat} (hp : Sq b p) : ∀ l : List Rat, Sqs c l → Sq ((b + c + 1) * l.length + 1) (ev l p)
  | [], _ => zero_sqn (by omega)
  | x :: l, h => by
    have ih := ev_sq hp l fun q hq => h q (List.mem_cons_of_mem _ hq)
    have e : (b + c + 1) * (x :: l).length = (b + c + 1) * l.length + (b + c + 1) := by rw [List.length_cons, Nat.mul_succ]
    exact sq_add (h x (List.mem_cons_self ..)) (sq_mul hp ih (Nat.le_refl _)) (by omega)
theorem foldM_app {α S : Type} {f : S → α → Mm S} : ∀ (l r : List α) (s : S), foldM f s (l ++ r) = (foldM f s l).bd fun s' => foldM f s' r
  | [], r, s => rfl
  | x :: l, r, s => by
    show (f s x).bd (fun s' => foldM f s' (l ++ r)) = ((f s x).bd fun s' => foldM f s' l).bd fun s' => foldM f s' r
    rw [bd_assoc]
    congr 1
    funext s'
    exact foldM_app l r s'
/-- Horner's way -/
theorem horner {f : Int × Int → Rat → Mm (Int × Int)} {p : Rat} {b c : Nat} (hp : Sq b p) (N : Nat) (hf : ∀ x, Sq c x → ∀ q a, Sq a q → a + b + c + 1 ≤ N → f (fr q) x = .ok (fr (q * p + x))) : ∀ (l : List Rat), Sqs c l → (b + c + 1) * l.length + 1 ≤ N → foldM f ((0, 1) : Int × Int) l.reverse = .ok (fr (ev l p))
  | [], _, _ => by
    show Mm.ok _ = _
    rw [← fr_zero]
    rfl
  | x :: l, h, hN => by
    have e : (b + c + 1) * (x :: l).length = (b + c + 1) * l.length + (b + c + 1) := by rw [List.length_cons, Nat.mul_succ]
    have hl : Sqs c l := fun q hq => h q (List.mem_cons_of_mem _ hq)
    rw [List.reverse_cons, foldM_app, horner hp N hf l hl (by omega)]
    show (f _ x).bd _ = _
    rw [hf x (h x (List.mem_cons_self ..)) _ _ (ev_sq hp l hl) (by omega)]
    show Mm.ok _ = _
    congr 2
    show _ = x + p * ev l p
    grind
/-! ### numbered lists, items -/
def numL {α : Type} : Int → List α → List (Int × α)
  | _, [] => []
  | k, x :: l => (k, x) :: numL (k + 1) l
theorem rangeL_succ (k : Int) (n : Nat) : rangeL k (n + 1) = k :: rangeL (k + 1) n := by
  unfold rangeL
  rw [List.range_succ_eq_map, List.map_cons, List.map_map]
  congr 1
  · omega
  · refine List.map_congr_left fun i _ => ?_
    show k + ((i + 1 : Nat) : Int) = k + 1 + (i : Int)
    omega
theorem rangeL_len (k : Int) (n : Nat) : (rangeL k n).length = n := by simp [rangeL]
theorem enum_num {α : Type} : ∀ (l : List α) (k : Int), (rangeL k l.length).zip l = numL k l
  | [], k => rfl
  | x :: l, k => by
    rw [List.length_cons, rangeL_succ, List.zip_cons_cons, enum_num l]
    rfl
theorem enumL_eq {α : Type} (l : List α) : enumL l = numL 0 l := enum_num l 0
theorem numL_len {α : Type} : ∀ (l : List α) (k : Int), (numL k l).length = l.length
  | [], k => rfl
  | x :: l, k => by
    unfold numL
    rw [List.length_cons, numL_len l, List.length_cons]
theorem numL_mem {α : Type} : ∀ (l : List α) (k : Int) (x : Int × α), x ∈ numL k l → k ≤ x.1 ∧ x.1 < k + l.length ∧ x.2 ∈ l
  | [], k, x, h => by cases h
  | y :: l, k, x, h => by
    rcases List.mem_cons.mp h with rfl | h
    · refine ⟨Int.le_refl _, ?_, List.mem_cons_self ..⟩
      show k < k + ((l.length + 1 : Nat) : Int)
      omega
    · obtain ⟨a, b, c⟩ := numL_mem l (k + 1) x h
      refine ⟨by omega, ?_, List.mem_cons_of_mem _ c⟩
      show x.1 < k + ((l.length + 1 : Nat) : Int)
      omega
theorem numL_map {α β : Type} (f : α → β) : ∀ (l : List α) (k : Int), numL k (l.map f) = (numL k l).map fun x => (x.1, f x.2)
  | [], k => rfl
  | x :: l, k => by
    rw [List.map_cons]
    unfold numL
    rw [numL_map f l, List.map_cons]
theorem getM_mid {α : Type} (l r : List α) (x : α) : getM (l ++ x :: r) (l.length : Int) = .ok x := by
  unfold getM
  rw [atI_nat (j := l.length) (v := x) (by simp)]
theorem getM_nat {α : Type} {l : List α} {i : Nat} {x : α} (h : l[i]? = some x) : getM l (i : Int) = .ok x := by
  unfold getM
  rw [atI_nat (j := i) (v := x) h]
theorem getM_last {α : Type} (l : List α) (x : α) : getM (l ++ [x]) (-(1 : Int)) = .ok x := by
  unfold getM
  rw [atI_last]
theorem getM_ok {α : Type} {l : List α} {i : Int} (h : 0 ≤ i) (h2 : i < l.length) : ∃ x, x ∈ l ∧ getM l i = .ok x := by
  have e : i = ((i.toNat : Nat) : Int) := by omega
  have lt : i.toNat < l.length := by omega
  have q := getM_nat (List.getElem?_eq_getElem lt)
  rw [← e] at q
  exact ⟨l[i.toNat], List.getElem_mem lt, q⟩
theorem rangeM_ok {n : Nat} (h : n < 1000000) : rangeM (n : Int) = .ok (rangeL 0 n) := by
  have := range_ok (j := (n : Int)) (by omega) (by omega)
  rw [this, Int.toNat_natCast]
theorem rangeDn_rev (n : Nat) : rangeDn ((n : Int) - 1) n = (rangeL 0 n).reverse := by
  unfold rangeDn rangeL
  rw [← List.map_reverse]
  apply List.ext_getElem
  · simp
  · intro i h1 h2
    simp only [List.length_map, List.length_range] at h1
    simp only [List.getElem_map, List.getElem_range, List.getElem_reverse, List.length_range]
    omega
theorem fold_getR {α S : Type} {h : S → α → Mm S} (L : List α) : ∀ (n : Nat) (l post : List α) (s : S), l.length = n → L = l ++ post → foldM (fun s i => (getM L i).bd fun v => h s v) s (rangeL 0 l.length).reverse = foldM h s l.reverse
  | 0, l, post, s, hn, e => by
    have : l = [] := List.length_eq_zero_iff.mp hn
    subst this
    rfl
  | n + 1, l, post, s, hn, e => by
    rcases List.eq_nil_or_concat l with q | ⟨l', x, q⟩
    · rw [q] at hn
      cases hn
    · rw [List.concat_eq_append] at q
      subst q
      have e1 : rangeL 0 (l' ++ [x]).length = rangeL 0 l'.length ++ [(l'.length : Int)] := by
        unfold rangeL
        rw [List.length_append, List.length_singleton, List.range_succ, List.map_append, List.map_cons, List.map_nil, Int.zero_add]
      have e2 : L = l' ++ x :: post := by rw [e]; simp
      rw [e1, List.reverse_append, List.reverse_append, foldM_app, foldM_app]
      show Mm.bd (Mm.bd (Mm.bd (getM L (l'.length : Int)) _) _) _ = Mm.bd (Mm.bd (h s x) _) _
      have g : getM L (l'.length : Int) = .ok x := by rw [e2]; exact getM_mid _ _ _
      rw [g]
      show Mm.bd (Mm.bd (h s x) _) _ = _
      congr 1
      funext s'
      exact fold_getR L n l' (x :: post) s' (by simpa using hn) e2
theorem fold_get {α S : Type} {h : S → Int → α → Mm S} (L : List α) : ∀ (l pre : List α) (s : S), L = pre ++ l → foldM (fun s i => (getM L i).bd fun v => h s i v) s (rangeL (pre.length : Int) l.length) = foldM (fun s (x : Int × α) => h s x.1 x.2) s (numL (pre.length : Int) l)
  | [], pre, s, _ => rfl
  | x :: l, pre, s, e => by
    rw [List.length_cons, rangeL_succ]
    unfold foldM numL
    rw [e, getM_mid, ← e]
    show (h s _ x).bd _ = (h s _ x).bd _
    congr 1
    funext s'
    have := fold_get (h := h) L l (pre ++ [x]) s' (by rw [e]; simp)
    rw [List.length_append, List.length_singleton] at this
    have e2 : ((pre.length + 1 : Nat) : Int) = (pre.length : Int) + 1 := by omega
    rw [e2] at this
    exact this
/-! ### draws -/
def Rk (N : Nat) (st : Rw) : Prop := 0 ≤ st.seed ∧ st.seed < 2147483647 ∧ 0 ≤ st.pos ∧ st.pos ≤ N
theorem Rk.up {N M : Nat} {st : Rw} (h : Rk N st) (k : N ≤ M) : Rk M st := ⟨h.1, h.2.1, h.2.2.1, by have := h.2.2.2; omega⟩
theorem seedN_ok (s c : Int) : 0 ≤ seedN s c ∧ seedN s c < 2147483647 := by
  unfold seedN
  omega
theorem takenA_ok {scr : List Int} {st : Rw} {many : Int} {N : Nat} (r : Rk N st) (h0 : 0 < many) (h1 : many < 1073741824) (hN : N < 999999) : Yes (takenA scr st many) fun r => (0 ≤ r.1 ∧ r.1 < many) ∧ Rk (N + 1) r.2 := by
  obtain ⟨r1, r2, r3, r4⟩ := r
  unfold takenA
  rw [if_pos ⟨h0, h1, r1, r2, r3, by omega⟩]
  split
  · refine ⟨_, rfl, ⟨Int.emod_nonneg _ (by omega), Int.emod_lt_of_pos _ h0⟩, r1, r2, r3, ?_⟩
    show st.pos ≤ _
    omega
  · split
    · obtain ⟨s1, s2⟩ := seedN_ok st.seed 0
      exact ⟨_, rfl, ⟨Int.emod_nonneg _ (by omega), Int.emod_lt_of_pos _ h0⟩, s1, s2, by show 0 ≤ st.pos + 1; omega, by show st.pos + 1 ≤ _; omega⟩
    · rename_i c _
      obtain ⟨s1, s2⟩ := seedN_ok st.seed c
      exact ⟨_, rfl, ⟨Int.emod_nonneg _ (by omega), Int.emod_lt_of_pos _ h0⟩, s1, s2, by show 0 ≤ st.pos + 1; omega, by show st.pos + 1 ≤ _; omega⟩
theorem takenB_ok {scr : List Int} {st : Rw} {many : Int} {N : Nat} (r : Rk N st) (h0 : 0 < many) (h1 : many < 1073741824) (hN : N < 999999) : Yes (takenB scr st many) fun r => (0 ≤ r.1 ∧ r.1 < many) ∧ Rk (N + 1) r.2 := by
  obtain ⟨r1, r2, r3, r4⟩ := r
  unfold takenB
  rw [if_pos ⟨h0, h1, r1, r2, r3, by omega⟩]
  split
  · refine ⟨_, rfl, ⟨Int.emod_nonneg _ (by omega), Int.emod_lt_of_pos _ h0⟩, r1, r2, r3, ?_⟩
    show st.pos ≤ _
    omega
  · split
    · obtain ⟨s1, s2⟩ := seedN_ok st.seed 0
      exact ⟨_, rfl, ⟨Int.emod_nonneg _ (by omega), Int.emod_lt_of_pos _ h0⟩, s1, s2, by show 0 ≤ st.pos + 1; omega, by show st.pos + 1 ≤ _; omega⟩
    · rename_i c _
      obtain ⟨s1, s2⟩ := seedN_ok st.seed c
      exact ⟨_, rfl, ⟨Int.emod_nonneg _ (by omega), Int.emod_lt_of_pos _ h0⟩, s1, s2, by show 0 ≤ st.pos + 1; omega, by show st.pos + 1 ≤ _; omega⟩
theorem yes_mapS {α γ S : Type} {f : S → α → Mm (γ × S)} (I : S → Nat → Prop) (p : α → γ → Prop) : ∀ (l : List α) (s : S), I s l.length → (∀ s x n, x ∈ l → I s (n + 1) → Yes (f s x) fun y => p x y.1 ∧ I y.2 n) → Yes (mapSt f s l) fun r => All2 p l r.1 ∧ I r.2 0
  | [], s, h, _ => ⟨_, rfl, .nil, h⟩
  | x :: l, s, h, k => by
    obtain ⟨y, e, h1, h2⟩ := k s x l.length (List.mem_cons_self ..) h
    obtain ⟨r, e2, h3, h4⟩ := yes_mapS I p l y.2 h2 fun s z n hz => k s z n (List.mem_cons_of_mem _ hz)
    unfold mapSt
    rw [e]
    show Yes ((mapSt f y.2 l).bd _) _
    rw [e2]
    exact ⟨_, rfl, .cons h1 h3, h4⟩
/-- draws of a row of things: cost each -/
theorem yes_draws {α γ : Type} {f : Rw → α → Mm (γ × Rw)} (c : Nat) (p : γ → Prop) (l : List α) (s : Rw) (N : Nat) (h : Rk N s) (hN : N + c * l.length < 900000) (k : ∀ s x M, x ∈ l → Rk M s → M < 900000 → Yes (f s x) fun y => p y.1 ∧ Rk (M + c) y.2) : Yes (mapSt f s l) fun r => (r.1.length = l.length ∧ ∀ y ∈ r.1, p y) ∧ Rk (N + c * l.length) r.2 := by
  refine (yes_mapS (fun s n => ∃ k, Rk k s ∧ k + c * n ≤ N + c * l.length) (fun _ y => p y) l s ⟨N, h, Nat.le_refl _⟩ fun s x n hx hs => ?_).mono fun r hr => ⟨⟨hr.1.len, hr.1.right fun _ _ h => h⟩, ?_⟩
  · obtain ⟨M, rk, hM⟩ := hs
    have e : c * (n + 1) = c * n + c := Nat.mul_succ ..
    exact (k s x M hx rk (by omega)).mono fun y hy => ⟨hy.1, M + c, hy.2, by omega⟩
  · obtain ⟨M, rk, hM⟩ := hr.2
    exact rk.up (by omega)
theorem All2.app {α γ : Type} {p : α → γ → Prop} {x : α} {y : γ} : ∀ {l : List α} {r : List γ}, All2 p l r → p x y → All2 p (l ++ [x]) (r ++ [y])
  | _, _, .nil, h => .cons h .nil
  | _, _, .cons a b, h => .cons a (All2.app b h)
theorem All2.map_eq {α β γ : Type} {p : α → γ → Prop} {f : γ → Mm β} {g : α → β} {l : List α} {r : List γ} (h : All2 p l r) (k : ∀ x y, x ∈ l → p x y → f y = .ok (g x)) : mapMm f r = .ok (l.map g) := by
  induction h with
  | nil => rfl
  | cons a _ ih =>
    unfold mapMm
    rw [k _ _ (List.mem_cons_self ..) a, bdo, ih fun x y hx => k x y (List.mem_cons_of_mem _ hx), bdo]
    rfl
theorem All2.left {α γ : Type} {p : α → γ → Prop} {q : α → Prop} {l : List α} {r : List γ} (h : All2 p l r) (k : ∀ x y, p x y → q x) : ∀ x ∈ l, q x := by
  induction h with
  | nil => simp
  | cons a _ ih =>
    intro y hy
    rcases List.mem_cons.mp hy with rfl | hy
    · exact k _ _ a
    · exact ih y hy
theorem All2.self {α γ : Type} {p : α → γ → Prop} {g : α → γ} : ∀ l : List α, (∀ x ∈ l, p x (g x)) → All2 p l (l.map g)
  | [], _ => .nil
  | x :: l, h => .cons (h x (List.mem_cons_self ..)) (All2.self l fun y hy => h y (List.mem_cons_of_mem _ hy))
theorem All2.mono {α γ : Type} {p q : α → γ → Prop} {l : List α} {r : List γ} (h : All2 p l r) (k : ∀ x y, p x y → q x y) : All2 q l r := by
  induction h with
  | nil => exact .nil
  | cons a _ ih => exact .cons (k _ _ a) ih
/-- loops that may be left, but are not -/
theorem yes_foldL {α R S : Type} {f : S → α → Mm (Fl R S)} (I : S → Nat → Prop) : ∀ (l : List α) (s : S), I s l.length → (∀ s x n, x ∈ l → I s (n + 1) → Yes (f s x) fun o => ∃ s', o = .go s' ∧ I s' n) → Yes (foldL f s l) fun o => ∃ s', o = .go s' ∧ I s' 0
  | [], s, h, _ => ⟨_, rfl, s, rfl, h⟩
  | x :: l, s, h, k => by
    obtain ⟨o, e, s', rfl, h2⟩ := k s x l.length (List.mem_cons_self ..) h
    obtain ⟨o2, e2, s2, rfl, h3⟩ := yes_foldL I l s' h2 fun s z n hz => k s z n (List.mem_cons_of_mem _ hz)
    unfold foldL
    rw [e]
    show Yes (foldL f s' l) _
    rw [e2]
    exact ⟨_, rfl, s2, rfl, h3⟩
end Wk
namespace Wk
open PySem L2
/-- Euclid's way -/
theorem euclid : ∀ (n : Nat) (x y : Int), 0 ≤ x → 0 ≤ y → y.toNat < n → foldW (fun (b6 : (Int × Int)) => Mm.ok (decide (b6.2 > (0 : Int)))) (fun (b7 : (Int × Int)) => (modM b7.1 b7.2).bd fun m24 => Mm.ok (b7.2, m24)) n (x, y) = .ok (((Nat.gcd x.natAbs y.natAbs : Nat) : Int), 0)
  | 0, _, _, _, _, h => absurd h (by omega)
  | n + 1, x, y, hx, hy, h => by
    unfold foldW
    by_cases q : y > 0
    · show (match decide (y > 0) with | true => _ | false => _) = _
      rw [decide_eq_true q]
      show ((modM x y).bd _).bd _ = _
      rw [mod_ok q]
      show foldW _ _ n (y, x % y) = _
      have h1 := Int.emod_nonneg x (b := y) (by omega)
      have h2 := Int.emod_lt_of_pos x q
      rw [euclid n y (x % y) hy h1 (by omega)]
      congr 3
      rw [Int.natAbs_emod_of_nonneg hx, Nat.gcd_comm, ← Nat.gcd_rec, Nat.gcd_comm]
    · show (match decide (y > 0) with | true => _ | false => _) = _
      rw [decide_eq_false q]
      have : y = 0 := by omega
      subst this
      show Mm.ok (x, (0 : Int)) = _
      rw [Int.natAbs_zero, Nat.gcd_zero_right]
      congr 2
      omega
theorem abs_nn (x : Int) : 0 ≤ absI x := by unfold absI; split <;> omega
theorem abs_na (x : Int) : (absI x).natAbs = x.natAbs := by unfold absI; split <;> omega
end Wk
namespace Wk
open PySem L2
/-! ### loops over indexes -/
theorem fold_ixR {α S : Type} {f : S → Int → Mm S} {h : S → α → Mm S} (L : List α) (hf : ∀ s (i : Nat) v, L[i]? = some v → f s (i : Int) = h s v) : ∀ s, foldM f s (rangeL 0 L.length).reverse = foldM h s L.reverse := by
  have k : ∀ (n : Nat) (l post : List α) (s : S), l.length = n → L = l ++ post → foldM f s (rangeL 0 l.length).reverse = foldM h s l.reverse := by
    intro n
    induction n with
    | zero =>
      intro l post s hn e
      have : l = [] := List.length_eq_zero_iff.mp hn
      subst this
      rfl
    | succ n ih =>
      intro l post s hn e
      rcases List.eq_nil_or_concat l with q | ⟨l', x, q⟩
      · rw [q] at hn
        cases hn
      · rw [List.concat_eq_append] at q
        subst q
        have e1 : rangeL 0 (l' ++ [x]).length = rangeL 0 l'.length ++ [(l'.length : Int)] := by
          unfold rangeL
          rw [List.length_append, List.length_singleton, List.range_succ, List.map_append, List.map_cons, List.map_nil, Int.zero_add]
        have e2 : L = l' ++ x :: post := by rw [e]; simp
        rw [e1, List.reverse_append, List.reverse_append, foldM_app, foldM_app]
        show Mm.bd (Mm.bd (f s (l'.length : Int)) _) _ = Mm.bd (Mm.bd (h s x) _) _
        rw [hf s l'.length x (by rw [e2]; simp)]
        show Mm.bd (Mm.bd (h s x) _) _ = _
        congr 1
        funext s'
        exact ih l' (x :: post) s' (by simpa using hn) e2
  intro s
  exact k L.length L [] s rfl (by simp)
theorem fold_ixN {α S : Type} {f : S → Int → Mm S} {h : S → Nat → α → Mm S} (L : List α) (hf : ∀ s (i : Nat) v, L[i]? = some v → f s (i : Int) = h s i v) : ∀ (l pre : List α) (s : S), L = pre ++ l → foldM f s (rangeL (pre.length : Int) l.length) = foldM (fun s (x : Int × α) => h s x.1.toNat x.2) s (numL (pre.length : Int) l)
  | [], pre, s, _ => rfl
  | x :: l, pre, s, e => by
    rw [List.length_cons, rangeL_succ]
    unfold foldM numL
    rw [hf s pre.length x (by rw [e]; simp)]
    show (h s _ x).bd _ = (h s _ x).bd _
    rw [Int.toNat_natCast]
    congr 1
    funext s'
    have := fold_ixN L hf l (pre ++ [x]) s' (by rw [e]; simp)
    rw [List.length_append, List.length_singleton] at this
    have e2 : ((pre.length + 1 : Nat) : Int) = (pre.length : Int) + 1 := by omega
    rw [e2] at this
    exact this
theorem fold_num {α S : Type} {h : S → α → Mm S} : ∀ (l : List α) (k : Int) (s : S), foldM (fun s (x : Int × α) => h s x.2) s (numL k l) = foldM h s l
  | [], _, _ => rfl
  | x :: l, k, s => by
    unfold numL foldM
    show (h s x).bd _ = (h s x).bd _
    congr 1
    funext s'
    exact fold_num l (k + 1) s'
theorem fold_ix {α S : Type} {f : S → Int → Mm S} {h : S → α → Mm S} (L : List α) (hf : ∀ s (i : Nat) v, L[i]? = some v → f s (i : Int) = h s v) (s : S) : foldM f s (rangeL 0 L.length) = foldM h s L := by
  have := fold_ixN (h := fun s _ v => h s v) L hf L [] s rfl
  rw [show ((([] : List α).length : Nat) : Int) = 0 from rfl] at this
  rw [this, fold_num]
theorem map_ix {α γ : Type} {f : Int → Mm γ} {h : α → Mm γ} (L : List α) (hf : ∀ (i : Nat) v, L[i]? = some v → f (i : Int) = h v) : mapMm f (rangeL 0 L.length) = mapMm h L := by
  have k : ∀ (l pre : List α), L = pre ++ l → mapMm f (rangeL (pre.length : Int) l.length) = mapMm h l := by
    intro l
    induction l with
    | nil => intro pre _; rfl
    | cons x l ih =>
      intro pre e
      rw [List.length_cons, rangeL_succ]
      unfold mapMm
      rw [hf pre.length x (by rw [e]; simp)]
      have := ih (pre ++ [x]) (by rw [e]; simp)
      rw [List.length_append, List.length_singleton] at this
      have e2 : ((pre.length + 1 : Nat) : Int) = (pre.length : Int) + 1 := by omega
      rw [e2] at this
      rw [this]
  exact k L [] rfl
theorem zip_at {α β : Type} {l : List α} {r : List β} {i : Nat} {v : α × β} (h : (l.zip r)[i]? = some v) : l[i]? = some v.1 ∧ r[i]? = some v.2 := by
  rw [List.getElem?_zip_eq_some] at h
  exact h
theorem getM_map {α β : Type} {l : List α} {f : α → β} {i : Nat} {x : α} (h : l[i]? = some x) : getM (l.map f) (i : Int) = .ok (f x) := getM_nat (by rw [List.getElem?_map, h]; rfl)
theorem All2.at {α γ : Type} {p : α → γ → Prop} {l : List α} {r : List γ} (h : All2 p l r) : ∀ {i : Nat} {x : α}, l[i]? = some x → ∃ y, r[i]? = some y ∧ p x y := by
  induction h with
  | nil => intro i x e; cases i <;> cases e
  | cons a _ ih =>
    intro i x e
    cases i with
    | zero => cases e; exact ⟨_, rfl, a⟩
    | succ i => exact ih e
end Wk
namespace Wk
open PySem L2
def rv (x : Int × Int) : Rat := (x.1 : Rat) / (x.2 : Rat)
theorem all2_rv {n : Nat} {ps : List Rat} {pl : List (Int × Int)} (h : All2 (fun p x => Rx n x p) ps pl) : ps = pl.map rv := by
  induction h with
  | nil => rfl
  | cons a _ ih => rw [List.map_cons, ← ih, ← a.v]; rfl
theorem all2_at {n : Nat} {ps : List Rat} {pl : List (Int × Int)} (h : All2 (fun p x => Rx n x p) ps pl) {i : Nat} {x : Int × Int} (hx : pl[i]? = some x) : Rx n x (rv x) := by
  have := h.right (q := fun x => Rx n x (rv x)) (fun p x r => by have e := r.v; unfold rv; rw [e]; exact r) x (List.mem_of_getElem? hx)
  exact this
/-- sums with something that goes along -/
theorem fold_frP {α R : Type} {f : (Int × Int) × R → α → Mm ((Int × Int) × R)} {v : α → Rat} {c : Nat} : ∀ (l : List α), (∀ x ∈ l, Sq c (v x) ∧ ∀ p a r, Sq a p → a + c < 8999 → f (fr p, r) x = .ok (fr (p + v x), r)) → ∀ (p : Rat) (a : Nat) (r : R), Sq a p → a + (c + 1) * l.length < 8998 →
    foldM f (fr p, r) l = .ok (fr (p + (l.map v).sum), r) ∧ Sq (a + (c + 1) * l.length) (p + (l.map v).sum)
  | [], _, p, a, r, ha, _ => by
    have e : p + ([].map v).sum = p := by
      show p + 0 = p
      grind
    rw [e]
    exact ⟨rfl, ha⟩
  | x :: l, h, p, a, r, ha, hl => by
    have e1 : (c + 1) * (x :: l).length = (c + 1) * l.length + (c + 1) := by rw [List.length_cons, Nat.mul_succ]
    obtain ⟨sx, hx⟩ := h x (List.mem_cons_self ..)
    obtain ⟨h1, h2⟩ := fold_frP l (fun y hy => h y (List.mem_cons_of_mem _ hy)) (p + v x) (a + c + 1) r (sq_add ha sx (by omega)) (by omega)
    have e2 : p + ((x :: l).map v).sum = p + v x + (l.map v).sum := by
      rw [List.map_cons, List.sum_cons]
      grind
    rw [e2]
    refine ⟨?_, h2.up (by omega)⟩
    unfold foldM
    rw [hx p a r ha (by omega)]
    exact h1
/-- the same over the indexes of a list -/
theorem fold_frI {α R : Type} {f : (Int × Int) × R → Int → Mm ((Int × Int) × R)} {v : α → Rat} {c : Nat} (L : List α) (h : ∀ (i : Nat) x, L[i]? = some x → Sq c (v x) ∧ ∀ p a r, Sq a p → a + c < 8999 → f (fr p, r) (i : Int) = .ok (fr (p + v x), r)) (p : Rat) (a : Nat) (r : R) (ha : Sq a p) (hl : a + (c + 1) * L.length < 8998) :
    foldM f (fr p, r) (rangeL 0 L.length) = .ok (fr (p + (L.map v).sum), r) ∧ Sq (a + (c + 1) * L.length) (p + (L.map v).sum) := by
  have k : ∀ (l pre : List α) (p : Rat) (a : Nat), L = pre ++ l → Sq a p → a + (c + 1) * l.length < 8998 → foldM f (fr p, r) (rangeL (pre.length : Int) l.length) = .ok (fr (p + (l.map v).sum), r) ∧ Sq (a + (c + 1) * l.length) (p + (l.map v).sum) := by
    intro l
    induction l with
    | nil =>
      intro pre p a _ ha _
      have e : p + ([].map v).sum = p := by
        show p + 0 = p
        grind
      rw [e]
      exact ⟨rfl, ha⟩
    | cons x l ih =>
      intro pre p a e ha hl
      have e1 : (c + 1) * (x :: l).length = (c + 1) * l.length + (c + 1) := by rw [List.length_cons, Nat.mul_succ]
      obtain ⟨sx, hx⟩ := h pre.length x (by rw [e]; simp)
      have q := ih (pre ++ [x]) (p + v x) (a + c + 1) (by rw [e]; simp) (sq_add ha sx (by omega)) (by omega)
      rw [List.length_append, List.length_singleton] at q
      have e2 : ((pre.length + 1 : Nat) : Int) = (pre.length : Int) + 1 := by omega
      rw [e2] at q
      have e3 : p + ((x :: l).map v).sum = p + v x + (l.map v).sum := by
        rw [List.map_cons, List.sum_cons]
        grind
      rw [e3, List.length_cons, rangeL_succ]
      refine ⟨?_, q.2.up (by rw [Nat.mul_succ]; omega)⟩
      unfold foldM
      rw [hx p a r ha (by omega)]
      exact q.1
  exact k L [] p a (by simp) ha hl
/-- the same with nothing that goes along -/
theorem fold_frJ {α : Type} {f : Int × Int → Int → Mm (Int × Int)} {v : α → Rat} {c : Nat} (L : List α) (h : ∀ (i : Nat) x, L[i]? = some x → Sq c (v x) ∧ ∀ p a, Sq a p → a + c < 8999 → f (fr p) (i : Int) = .ok (fr (p + v x))) (p : Rat) (a : Nat) (ha : Sq a p) (hl : a + (c + 1) * L.length < 8998) :
    foldM f (fr p) (rangeL 0 L.length) = .ok (fr (p + (L.map v).sum)) ∧ Sq (a + (c + 1) * L.length) (p + (L.map v).sum) := by
  have k : ∀ (l pre : List α) (p : Rat) (a : Nat), L = pre ++ l → Sq a p → a + (c + 1) * l.length < 8998 → foldM f (fr p) (rangeL (pre.length : Int) l.length) = .ok (fr (p + (l.map v).sum)) ∧ Sq (a + (c + 1) * l.length) (p + (l.map v).sum) := by
    intro l
    induction l with
    | nil =>
      intro pre p a _ ha _
      have e : p + ([].map v).sum = p := by
        show p + 0 = p
        grind
      rw [e]
      exact ⟨rfl, ha⟩
    | cons x l ih =>
      intro pre p a e ha hl
      have e1 : (c + 1) * (x :: l).length = (c + 1) * l.length + (c + 1) := by rw [List.length_cons, Nat.mul_succ]
      obtain ⟨sx, hx⟩ := h pre.length x (by rw [e]; simp)
      have q := ih (pre ++ [x]) (p + v x) (a + c + 1) (by rw [e]; simp) (sq_add ha sx (by omega)) (by omega)
      rw [List.length_append, List.length_singleton] at q
      have e2 : ((pre.length + 1 : Nat) : Int) = (pre.length : Int) + 1 := by omega
      rw [e2] at q
      have e3 : p + ((x :: l).map v).sum = p + v x + (l.map v).sum := by
        rw [List.map_cons, List.sum_cons]
        grind
      rw [e3, List.length_cons, rangeL_succ]
      refine ⟨?_, q.2.up (by rw [Nat.mul_succ]; omega)⟩
      unfold foldM
      rw [hx p a ha (by omega)]
      exact q.1
  exact k L [] p a (by simp) ha hl
end Wk

set_option Elab.async false
set_option linter.all false
set_option maxRecDepth 100000
set_option maxHeartbeats 4000000
namespace L
/-- thirteen weights above 0 and places from 0 to 1: a rule that is exact to the power 12 -/
def QN : List (Rat × Rat) := [(47719618433/4266648514128, 0), (412093597/10139016888, 1/30), (15096609475/365258877984, 1/15), (34472681/410288736, 2/15), (43199494175/362155842048, 7/30), (1714329755/12291447168, 11/30), (98694539947/770306304768, 1/2), (1714329755/12291447168, 19/30), (43199494175/362155842048, 23/30), (34472681/410288736, 13/15), (15096609475/365258877984, 14/15), (412093597/10139016888, 29/30), (47719618433/4266648514128, 1)]
theorem quad_0 (a d : Rat) : (QN.map fun q => d * q.1 * (a + d * q.2) ^ 0).sum * (1 : Rat) = (a + d) ^ 1 - a ^ 1 := by
  simp only [QN, List.map_cons, List.map_nil, List.sum_cons, List.sum_nil]
  grind
theorem quad_1 (a d : Rat) : (QN.map fun q => d * q.1 * (a + d * q.2) ^ 1).sum * (2 : Rat) = (a + d) ^ 2 - a ^ 2 := by
  simp only [QN, List.map_cons, List.map_nil, List.sum_cons, List.sum_nil]
  grind
theorem quad_2 (a d : Rat) : (QN.map fun q => d * q.1 * (a + d * q.2) ^ 2).sum * (3 : Rat) = (a + d) ^ 3 - a ^ 3 := by
  simp only [QN, List.map_cons, List.map_nil, List.sum_cons, List.sum_nil]
  grind
theorem quad_3 (a d : Rat) : (QN.map fun q => d * q.1 * (a + d * q.2) ^ 3).sum * (4 : Rat) = (a + d) ^ 4 - a ^ 4 := by
  simp only [QN, List.map_cons, List.map_nil, List.sum_cons, List.sum_nil]
  grind
theorem quad_4 (a d : Rat) : (QN.map fun q => d * q.1 * (a + d * q.2) ^ 4).sum * (5 : Rat) = (a + d) ^ 5 - a ^ 5 := by
  simp only [QN, List.map_cons, List.map_nil, List.sum_cons, List.sum_nil]
  grind
theorem quad_5 (a d : Rat) : (QN.map fun q => d * q.1 * (a + d * q.2) ^ 5).sum * (6 : Rat) = (a + d) ^ 6 - a ^ 6 := by
  simp only [QN, List.map_cons, List.map_nil, List.sum_cons, List.sum_nil]
  grind
theorem quad_6 (a d : Rat) : (QN.map fun q => d * q.1 * (a + d * q.2) ^ 6).sum * (7 : Rat) = (a + d) ^ 7 - a ^ 7 := by
  simp only [QN, List.map_cons, List.map_nil, List.sum_cons, List.sum_nil]
  grind
theorem quad_7 (a d : Rat) : (QN.map fun q => d * q.1 * (a + d * q.2) ^ 7).sum * (8 : Rat) = (a + d) ^ 8 - a ^ 8 := by
  simp only [QN, List.map_cons, List.map_nil, List.sum_cons, List.sum_nil]
  grind
theorem quad_8 (a d : Rat) : (QN.map fun q => d * q.1 * (a + d * q.2) ^ 8).sum * (9 : Rat) = (a + d) ^ 9 - a ^ 9 := by
  simp only [QN, List.map_cons, List.map_nil, List.sum_cons, List.sum_nil]
  grind
theorem quad_9 (a d : Rat) : (QN.map fun q => d * q.1 * (a + d * q.2) ^ 9).sum * (10 : Rat) = (a + d) ^ 10 - a ^ 10 := by
  simp only [QN, List.map_cons, List.map_nil, List.sum_cons, List.sum_nil]
  grind
theorem quad_10 (a d : Rat) : (QN.map fun q => d * q.1 * (a + d * q.2) ^ 10).sum * (11 : Rat) = (a + d) ^ 11 - a ^ 11 := by
  simp only [QN, List.map_cons, List.map_nil, List.sum_cons, List.sum_nil]
  grind
theorem quad_11 (a d : Rat) : (QN.map fun q => d * q.1 * (a + d * q.2) ^ 11).sum * (12 : Rat) = (a + d) ^ 12 - a ^ 12 := by
  simp only [QN, List.map_cons, List.map_nil, List.sum_cons, List.sum_nil]
  grind
theorem quad_12 (a d : Rat) : (QN.map fun q => d * q.1 * (a + d * q.2) ^ 12).sum * (13 : Rat) = (a + d) ^ 13 - a ^ 13 := by
  simp only [QN, List.map_cons, List.map_nil, List.sum_cons, List.sum_nil]
  grind
theorem quad (a d : Rat) : ∀ k : Nat, k ≤ 12 → (QN.map fun q => d * q.1 * (a + d * q.2) ^ k).sum * ((((k : Nat) : Int) + 1 : Int) : Rat) = (a + d) ^ (k + 1) - a ^ (k + 1)
  | 0, _ => by
    have e : ((((0 : Nat) : Int) + 1 : Int) : Rat) = (1 : Rat) := by decide
    rw [e]
    exact quad_0 a d
  | 1, _ => by
    have e : ((((1 : Nat) : Int) + 1 : Int) : Rat) = (2 : Rat) := by decide
    rw [e]
    exact quad_1 a d
  | 2, _ => by
    have e : ((((2 : Nat) : Int) + 1 : Int) : Rat) = (3 : Rat) := by decide
    rw [e]
    exact quad_2 a d
  | 3, _ => by
    have e : ((((3 : Nat) : Int) + 1 : Int) : Rat) = (4 : Rat) := by decide
    rw [e]
    exact quad_3 a d
  | 4, _ => by
    have e : ((((4 : Nat) : Int) + 1 : Int) : Rat) = (5 : Rat) := by decide
    rw [e]
    exact quad_4 a d
  | 5, _ => by
    have e : ((((5 : Nat) : Int) + 1 : Int) : Rat) = (6 : Rat) := by decide
    rw [e]
    exact quad_5 a d
  | 6, _ => by
    have e : ((((6 : Nat) : Int) + 1 : Int) : Rat) = (7 : Rat) := by decide
    rw [e]
    exact quad_6 a d
  | 7, _ => by
    have e : ((((7 : Nat) : Int) + 1 : Int) : Rat) = (8 : Rat) := by decide
    rw [e]
    exact quad_7 a d
  | 8, _ => by
    have e : ((((8 : Nat) : Int) + 1 : Int) : Rat) = (9 : Rat) := by decide
    rw [e]
    exact quad_8 a d
  | 9, _ => by
    have e : ((((9 : Nat) : Int) + 1 : Int) : Rat) = (10 : Rat) := by decide
    rw [e]
    exact quad_9 a d
  | 10, _ => by
    have e : ((((10 : Nat) : Int) + 1 : Int) : Rat) = (11 : Rat) := by decide
    rw [e]
    exact quad_10 a d
  | 11, _ => by
    have e : ((((11 : Nat) : Int) + 1 : Int) : Rat) = (12 : Rat) := by decide
    rw [e]
    exact quad_11 a d
  | 12, _ => by
    have e : ((((12 : Nat) : Int) + 1 : Int) : Rat) = (13 : Rat) := by decide
    rw [e]
    exact quad_12 a d
  | n + 13, h => absurd h (by omega)
theorem QN_pos : ∀ q ∈ QN, 0 < q.1 := by decide +kernel
theorem QN_nodup : (QN.map (·.2)).Nodup := by decide +kernel
end L

set_option Elab.async false
set_option linter.all false
set_option maxRecDepth 100000
set_option maxHeartbeats 4000000
namespace L
open PySem L2 Evl Wk StX
def top (i : Nat) : Stmt := PySem.Challenge.pw_fewreadings_k01_weightings_validated.main.body.getD i (.Pass ⟨0, 0, 0, 0⟩)
/-! ### whole_within -/
abbrev s_whole_within : Stmt := top 12
theorem sc_whole_within : FnScope ["number", "low", "high"] ["number", "low", "high"] (defScope s_whole_within) := ⟨rfl, rfl, rfl, by decide +kernel, rfl, by decide +kernel, by decide +kernel⟩
def whole_within (number : Int) (low : Int) (high : Int) : Mm Bool := Mm.ok (true && ((!false) && ((decide (low ≤ number)) && (decide (number ≤ high)))))
def sp_whole_within (K : PySem.W.Frag) : Sp := fun vs H Q E => ∃ (F : Hp) (number : Int) (low : Int) (high : Int), vs = [(V.int number), (V.int low), (V.int high)] ∧ Ex F H ∧ Post (whole_within number low high) (fun r => Ret [] F H (fun F' _ v => v = V.bl r) Q) (fun _ => False)
theorem ok_whole_within {P : Program} {w : World} {K : PySem.W.Frag} {mg : Str → Option Value} {base : Heap} {C f : Addr} {fd : FuncData} (B : Bi mg) (FF : FunD K "whole_within" "whole_within" (defArgs s_whole_within) (defBody s_whole_within) (defScope s_whole_within) [] [] f fd) : FnOk P w K mg base CX0 1 f fd ["number", "low", "high"] (sp_whole_within K) := by
  refine FF.ok sc_whole_within (fun vs H Q E h => ?_) (fun cdv A outer s H vs Q E hr h => ?_)
  · obtain ⟨F, number, low, high, rfl, _⟩ := h; rfl
  · obtain ⟨F, number, low, high, rfl, e, k⟩ := h
    unfold whole_within at k
    have g_ := Gm.refl (M := []) e
    refine ⟨_, PSs.nox (pss_one (ps_ret (pe_and (pe_callB call_isiI (by rfl) B.isinstance (by decide +kernel) (pa_cons (pv 0) (pa_cons (pe_bltn (v := .ty "int") (u := .type "int") (by rfl) B.int (by decide +kernel) rfl) pa_nil))) (pe_and (pe_not (pe_callB call_isiI (by rfl) B.isinstance (by decide +kernel) (pa_cons (pv 0) (pa_cons (pe_bltn (v := .ty "bool") (u := .type "bool") (by rfl) B.bool (by decide +kernel) rfl) pa_nil)))) (pe_one (pe_chain op_le op_le (pv 1) (pv 0) (pv 2))))))), ?_⟩
    refine ⟨_, rfl, _, _, true, rfl, .inl ⟨rfl, rfl⟩, _, rfl, ?_⟩
    refine andV_j (b := ((!false) && ((decide (low ≤ number)) && (decide (number ≤ high))))) (fun _ Q' q => ?_) ?_
    · refine ⟨_, rfl, _, _, false, rfl, .inr ⟨rfl, rfl⟩, _, rfl, _, rfl, ?_⟩
      refine andV_j (b := ((decide (low ≤ number)) && (decide (number ≤ high)))) (fun _ Q' q => ?_) ?_
      · refine ⟨_, rfl, _, rfl, _, _, rfl, rfl, _, rfl, ?_⟩
        refine chain_j (b := (decide (number ≤ high))) (fun _ Q' q => ?_) ?_
        · refine ⟨_, rfl, _, _, rfl, rfl, ?_⟩
          exact q
        exact q
      exact q
    exact k.h _ _ _ g_ rfl
/-! ### Weighting.__eq__ -/
abbrev s_Weighting___eq__ : Stmt := inClass (top 18) 3
theorem sc_Weighting___eq__ : FnScope ["self", "other"] ["self", "other"] (defScope s_Weighting___eq__) := ⟨rfl, rfl, rfl, by decide +kernel, rfl, by decide +kernel, by decide +kernel⟩
def Weighting___eq__ (self : Wt) (other : Wt) : Mm Bool := Mm.ok (true && ((decide (self.1 = other.1)) && (decide (self.2 = other.2))))
def sp_Weighting___eq__ (K : PySem.W.Frag) (C : Addr) : Sp := fun vs H Q E => ∃ (F : Hp) (v_self : V) (self : Wt) (v_other : V) (other : Wt), vs = [v_self, v_other] ∧ Ex F H ∧ IsW K C F v_self self ∧ IsW K C F v_other other ∧ Post (Weighting___eq__ self other) (fun r => Ret [] F H (fun F' _ v => v = V.bl r) Q) (fun _ => False)
theorem ok_Weighting___eq__ {P : Program} {w : World} {K : PySem.W.Frag} {mg : Str → Option Value} {base : Heap} {C f : Addr} {fd : FuncData} (B : Bi mg) (FF : FunD K "__eq__" "Weighting.__eq__" (defArgs s_Weighting___eq__) (defBody s_Weighting___eq__) (defScope s_Weighting___eq__) [] [] f fd) (IC_W : C8.InsC K C) (c_W : mg "Weighting" = some (.ref C)) (cl_W : Cls K C) (na_masses : NoAttr K C "_masses") (na_stretches : NoAttr K C "_stretches") : FnOk P w K mg base CX0 1 f fd ["self", "other"] (sp_Weighting___eq__ K C) := by
  refine FF.ok sc_Weighting___eq__ (fun vs H Q E h => ?_) (fun cdv A outer s H vs Q E hr h => ?_)
  · obtain ⟨F, v_self, self, v_other, other, rfl, _⟩ := h; rfl
  · obtain ⟨F, v_self, self, v_other, other, rfl, e, r_self, r_other, k⟩ := h
    unfold Weighting___eq__ at k
    have g_ := Gm.refl (M := []) e
    refine ⟨_, PSs.nox (pss_one (ps_ret (pe_and (pe_callB (C8.call_isC IC_W) (by rfl) B.isinstance (by decide +kernel) (pa_cons (pv 1) (pa_cons (pe_gref c_W) pa_nil))) (pe_and (pe_cmpR (r := rEqM K (eV (e2 PyData.int PyData.int))) (op_eqM (sh_eV (sh_e2 sh_int sh_int)) (units_of hr)) (pe_fld (pv 0) rfl) (pe_fld (pv 1) rfl) (nomark _)) (pe_one (pe_cmpR (r := rEqM K (eV (e3 PyData.int PyData.int PyData.int))) (op_eqM (sh_eV (sh_e3 sh_int sh_int sh_int)) (units_of hr)) (pe_fld (pv 0) rfl) (pe_fld (pv 1) rfl) (nomark _))))))), ?_⟩
    refine ⟨_, rfl, ?_⟩
    obtain ⟨a1, dx2, m3, t4, rfl, h5, r6, r7⟩ := r_other.ex
    refine ⟨_, _, _, rfl, e _ _ h5, _, rfl, ?_⟩
    refine andV_j (b := ((decide (self.1 = other.1)) && (decide (self.2 = other.2)))) (fun _ Q' q => ?_) ?_
    · refine ⟨_, rfl, ?_⟩
      obtain ⟨a8, dx9, m10, t11, rfl, h12, r13, r14⟩ := r_self.ex
      refine ⟨_, _, _, _, _, rfl, e _ _ h12, cl_W, na_masses, wf_m _ _, ?_⟩
      obtain ⟨p15, xs16, rfl, s17, a18⟩ := dp_tup r13
      refine ⟨_, rfl, ?_⟩
      refine ⟨_, _, _, _, _, rfl, e _ _ h5, cl_W, na_masses, wf_m _ _, ?_⟩
      obtain ⟨p19, xs20, rfl, s21, a22⟩ := dp_tup r6
      refine ⟨self.1, other.1, r13.dp e, r6.dp e, ?_⟩
      refine ⟨_, rfl, ?_⟩
      refine andV_j (b := (decide (self.2 = other.2))) (fun _ Q' q => ?_) ?_
      · refine ⟨_, rfl, ?_⟩
        refine ⟨_, _, _, _, _, rfl, e _ _ h12, cl_W, na_stretches, wf_s _ _, ?_⟩
        obtain ⟨p23, xs24, rfl, s25, a26⟩ := dp_tup r14
        refine ⟨_, rfl, ?_⟩
        refine ⟨_, _, _, _, _, rfl, e _ _ h5, cl_W, na_stretches, wf_s _ _, ?_⟩
        obtain ⟨p27, xs28, rfl, s29, a30⟩ := dp_tup r7
        refine ⟨self.2, other.2, r14.dp e, r7.dp e, ?_⟩
        exact q
      exact q
    exact k.h _ _ _ g_ rfl
/-! ### is_place -/
abbrev s_is_place : Stmt := top 19
theorem sc_is_place : FnScope ["number"] ["number"] (defScope s_is_place) := ⟨rfl, rfl, rfl, by decide +kernel, rfl, by decide +kernel, by decide +kernel⟩
def is_place (number : Int) : Mm Bool := (whole_within (number) ((-(20 : Int))) ((20 : Int))).bd fun b1 => Mm.ok b1
def sp_is_place (K : PySem.W.Frag) : Sp := fun vs H Q E => ∃ (F : Hp) (number : Int), vs = [(V.int number)] ∧ Ex F H ∧ Post (is_place number) (fun r => Ret [] F H (fun F' _ v => v = V.bl r) Q) (fun _ => False)
theorem ok_is_place {P : Program} {w : World} {K : PySem.W.Frag} {mg : Str → Option Value} {base : Heap} {C f : Addr} {fd : FuncData} (B : Bi mg) (FF : FunD K "is_place" "is_place" (defArgs s_is_place) (defBody s_is_place) (defScope s_is_place) [] [] f fd) (G_whole_within : Kn P w K mg base "whole_within" 1 ["number", "low", "high"] (sp_whole_within K)) (c_FARTHEST : ∃ t, mg "FARTHEST" = some (.int 20 t)) : FnOk P w K mg base CX0 2 f fd ["number"] (sp_is_place K) := by
  refine FF.ok sc_is_place (fun vs H Q E h => ?_) (fun cdv A outer s H vs Q E hr h => ?_)
  · obtain ⟨F, number, rfl, _⟩ := h; rfl
  · obtain ⟨F, number, rfl, e, k⟩ := h
    unfold is_place at k
    have g_ := Gm.refl (M := []) e
    refine ⟨_, PSs.nox (pss_one (ps_ret (pe_kn G_whole_within (hr.mono (by decide)) (pa_cons (pv 0) (pa_cons (pe_un un_neg (pe_gint c_FARTHEST)) (pa_cons (pe_gint c_FARTHEST) (pa_nil))))))), ?_⟩
    refine ⟨_, rfl, _, rfl, ?_⟩
    refine ⟨F, number, (-(20 : Int)), (20 : Int), rfl, e, (post_bd k).mono (fun b1 k v6 F2 H3 g4 r5 => ?_) (fun _ z => z)⟩
    have eF2 := g4.s
    have gF2 := g_.trans (g4.weak (by simp))
    subst r5
    exact k.h _ _ _ gF2 rfl
/-! ### is_mass -/
abbrev s_is_mass : Stmt := top 20
theorem sc_is_mass : FnScope ["number"] ["number"] (defScope s_is_mass) := ⟨rfl, rfl, rfl, by decide +kernel, rfl, by decide +kernel, by decide +kernel⟩
def is_mass (number : Int) : Mm Bool := (whole_within (number) ((1 : Int)) ((20 : Int))).bd fun b1 => Mm.ok b1
def sp_is_mass (K : PySem.W.Frag) : Sp := fun vs H Q E => ∃ (F : Hp) (number : Int), vs = [(V.int number)] ∧ Ex F H ∧ Post (is_mass number) (fun r => Ret [] F H (fun F' _ v => v = V.bl r) Q) (fun _ => False)
theorem ok_is_mass {P : Program} {w : World} {K : PySem.W.Frag} {mg : Str → Option Value} {base : Heap} {C f : Addr} {fd : FuncData} (B : Bi mg) (FF : FunD K "is_mass" "is_mass" (defArgs s_is_mass) (defBody s_is_mass) (defScope s_is_mass) [] [] f fd) (G_whole_within : Kn P w K mg base "whole_within" 1 ["number", "low", "high"] (sp_whole_within K)) (c_HEAVIEST : ∃ t, mg "HEAVIEST" = some (.int 20 t)) : FnOk P w K mg base CX0 2 f fd ["number"] (sp_is_mass K) := by
  refine FF.ok sc_is_mass (fun vs H Q E h => ?_) (fun cdv A outer s H vs Q E hr h => ?_)
  · obtain ⟨F, number, rfl, _⟩ := h; rfl
  · obtain ⟨F, number, rfl, e, k⟩ := h
    unfold is_mass at k
    have g_ := Gm.refl (M := []) e
    refine ⟨_, PSs.nox (pss_one (ps_ret (pe_kn G_whole_within (hr.mono (by decide)) (pa_cons (pv 0) (pa_cons (pe_int) (pa_cons (pe_gint c_HEAVIEST) (pa_nil))))))), ?_⟩
    refine ⟨_, rfl, ?_⟩
    refine ⟨F, number, (1 : Int), (20 : Int), rfl, e, (post_bd k).mono (fun b1 k v6 F2 H3 g4 r5 => ?_) (fun _ z => z)⟩
    have eF2 := g4.s
    have gF2 := g_.trans (g4.weak (by simp))
    subst r5
    exact k.h _ _ _ gF2 rfl
/-! ### check_masses -/
abbrev s_check_masses : Stmt := top 21
theorem sc_check_masses : FnScope ["masses", "ahead", "index", "place", "mass"] ["masses"] (defScope s_check_masses) := ⟨rfl, rfl, rfl, by decide +kernel, rfl, by decide +kernel, by decide +kernel⟩
def check_masses_xm (masses : (List (Int × Int))) : Mm Unit := (foldM (fun (b5 : Int) (x6 : (Int × (Int × Int))) => (cond (decide (x6.1 = (6 : Int))) (Mm.ok true) ((noEx (is_place (x6.2.1))).bd fun b42 => (cond (!b42) (Mm.ok true) ((noEx (is_mass (x6.2.2))).bd fun b53 => Mm.ok ((!b53) || (decide (x6.2.1 ≤ b5))))).bd fun b49 => Mm.ok b49)).bd fun b38 => cond b38 ((guardM ((0 : Int).natAbs < 18446744073709551616)).bd fun _ => (guardM (x6.1.natAbs < 18446744073709551616)).bd fun _ => Mm.ex ⟨0, [(0 : Int), x6.1]⟩) (Mm.ok x6.2.1)) ((-(20 : Int)) - (1 : Int)) (enumL masses)).bd fun b22 => Mm.ok ()
def check_masses (masses : (List (Int × Int))) : Mm Unit := (foldM (fun (b5 : Int) (x6 : (Int × (Int × Int))) => (cond (decide (x6.1 = (6 : Int))) (Mm.ok true) ((is_place (x6.2.1)).bd fun b42 => (cond (!b42) (Mm.ok true) ((is_mass (x6.2.2)).bd fun b53 => Mm.ok ((!b53) || (decide (x6.2.1 ≤ b5))))).bd fun b49 => Mm.ok b49)).bd fun b38 => cond b38 (Mm.bad) (Mm.ok x6.2.1)) ((-(20 : Int)) - (1 : Int)) (enumL masses)).bd fun b22 => Mm.ok ()
theorem le_check_masses (masses : (List (Int × Int))) : Le (check_masses masses) (check_masses_xm masses) := by
  unfold check_masses check_masses_xm
  repeat (first | exact Le.bad _ | with_reducible exact Le.refl _ | with_reducible exact Le.noE _ | (with_reducible apply Le.noEx) | with_reducible apply Le.bd | with_reducible apply Le.cond | with_reducible apply Le.foldM | with_reducible apply Le.mapMm | with_reducible apply Le.filMm | with_reducible apply Le.foldL | with_reducible apply Le.el | intro _)
def sp_check_masses (K : PySem.W.Frag) : Sp := fun vs H Q E => ∃ (F : Hp) (v_masses : V) (masses : (List (Int × Int))), vs = [v_masses] ∧ Ex F H ∧ Dq K F v_masses ((eV (e2 PyData.int PyData.int)) masses) ∧ Post (check_masses_xm masses) (fun r => Ret [] F H (fun F' _ v => v = V.non) Q) (fun e_ => RetX [] K F H e_ E)
theorem ok_check_masses {P : Program} {w : World} {K : PySem.W.Frag} {mg : Str → Option Value} {base : Heap} {C f : Addr} {fd : FuncData} (B : Bi mg) (FF : FunD K "check_masses" "check_masses" (defArgs s_check_masses) (defBody s_check_masses) (defScope s_check_masses) [] [] f fd) (G_is_place : Kn P w K mg base "is_place" 2 ["number"] (sp_is_place K)) (G_is_mass : Kn P w K mg base "is_mass" 2 ["number"] (sp_is_mass K)) (c_FARTHEST : ∃ t, mg "FARTHEST" = some (.int 20 t)) (c_MOST_MASSES : ∃ t, mg "MOST_MASSES" = some (.int 6 t)) (GX_InvalidWeighting : KnX P w K mg base "InvalidWeighting" 1 ["self", "part", "index"] (spI2 (He.ga K "InvalidWeighting") "part" "index")) : FnOk P w K mg base (L2.CX P w) 3 f fd ["masses"] (sp_check_masses K) := by
  refine FF.ok sc_check_masses (fun vs H Q E h => ?_) (fun cdv A outer s H vs Q E hr h => ?_)
  · obtain ⟨F, v_masses, masses, rfl, _⟩ := h; rfl
  · obtain ⟨F, v_masses, masses, rfl, e, r_masses, k⟩ := h
    unfold check_masses_xm at k
    have g_ := Gm.refl (M := []) e
    refine ⟨_, (pss_cons (ps_set (i := 1) sc_check_masses.nd rfl (Or.inl rfl) (pe_op op_sub (pe_un un_neg (pe_gint c_FARTHEST)) (pe_int))) (pss_one (ps_for (passes_of rfl) rfl (pi_enumT rfl B.enumerate (pa_cons (pv 0) pa_nil)) (pg_tup (by rfl) (pgs_cons (pg_name (i := 2) sc_check_masses.nd rfl (Or.inl rfl)) (pgs_cons (pg_tup (by rfl) (pgs_cons (pg_name (i := 3) sc_check_masses.nd rfl (Or.inl rfl)) (pgs_cons (pg_name (i := 4) sc_check_masses.nd rfl (Or.inl rfl)) (pgs_nil)))) (pgs_nil)))) (pss_cons (ps_if (PW.pt (pw_or (pt_cmpR op_eq (pv 2) (pe_gint c_MOST_MASSES) (nomark _)) (pw_or (pt_not (pt_val (pe_kn G_is_place (hr.mono (by decide)) (pa_cons (pv 3) (pa_nil))))) (pw_or (pt_not (pt_val (pe_kn G_is_mass (hr.mono (by decide)) (pa_cons (pv 4) (pa_nil))))) (pw_or1 (pt_cmpR op_le (pv 3) (pv 1) (nomark _))))))) (pss_one (ps_raiseX GX_InvalidWeighting (hr.mono (by decide)) (takes_of rfl rfl rfl rfl) (pa_cons (pe_int) (pa_cons (pv 2) (pa_nil))))) pss_nil) (pss_one (ps_set (i := 1) sc_check_masses.nd rfl (Or.inl rfl) (pv 3))))))), ?_⟩
    refine ⟨_, rfl, _, _, rfl, rfl, ?_⟩
    refine ⟨_, rfl, ?_⟩
    obtain ⟨p1, xs2, rfl, s3, a4⟩ := dp_tup r_masses
    refine ⟨_, _, rfl, (ex_t e s3), ?_⟩
    refine for_m (M := []) (F := F) (wlk_enumT e s3 a4) (fun b5 F' H' σ' => ∃ (u2 : Option V) (u3 : Option V) (u4 : Option V), σ' = [some (V.ref p1), some (V.int b5), u2, u3, u4]) k e ⟨_, _, _, rfl⟩ (fun b5 x6 v14 σ16 F7 H8 F9 H10 g11 i15 g12 r13 nx kfb5 => ?_) (fun b22 σ21 F17 H18 g19 i20 k => ?_)
    · replace r_masses := r_masses.up g11.f
      replace s3 := ex_t g11.f s3
      replace a4 := a4.up g11.f
      obtain ⟨u23, u24, u25, rfl⟩ := i15
      replace r_masses := r_masses.up g12.f
      replace s3 := ex_t g12.f s3
      replace a4 := a4.up g12.f
      have eF9 := g12.s
      have gF9 := g11.trans (g12.weak (by simp))
      obtain ⟨p26, x27, x28, rfl, s29, d30, d31⟩ := dp_tup2 r13
      obtain rfl := dp_int d30
      refine ⟨_, _, rfl, ex_t eF9 s29, rfl, _, _, rfl, _, _, rfl, ?_⟩
      obtain ⟨p32, x33, x34, rfl, s35, d36, d37⟩ := dp_tup2 d31
      obtain rfl := dp_int d36
      obtain rfl := dp_int d37
      refine ⟨_, _, rfl, ex_t eF9 s35, rfl, _, _, rfl, _, _, rfl, rfl, rfl, ?_⟩
      refine ⟨_, rfl, rfl, ?_⟩
      rw [decV_int]
      refine ⟨_, rfl, ?_⟩
      refine or_jM (M := []) eF9 kfb5 (fun _ Q' kfb5tb38 => ?_) (fun b38 F39 H40 g41 kfb5 => ?_)
      · have gF9_ := Gm.refl (M := []) eF9
        refine ⟨_, rfl, ?_⟩
        refine ⟨F9, x6.2.1, rfl, eF9, (post_noE kfb5tb38).mono (fun b42 kfb5tb38 v47 F43 H44 g45 r46 => ?_) (fun _ z => z)⟩
        have eF43 := g45.s
        have gF43 := gF9_.trans (g45.weak (by simp))
        replace r_masses := r_masses.up g45.f
        replace s3 := ex_t g45.f s3
        replace a4 := a4.up g45.f
        replace r13 := r13.up g45.f
        replace s29 := ex_t g45.f s29
        replace d31 := d31.up g45.f
        replace s35 := ex_t g45.f s35
        subst r46
        refine ⟨_, rfl, ?_⟩
        refine or_jM (M := []) eF43 kfb5tb38 (fun _ Q' kfb5tb38tb49 => ?_) (fun b49 F50 H51 g52 kfb5tb38 => ?_)
        · have gF43_ := Gm.refl (M := []) eF43
          refine ⟨_, rfl, ?_⟩
          refine ⟨F43, x6.2.2, rfl, eF43, (post_noE kfb5tb38tb49).mono (fun b53 kfb5tb38tb49 v58 F54 H55 g56 r57 => ?_) (fun _ z => z)⟩
          have eF54 := g56.s
          have gF54 := gF43_.trans (g56.weak (by simp))
          replace r_masses := r_masses.up g56.f
          replace s3 := ex_t g56.f s3
          replace a4 := a4.up g56.f
          replace r13 := r13.up g56.f
          replace s29 := ex_t g56.f s29
          replace d31 := d31.up g56.f
          replace s35 := ex_t g56.f s35
          subst r57
          refine ⟨_, rfl, ?_⟩
          refine or_j (b := (decide (x6.2.1 ≤ b5))) (fun _ Q' q => ?_) ?_
          · refine ⟨_, rfl, _, rfl, _, _, rfl, rfl, _, rfl, ?_⟩
            exact q
          exact kfb5tb38tb49.h _ _ gF54
        have eF50 := g52.s
        have gF50 := gF43.trans (g52.weak (by simp))
        replace r_masses := r_masses.up g52.f
        replace s3 := ex_t g52.f s3
        replace a4 := a4.up g52.f
        replace r13 := r13.up g52.f
        replace s29 := ex_t g52.f s29
        replace d31 := d31.up g52.f
        replace s35 := ex_t g52.f s35
        exact kfb5tb38.h _ _ gF50
      have eF39 := g41.s
      have gF39 := gF9.trans (g41.weak (by simp))
      replace r_masses := r_masses.up g41.f
      replace s3 := ex_t g41.f s3
      replace a4 := a4.up g41.f
      replace r13 := r13.up g41.f
      replace s29 := ex_t g41.f s29
      replace d31 := d31.up g41.f
      replace s35 := ex_t g41.f s35
      refine cs kfb5 (fun _ kfb5 => ?_) (fun _ kfb5 => ?_)
      · refine ⟨_, rfl, ?_⟩
        obtain ⟨h60, kfb5⟩ := post_guard kfb5
        obtain ⟨h61, kfb5⟩ := post_guard kfb5
        refine mk2 h60 h61 (fun d62 y63 => ?_)
        have g64 := (g_.trans (gF39.weak (by simp))).trans (Gm.new (o := .xd [("index", (V.int x6.1)), ("part", (V.int 0))]) eF39 y63)
        exact kfb5.h _ _ _ _ g64 ⟨rfl, .inr ⟨_, rfl, upd_same⟩⟩
      · refine ⟨_, rfl, ?_⟩
        exact kfb5.h _ _ _ gF39 ⟨_, _, _, rfl⟩
    have g65 := g_.trans (g19.weak (by simp))
    replace r_masses := r_masses.up g19.f
    replace s3 := ex_t g19.f s3
    replace a4 := a4.up g19.f
    have eF17 := g19.s
    obtain ⟨u66, u67, u68, rfl⟩ := i20
    exact k.h _ _ _ g65 rfl
/-! ### check_stretches -/
abbrev s_check_stretches : Stmt := top 22
theorem sc_check_stretches : FnScope ["stretches", "ahead", "index", "low", "high", "height"] ["stretches"] (defScope s_check_stretches) := ⟨rfl, rfl, rfl, by decide +kernel, rfl, by decide +kernel, by decide +kernel⟩
def check_stretches_xm (stretches : (List (Int × Int × Int))) : Mm Unit := (foldM (fun (b5 : Int) (x6 : (Int × (Int × Int × Int))) => (cond (decide (x6.1 = (4 : Int))) (Mm.ok true) ((noEx (is_place (x6.2.1))).bd fun b45 => (cond (!b45) (Mm.ok true) ((noEx (is_place (x6.2.2.1))).bd fun b56 => (cond (!b56) (Mm.ok true) ((noEx (is_mass (x6.2.2.2))).bd fun b67 => Mm.ok (!b67))).bd fun b63 => Mm.ok b63)).bd fun b52 => Mm.ok b52)).bd fun b41 => cond b41 ((guardM ((1 : Int).natAbs < 18446744073709551616)).bd fun _ => (guardM (x6.1.natAbs < 18446744073709551616)).bd fun _ => Mm.ex ⟨0, [(1 : Int), x6.1]⟩) (cond ((decide (x6.2.1 < b5)) || (decide (x6.2.2.1 ≤ x6.2.1))) ((guardM ((1 : Int).natAbs < 18446744073709551616)).bd fun _ => (guardM (x6.1.natAbs < 18446744073709551616)).bd fun _ => Mm.ex ⟨0, [(1 : Int), x6.1]⟩) (Mm.ok x6.2.2.1))) (-(20 : Int)) (enumL stretches)).bd fun b22 => Mm.ok ()
def check_stretches (stretches : (List (Int × Int × Int))) : Mm Unit := (foldM (fun (b5 : Int) (x6 : (Int × (Int × Int × Int))) => (cond (decide (x6.1 = (4 : Int))) (Mm.ok true) ((is_place (x6.2.1)).bd fun b45 => (cond (!b45) (Mm.ok true) ((is_place (x6.2.2.1)).bd fun b56 => (cond (!b56) (Mm.ok true) ((is_mass (x6.2.2.2)).bd fun b67 => Mm.ok (!b67))).bd fun b63 => Mm.ok b63)).bd fun b52 => Mm.ok b52)).bd fun b41 => cond b41 (Mm.bad) (cond ((decide (x6.2.1 < b5)) || (decide (x6.2.2.1 ≤ x6.2.1))) (Mm.bad) (Mm.ok x6.2.2.1))) (-(20 : Int)) (enumL stretches)).bd fun b22 => Mm.ok ()
theorem le_check_stretches (stretches : (List (Int × Int × Int))) : Le (check_stretches stretches) (check_stretches_xm stretches) := by
  unfold check_stretches check_stretches_xm
  repeat (first | exact Le.bad _ | with_reducible exact Le.refl _ | with_reducible exact Le.noE _ | (with_reducible apply Le.noEx) | with_reducible apply Le.bd | with_reducible apply Le.cond | with_reducible apply Le.foldM | with_reducible apply Le.mapMm | with_reducible apply Le.filMm | with_reducible apply Le.foldL | with_reducible apply Le.el | intro _)
def sp_check_stretches (K : PySem.W.Frag) : Sp := fun vs H Q E => ∃ (F : Hp) (v_stretches : V) (stretches : (List (Int × Int × Int))), vs = [v_stretches] ∧ Ex F H ∧ Dq K F v_stretches ((eV (e3 PyData.int PyData.int PyData.int)) stretches) ∧ Post (check_stretches_xm stretches) (fun r => Ret [] F H (fun F' _ v => v = V.non) Q) (fun e_ => RetX [] K F H e_ E)
theorem ok_check_stretches {P : Program} {w : World} {K : PySem.W.Frag} {mg : Str → Option Value} {base : Heap} {C f : Addr} {fd : FuncData} (B : Bi mg) (FF : FunD K "check_stretches" "check_stretches" (defArgs s_check_stretches) (defBody s_check_stretches) (defScope s_check_stretches) [] [] f fd) (G_is_place : Kn P w K mg base "is_place" 2 ["number"] (sp_is_place K)) (G_is_mass : Kn P w K mg base "is_mass" 2 ["number"] (sp_is_mass K)) (c_FARTHEST : ∃ t, mg "FARTHEST" = some (.int 20 t)) (c_MOST_STRETCHES : ∃ t, mg "MOST_STRETCHES" = some (.int 4 t)) (GX_InvalidWeighting : KnX P w K mg base "InvalidWeighting" 1 ["self", "part", "index"] (spI2 (He.ga K "InvalidWeighting") "part" "index")) : FnOk P w K mg base (L2.CX P w) 3 f fd ["stretches"] (sp_check_stretches K) := by
  refine FF.ok sc_check_stretches (fun vs H Q E h => ?_) (fun cdv A outer s H vs Q E hr h => ?_)
  · obtain ⟨F, v_stretches, stretches, rfl, _⟩ := h; rfl
  · obtain ⟨F, v_stretches, stretches, rfl, e, r_stretches, k⟩ := h
    unfold check_stretches_xm at k
    have g_ := Gm.refl (M := []) e
    refine ⟨_, (pss_cons (ps_set (i := 1) sc_check_stretches.nd rfl (Or.inl rfl) (pe_un un_neg (pe_gint c_FARTHEST))) (pss_one (ps_for (passes_of rfl) rfl (pi_enumT rfl B.enumerate (pa_cons (pv 0) pa_nil)) (pg_tup (by rfl) (pgs_cons (pg_name (i := 2) sc_check_stretches.nd rfl (Or.inl rfl)) (pgs_cons (pg_tup (by rfl) (pgs_cons (pg_name (i := 3) sc_check_stretches.nd rfl (Or.inl rfl)) (pgs_cons (pg_name (i := 4) sc_check_stretches.nd rfl (Or.inl rfl)) (pgs_cons (pg_name (i := 5) sc_check_stretches.nd rfl (Or.inl rfl)) (pgs_nil))))) (pgs_nil)))) (pss_cons (ps_if (PW.pt (pw_or (pt_cmpR op_eq (pv 2) (pe_gint c_MOST_STRETCHES) (nomark _)) (pw_or (pt_not (pt_val (pe_kn G_is_place (hr.mono (by decide)) (pa_cons (pv 3) (pa_nil))))) (pw_or (pt_not (pt_val (pe_kn G_is_place (hr.mono (by decide)) (pa_cons (pv 4) (pa_nil))))) (pw_or1 (pt_not (pt_val (pe_kn G_is_mass (hr.mono (by decide)) (pa_cons (pv 5) (pa_nil)))))))))) (pss_one (ps_raiseX GX_InvalidWeighting (hr.mono (by decide)) (takes_of rfl rfl rfl rfl) (pa_cons (pe_int) (pa_cons (pv 2) (pa_nil))))) pss_nil) (pss_cons (ps_if (PW.pt (pw_or (pt_cmpR op_lt (pv 3) (pv 1) (nomark _)) (pw_or1 (pt_cmpR op_le (pv 4) (pv 3) (nomark _))))) (pss_one (ps_raiseX GX_InvalidWeighting (hr.mono (by decide)) (takes_of rfl rfl rfl rfl) (pa_cons (pe_int) (pa_cons (pv 2) (pa_nil))))) pss_nil) (pss_one (ps_set (i := 1) sc_check_stretches.nd rfl (Or.inl rfl) (pv 4)))))))), ?_⟩
    refine ⟨_, rfl, ?_⟩
    refine ⟨_, rfl, ?_⟩
    obtain ⟨p1, xs2, rfl, s3, a4⟩ := dp_tup r_stretches
    refine ⟨_, _, rfl, (ex_t e s3), ?_⟩
    refine for_m (M := []) (F := F) (wlk_enumT e s3 a4) (fun b5 F' H' σ' => ∃ (u2 : Option V) (u3 : Option V) (u4 : Option V) (u5 : Option V), σ' = [some (V.ref p1), some (V.int b5), u2, u3, u4, u5]) k e ⟨_, _, _, _, rfl⟩ (fun b5 x6 v14 σ16 F7 H8 F9 H10 g11 i15 g12 r13 nx kfb5 => ?_) (fun b22 σ21 F17 H18 g19 i20 k => ?_)
    · replace r_stretches := r_stretches.up g11.f
      replace s3 := ex_t g11.f s3
      replace a4 := a4.up g11.f
      obtain ⟨u23, u24, u25, u26, rfl⟩ := i15
      replace r_stretches := r_stretches.up g12.f
      replace s3 := ex_t g12.f s3
      replace a4 := a4.up g12.f
      have eF9 := g12.s
      have gF9 := g11.trans (g12.weak (by simp))
      obtain ⟨p27, x28, x29, rfl, s30, d31, d32⟩ := dp_tup2 r13
      obtain rfl := dp_int d31
      refine ⟨_, _, rfl, ex_t eF9 s30, rfl, _, _, rfl, _, _, rfl, ?_⟩
      obtain ⟨p33, x34, x35, x36, rfl, s37, d38, d39, d40⟩ := dp_tup3 d32
      obtain rfl := dp_int d38
      obtain rfl := dp_int d39
      obtain rfl := dp_int d40
      refine ⟨_, _, rfl, ex_t eF9 s37, rfl, _, _, rfl, _, _, rfl, _, _, rfl, rfl, rfl, ?_⟩
      refine ⟨_, rfl, rfl, ?_⟩
      rw [decV_int]
      refine ⟨_, rfl, ?_⟩
      refine or_jM (M := []) eF9 kfb5 (fun _ Q' kfb5tb41 => ?_) (fun b41 F42 H43 g44 kfb5 => ?_)
      · have gF9_ := Gm.refl (M := []) eF9
        refine ⟨_, rfl, ?_⟩
        refine ⟨F9, x6.2.1, rfl, eF9, (post_noE kfb5tb41).mono (fun b45 kfb5tb41 v50 F46 H47 g48 r49 => ?_) (fun _ z => z)⟩
        have eF46 := g48.s
        have gF46 := gF9_.trans (g48.weak (by simp))
        replace r_stretches := r_stretches.up g48.f
        replace s3 := ex_t g48.f s3
        replace a4 := a4.up g48.f
        replace r13 := r13.up g48.f
        replace s30 := ex_t g48.f s30
        replace d32 := d32.up g48.f
        replace s37 := ex_t g48.f s37
        subst r49
        refine ⟨_, rfl, ?_⟩
        refine or_jM (M := []) eF46 kfb5tb41 (fun _ Q' kfb5tb41tb52 => ?_) (fun b52 F53 H54 g55 kfb5tb41 => ?_)
        · have gF46_ := Gm.refl (M := []) eF46
          refine ⟨_, rfl, ?_⟩
          refine ⟨F46, x6.2.2.1, rfl, eF46, (post_noE kfb5tb41tb52).mono (fun b56 kfb5tb41tb52 v61 F57 H58 g59 r60 => ?_) (fun _ z => z)⟩
          have eF57 := g59.s
          have gF57 := gF46_.trans (g59.weak (by simp))
          replace r_stretches := r_stretches.up g59.f
          replace s3 := ex_t g59.f s3
          replace a4 := a4.up g59.f
          replace r13 := r13.up g59.f
          replace s30 := ex_t g59.f s30
          replace d32 := d32.up g59.f
          replace s37 := ex_t g59.f s37
          subst r60
          refine ⟨_, rfl, ?_⟩
          refine or_jM (M := []) eF57 kfb5tb41tb52 (fun _ Q' kfb5tb41tb52tb63 => ?_) (fun b63 F64 H65 g66 kfb5tb41tb52 => ?_)
          · have gF57_ := Gm.refl (M := []) eF57
            refine ⟨_, rfl, ?_⟩
            refine ⟨F57, x6.2.2.2, rfl, eF57, (post_noE kfb5tb41tb52tb63).mono (fun b67 kfb5tb41tb52tb63 v72 F68 H69 g70 r71 => ?_) (fun _ z => z)⟩
            have eF68 := g70.s
            have gF68 := gF57_.trans (g70.weak (by simp))
            replace r_stretches := r_stretches.up g70.f
            replace s3 := ex_t g70.f s3
            replace a4 := a4.up g70.f
            replace r13 := r13.up g70.f
            replace s30 := ex_t g70.f s30
            replace d32 := d32.up g70.f
            replace s37 := ex_t g70.f s37
            subst r71
            refine ⟨_, rfl, ?_⟩
            exact kfb5tb41tb52tb63.h _ _ gF68
          have eF64 := g66.s
          have gF64 := gF57.trans (g66.weak (by simp))
          replace r_stretches := r_stretches.up g66.f
          replace s3 := ex_t g66.f s3
          replace a4 := a4.up g66.f
          replace r13 := r13.up g66.f
          replace s30 := ex_t g66.f s30
          replace d32 := d32.up g66.f
          replace s37 := ex_t g66.f s37
          exact kfb5tb41tb52.h _ _ gF64
        have eF53 := g55.s
        have gF53 := gF46.trans (g55.weak (by simp))
        replace r_stretches := r_stretches.up g55.f
        replace s3 := ex_t g55.f s3
        replace a4 := a4.up g55.f
        replace r13 := r13.up g55.f
        replace s30 := ex_t g55.f s30
        replace d32 := d32.up g55.f
        replace s37 := ex_t g55.f s37
        exact kfb5tb41.h _ _ gF53
      have eF42 := g44.s
      have gF42 := gF9.trans (g44.weak (by simp))
      replace r_stretches := r_stretches.up g44.f
      replace s3 := ex_t g44.f s3
      replace a4 := a4.up g44.f
      replace r13 := r13.up g44.f
      replace s30 := ex_t g44.f s30
      replace d32 := d32.up g44.f
      replace s37 := ex_t g44.f s37
      refine cs kfb5 (fun _ kfb5 => ?_) (fun _ kfb5 => ?_)
      · refine ⟨_, rfl, ?_⟩
        obtain ⟨h74, kfb5⟩ := post_guard kfb5
        obtain ⟨h75, kfb5⟩ := post_guard kfb5
        refine mk2 h74 h75 (fun d76 y77 => ?_)
        have g78 := (g_.trans (gF42.weak (by simp))).trans (Gm.new (o := .xd [("index", (V.int x6.1)), ("part", (V.int 1))]) eF42 y77)
        exact kfb5.h _ _ _ _ g78 ⟨rfl, .inr ⟨_, rfl, upd_same⟩⟩
      · refine ⟨_, rfl, _, rfl, _, _, rfl, rfl, _, rfl, ?_⟩
        refine or_j (b := (decide (x6.2.2.1 ≤ x6.2.1))) (fun _ Q' q => ?_) ?_
        · refine ⟨_, rfl, _, rfl, _, _, rfl, rfl, _, rfl, ?_⟩
          exact q
        refine cs kfb5 (fun _ kfb5 => ?_) (fun _ kfb5 => ?_)
        · refine ⟨_, rfl, ?_⟩
          obtain ⟨h79, kfb5⟩ := post_guard kfb5
          obtain ⟨h80, kfb5⟩ := post_guard kfb5
          refine mk2 h79 h80 (fun d81 y82 => ?_)
          have g83 := (g_.trans (gF42.weak (by simp))).trans (Gm.new (o := .xd [("index", (V.int x6.1)), ("part", (V.int 1))]) eF42 y82)
          exact kfb5.h _ _ _ _ g83 ⟨rfl, .inr ⟨_, rfl, upd_same⟩⟩
        · refine ⟨_, rfl, ?_⟩
          exact kfb5.h _ _ _ gF42 ⟨_, _, _, _, rfl⟩
    have g84 := g_.trans (g19.weak (by simp))
    replace r_stretches := r_stretches.up g19.f
    replace s3 := ex_t g19.f s3
    replace a4 := a4.up g19.f
    have eF17 := g19.s
    obtain ⟨u85, u86, u87, u88, rfl⟩ := i20
    exact k.h _ _ _ g84 rfl
/-! ### Weighting.__init__ -/
abbrev s_Weighting_init : Stmt := inClass (top 18) 0
theorem sc_Weighting_init : FnScope ["self", "masses", "stretches", "place", "mass", "low", "high", "height"] ["self", "masses", "stretches"] (defScope s_Weighting_init) := ⟨rfl, rfl, rfl, by decide +kernel, rfl, by decide +kernel, by decide +kernel⟩
def Weighting_init_xm (masses : Ms) (stretches : Ss) : Mm Wt := (check_masses_xm (masses)).bd fun b1 => (check_stretches_xm (stretches)).bd fun b8 => (cond (decide ((masses.length : Int) = (0 : Int))) (Mm.ok (decide ((stretches.length : Int) = (0 : Int)))) (Mm.ok false)).bd fun b19 => cond b19 ((guardM ((2 : Int).natAbs < 18446744073709551616)).bd fun _ => (guardM ((0 : Int).natAbs < 18446744073709551616)).bd fun _ => Mm.ex ⟨0, [(2 : Int), (0 : Int)]⟩) ((guardM (masses.length ≤ 50000)).bd fun _ => (noEx (mapMm (fun (x34 : (Int × Int)) => Mm.ok (x34.1, x34.2)) masses)).bd fun b33 => (guardM (stretches.length ≤ 50000)).bd fun _ => (noEx (mapMm (fun (x82 : (Int × Int × Int)) => Mm.ok (x82.1, x82.2.1, x82.2.2)) stretches)).bd fun b81 => Mm.ok (b33, b81))
def Weighting_init (masses : Ms) (stretches : Ss) : Mm Wt := (check_masses (masses)).bd fun b1 => (check_stretches (stretches)).bd fun b8 => (cond (decide ((masses.length : Int) = (0 : Int))) (Mm.ok (decide ((stretches.length : Int) = (0 : Int)))) (Mm.ok false)).bd fun b19 => cond b19 (Mm.bad) ((guardM (masses.length ≤ 50000)).bd fun _ => (mapMm (fun (x29 : (Int × Int)) => Mm.ok (x29.1, x29.2)) masses).bd fun b28 => (guardM (stretches.length ≤ 50000)).bd fun _ => (mapMm (fun (x77 : (Int × Int × Int)) => Mm.ok (x77.1, x77.2.1, x77.2.2)) stretches).bd fun b76 => Mm.ok (b28, b76))
theorem le_Weighting_init (masses : Ms) (stretches : Ss) : Le (Weighting_init masses stretches) (Weighting_init_xm masses stretches) := by
  unfold Weighting_init Weighting_init_xm
  repeat (first | exact Le.bad _ | with_reducible exact Le.refl _ | with_reducible exact Le.noE _ | exact le_check_masses _ | exact le_check_stretches _ | (with_reducible apply Le.noEx) | with_reducible apply Le.bd | with_reducible apply Le.cond | with_reducible apply Le.foldM | with_reducible apply Le.mapMm | with_reducible apply Le.filMm | with_reducible apply Le.foldL | with_reducible apply Le.el | intro _)
theorem ok_Weighting_init {P : Program} {w : World} {K : PySem.W.Frag} {mg : Str → Option Value} {base : Heap} {C f : Addr} {fd : FuncData} (B : Bi mg) (cl : Cls K C) (n_masses : NoAttr K C "_masses") (n_stretches : NoAttr K C "_stretches") (FF : FunD K "__init__" "Weighting.__init__" (defArgs s_Weighting_init) (defBody s_Weighting_init) (defScope s_Weighting_init) [] [] f fd) (G_check_masses : Kx P w K mg base "check_masses" 3 ["masses"] (sp_check_masses K)) (G_check_stretches : Kx P w K mg base "check_stretches" 3 ["stretches"] (sp_check_stretches K)) (GX_InvalidWeighting : KnX P w K mg base "InvalidWeighting" 1 ["self", "part", "index"] (spI2 (He.ga K "InvalidWeighting") "part" "index")) : FnOk P w K mg base (L2.CX P w) 4 f fd ["self", "masses", "stretches"] (spWX Weighting_init_xm K C) := by
  refine FF.ok sc_Weighting_init (fun vs H Q E h => ?_) (fun cdv A outer s H vs Q E hr h => ?_)
  · obtain ⟨F, x, dx, v_masses, v_stretches, masses, stretches, rfl, _⟩ := h; rfl
  · obtain ⟨F, x, dx, v_masses, v_stretches, masses, stretches, rfl, e, hx, fx, r_masses, r_stretches, k⟩ := h
    have o : H x = some (.ins C dx []) ∧ F x = none := ⟨hx, fx⟩
    unfold Weighting_init_xm at k
    have g_ := Gm.refl (M := [x]) e
    refine ⟨_, (pss_cons (ps_expr (pe_kx G_check_masses (hr.mono (by decide)) (takes_of rfl rfl rfl rfl) (pa_cons (pv 1) (pa_nil)))) (pss_cons (ps_expr (pe_kx G_check_stretches (hr.mono (by decide)) (takes_of rfl rfl rfl rfl) (pa_cons (pv 2) (pa_nil)))) (pss_cons (ps_if (PW.pt (pw_and (pt_cmpR op_eq (pe_callB call_lenM (by rfl) B.len (by decide +kernel) (pa_cons (pv 1) pa_nil)) (pe_int) (nomark _)) (pw_and1 (pt_cmpR op_eq (pe_callB call_lenM (by rfl) B.len (by decide +kernel) (pa_cons (pv 2) pa_nil)) (pe_int) (nomark _))))) (pss_one (ps_raiseX GX_InvalidWeighting (hr.mono (by decide)) (takes_of rfl rfl rfl rfl) (pa_cons (pe_int) (pa_cons (pe_int) (pa_nil))))) pss_nil) (pss_cons (ps_fld (pv 0) (pe_q (pe_callTy call_tuple_of (by rfl) B.tuple (by decide +kernel) (pa_cons (pe_q (pe_lc (own := [("place", 3), ("mass", 4)]) (g := gTup K 2 (gCons (gName 3) (gCons (gName 4) gNil))) rfl sc_Weighting_init.nd (pi_tup (pv 1)) (blkOk_by (N := ["self", "masses", "stretches", "place", "mass", "low", "high", "height"]) (sc := defScope s_Weighting_init) (by decide +kernel)) (fun _ _ _ _ _ => pg_tup (by rfl) (pgs_cons (pg_name (i := 3) sc_Weighting_init.nd rfl (Or.inl rfl)) (pgs_cons (pg_name (i := 4) sc_Weighting_init.nd rfl (Or.inl rfl)) (pgs_nil)))) (fun _ _ _ _ _ => pts_nil) (fun _ _ _ _ _ => pe_q (pe_tup (pa_cons (pv 3) (pa_cons (pv 4) (pa_nil))))))) pa_nil))) rfl) (pss_one (ps_fld (pv 0) (pe_q (pe_callTy call_tuple_of (by rfl) B.tuple (by decide +kernel) (pa_cons (pe_q (pe_lc (own := [("low", 5), ("high", 6), ("height", 7)]) (g := gTup K 3 (gCons (gName 5) (gCons (gName 6) (gCons (gName 7) gNil)))) rfl sc_Weighting_init.nd (pi_tup (pv 2)) (blkOk_by (N := ["self", "masses", "stretches", "place", "mass", "low", "high", "height"]) (sc := defScope s_Weighting_init) (by decide +kernel)) (fun _ _ _ _ _ => pg_tup (by rfl) (pgs_cons (pg_name (i := 5) sc_Weighting_init.nd rfl (Or.inl rfl)) (pgs_cons (pg_name (i := 6) sc_Weighting_init.nd rfl (Or.inl rfl)) (pgs_cons (pg_name (i := 7) sc_Weighting_init.nd rfl (Or.inl rfl)) (pgs_nil))))) (fun _ _ _ _ _ => pts_nil) (fun _ _ _ _ _ => pe_q (pe_tup (pa_cons (pv 5) (pa_cons (pv 6) (pa_cons (pv 7) (pa_nil)))))))) pa_nil))) rfl)))))), ?_⟩
    refine ⟨_, rfl, ?_⟩
    refine ⟨F, _, masses, rfl, e, r_masses, (post_bd k).mono (fun b1 k v6 F2 H3 g4 r5 => ?_) (fun e_ z cls_ d_ F_ H_ g_x x_ => z cls_ d_ F_ H_ (g_.trans (g_x.weak (by simp))) x_)⟩
    have eF2 := g4.s
    have gF2 := g_.trans (g4.weak (by simp))
    replace o := g4.own (by simp [*]) o.1 o.2
    replace r_masses := r_masses.up g4.f
    replace r_stretches := r_stretches.up g4.f
    subst r5
    refine ⟨_, rfl, ?_⟩
    refine ⟨F2, _, stretches, rfl, eF2, r_stretches, (post_bd k).mono (fun b8 k v13 F9 H10 g11 r12 => ?_) (fun e_ z cls_ d_ F_ H_ g_x x_ => z cls_ d_ F_ H_ (gF2.trans (g_x.weak (by simp))) x_)⟩
    have eF9 := g11.s
    have gF9 := gF2.trans (g11.weak (by simp))
    replace o := g11.own (by simp [*]) o.1 o.2
    replace r_masses := r_masses.up g11.f
    replace r_stretches := r_stretches.up g11.f
    subst r12
    refine ⟨_, rfl, ?_⟩
    obtain ⟨p15, xs16, rfl, s17, a18⟩ := dp_tup r_masses
    refine ⟨_, _, _, rfl, .inr (ex_t eF9 s17), len_all a18, rfl, ?_⟩
    rw [decV_int]
    refine ⟨_, rfl, ?_⟩
    refine and_jM (M := []) eF9 k (fun _ Q' ktb19 => ?_) (fun b19 F20 H21 g22 k => ?_)
    · have gF9_ := Gm.refl (M := []) eF9
      refine ⟨_, rfl, ?_⟩
      obtain ⟨p23, xs24, rfl, s25, a26⟩ := dp_tup r_stretches
      refine ⟨_, _, _, rfl, .inr (ex_t eF9 s25), len_all a26, rfl, ?_⟩
      rw [decV_int]
      refine ⟨_, rfl, ?_⟩
      exact ktb19.h _ _ gF9_
    have eF20 := g22.s
    have gF20 := gF9.trans (g22.weak (by simp))
    replace o := g22.own (by simp [*]) o.1 o.2
    replace r_masses := r_masses.up g22.f
    replace r_stretches := r_stretches.up g22.f
    replace s17 := ex_t g22.f s17
    replace a18 := a18.up g22.f
    refine cs k (fun _ k => ?_) (fun _ k => ?_)
    · obtain ⟨h27, k⟩ := post_guard k
      obtain ⟨h28, k⟩ := post_guard k
      refine mk2 h27 h28 (fun d29 y30 => ?_)
      have g31 := gF20.trans (Gm.new (o := .xd [("index", (V.int 0)), ("part", (V.int 2))]) eF20 y30)
      exact k.h _ _ _ _ g31 ⟨rfl, .inr ⟨_, rfl, upd_same⟩⟩
    · refine ⟨_, rfl, ?_⟩
      refine ⟨_, rfl, ⟨_, (ex_t eF20 s17)⟩, ?_⟩
      obtain ⟨h51, k⟩ := post_guard k
      refine lc_map (K := K) (M := []) (wlk_tup eF20 s17 a18) (e2 PyData.int PyData.int) (post_noEx' k) eF20 h51 (fun _ _ => by simp) (fun x34 v49 F42 H43 F44 H45 g46 g47 r48 Q' k32 => ?_) (fun _ z => z) (fun b33 v35 F36 H37 g38 r39 k => ?_) (gm_tup (gms_cons gm_name (gms_cons gm_name gms_nil)))
      · have g52 := Gm.refl (M := []) g46.s
        replace o := g46.own (by simp [*]) o.1 o.2
        replace r_masses := r_masses.up g46.f
        replace r_stretches := r_stretches.up g46.f
        replace s17 := ex_t g46.f s17
        replace a18 := a18.up g46.f
        replace o := g47.own (by simp [*]) o.1 o.2
        replace r_masses := r_masses.up g47.f
        replace r_stretches := r_stretches.up g47.f
        replace s17 := ex_t g47.f s17
        replace a18 := a18.up g47.f
        have eF44 := g47.s
        have gF44 := g52.trans (g47.weak (by simp))
        obtain ⟨p53, x54, x55, rfl, s56, d57, d58⟩ := dp_tup2 r48
        obtain rfl := dp_int d57
        obtain rfl := dp_int d58
        refine ⟨_, _, rfl, ex_t eF44 s56, rfl, _, _, rfl, _, _, rfl, rfl, rfl, _, rfl, _, rfl, ?_⟩
        show _ ∧ _
        refine new_tup (K := K) (M := []) eF44 (.cons (Dq.int x34.1) (.cons (Dq.int x34.2) .nil)) (by show 2 ≤ 100000; decide) fun v63 F59 H60 g61 r62 => ?_
        have eF59 := g61.s
        have gF59 := gF44.trans (g61.weak (by simp))
        replace o := g61.own (by simp [*]) o.1 o.2
        replace r_masses := r_masses.up g61.f
        replace r_stretches := r_stretches.up g61.f
        replace s17 := ex_t g61.f s17
        replace a18 := a18.up g61.f
        replace r48 := r48.up g61.f
        replace s56 := ex_t g61.f s56
        replace r62 : Dq K F59 v63 ((e2 PyData.int PyData.int) (x34.1, x34.2)) := r62
        exact k32.h _ _ _ gF59 r62
      replace k := post_ok k
      have eF36 := g38.s
      have gF36 := gF20.trans (g38.weak (by simp))
      replace o := g38.own (by simp [*]) o.1 o.2
      replace r_masses := r_masses.up g38.f
      replace r_stretches := r_stretches.up g38.f
      replace s17 := ex_t g38.f s17
      replace a18 := a18.up g38.f
      obtain ⟨p65, xs66, rfl, s67, a68⟩ := dp_lst r39
      refine to_VL (K := K) (M := []) eF36 s67 a68 (en := (e2 PyData.int PyData.int)) (l := b33) fun v73 F69 H70 g71 r72 => ?_
      have eF69 := g71.s
      have gF69 := gF36.trans (g71.weak (by simp))
      replace o := g71.own (by simp [*]) o.1 o.2
      replace r_masses := r_masses.up g71.f
      replace r_stretches := r_stretches.up g71.f
      replace s17 := ex_t g71.f s17
      replace a18 := a18.up g71.f
      replace r39 := r39.up g71.f
      replace s67 := g71.f _ _ s67
      replace a68 := a68.up g71.f
      refine ⟨_, rfl, x, C, dx, _, rfl, o.1, cl, n_masses, (by show 0 < 1000; decide), ?_⟩
      have g74 := gF69.putIn (o := .ins C dx (putF "_masses" v73 [])) (by simp) o.1 o.2
      replace o : (upd H70 x (.ins C dx (putF "_masses" v73 []))) x = some (.ins C dx (putF "_masses" v73 [])) ∧ F69 x = none := ⟨upd_same, o.2⟩
      have e75 := g74.s
      refine ⟨_, rfl, ?_⟩
      obtain ⟨p76, xs77, rfl, s78, a79⟩ := dp_tup r_stretches
      refine ⟨_, rfl, ⟨_, (ex_t e75 s78)⟩, ?_⟩
      obtain ⟨h99, k⟩ := post_guard k
      refine lc_map (K := K) (M := []) (wlk_tup e75 s78 a79) (e3 PyData.int PyData.int PyData.int) (post_noEx' k) e75 h99 (fun _ _ => by simp) (fun x82 v97 F90 H91 F92 H93 g94 g95 r96 Q' k80 => ?_) (fun _ z => z) (fun b81 v83 F84 H85 g86 r87 k => ?_) (gm_tup (gms_cons gm_name (gms_cons gm_name (gms_cons gm_name gms_nil))))
      · have g100 := Gm.refl (M := []) g94.s
        replace o := g94.own (by simp [*]) o.1 o.2
        replace r_masses := r_masses.up g94.f
        replace r_stretches := r_stretches.up g94.f
        replace s17 := ex_t g94.f s17
        replace a18 := a18.up g94.f
        replace r39 := r39.up g94.f
        replace s67 := g94.f _ _ s67
        replace a68 := a68.up g94.f
        replace r72 := r72.up g94.f
        replace s78 := ex_t g94.f s78
        replace a79 := a79.up g94.f
        replace o := g95.own (by simp [*]) o.1 o.2
        replace r_masses := r_masses.up g95.f
        replace r_stretches := r_stretches.up g95.f
        replace s17 := ex_t g95.f s17
        replace a18 := a18.up g95.f
        replace r39 := r39.up g95.f
        replace s67 := g95.f _ _ s67
        replace a68 := a68.up g95.f
        replace r72 := r72.up g95.f
        replace s78 := ex_t g95.f s78
        replace a79 := a79.up g95.f
        have eF92 := g95.s
        have gF92 := g100.trans (g95.weak (by simp))
        obtain ⟨p101, x102, x103, x104, rfl, s105, d106, d107, d108⟩ := dp_tup3 r96
        obtain rfl := dp_int d106
        obtain rfl := dp_int d107
        obtain rfl := dp_int d108
        refine ⟨_, _, rfl, ex_t eF92 s105, rfl, _, _, rfl, _, _, rfl, _, _, rfl, rfl, rfl, _, rfl, _, rfl, _, rfl, ?_⟩
        show _ ∧ _
        refine new_tup (K := K) (M := []) eF92 (.cons (Dq.int x82.1) (.cons (Dq.int x82.2.1) (.cons (Dq.int x82.2.2) .nil))) (by show 3 ≤ 100000; decide) fun v113 F109 H110 g111 r112 => ?_
        have eF109 := g111.s
        have gF109 := gF92.trans (g111.weak (by simp))
        replace o := g111.own (by simp [*]) o.1 o.2
        replace r_masses := r_masses.up g111.f
        replace r_stretches := r_stretches.up g111.f
        replace s17 := ex_t g111.f s17
        replace a18 := a18.up g111.f
        replace r39 := r39.up g111.f
        replace s67 := g111.f _ _ s67
        replace a68 := a68.up g111.f
        replace r72 := r72.up g111.f
        replace s78 := ex_t g111.f s78
        replace a79 := a79.up g111.f
        replace r96 := r96.up g111.f
        replace s105 := ex_t g111.f s105
        replace r112 : Dq K F109 v113 ((e3 PyData.int PyData.int PyData.int) (x82.1, x82.2.1, x82.2.2)) := r112
        exact k80.h _ _ _ gF109 r112
      replace k := post_ok k
      have eF84 := g86.s
      have gF84 := g74.trans (g86.weak (by simp))
      replace o := g86.own (by simp [*]) o.1 o.2
      replace r_masses := r_masses.up g86.f
      replace r_stretches := r_stretches.up g86.f
      replace s17 := ex_t g86.f s17
      replace a18 := a18.up g86.f
      replace r39 := r39.up g86.f
      replace s67 := g86.f _ _ s67
      replace a68 := a68.up g86.f
      replace r72 := r72.up g86.f
      replace s78 := ex_t g86.f s78
      replace a79 := a79.up g86.f
      obtain ⟨p115, xs116, rfl, s117, a118⟩ := dp_lst r87
      refine to_VL (K := K) (M := []) eF84 s117 a118 (en := (e3 PyData.int PyData.int PyData.int)) (l := b81) fun v123 F119 H120 g121 r122 => ?_
      have eF119 := g121.s
      have gF119 := gF84.trans (g121.weak (by simp))
      replace o := g121.own (by simp [*]) o.1 o.2
      replace r_masses := r_masses.up g121.f
      replace r_stretches := r_stretches.up g121.f
      replace s17 := ex_t g121.f s17
      replace a18 := a18.up g121.f
      replace r39 := r39.up g121.f
      replace s67 := g121.f _ _ s67
      replace a68 := a68.up g121.f
      replace r72 := r72.up g121.f
      replace s78 := ex_t g121.f s78
      replace a79 := a79.up g121.f
      replace r87 := r87.up g121.f
      replace s117 := g121.f _ _ s117
      replace a118 := a118.up g121.f
      refine ⟨_, rfl, x, C, dx, _, rfl, o.1, cl, n_stretches, (by show 1 < 1000; decide), ?_⟩
      have g124 := gF119.putIn (o := .ins C dx (putF "_stretches" v123 (putF "_masses" v73 []))) (by simp) o.1 o.2
      replace o : (upd H120 x (.ins C dx (putF "_stretches" v123 (putF "_masses" v73 [])))) x = some (.ins C dx (putF "_stretches" v123 (putF "_masses" v73 []))) ∧ F119 x = none := ⟨upd_same, o.2⟩
      have e125 := g124.s
      exact k.h _ _ _ _ g124 o.1 o.2 r72 r122
/-! ### _law_taken -/
abbrev s_law_taken : Stmt := top 24
theorem sc_law_taken : FnScope ["_law_row", "_law_many", "_law_found", "_law_cell"] ["_law_row", "_law_many"] (defScope s_law_taken) := ⟨rfl, rfl, rfl, by decide +kernel, rfl, by decide +kernel, by decide +kernel⟩
theorem ok_law_taken {P : Program} {w : World} {K : PySem.W.Frag} {mg : Str → Option Value} {base : Heap} {f : Addr} {fd : FuncData} (B : Bi mg) (FF : FunD K "_law_taken" "_law_taken" (defArgs s_law_taken) (defBody s_law_taken) (defScope s_law_taken) [] [] f fd) : FnOk P w K mg base CX0 1 f fd ["_law_row", "_law_many"] (spTaken takenA K) := by
  refine FF.ok sc_law_taken (fun vs H Q E h => ?_) (fun cdv A outer s H vs Q E hr h => ?_)
  · obtain ⟨F, sc, ra, scr, st, many, rfl, _⟩ := h; rfl
  · obtain ⟨F, sc, ra, scr, st, many, rfl, e, ⟨hL, hF, hS⟩, k⟩ := h
    obtain ⟨pos, seed, left⟩ := st
    unfold takenA at k
    split at k
    case isFalse => exact k.elim
    rename_i hc
    obtain ⟨h1, h2, h3, h4, h5, h6⟩ := hc
    simp only at h3 h4 h5 h6 k hL
    have cd : ∀ i : Int, CDv i many := fun i => cdv_small ⟨by omega, by omega⟩
    refine ⟨_, PSs.nox (pss_cons (ps_if (pt_cmpR op_gt (pe_ix ix_list (pv 0) pe_int (fun _ _ => rfl)) pe_int (nomark _))
        (pss_cons (ps_set (i := 2) sc_law_taken.nd rfl (.inl rfl) (pe_op op_modM (pe_callTy call_intM (by rfl) B.int (by decide +kernel) (pa_cons (pe_ix ix_list (pv 0) pe_int (fun _ _ => rfl)) pa_nil)) (pv 1)))
          (pss_cons (ps_asg (pe_op op_divM (pe_ix ix_list (pv 0) pe_int (fun _ _ => rfl)) (pv 1)) (pg_sub (pv 0) pe_int set_list)) (pss_one (ps_ret (pv 2))))) pss_nil)
      (pss_cons (ps_asg (pe_op op_add (pe_ix ix_list (pv 0) pe_int (fun _ _ => rfl)) pe_int) (pg_sub (pv 0) pe_int set_list))
      (pss_cons (ps_if (pt_cmpR op_gt (pe_ix ix_list (pv 0) pe_int (fun _ _ => rfl)) (pe_callB call_lenM (by rfl) B.len (by decide +kernel) (pa_cons (pe_ix ix_list (pv 0) pe_int (fun _ _ => rfl)) pa_nil)) (nomark _))
        (pss_cons (ps_asg (pe_op op_modM (pe_callTy call_intM (by rfl) B.int (by decide +kernel) (pa_cons (pe_op op_add (pe_op op_mulM (pe_ix ix_list (pv 0) pe_int (fun _ _ => rfl)) pe_int) pe_int) pa_nil)) pe_int) (pg_sub (pv 0) pe_int set_list))
          (pss_one (ps_ret (pe_op op_modM (pe_callTy call_intM (by rfl) B.int (by decide +kernel) (pa_cons (pe_op op_divM (pe_ix ix_list (pv 0) pe_int (fun _ _ => rfl)) pe_int) pa_nil)) (pv 1))))) pss_nil)
      (pss_cons (ps_set (i := 3) sc_law_taken.nd rfl (.inl rfl) (pe_ix ix_list (pe_ix ix_list (pv 0) pe_int (fun _ _ => rfl)) (pe_op op_sub (pe_ix ix_list (pv 0) pe_int (fun _ _ => rfl)) pe_int) (fun _ _ => rfl)))
      (pss_cons (ps_asg (pe_op op_modM (pe_callTy call_intM (by rfl) B.int (by decide +kernel) (pa_cons (pe_op op_add (pe_op op_add (pe_op op_mulM (pe_ix ix_list (pv 0) pe_int (fun _ _ => rfl)) pe_int) (pv 3)) pe_int) pa_nil)) pe_int) (pg_sub (pv 0) pe_int set_list))
      (pss_cons (ps_asg (pe_ifExp (pt_cmpR op_ge (pv 3) (pe_op op_pow pe_int pe_int) (nomark _)) (pe_op op_divM (pv 3) (pv 1)) pe_int) (pg_sub (pv 0) pe_int set_list))
      (pss_one (ps_ret (pe_op op_modM (pe_callTy call_intM (by rfl) B.int (by decide +kernel) (pa_cons (pv 3) pa_nil)) (pv 1)))))))))), ?_⟩
    refine ⟨_, rfl, _, _, _, _, rfl, rfl, sq_of hL, rfl, _, _, rfl, rfl, _, rfl, ?_⟩
    by_cases c1 : left > 0
    · rw [if_pos (show left > 0 from c1)] at k
      rw [if_pos (decide_eq_true c1)]
      refine ⟨_, rfl, _, _, _, _, rfl, rfl, sq_of hL, rfl, _, rfl, _, rfl, _, _, _, rfl, rfl, by omega, rfl, ?_⟩
      refine ⟨_, rfl, _, _, _, _, rfl, rfl, sq_of hL, rfl, _, rfl, _, _, _, rfl, rfl, cd _, rfl, _, rfl, _, _, _, _, rfl, rfl, hL, rfl, _, rfl, ?_⟩
      rw [fmod_pos h1, fdiv_pos h1]
      exact k.h _ F _ (Gm.put e hL hF) ⟨rfl, upd_same, hF, hS⟩
    · rw [if_neg (show ¬ left > 0 from c1)] at k
      rw [if_neg (by simpa using c1)]
      refine ⟨_, rfl, _, _, _, _, rfl, rfl, sq_of hL, rfl, _, _, rfl, rfl, _, rfl, _, _, _, _, rfl, rfl, hL, rfl, ?_⟩
      generalize hq : upd H ra (.lst ([V.ref sc, V.int pos, V.int seed, V.int left].set (Int.toNat 1) ((fun i j => V.int (i + j)) pos 1))) = H1
      have g1 : Gm [ra] F H F H1 := by rw [← hq]; exact Gm.put e hL hF
      have l1 : H1 ra = some (.lst [.ref sc, .int (pos + 1), .int seed, .int left]) := by rw [← hq]; exact upd_same
      clear hq
      refine ⟨_, rfl, _, _, _, _, rfl, rfl, sq_of l1, rfl, _, rfl, _, _, _, _, rfl, rfl, sq_of l1, rfl, _, _, _, rfl, .inl (ex_l g1.s hS), rfl, _, _, rfl, rfl, _, rfl, ?_⟩
      cases c2 : scr[pos.toNat]? with
      | none =>
        rw [c2] at k
        have hlen : pos + 1 > ((scr.map V.int).length : Int) := by
          have := List.getElem?_eq_none_iff.mp c2
          rw [List.length_map]; omega
        rw [if_pos (decide_eq_true hlen)]
        refine ⟨_, rfl, _, _, _, _, rfl, rfl, sq_of l1, rfl, _, _, _, rfl, rfl, cmul_small (by omega) (by decide), rfl, _, _, rfl, rfl, _, rfl, _, _, _, rfl, rfl, by decide, rfl, _, rfl, _, _, _, _, rfl, rfl, l1, rfl, ?_⟩
        have es : (seed * 48271 + 11).fmod 2147483647 = seedN seed 0 := by rw [fmod_pos (by decide)]; unfold seedN; rw [Int.add_zero]
        have g2 : Gm [ra] F H F (upd H1 ra (.lst [.ref sc, .int (pos + 1), .int (seedN seed 0), .int left])) := g1.trans (Gm.put g1.s l1 hF)
        have l2 : (upd H1 ra (.lst [.ref sc, .int (pos + 1), .int (seedN seed 0), .int left])) ra = some (.lst [.ref sc, .int (pos + 1), .int (seedN seed 0), .int left]) := upd_same
        rw [es]
        refine ⟨_, rfl, _, _, _, _, rfl, rfl, sq_of l2, rfl, _, _, _, rfl, rfl, cdv_small ⟨by decide, by decide⟩, rfl, _, rfl, _, rfl, _, _, _, rfl, rfl, by omega, rfl, ?_⟩
        rw [fmod_pos h1, fdiv_pos (by decide)]
        exact k.h _ F _ g2 ⟨rfl, l2, hF, hS⟩
      | some c =>
        rw [c2] at k
        obtain ⟨hp, ec⟩ := List.getElem?_eq_some_iff.mp c2
        have hlen : ¬ pos + 1 > ((scr.map V.int).length : Int) := by rw [List.length_map]; omega
        rw [if_neg (by simpa using hlen)]
        have hat : atI (scr.map V.int) (pos + 1 - 1) = some (.int c) := by
          unfold atI ixN
          rw [if_pos (by omega), if_pos (by rw [List.length_map]; omega)]
          show (scr.map V.int)[(pos + 1 - 1).toNat]? = _
          rw [show (pos + 1 - 1) = pos by omega, List.getElem?_map, c2]; rfl
        refine ⟨_, rfl, _, _, _, _, rfl, rfl, sq_of l1, rfl, _, rfl, _, _, _, _, rfl, rfl, sq_of l1, rfl, _, _, rfl, rfl, _, _, _, _, rfl, rfl, ex_l g1.s hS, hat, ?_⟩
        refine ⟨_, rfl, _, _, _, _, rfl, rfl, sq_of l1, rfl, _, _, _, rfl, rfl, cmul_small (by omega) (by decide), rfl, _, rfl, _, _, rfl, rfl, _, _, rfl, rfl, _, rfl, _, _, _, rfl, rfl, by decide, rfl, _, rfl, _, _, _, _, rfl, rfl, l1, rfl, ?_⟩
        have es : (seed * 48271 + c + 11).fmod 2147483647 = seedN seed c := by rw [fmod_pos (by decide)]; rfl
        have g2 : Gm [ra] F H F (upd H1 ra (.lst [.ref sc, .int (pos + 1), .int (seedN seed c), .int left])) := g1.trans (Gm.put g1.s l1 hF)
        have l2 : (upd H1 ra (.lst [.ref sc, .int (pos + 1), .int (seedN seed c), .int left])) ra = some (.lst [.ref sc, .int (pos + 1), .int (seedN seed c), .int left]) := upd_same
        rw [es]
        refine ⟨_, rfl, _, _, rfl, rfl, ⟨by decide, by decide, by decide⟩, _, _, rfl, rfl, _, rfl, ?_⟩
        have fin : ∀ x, Gm [ra] F H F (upd (upd H1 ra (.lst [.ref sc, .int (pos + 1), .int (seedN seed c), .int left])) ra (.lst [.ref sc, .int (pos + 1), .int (seedN seed c), .int x])) := fun x => g2.trans (Gm.put g2.s l2 hF)
        by_cases c3 : c ≥ 10 ^ 18
        · simp only [if_pos (show c ≥ 10 ^ 18 from c3)] at k
          refine iteP (decide_eq_true c3) ?_
          refine ⟨_, rfl, _, rfl, _, _, _, rfl, rfl, cd _, rfl, _, rfl, _, _, _, _, rfl, rfl, l2, rfl, ?_⟩
          refine ⟨_, rfl, _, rfl, _, rfl, _, _, _, rfl, rfl, by omega, rfl, ?_⟩
          rw [fmod_pos h1, fdiv_pos h1]
          exact k.h _ F _ (fin _) ⟨rfl, upd_same, hF, hS⟩
        · simp only [if_neg (show ¬ c ≥ 10 ^ 18 from c3)] at k
          refine iteN (decide_eq_false c3) ?_
          refine ⟨_, rfl, _, _, _, _, rfl, rfl, l2, rfl, ?_⟩
          refine ⟨_, rfl, _, rfl, _, rfl, _, _, _, rfl, rfl, by omega, rfl, ?_⟩
          rw [fmod_pos h1]
          exact k.h _ F _ (fin _) ⟨rfl, upd_same, hF, hS⟩

/-! ### _law_pick -/
abbrev s_law_pick : Stmt := top 25
theorem sc_law_pick : FnScope ["_law_row", "_law_some"] ["_law_row", "_law_some"] (defScope s_law_pick) := ⟨rfl, rfl, rfl, by decide +kernel, rfl, by decide +kernel, by decide +kernel⟩
theorem ok_law_pick {P : Program} {w : World} {K : PySem.W.Frag} {mg : Str → Option Value} {base : Heap} {f : Addr} {fd : FuncData} (B : Bi mg) (FF : FunD K "_law_pick" "_law_pick" (defArgs s_law_pick) (defBody s_law_pick) (defScope s_law_pick) [] [] f fd)
    (G_law_taken : Kn P w K mg base "_law_taken" 1 ["_law_row", "_law_many"] (spTaken takenA K)) : FnOk P w K mg base CX0 2 f fd ["_law_row", "_law_some"] (spPick takenA K) := by
  refine FF.ok sc_law_pick (fun vs H Q E h => ?_) (fun cdv A outer s H vs Q E hr h => ?_)
  · obtain ⟨F, sc, ra, scr, st, α, en, v, l, rfl, _⟩ := h; rfl
  · obtain ⟨F, sc, ra, scr, st, α, en, v, l, rfl, e, w, r, k⟩ := h
    obtain ⟨p, xs, rfl, hp, ha⟩ := dp_lst r
    unfold pickM at k
    refine ⟨_, PSs.nox (pss_one (ps_ret (pe_ix ix_list (pv 1) (pe_kn G_law_taken (hr.mono (by decide)) (pa_cons (pv 0) (pa_cons (pe_callB call_lenM (by rfl) B.len (by decide +kernel) (pa_cons (pv 1) pa_nil)) pa_nil))) (fun _ _ => rfl)))), ?_⟩
    refine ⟨_, rfl, _, rfl, _, rfl, _, _, _, rfl, .inl (sq_of (e _ _ hp)), len_all ha, ?_⟩
    refine ⟨F, sc, ra, scr, st, _, rfl, e, w, (post_bd k).mono (fun b k v F1 H1 g h => ?_) (fun _ z => z)⟩
    obtain ⟨rfl, w1⟩ := h
    obtain ⟨a, h1, k⟩ := post_get k
    obtain ⟨u, hu, ru⟩ := dq_at (ha.up g.f) h1
    refine ⟨_, _, _, _, rfl, rfl, sq_of (g.s _ _ (g.f _ _ hp)), hu, ?_⟩
    exact k.h _ _ _ g ⟨ru, w1⟩

/-! ### _law_masses -/
abbrev s_law_masses : Stmt := top 26
theorem sc_law_masses : FnScope ["_law_row", "_law_most", "_law_far", "_law_places", "_law_place", "_law_k"] ["_law_row", "_law_most", "_law_far"] (defScope s_law_masses) := ⟨rfl, rfl, rfl, by decide +kernel, rfl, by decide +kernel, by decide +kernel⟩
def law_masses (scr : List Int) (st : Rw) (law_most : Int) (law_far : Int) : Mm ((List (Int × Int)) × Rw) := (takenA scr st ((law_most + (1 : Int)))).bd fun b1 => (rangeM b1.1).bd fun l9 => (guardM ((rangeL 0 b1.1.toNat).length ≤ 50000)).bd fun _ => (mapSt (fun (st19 : Rw) (x12 : Int) => (mulM (2 : Int) law_far).bd fun m31 => (takenA scr st19 ((m31 + (1 : Int)))).bd fun b34 => Mm.ok ((b34.1 - law_far), b34.2)) b1.2 (rangeL 0 b1.1.toNat)).bd fun b11 => (guardM (b11.1.length < 64)).bd fun _ => (guardM ((sortedSet b11.1).length ≤ 50000)).bd fun _ => (mapSt (fun (st65 : Rw) (x58 : Int) => (takenA scr st65 ((3 : Int))).bd fun b77 => (takenA scr b77.2 ((20 : Int))).bd fun b84 => (pickM takenA scr b84.2 [(0 : Int), b77.1, b84.1]).bd fun b96 => Mm.ok ((x58, ((1 : Int) + b96.1)), b96.2)) b11.2 (sortedSet b11.1)).bd fun b57 => Mm.ok (b57.1, b57.2)
def sp_law_masses (K : PySem.W.Frag) : Sp := fun vs H Q E => ∃ (F : Hp) (sc ra : Addr) (scr : List Int) (st : Rw) (law_most : Int) (law_far : Int), vs = [.ref ra, (V.int law_most), (V.int law_far)] ∧ Ex F H ∧ RowAt K sc ra scr F H st ∧ Post (law_masses scr st law_most law_far) (fun r => Ret [ra] F H (fun F' H' v => Dq K F' v ((eV (e2 PyData.int PyData.int)) r.1) ∧ RowAt K sc ra scr F' H' r.2) Q) (fun _ => False)
theorem ok_law_masses {P : Program} {w : World} {K : PySem.W.Frag} {mg : Str → Option Value} {base : Heap} {C f : Addr} {fd : FuncData} (B : Bi mg) (FF : FunD K "_law_masses" "_law_masses" (defArgs s_law_masses) (defBody s_law_masses) (defScope s_law_masses) [] [] f fd) (G_law_taken : Kn P w K mg base "_law_taken" 1 ["_law_row", "_law_many"] (spTaken takenA K)) (G_law_pick : Kn P w K mg base "_law_pick" 2 ["_law_row", "_law_some"] (spPick takenA K)) : FnOk P w K mg base CX0 3 f fd ["_law_row", "_law_most", "_law_far"] (sp_law_masses K) := by
  refine FF.ok sc_law_masses (fun vs H Q E h => ?_) (fun cdv A outer s H vs Q E hr h => ?_)
  · obtain ⟨F, sc, ra, scr, st, law_most, law_far, rfl, _⟩ := h; rfl
  · obtain ⟨F, sc, ra, scr, st, law_most, law_far, rfl, e, w, k⟩ := h
    unfold law_masses at k
    have g_ := Gm.refl (M := [ra]) e
    refine ⟨_, PSs.nox (pss_cons (ps_set (i := 3) sc_law_masses.nd rfl (Or.inl rfl) (pe_q (pe_callB (cr_sortedSet rfl) (by rfl) B.sorted (by decide +kernel) (pa_cons (pe_callTy (cr_setM rfl) (by rfl) B.set (by decide +kernel) (pa_cons (pe_q (pe_lc (own := [("_law_k", 5)]) (g := gName 5) rfl sc_law_masses.nd (pi_range1 rfl B.range (pa_cons (pe_kn G_law_taken (hr.mono (by decide)) (pa_cons (pv 0) (pa_cons (pe_op op_add (pv 1) (pe_int)) (pa_nil)))) (pa_nil))) (blkOk_by (N := ["_law_row", "_law_most", "_law_far", "_law_places", "_law_place", "_law_k"]) (sc := defScope s_law_masses) (by decide +kernel)) (fun _ _ _ _ _ => pg_name (i := 5) sc_law_masses.nd rfl (Or.inl rfl)) (fun _ _ _ _ _ => pts_nil) (fun _ _ _ _ _ => pe_op op_sub (pe_kn G_law_taken (hr.mono (by decide)) (pa_cons (pv 0) (pa_cons (pe_op op_add (pe_op op_mulM (pe_int) (pv 2)) (pe_int)) (pa_nil)))) (pv 2)))) pa_nil)) pa_nil)))) (pss_one (ps_ret (pe_q (pe_callTy call_tuple_of (by rfl) B.tuple (by decide +kernel) (pa_cons (pe_q (pe_lc (own := [("_law_place", 4)]) (g := gName 4) rfl sc_law_masses.nd (pi_list (pv 3)) (blkOk_by (N := ["_law_row", "_law_most", "_law_far", "_law_places", "_law_place", "_law_k"]) (sc := defScope s_law_masses) (by decide +kernel)) (fun _ _ _ _ _ => pg_name (i := 4) sc_law_masses.nd rfl (Or.inl rfl)) (fun _ _ _ _ _ => pts_nil) (fun _ _ _ _ _ => pe_q (pe_tup (pa_cons (pv 4) (pa_cons (pe_op op_add (pe_int) (pe_kn G_law_pick (hr.mono (by decide)) (pa_cons (pv 0) (pa_cons (pe_q (pe_lst (pa_cons (pe_int) (pa_cons (pe_kn G_law_taken (hr.mono (by decide)) (pa_cons (pv 0) (pa_cons (pe_int) (pa_nil)))) (pa_cons (pe_kn G_law_taken (hr.mono (by decide)) (pa_cons (pv 0) (pa_cons (pe_int) (pa_nil)))) (pa_nil)))))) pa_nil)))) (pa_nil))))))) pa_nil)))))), ?_⟩
    refine ⟨_, rfl, _, rfl, _, _, rfl, rfl, ?_⟩
    refine ⟨F, sc, ra, scr, st, (law_most + (1 : Int)), rfl, e, w, (post_bd k).mono (fun b1 k v6 F2 H3 g4 ⟨r5, w7⟩ => ?_) (fun _ z => z)⟩
    have eF2 := g4.s
    have gF2 := g_.trans (g4.weak (by simp))
    subst r5
    obtain ⟨h8, k⟩ := post_range k
    refine ⟨_, rfl, h8.1, h8.2, ?_⟩
    obtain ⟨h29, k⟩ := post_guard k
    refine lc_st (K := K) wlk_range PyData.int k eF2 h29 w7 (fun st19 x12 v27 F20 H21 F22 H23 g24 w28 g25 r26 Q' k10 => ?_) (fun _ z => z) (fun b11 v13 F14 H15 g16 ⟨r17, w18⟩ k => ?_) gm_name
    · have g30 := Gm.refl (M := [ra]) g24.s
      clear w7
      replace w28 := w28.keep g25
      have eF22 := g25.s
      have gF22 := g30.trans (g25.weak (by simp))
      subst r26
      refine ⟨rfl, _, rfl, _, rfl, ?_⟩
      obtain ⟨m31, c32, q33, k10⟩ := post_mul k10
      refine ⟨_, _, _, rfl, rfl, c32, q33, _, _, rfl, rfl, ?_⟩
      refine ⟨F22, sc, ra, scr, st19, (m31 + (1 : Int)), rfl, eF22, w28, (post_bd k10).mono (fun b34 k10 v39 F35 H36 g37 ⟨r38, w40⟩ => ?_) (fun _ z => z)⟩
      have eF35 := g37.s
      have gF35 := gF22.trans (g37.weak (by simp))
      subst r38
      refine ⟨_, rfl, _, _, rfl, rfl, ?_⟩
      exact k10.h _ _ _ gF35 ⟨(Dq.int (b34.1 - law_far)), w40⟩
    have eF14 := g16.s
    have gF14 := gF2.trans (g16.weak (by simp))
    obtain ⟨p42, xs43, rfl, s44, a45⟩ := dp_lst r17
    obtain rfl := all_ints a45
    obtain ⟨h46, k⟩ := post_guard k
    refine sorted_set (K := K) (M := []) eF14 s44 h46 fun v51 F47 H48 g49 r50 => ?_
    have eF47 := g49.s
    have gF47 := gF14.trans (g49.weak (by simp))
    replace w18 := w18.keep g49
    replace r17 := r17.up g49.f
    replace s44 := g49.f _ _ s44
    replace a45 := a45.up g49.f
    refine ⟨_, rfl, ?_⟩
    obtain ⟨p52, xs53, rfl, s54, a55⟩ := dp_lst r50
    refine ⟨_, rfl, ⟨_, (sq_of (eF47 _ _ s54))⟩, ?_⟩
    obtain ⟨h75, k⟩ := post_guard k
    refine lc_st (K := K) (wlk_list eF47 s54 a55) (e2 PyData.int PyData.int) k eF47 h75 w18 (fun st65 x58 v73 F66 H67 F68 H69 g70 w74 g71 r72 Q' k56 => ?_) (fun _ z => z) (fun b57 v59 F60 H61 g62 ⟨r63, w64⟩ k => ?_) gm_name
    · have g76 := Gm.refl (M := [ra]) g70.s
      clear w18
      replace r17 := r17.up g70.f
      replace s44 := g70.f _ _ s44
      replace a45 := a45.up g70.f
      replace r50 := r50.up g70.f
      replace s54 := g70.f _ _ s54
      replace a55 := a55.up g70.f
      replace r17 := r17.up g71.f
      replace s44 := g71.f _ _ s44
      replace a45 := a45.up g71.f
      replace r50 := r50.up g71.f
      replace s54 := g71.f _ _ s54
      replace a55 := a55.up g71.f
      replace w74 := w74.keep g71
      have eF68 := g71.s
      have gF68 := g76.trans (g71.weak (by simp))
      obtain rfl := dp_int r72
      refine ⟨rfl, _, rfl, _, rfl, _, rfl, ?_⟩
      refine ⟨F68, sc, ra, scr, st65, (3 : Int), rfl, eF68, w74, (post_bd k56).mono (fun b77 k56 v82 F78 H79 g80 ⟨r81, w83⟩ => ?_) (fun _ z => z)⟩
      have eF78 := g80.s
      have gF78 := gF68.trans (g80.weak (by simp))
      replace r17 := r17.up g80.f
      replace s44 := g80.f _ _ s44
      replace a45 := a45.up g80.f
      replace r50 := r50.up g80.f
      replace s54 := g80.f _ _ s54
      replace a55 := a55.up g80.f
      subst r81
      refine ⟨_, rfl, ?_⟩
      refine ⟨F78, sc, ra, scr, b77.2, (20 : Int), rfl, eF78, w83, (post_bd k56).mono (fun b84 k56 v89 F85 H86 g87 ⟨r88, w90⟩ => ?_) (fun _ z => z)⟩
      have eF85 := g87.s
      have gF85 := gF78.trans (g87.weak (by simp))
      replace r17 := r17.up g87.f
      replace s44 := g87.f _ _ s44
      replace a45 := a45.up g87.f
      replace r50 := r50.up g87.f
      replace s54 := g87.f _ _ s54
      replace a55 := a55.up g87.f
      subst r88
      show _ ∧ _
      refine new_lst (K := K) (M := []) eF85 (.cons (Dq.int (0 : Int)) (.cons (Dq.int b77.1) (.cons (Dq.int b84.1) .nil))) (by show 3 ≤ 100000; decide) fun v95 F91 H92 g93 r94 => ?_
      have eF91 := g93.s
      have gF91 := gF85.trans (g93.weak (by simp))
      replace r17 := r17.up g93.f
      replace s44 := g93.f _ _ s44
      replace a45 := a45.up g93.f
      replace r50 := r50.up g93.f
      replace s54 := g93.f _ _ s54
      replace a55 := a55.up g93.f
      replace w90 := w90.keep g93
      replace r94 : Dq K F91 v95 ((eL PyData.int) [(0 : Int), b77.1, b84.1]) := r94
      refine ⟨F91, sc, ra, scr, b84.2, _, PyData.int, _, [(0 : Int), b77.1, b84.1], rfl, eF91, w90, r94, (post_bd k56).mono (fun b96 k56 v101 F97 H98 g99 ⟨r100, w102⟩ => ?_) (fun _ z => z)⟩
      have eF97 := g99.s
      have gF97 := gF91.trans (g99.weak (by simp))
      replace r17 := r17.up g99.f
      replace s44 := g99.f _ _ s44
      replace a45 := a45.up g99.f
      replace r50 := r50.up g99.f
      replace s54 := g99.f _ _ s54
      replace a55 := a55.up g99.f
      replace r94 := r94.up g99.f
      obtain rfl := dp_int r100
      refine ⟨_, _, rfl, rfl, ?_⟩
      show _ ∧ _
      refine new_tup (K := K) (M := []) eF97 (.cons (Dq.int x58) (.cons (Dq.int ((1 : Int) + b96.1)) .nil)) (by show 2 ≤ 100000; decide) fun v107 F103 H104 g105 r106 => ?_
      have eF103 := g105.s
      have gF103 := gF97.trans (g105.weak (by simp))
      replace r17 := r17.up g105.f
      replace s44 := g105.f _ _ s44
      replace a45 := a45.up g105.f
      replace r50 := r50.up g105.f
      replace s54 := g105.f _ _ s54
      replace a55 := a55.up g105.f
      replace r94 := r94.up g105.f
      replace w102 := w102.keep g105
      replace r106 : Dq K F103 v107 ((e2 PyData.int PyData.int) (x58, ((1 : Int) + b96.1))) := r106
      exact k56.h _ _ _ gF103 ⟨r106, w102⟩
    have eF60 := g62.s
    have gF60 := gF47.trans (g62.weak (by simp))
    replace r17 := r17.up g62.f
    replace s44 := g62.f _ _ s44
    replace a45 := a45.up g62.f
    replace r50 := r50.up g62.f
    replace s54 := g62.f _ _ s54
    replace a55 := a55.up g62.f
    obtain ⟨p109, xs110, rfl, s111, a112⟩ := dp_lst r63
    refine to_VL (K := K) (M := []) eF60 s111 a112 (en := (e2 PyData.int PyData.int)) (l := b57.1) fun v117 F113 H114 g115 r116 => ?_
    have eF113 := g115.s
    have gF113 := gF60.trans (g115.weak (by simp))
    replace r17 := r17.up g115.f
    replace s44 := g115.f _ _ s44
    replace a45 := a45.up g115.f
    replace r50 := r50.up g115.f
    replace s54 := g115.f _ _ s54
    replace a55 := a55.up g115.f
    replace w64 := w64.keep g115
    replace r63 := r63.up g115.f
    replace s111 := g115.f _ _ s111
    replace a112 := a112.up g115.f
    exact k.h _ _ _ gF113 ⟨r116, w64⟩
/-! ### _law_stretches -/
abbrev s_law_stretches : Stmt := top 27
theorem sc_law_stretches : FnScope ["_law_row", "_law_most", "_law_far", "_law_found", "_law_low", "_law_k", "_law_high"] ["_law_row", "_law_most", "_law_far"] (defScope s_law_stretches) := ⟨rfl, rfl, rfl, by decide +kernel, rfl, by decide +kernel, by decide +kernel⟩
def law_stretches (scr : List Int) (st : Rw) (law_most : Int) (law_far : Int) : Mm ((List (Int × Int × Int)) × Rw) := (takenA scr st ((law_most + (1 : Int)))).bd fun b8 => (rangeM b8.1).bd fun l16 => (foldM (fun (b17 : (Int × (List (Int × Int × Int)) × Rw)) (x18 : Int) => (takenA scr b17.2.2 (law_far)).bd fun b41 => (takenA scr b41.2 (law_far)).bd fun b48 => cond (decide ((((b17.1 + b41.1) + (1 : Int)) + b48.1) ≤ law_far)) ((takenA scr b48.2 ((4 : Int))).bd fun b55 => (guardM (b17.2.1.length < 100000)).bd fun _ => Mm.ok ((((b17.1 + b41.1) + (1 : Int)) + b48.1), (b17.2.1 ++ [((b17.1 + b41.1), (((b17.1 + b41.1) + (1 : Int)) + b48.1), ((1 : Int) + b55.1))]), b55.2)) (Mm.ok ((b17.1 + b41.1), b17.2.1, b48.2))) (((0 : Int) - law_far), [], b8.2) (rangeL 0 b8.1.toNat)).bd fun b34 => Mm.ok (b34.2.1, b34.2.2)
def sp_law_stretches (K : PySem.W.Frag) : Sp := fun vs H Q E => ∃ (F : Hp) (sc ra : Addr) (scr : List Int) (st : Rw) (law_most : Int) (law_far : Int), vs = [.ref ra, (V.int law_most), (V.int law_far)] ∧ Ex F H ∧ RowAt K sc ra scr F H st ∧ Post (law_stretches scr st law_most law_far) (fun r => Ret [ra] F H (fun F' H' v => Dq K F' v ((eV (e3 PyData.int PyData.int PyData.int)) r.1) ∧ RowAt K sc ra scr F' H' r.2) Q) (fun _ => False)
theorem ok_law_stretches {P : Program} {w : World} {K : PySem.W.Frag} {mg : Str → Option Value} {base : Heap} {C f : Addr} {fd : FuncData} (B : Bi mg) (FF : FunD K "_law_stretches" "_law_stretches" (defArgs s_law_stretches) (defBody s_law_stretches) (defScope s_law_stretches) [] [] f fd) (G_law_taken : Kn P w K mg base "_law_taken" 1 ["_law_row", "_law_many"] (spTaken takenA K)) : FnOk P w K mg base CX0 2 f fd ["_law_row", "_law_most", "_law_far"] (sp_law_stretches K) := by
  refine FF.ok sc_law_stretches (fun vs H Q E h => ?_) (fun cdv A outer s H vs Q E hr h => ?_)
  · obtain ⟨F, sc, ra, scr, st, law_most, law_far, rfl, _⟩ := h; rfl
  · obtain ⟨F, sc, ra, scr, st, law_most, law_far, rfl, e, w, k⟩ := h
    unfold law_stretches at k
    have g_ := Gm.refl (M := [ra]) e
    refine ⟨_, PSs.nox (pss_cons (ps_par (i := 3) (j := 4) (by rfl) sc_law_stretches.nd rfl rfl (by decide) rfl rfl (pa_cons (pe_q (pe_lst (pa_nil))) (pa_cons (pe_op op_sub (pe_int) (pv 2)) (pa_nil))) (by rfl)) (pss_cons (ps_for PassesOwn.never rfl (pi_range1 rfl B.range (pa_cons (pe_kn G_law_taken (hr.mono (by decide)) (pa_cons (pv 0) (pa_cons (pe_op op_add (pv 1) (pe_int)) (pa_nil)))) (pa_nil))) (pg_name (i := 5) sc_law_stretches.nd rfl (Or.inl rfl)) (pss_cons (ps_set (i := 4) sc_law_stretches.nd rfl (Or.inl rfl) (pe_op op_add (pv 4) (pe_kn G_law_taken (hr.mono (by decide)) (pa_cons (pv 0) (pa_cons (pv 2) (pa_nil)))))) (pss_cons (ps_set (i := 6) sc_law_stretches.nd rfl (Or.inl rfl) (pe_op op_add (pe_op op_add (pv 4) (pe_int)) (pe_kn G_law_taken (hr.mono (by decide)) (pa_cons (pv 0) (pa_cons (pv 2) (pa_nil)))))) (pss_one (ps_if (pt_cmpR op_le (pv 6) (pv 2) (nomark _)) (pss_cons (ps_expr (pe_bm PySem.F.plainAttrs_list PySem.F.slot_list_append PySem.F.type_list_append mt_append (pv 3) (pa_cons (pe_q (pe_tup (pa_cons (pv 4) (pa_cons (pv 6) (pa_cons (pe_op op_add (pe_int) (pe_kn G_law_taken (hr.mono (by decide)) (pa_cons (pv 0) (pa_cons (pe_int) (pa_nil))))) (pa_nil)))))) pa_nil))) (pss_one (ps_set (i := 4) sc_law_stretches.nd rfl (Or.inl rfl) (pv 6)))) (pss_nil)))))) (pss_one (ps_ret (pe_q (pe_callTy call_tuple_of (by rfl) B.tuple (by decide +kernel) (pa_cons (pv 3) pa_nil))))))), ?_⟩
    show _ ∧ _
    refine new_own (K := K) e .nil (by show 0 ≤ 100000; decide) fun p1 H2 g3 y4 o5 => ?_
    have a6 : DqAll K F [] (List.map (e3 PyData.int PyData.int PyData.int) []) := .nil
    have np1 := ne_of_none w.1 y4
    have mp1 := np1.symm
    have zp1 := g_.fresh y4
    have eH2 := g3.s
    have gH2 := g_.trans (g3.weak (by simp))
    replace w := w.keep g3
    refine ⟨_, rfl, _, _, rfl, rfl, _, _, rfl, ?_⟩
    refine ⟨_, rfl, _, rfl, _, _, rfl, rfl, ?_⟩
    refine ⟨F, sc, ra, scr, st, (law_most + (1 : Int)), rfl, eH2, w, (post_bd k).mono (fun b8 k v13 F9 H10 g11 ⟨r12, w14⟩ => ?_) (fun _ z => z)⟩
    have eF9 := g11.s
    have gF9 := gH2.trans (g11.weak (by simp))
    replace o5 := g11.own (by simp [*]) o5.1 o5.2
    replace a6 := a6.up g11.f
    subst r12
    obtain ⟨h15, k⟩ := post_range k
    refine ⟨_, rfl, h15.1, h15.2, ?_⟩
    refine for_m (M := [p1, ra]) (F := F9) wlk_range (fun b17 F' H' σ' => ∃ (u5 : Option V) (u6 : Option V) (xs3 : List V), σ' = [some (V.ref ra), some (V.int law_most), some (V.int law_far), some (V.ref p1), some (V.int b17.1), u5, u6] ∧ (H' p1 = some (.lst xs3) ∧ F' p1 = none) ∧ DqAll K F' xs3 (List.map (e3 PyData.int PyData.int PyData.int) b17.2.1) ∧ RowAt K sc ra scr F' H' b17.2.2) k eF9 ⟨_, _, _, rfl, o5, a6, w14⟩ (fun b17 x18 v26 σ28 F19 H20 F21 H22 g23 i27 g24 r25 nx kfb17 => ?_) (fun b34 σ33 F29 H30 g31 i32 k => ?_)
    · obtain ⟨u35, u36, xs37, rfl, o38, a39, w40⟩ := i27
      replace o38 := g24.own (by simp [*]) o38.1 o38.2
      replace a39 := a39.up g24.f
      replace w40 := w40.keep g24
      have eF21 := g24.s
      have gF21 := g23.trans (g24.weak (by simp))
      subst r25
      refine ⟨_, rfl, _, rfl, _, rfl, ?_⟩
      refine ⟨F21, sc, ra, scr, b17.2.2, law_far, rfl, eF21, w40, (post_bd kfb17).mono (fun b41 kfb17 v46 F42 H43 g44 ⟨r45, w47⟩ => ?_) (fun _ z => z)⟩
      have eF42 := g44.s
      have gF42 := gF21.trans (g44.weak (by simp))
      replace o38 := g44.own (by simp [*]) o38.1 o38.2
      replace a39 := a39.up g44.f
      subst r45
      refine ⟨_, _, rfl, rfl, ?_⟩
      refine ⟨_, rfl, _, _, rfl, rfl, _, rfl, _, rfl, ?_⟩
      refine ⟨F42, sc, ra, scr, b41.2, law_far, rfl, eF42, w47, (post_bd kfb17).mono (fun b48 kfb17 v53 F49 H50 g51 ⟨r52, w54⟩ => ?_) (fun _ z => z)⟩
      have eF49 := g51.s
      have gF49 := gF42.trans (g51.weak (by simp))
      replace o38 := g51.own (by simp [*]) o38.1 o38.2
      replace a39 := a39.up g51.f
      subst r52
      refine ⟨_, _, rfl, rfl, ?_⟩
      refine ⟨_, rfl, _, rfl, _, _, rfl, rfl, _, rfl, ?_⟩
      refine cs kfb17 (fun _ kfb17 => ?_) (fun _ kfb17 => ?_)
      · refine ⟨_, rfl, .inl ⟨rfl, _, sq_of o38.1⟩, _, rfl, _, rfl, _, rfl, ?_⟩
        refine ⟨F49, sc, ra, scr, b48.2, (4 : Int), rfl, eF49, w54, (post_bd kfb17).mono (fun b55 kfb17 v60 F56 H57 g58 ⟨r59, w61⟩ => ?_) (fun _ z => z)⟩
        have eF56 := g58.s
        have gF56 := gF49.trans (g58.weak (by simp))
        replace o38 := g58.own (by simp [*]) o38.1 o38.2
        replace a39 := a39.up g58.f
        subst r59
        refine ⟨_, _, rfl, rfl, ?_⟩
        show _ ∧ _
        refine new_tup (K := K) (M := []) eF56 (.cons (Dq.int (b17.1 + b41.1)) (.cons (Dq.int (((b17.1 + b41.1) + (1 : Int)) + b48.1)) (.cons (Dq.int ((1 : Int) + b55.1)) .nil))) (by show 3 ≤ 100000; decide) fun v66 F62 H63 g64 r65 => ?_
        have eF62 := g64.s
        have gF62 := gF56.trans (g64.weak (by simp))
        replace o38 := g64.own (by simp [*]) o38.1 o38.2
        replace a39 := a39.up g64.f
        replace w61 := w61.keep g64
        replace r65 : Dq K F62 v66 ((e3 PyData.int PyData.int PyData.int) ((b17.1 + b41.1), (((b17.1 + b41.1) + (1 : Int)) + b48.1), ((1 : Int) + b55.1))) := r65
        obtain ⟨h67, kfb17⟩ := post_guard kfb17
        refine ⟨_, _, _, rfl, rfl, o38.1, own_sz a39 h67, ?_⟩
        have g68 := gF62.putOr (o := .lst (xs37 ++ [v66])) (.inl (by simp)) o38.1 o38.2
        replace w61 := w61.put np1 (o := .lst (xs37 ++ [v66]))
        replace o38 : (upd H63 p1 (.lst (xs37 ++ [v66]))) p1 = some (.lst (xs37 ++ [v66])) ∧ F62 p1 = none := ⟨upd_same, o38.2⟩
        replace a39 : DqAll K F62 (xs37 ++ [v66]) (List.map (e3 PyData.int PyData.int PyData.int) (b17.2.1 ++ [((b17.1 + b41.1), (((b17.1 + b41.1) + (1 : Int)) + b48.1), ((1 : Int) + b55.1))])) := by rw [List.map_append]; exact a39.app (.cons r65 .nil)
        have e69 := g68.s
        refine ⟨_, rfl, ?_⟩
        exact kfb17.h _ _ _ g68 ⟨_, _, _, rfl, o38, a39, w61⟩
      · exact kfb17.h _ _ _ gF49 ⟨_, _, _, rfl, o38, a39, w54⟩
    have hy71 : ∀ q ∈ [p1], q ∈ [ra] ∨ H q = none := by intro q hq; simp only [List.mem_cons, List.not_mem_nil, or_false] at hq; rcases hq with rfl; exact (.inr zp1)
    have g70 := Gm.outs [p1] hy71 gF9 (g31.weak (by simp))
    have eF29 := g31.s
    obtain ⟨u72, u73, xs74, rfl, o75, a76, w77⟩ := i32
    refine ⟨_, rfl, ?_⟩
    refine to_VO (K := K) (M := []) eF29 o75.1 a76 (en := (e3 PyData.int PyData.int PyData.int)) (l := b34.2.1) fun v82 F78 H79 g80 r81 => ?_
    have eF78 := g80.s
    have gF78 := g70.trans (g80.weak (by simp))
    replace o75 := g80.own (by simp [*]) o75.1 o75.2
    replace a76 := a76.up g80.f
    replace w77 := w77.keep g80
    exact k.h _ _ _ gF78 ⟨r81, w77⟩
/-! ### _law_weighting -/
abbrev s_law_weighting : Stmt := top 28
theorem sc_law_weighting : FnScope ["_law_parts"] ["_law_parts"] (defScope s_law_weighting) := ⟨rfl, rfl, rfl, by decide +kernel, rfl, by decide +kernel, by decide +kernel⟩
def law_weighting (law_parts : ((List (Int × Int)) × (List (Int × Int × Int)))) : Mm Wt := (Weighting_init law_parts.1 law_parts.2).bd fun b7 => Mm.ok b7
def sp_law_weighting (K : PySem.W.Frag) (C : Addr) : Sp := fun vs H Q E => ∃ (F : Hp) (v_law_parts : V) (law_parts : ((List (Int × Int)) × (List (Int × Int × Int)))), vs = [v_law_parts] ∧ Ex F H ∧ Dq K F v_law_parts ((e2 (eV (e2 PyData.int PyData.int)) (eV (e3 PyData.int PyData.int PyData.int))) law_parts) ∧ Post (law_weighting law_parts) (fun r => Ret [] F H (fun F' _ v => IsW K C F' v r) Q) (fun _ => False)
theorem ok_law_weighting {P : Program} {w : World} {K : PySem.W.Frag} {mg : Str → Option Value} {base : Heap} {C f : Addr} {fd : FuncData} (B : Bi mg) (FF : FunD K "_law_weighting" "_law_weighting" (defArgs s_law_weighting) (defBody s_law_weighting) (defScope s_law_weighting) [] [] f fd) (GC_Weighting : KnC P w K mg base (L2.CX P w) "Weighting" C 4 ["self", "masses", "stretches"] (spWX Weighting_init_xm K C)) : FnOk P w K mg base CX0 6 f fd ["_law_parts"] (sp_law_weighting K C) := by
  refine FF.ok sc_law_weighting (fun vs H Q E h => ?_) (fun cdv A outer s H vs Q E hr h => ?_)
  · obtain ⟨F, v_law_parts, law_parts, rfl, _⟩ := h; rfl
  · obtain ⟨F, v_law_parts, law_parts, rfl, e, r_law_parts, k⟩ := h
    unfold law_weighting at k
    have g_ := Gm.refl (M := []) e
    refine ⟨_, PSs.nox (pss_one (ps_ret (pe_q (pe_knC GC_Weighting (hr.mono (by decide)) (passes_call takes_none5 (fun _ _ _ _ h => h)) (pa_cons (pe_ix (r := rIxT K) ix_tup (pv 0) (pe_int) (fun _ _ => rfl)) (pa_cons (pe_ix (r := rIxT K) ix_tup (pv 0) (pe_int) (fun _ _ => rfl)) pa_nil)))))), ?_⟩
    refine ⟨_, rfl, ?_⟩
    obtain ⟨p1, x2, x3, rfl, s4, d5, d6⟩ := dp_tup2 r_law_parts
    refine ⟨_, _, _, _, rfl, rfl, ex_t e s4, rfl, _, rfl, ?_⟩
    refine ⟨_, _, _, _, rfl, rfl, ex_t e s4, rfl, ?_⟩
    refine make_WX e d5 d6 ((post_le (le_Weighting_init _ _) k).mono (fun b7 k v12 F8 H9 g10 r11 => ?_) (fun _ z => z.elim))
    have eF8 := g10.s
    have gF8 := g_.trans (g10.weak (by simp))
    replace r_law_parts := r_law_parts.up g10.f
    replace s4 := ex_t g10.f s4
    replace d5 := d5.up g10.f
    replace d6 := d6.up g10.f
    exact k.h _ _ _ gF8 r11
/-! ### _law_bad_mass -/
abbrev s_law_bad_mass : Stmt := top 30
theorem sc_law_bad_mass : FnScope ["_law_masses_here", "_law_k", "_law_place", "_law_mass"] ["_law_masses_here"] (defScope s_law_bad_mass) := ⟨rfl, rfl, rfl, by decide +kernel, rfl, by decide +kernel, by decide +kernel⟩
def law_bad_mass (law_masses_here : (List (Int × Int))) : Mm (Option Int) := (rangeM (law_masses_here.length : Int)).bd fun l6 => (foldL (R := (Option Int)) (fun (b7 : Unit) (x8 : Int) => (getM law_masses_here x8).bd fun i28 => (cond (decide (x8 = (6 : Int))) (Mm.ok true) ((cond (!((decide ((-(20 : Int)) ≤ i28.1)) && (decide (i28.1 ≤ (20 : Int))))) (Mm.ok true) ((cond (!((decide ((1 : Int) ≤ i28.2)) && (decide (i28.2 ≤ (20 : Int))))) (Mm.ok true) ((cond (decide (x8 > (0 : Int))) ((getM law_masses_here (x8 - (1 : Int))).bd fun i55 => Mm.ok (decide (i28.1 ≤ i55.1))) (Mm.ok false)).bd fun b51 => Mm.ok b51)).bd fun b47 => Mm.ok b47)).bd fun b43 => Mm.ok b43)).bd fun b39 => cond b39 (Mm.ok (Fl.ret (some x8))) (Mm.ok (Fl.go ()))) () (rangeL 0 (law_masses_here.length : Int).toNat)).bd fun o => o.el (fun b24 => Mm.ok none) (fun r => Mm.ok r)
def sp_law_bad_mass (K : PySem.W.Frag) : Sp := fun vs H Q E => ∃ (F : Hp) (v_law_masses_here : V) (law_masses_here : (List (Int × Int))), vs = [v_law_masses_here] ∧ Ex F H ∧ Dq K F v_law_masses_here ((eV (e2 PyData.int PyData.int)) law_masses_here) ∧ Post (law_bad_mass law_masses_here) (fun r => Ret [] F H (fun F' _ v => Dq K F' v ((eO PyData.int) r)) Q) (fun _ => False)
theorem ok_law_bad_mass {P : Program} {w : World} {K : PySem.W.Frag} {mg : Str → Option Value} {base : Heap} {C f : Addr} {fd : FuncData} (B : Bi mg) (FF : FunD K "_law_bad_mass" "_law_bad_mass" (defArgs s_law_bad_mass) (defBody s_law_bad_mass) (defScope s_law_bad_mass) [] [] f fd) : FnOk P w K mg base CX0 1 f fd ["_law_masses_here"] (sp_law_bad_mass K) := by
  refine FF.ok sc_law_bad_mass (fun vs H Q E h => ?_) (fun cdv A outer s H vs Q E hr h => ?_)
  · obtain ⟨F, v_law_masses_here, law_masses_here, rfl, _⟩ := h; rfl
  · obtain ⟨F, v_law_masses_here, law_masses_here, rfl, e, r_law_masses_here, k⟩ := h
    unfold law_bad_mass at k
    have g_ := Gm.refl (M := []) e
    refine ⟨_, PSs.nox (pss_cons (ps_for PassesOwn.never rfl (pi_range1 rfl B.range (pa_cons (pe_callB call_lenM (by rfl) B.len (by decide +kernel) (pa_cons (pv 0) pa_nil)) (pa_nil))) (pg_name (i := 1) sc_law_bad_mass.nd rfl (Or.inl rfl)) (pss_cons (ps_asg (pe_ix (r := rIxT K) ix_tup (pv 0) (pv 1) (fun _ _ => rfl)) (pg_tup (by rfl) (pgs_cons (pg_name (i := 2) sc_law_bad_mass.nd rfl (Or.inl rfl)) (pgs_cons (pg_name (i := 3) sc_law_bad_mass.nd rfl (Or.inl rfl)) (pgs_nil))))) (pss_one (ps_if (PW.pt (pw_or (pt_cmpR op_eq (pv 1) (pe_int) (nomark _)) (pw_or (pt_not (pt_chain op_le op_le (pe_un un_neg (pe_int)) (pv 2) (pe_int))) (pw_or (pt_not (pt_chain op_le op_le (pe_int) (pv 3) (pe_int))) (pw_or1 (PW.pt (pw_and (pt_cmpR op_gt (pv 1) (pe_int) (nomark _)) (pw_and1 (pt_cmpR op_le (pv 2) (pe_ix (r := rIxT K) ix_tup (pe_ix (r := rIxT K) ix_tup (pv 0) (pe_op op_sub (pv 1) (pe_int)) (fun _ _ => rfl)) (pe_int) (fun _ _ => rfl)) (nomark _)))))))))) (pss_one (ps_ret (pv 1))) pss_nil)))) (pss_one (ps_ret (pe_non)))), ?_⟩
    refine ⟨_, rfl, ?_⟩
    obtain ⟨p1, xs2, rfl, s3, a4⟩ := dp_tup r_law_masses_here
    refine ⟨_, _, _, rfl, .inr (ex_t e s3), len_all a4, ?_⟩
    obtain ⟨h5, k⟩ := post_range k
    refine ⟨_, rfl, h5.1, h5.2, ?_⟩
    refine for_mL (M := []) (F := F) wlk_range (fun b7 F' H' σ' => ∃ (u1 : Option V) (u2 : Option V) (u3 : Option V), σ' = [some (V.ref p1), u1, u2, u3]) k e ⟨_, _, _, rfl⟩ (fun b7 x8 v16 σ18 F9 H10 F11 H12 g13 i17 g14 r15 nx kfb7 => ?_) (fun b24 σ23 F19 H20 g21 i22 k => ?_)
    · replace r_law_masses_here := r_law_masses_here.up g13.f
      replace s3 := ex_t g13.f s3
      replace a4 := a4.up g13.f
      obtain ⟨u25, u26, u27, rfl⟩ := i17
      replace r_law_masses_here := r_law_masses_here.up g14.f
      replace s3 := ex_t g14.f s3
      replace a4 := a4.up g14.f
      have eF11 := g14.s
      have gF11 := g13.trans (g14.weak (by simp))
      subst r15
      refine ⟨_, rfl, _, rfl, ?_⟩
      obtain ⟨i28, h29, kfb7⟩ := post_get kfb7
      obtain ⟨v30, h31, r32⟩ := dq_at a4 h29
      refine ⟨_, _, _, _, rfl, rfl, (ex_t eF11 s3), h31, ?_⟩
      obtain ⟨p33, x34, x35, rfl, s36, d37, d38⟩ := dp_tup2 r32
      obtain rfl := dp_int d37
      obtain rfl := dp_int d38
      refine ⟨_, _, rfl, ex_t eF11 s36, rfl, _, _, rfl, _, _, rfl, rfl, ?_⟩
      refine ⟨_, rfl, rfl, ?_⟩
      rw [decV_int]
      refine ⟨_, rfl, ?_⟩
      refine or_jM (M := []) eF11 kfb7 (fun _ Q' kfb7tb39 => ?_) (fun b39 F40 H41 g42 kfb7 => ?_)
      · have gF11_ := Gm.refl (M := []) eF11
        refine ⟨_, rfl, _, rfl, _, _, rfl, rfl, _, rfl, ?_⟩
        refine chain_j (b := (decide (i28.1 ≤ (20 : Int)))) (fun _ Q' q => ?_) ?_
        · refine ⟨_, _, rfl, rfl, ?_⟩
          exact q
        refine ⟨_, rfl, ?_⟩
        refine or_jM (M := []) eF11 kfb7tb39 (fun _ Q' kfb7tb39tb43 => ?_) (fun b43 F44 H45 g46 kfb7tb39 => ?_)
        · have gF11_ := Gm.refl (M := []) eF11
          refine ⟨_, rfl, _, _, rfl, rfl, _, rfl, ?_⟩
          refine chain_j (b := (decide (i28.2 ≤ (20 : Int)))) (fun _ Q' q => ?_) ?_
          · refine ⟨_, _, rfl, rfl, ?_⟩
            exact q
          refine ⟨_, rfl, ?_⟩
          refine or_jM (M := []) eF11 kfb7tb39tb43 (fun _ Q' kfb7tb39tb43tb47 => ?_) (fun b47 F48 H49 g50 kfb7tb39tb43 => ?_)
          · have gF11_ := Gm.refl (M := []) eF11
            refine ⟨_, rfl, _, _, rfl, rfl, _, rfl, ?_⟩
            refine and_jM (M := []) eF11 kfb7tb39tb43tb47 (fun _ Q' kfb7tb39tb43tb47tb51 => ?_) (fun b51 F52 H53 g54 kfb7tb39tb43tb47 => ?_)
            · have gF11_ := Gm.refl (M := []) eF11
              refine ⟨_, rfl, _, rfl, _, rfl, _, _, rfl, rfl, ?_⟩
              obtain ⟨i55, h56, kfb7tb39tb43tb47tb51⟩ := post_get kfb7tb39tb43tb47tb51
              obtain ⟨v57, h58, r59⟩ := dq_at a4 h56
              refine ⟨_, _, _, _, rfl, rfl, (ex_t eF11 s3), h58, ?_⟩
              obtain ⟨p60, x61, x62, rfl, s63, d64, d65⟩ := dp_tup2 r59
              obtain rfl := dp_int d64
              obtain rfl := dp_int d65
              refine ⟨_, _, _, _, rfl, rfl, ex_t eF11 s63, rfl, _, _, rfl, rfl, _, rfl, ?_⟩
              exact kfb7tb39tb43tb47tb51.h _ _ gF11_
            have eF52 := g54.s
            have gF52 := gF11_.trans (g54.weak (by simp))
            replace r_law_masses_here := r_law_masses_here.up g54.f
            replace s3 := ex_t g54.f s3
            replace a4 := a4.up g54.f
            replace r32 := r32.up g54.f
            replace s36 := ex_t g54.f s36
            exact kfb7tb39tb43tb47.h _ _ gF52
          have eF48 := g50.s
          have gF48 := gF11_.trans (g50.weak (by simp))
          replace r_law_masses_here := r_law_masses_here.up g50.f
          replace s3 := ex_t g50.f s3
          replace a4 := a4.up g50.f
          replace r32 := r32.up g50.f
          replace s36 := ex_t g50.f s36
          exact kfb7tb39tb43.h _ _ gF48
        have eF44 := g46.s
        have gF44 := gF11_.trans (g46.weak (by simp))
        replace r_law_masses_here := r_law_masses_here.up g46.f
        replace s3 := ex_t g46.f s3
        replace a4 := a4.up g46.f
        replace r32 := r32.up g46.f
        replace s36 := ex_t g46.f s36
        exact kfb7tb39.h _ _ gF44
      have eF40 := g42.s
      have gF40 := gF11.trans (g42.weak (by simp))
      replace r_law_masses_here := r_law_masses_here.up g42.f
      replace s3 := ex_t g42.f s3
      replace a4 := a4.up g42.f
      replace r32 := r32.up g42.f
      replace s36 := ex_t g42.f s36
      refine cs kfb7 (fun _ kfb7 => ?_) (fun _ kfb7 => ?_)
      · refine ⟨_, rfl, ?_⟩
        exact (show Post (Mm.ok _) _ _ from kfb7.h).h _ _ _ (g_.trans gF40) (Dq.int x8)
      · exact kfb7.h _ _ _ gF40 ⟨_, _, _, rfl⟩
    have g66 := g_.trans (g21.weak (by simp))
    replace r_law_masses_here := r_law_masses_here.up g21.f
    replace s3 := ex_t g21.f s3
    replace a4 := a4.up g21.f
    have eF19 := g21.s
    obtain ⟨u67, u68, u69, rfl⟩ := i22
    exact k.h _ _ _ g66 Dq.non
/-! ### _law_bad_stretch -/
abbrev s_law_bad_stretch : Stmt := top 31
theorem sc_law_bad_stretch : FnScope ["_law_stretches_here", "_law_k", "_law_low", "_law_high", "_law_height"] ["_law_stretches_here"] (defScope s_law_bad_stretch) := ⟨rfl, rfl, rfl, by decide +kernel, rfl, by decide +kernel, by decide +kernel⟩
def law_bad_stretch (law_stretches_here : (List (Int × Int × Int))) : Mm (Option Int) := (rangeM (law_stretches_here.length : Int)).bd fun l6 => (foldL (R := (Option Int)) (fun (b7 : Unit) (x8 : Int) => (getM law_stretches_here x8).bd fun i29 => cond ((decide (x8 = (4 : Int))) || ((decide (i29.1 < (-(20 : Int)))) || ((decide (i29.2.1 > (20 : Int))) || ((decide (i29.2.1 ≤ i29.1)) || (!((decide ((1 : Int) ≤ i29.2.2)) && (decide (i29.2.2 ≤ (20 : Int))))))))) (Mm.ok (Fl.ret (some x8))) ((cond (decide (x8 > (0 : Int))) ((getM law_stretches_here (x8 - (1 : Int))).bd fun i46 => Mm.ok (decide (i29.1 < i46.2.1))) (Mm.ok false)).bd fun b42 => cond b42 (Mm.ok (Fl.ret (some x8))) (Mm.ok (Fl.go ())))) () (rangeL 0 (law_stretches_here.length : Int).toNat)).bd fun o => o.el (fun b24 => Mm.ok none) (fun r => Mm.ok r)
def sp_law_bad_stretch (K : PySem.W.Frag) : Sp := fun vs H Q E => ∃ (F : Hp) (v_law_stretches_here : V) (law_stretches_here : (List (Int × Int × Int))), vs = [v_law_stretches_here] ∧ Ex F H ∧ Dq K F v_law_stretches_here ((eV (e3 PyData.int PyData.int PyData.int)) law_stretches_here) ∧ Post (law_bad_stretch law_stretches_here) (fun r => Ret [] F H (fun F' _ v => Dq K F' v ((eO PyData.int) r)) Q) (fun _ => False)
theorem ok_law_bad_stretch {P : Program} {w : World} {K : PySem.W.Frag} {mg : Str → Option Value} {base : Heap} {C f : Addr} {fd : FuncData} (B : Bi mg) (FF : FunD K "_law_bad_stretch" "_law_bad_stretch" (defArgs s_law_bad_stretch) (defBody s_law_bad_stretch) (defScope s_law_bad_stretch) [] [] f fd) : FnOk P w K mg base CX0 1 f fd ["_law_stretches_here"] (sp_law_bad_stretch K) := by
  refine FF.ok sc_law_bad_stretch (fun vs H Q E h => ?_) (fun cdv A outer s H vs Q E hr h => ?_)
  · obtain ⟨F, v_law_stretches_here, law_stretches_here, rfl, _⟩ := h; rfl
  · obtain ⟨F, v_law_stretches_here, law_stretches_here, rfl, e, r_law_stretches_here, k⟩ := h
    unfold law_bad_stretch at k
    have g_ := Gm.refl (M := []) e
    refine ⟨_, PSs.nox (pss_cons (ps_for PassesOwn.never rfl (pi_range1 rfl B.range (pa_cons (pe_callB call_lenM (by rfl) B.len (by decide +kernel) (pa_cons (pv 0) pa_nil)) (pa_nil))) (pg_name (i := 1) sc_law_bad_stretch.nd rfl (Or.inl rfl)) (pss_cons (ps_asg (pe_ix (r := rIxT K) ix_tup (pv 0) (pv 1) (fun _ _ => rfl)) (pg_tup (by rfl) (pgs_cons (pg_name (i := 2) sc_law_bad_stretch.nd rfl (Or.inl rfl)) (pgs_cons (pg_name (i := 3) sc_law_bad_stretch.nd rfl (Or.inl rfl)) (pgs_cons (pg_name (i := 4) sc_law_bad_stretch.nd rfl (Or.inl rfl)) (pgs_nil)))))) (pss_cons (ps_if (PW.pt (pw_or (pt_cmpR op_eq (pv 1) (pe_int) (nomark _)) (pw_or (pt_cmpR op_lt (pv 2) (pe_un un_neg (pe_int)) (nomark _)) (pw_or (pt_cmpR op_gt (pv 3) (pe_int) (nomark _)) (pw_or (pt_cmpR op_le (pv 3) (pv 2) (nomark _)) (pw_or1 (pt_not (pt_chain op_le op_le (pe_int) (pv 4) (pe_int))))))))) (pss_one (ps_ret (pv 1))) pss_nil) (pss_one (ps_if (PW.pt (pw_and (pt_cmpR op_gt (pv 1) (pe_int) (nomark _)) (pw_and1 (pt_cmpR op_lt (pv 2) (pe_ix (r := rIxT K) ix_tup (pe_ix (r := rIxT K) ix_tup (pv 0) (pe_op op_sub (pv 1) (pe_int)) (fun _ _ => rfl)) (pe_int) (fun _ _ => rfl)) (nomark _))))) (pss_one (ps_ret (pv 1))) pss_nil))))) (pss_one (ps_ret (pe_non)))), ?_⟩
    refine ⟨_, rfl, ?_⟩
    obtain ⟨p1, xs2, rfl, s3, a4⟩ := dp_tup r_law_stretches_here
    refine ⟨_, _, _, rfl, .inr (ex_t e s3), len_all a4, ?_⟩
    obtain ⟨h5, k⟩ := post_range k
    refine ⟨_, rfl, h5.1, h5.2, ?_⟩
    refine for_mL (M := []) (F := F) wlk_range (fun b7 F' H' σ' => ∃ (u1 : Option V) (u2 : Option V) (u3 : Option V) (u4 : Option V), σ' = [some (V.ref p1), u1, u2, u3, u4]) k e ⟨_, _, _, _, rfl⟩ (fun b7 x8 v16 σ18 F9 H10 F11 H12 g13 i17 g14 r15 nx kfb7 => ?_) (fun b24 σ23 F19 H20 g21 i22 k => ?_)
    · replace r_law_stretches_here := r_law_stretches_here.up g13.f
      replace s3 := ex_t g13.f s3
      replace a4 := a4.up g13.f
      obtain ⟨u25, u26, u27, u28, rfl⟩ := i17
      replace r_law_stretches_here := r_law_stretches_here.up g14.f
      replace s3 := ex_t g14.f s3
      replace a4 := a4.up g14.f
      have eF11 := g14.s
      have gF11 := g13.trans (g14.weak (by simp))
      subst r15
      refine ⟨_, rfl, _, rfl, ?_⟩
      obtain ⟨i29, h30, kfb7⟩ := post_get kfb7
      obtain ⟨v31, h32, r33⟩ := dq_at a4 h30
      refine ⟨_, _, _, _, rfl, rfl, (ex_t eF11 s3), h32, ?_⟩
      obtain ⟨p34, x35, x36, x37, rfl, s38, d39, d40, d41⟩ := dp_tup3 r33
      obtain rfl := dp_int d39
      obtain rfl := dp_int d40
      obtain rfl := dp_int d41
      refine ⟨_, _, rfl, ex_t eF11 s38, rfl, _, _, rfl, _, _, rfl, _, _, rfl, rfl, ?_⟩
      refine ⟨_, rfl, rfl, ?_⟩
      rw [decV_int]
      refine ⟨_, rfl, ?_⟩
      refine or_j (b := ((decide (i29.1 < (-(20 : Int)))) || ((decide (i29.2.1 > (20 : Int))) || ((decide (i29.2.1 ≤ i29.1)) || (!((decide ((1 : Int) ≤ i29.2.2)) && (decide (i29.2.2 ≤ (20 : Int))))))))) (fun _ Q' q => ?_) ?_
      · refine ⟨_, rfl, _, rfl, _, _, rfl, rfl, _, rfl, ?_⟩
        refine or_j (b := ((decide (i29.2.1 > (20 : Int))) || ((decide (i29.2.1 ≤ i29.1)) || (!((decide ((1 : Int) ≤ i29.2.2)) && (decide (i29.2.2 ≤ (20 : Int)))))))) (fun _ Q' q => ?_) ?_
        · refine ⟨_, rfl, _, _, rfl, rfl, _, rfl, ?_⟩
          refine or_j (b := ((decide (i29.2.1 ≤ i29.1)) || (!((decide ((1 : Int) ≤ i29.2.2)) && (decide (i29.2.2 ≤ (20 : Int))))))) (fun _ Q' q => ?_) ?_
          · refine ⟨_, rfl, _, rfl, _, _, rfl, rfl, _, rfl, ?_⟩
            refine or_j (b := (!((decide ((1 : Int) ≤ i29.2.2)) && (decide (i29.2.2 ≤ (20 : Int)))))) (fun _ Q' q => ?_) ?_
            · refine ⟨_, rfl, _, _, rfl, rfl, _, rfl, ?_⟩
              refine chain_j (b := (decide (i29.2.2 ≤ (20 : Int)))) (fun _ Q' q => ?_) ?_
              · refine ⟨_, _, rfl, rfl, ?_⟩
                exact q
              refine ⟨_, rfl, ?_⟩
              exact q
            exact q
          exact q
        exact q
      refine cs kfb7 (fun _ kfb7 => ?_) (fun _ kfb7 => ?_)
      · refine ⟨_, rfl, ?_⟩
        exact (show Post (Mm.ok _) _ _ from kfb7.h).h _ _ _ (g_.trans gF11) (Dq.int x8)
      · refine ⟨_, rfl, _, _, rfl, rfl, _, rfl, ?_⟩
        refine and_jM (M := []) eF11 kfb7 (fun _ Q' kfb7tb42 => ?_) (fun b42 F43 H44 g45 kfb7 => ?_)
        · have gF11_ := Gm.refl (M := []) eF11
          refine ⟨_, rfl, _, rfl, _, rfl, _, _, rfl, rfl, ?_⟩
          obtain ⟨i46, h47, kfb7tb42⟩ := post_get kfb7tb42
          obtain ⟨v48, h49, r50⟩ := dq_at a4 h47
          refine ⟨_, _, _, _, rfl, rfl, (ex_t eF11 s3), h49, ?_⟩
          obtain ⟨p51, x52, x53, x54, rfl, s55, d56, d57, d58⟩ := dp_tup3 r50
          obtain rfl := dp_int d56
          obtain rfl := dp_int d57
          obtain rfl := dp_int d58
          refine ⟨_, _, _, _, rfl, rfl, ex_t eF11 s55, rfl, _, _, rfl, rfl, _, rfl, ?_⟩
          exact kfb7tb42.h _ _ gF11_
        have eF43 := g45.s
        have gF43 := gF11.trans (g45.weak (by simp))
        replace r_law_stretches_here := r_law_stretches_here.up g45.f
        replace s3 := ex_t g45.f s3
        replace a4 := a4.up g45.f
        replace r33 := r33.up g45.f
        replace s38 := ex_t g45.f s38
        refine cs kfb7 (fun _ kfb7 => ?_) (fun _ kfb7 => ?_)
        · refine ⟨_, rfl, ?_⟩
          exact (show Post (Mm.ok _) _ _ from kfb7.h).h _ _ _ (g_.trans gF43) (Dq.int x8)
        · exact kfb7.h _ _ _ gF43 ⟨_, _, _, _, rfl⟩
    have g59 := g_.trans (g21.weak (by simp))
    replace r_law_stretches_here := r_law_stretches_here.up g21.f
    replace s3 := ex_t g21.f s3
    replace a4 := a4.up g21.f
    have eF19 := g21.s
    obtain ⟨u60, u61, u62, u63, rfl⟩ := i22
    exact k.h _ _ _ g59 Dq.non
/-! ### _law_raised -/
abbrev s_law_raised : Stmt := top 29
theorem sc_law_raised : FnScope ["_law_work", "e", "_law_kinds", "_law_at", "_law_words"] ["_law_work"] (defScope s_law_raised) := ⟨rfl, rfl, rfl, by decide +kernel, rfl, by decide +kernel, by decide +kernel⟩
theorem gives_law_raised {X : Cx} {g : Addr} {cdg : Value} {q : Str} (B : Bi X.mg) (hVE : X.mg "ValueError" = none) (cx_ReadingError : X.mg "ReadingError" = some (.ref (He.ga X.K "ReadingError"))) (cx_InvalidWeighting : X.mg "InvalidWeighting" = some (.ref (He.ga X.K "InvalidWeighting"))) (cx_InvalidPlaces : X.mg "InvalidPlaces" = some (.ref (He.ga X.K "InvalidPlaces"))) (cx_InvalidWeights : X.mg "InvalidWeights" = some (.ref (He.ga X.K "InvalidWeights"))) (cx_InvalidSums : X.mg "InvalidSums" = some (.ref (He.ga X.K "InvalidSums"))) (cx_InvalidNumber : X.mg "InvalidNumber" = some (.ref (He.ga X.K "InvalidNumber"))) (cx_InvalidPolynomial : X.mg "InvalidPolynomial" = some (.ref (He.ga X.K "InvalidPolynomial"))) (cx_TooFew : X.mg "TooFew" = some (.ref (He.ga X.K "TooFew"))) (cx_InvalidFraction : X.mg "InvalidFraction" = some (.ref (He.ga X.K "InvalidFraction"))) (cx_NoWeighting : X.mg "NoWeighting" = some (.ref (He.ga X.K "NoWeighting"))) (R : RaisedK X.K) :
    LamX.GivesTo X ["_law_work", "e", "_law_kinds", "_law_at", "_law_words"] "_law_raised" (defScope s_law_raised) g cdg (defBody s_law_raised) "_law_work" q (TTr X.K raisedX) := by
  intro f c' s H Q tl act hc h
  refine ⟨_, pss_cons (ps_try_manyA (tb := fun W D σ H => ∃ Ech : XK, (∀ cls d σ' H', Ech cls d H' → W cls d σ' H') ∧ σ[0]? = some (some (.ref f)) ∧ H c' = some (LamX.CodeO c' q) ∧ tl Ech H (fun _ H' => D.nx σ H')) rfl rfl sc_law_raised.nd takes_none5 (fun W pn xe tk _ => (⟨fun pins s' σ H' D I ⟨Ech, hW, h1, h2, h3⟩ => (pss_one (ps_expr (act W pn xe Ech _ _ tk hW))).run pins s' σ H' D I ⟨h1, h2, h3⟩⟩ : PSs _ _ _)) (.cons (i := 1) (ts := fun a cls d => _) ⟨rfl, by decide, .inl cx_ReadingError⟩ rfl rfl (fun a oe cls d pn hz hf => (pss_cons (ps_set (i := 2) sc_law_raised.nd rfl (Or.inl rfl) (pe_q (pe_lst (pa_cons (pe_callB (call_isX hz hf) (by rfl) B.isinstance (by decide +kernel) (pa_cons (pv 1) (pa_cons (pe_gref cx_InvalidWeighting) pa_nil))) (pa_cons (pe_callB (call_isX hz hf) (by rfl) B.isinstance (by decide +kernel) (pa_cons (pv 1) (pa_cons (pe_gref cx_InvalidPlaces) pa_nil))) (pa_cons (pe_callB (call_isX hz hf) (by rfl) B.isinstance (by decide +kernel) (pa_cons (pv 1) (pa_cons (pe_gref cx_InvalidWeights) pa_nil))) pa_nil)))))) (pss_cons (ps_set (i := 2) sc_law_raised.nd rfl (Or.inl rfl) (pe_q (pe_op op_cat (pv 2) (pe_q (pe_lst (pa_cons (pe_callB (call_isX hz hf) (by rfl) B.isinstance (by decide +kernel) (pa_cons (pv 1) (pa_cons (pe_gref cx_InvalidSums) pa_nil))) (pa_cons (pe_callB (call_isX hz hf) (by rfl) B.isinstance (by decide +kernel) (pa_cons (pv 1) (pa_cons (pe_gref cx_InvalidNumber) pa_nil))) (pa_cons (pe_callB (call_isX hz hf) (by rfl) B.isinstance (by decide +kernel) (pa_cons (pv 1) (pa_cons (pe_gref cx_InvalidPolynomial) pa_nil))) pa_nil)))))))) (pss_cons (ps_set (i := 2) sc_law_raised.nd rfl (Or.inl rfl) (pe_q (pe_op op_cat (pv 2) (pe_q (pe_lst (pa_cons (pe_callB (call_isX hz hf) (by rfl) B.isinstance (by decide +kernel) (pa_cons (pv 1) (pa_cons (pe_gref cx_TooFew) pa_nil))) (pa_cons (pe_callB (call_isX hz hf) (by rfl) B.isinstance (by decide +kernel) (pa_cons (pv 1) (pa_cons (pe_gref cx_InvalidFraction) pa_nil))) (pa_cons (pe_callB (call_isX hz hf) (by rfl) B.isinstance (by decide +kernel) (pa_cons (pv 1) (pa_cons (pe_gref cx_NoWeighting) pa_nil))) pa_nil)))))))) (pss_cons (ps_if (PW.pt (pw_or (pt_cmpR op_ne (pe_bmK (K := X.K) (rr := rCount) rfl PySem.F.plainAttrs_list PySem.F.slot_list_count PySem.F.type_list_count (fun _ => mt_count) (pv 2) (pa_cons pe_bl pa_nil)) pe_int (nomark _)) (pw_or1 (pt_not (pt_val (pe_callB (call_isX hz hf) (by rfl) B.isinstance (by decide +kernel) (pa_cons (pv 1) (pa_cons (pe_bltn (v := .ty "ValueError") (u := .type "ValueError") (by rfl) hVE (by decide +kernel) rfl) pa_nil)))))))) (pss_one (ps_ret (pe_q (pe_tup (pa_cons pe_str pa_nil))))) pss_nil) (pss_cons (ps_set (i := 3) sc_law_raised.nd rfl (Or.inl rfl) (pe_bmK (K := X.K) (rr := rIndex) rfl PySem.F.plainAttrs_list PySem.F.slot_list_index PySem.F.type_list_index (fun _ => mt_index) (pv 2) (pa_cons pe_bl pa_nil))) (pss_cons (ps_if (pt_cmpR op_eq (pv 3) pe_int (nomark _)) (pss_one (ps_ret (pe_q (pe_tup (pa_cons pe_str (pa_cons (pe_xfG hz hf (pv 1)) (pa_cons (pe_xfG hz hf (pv 1)) pa_nil))))))) pss_nil) (pss_cons (ps_set (i := 4) sc_law_raised.nd rfl (Or.inl rfl) (pe_q (pe_lst (pa_cons pe_str (pa_cons pe_str (pa_cons pe_str (pa_cons pe_str (pa_cons pe_str (pa_cons pe_str (pa_cons pe_str (pa_cons pe_str (pa_cons pe_str pa_nil)))))))))))) (pss_one (ps_ret (pe_ifExp (pt_cmpR op_lt (pv 3) pe_int (nomark _)) (pe_q (pe_tup (pa_cons (pe_ix (r := rIxL X.K) ix_list (pv 4) (pv 3) (fun _ _ => rfl)) (pa_cons (pe_xfG hz hf (pv 1)) pa_nil)))) (pe_q (pe_tup (pa_cons (pe_ix (r := rIxL X.K) ix_list (pv 4) (pv 3) (fun _ _ => rfl)) pa_nil)))))))))))))) .nil)) (pss_one (ps_ret pe_non)), ?_⟩
  exact ⟨_, fun cls d σ' H' ⟨e, F', ex, xd, k⟩ => raised_many R ex xd k, rfl, hc, h⟩

/-! ### law -/
abbrev s_law : Stmt := top 32
theorem sc_law : FnScope ["_law_script", "_law_row", "_law_masses_here", "_law_stretches_here", "_law_turn", "_law_mass", "_law_at", "_law_stretch", "_law_parts", "_law_bad", "_law_due", "_law_one", "_law_other", "_law_k"] ["_law_script"] (defScope s_law) := ⟨rfl, rfl, rfl, by decide +kernel, rfl, by decide +kernel, by decide +kernel⟩
def law (scr : List Int) : Mm Bool := (law_masses scr (Rw.mk 0 0 0) ((6 : Int)) ((20 : Int))).bd fun b1 => (law_stretches scr b1.2 ((4 : Int)) ((9 : Int))).bd fun b18 => (takenA scr b18.2 ((3 : Int))).bd fun b34 => (rangeM b34.1).bd fun l42 => (foldM (fun (b43 : ((List (Int × Int)) × (List (Int × Int × Int)) × Rw)) (x44 : Int) => (pickM takenA scr b43.2.2 [((21 : Int), (1 : Int)), ((-(21 : Int)), (1 : Int)), ((0 : Int), (0 : Int)), ((0 : Int), (21 : Int)), ((5 : Int), (5 : Int)), ((-(20 : Int)), (3 : Int)), ((20 : Int), (20 : Int))]).bd fun b118 => (takenA scr b118.2 (((b43.1.length : Int) + (1 : Int)))).bd fun b125 => (takenA scr b125.2 ((2 : Int))).bd fun b132 => (cond (decide (b132.1 = (0 : Int))) ((guardM ((cutL b43.1 none (some b125.1)).length + [b118.1].length ≤ 100000)).bd fun _ => (guardM (((cutL b43.1 none (some b125.1)) ++ [b118.1]).length + (cutL b43.1 (some b125.1) none).length ≤ 100000)).bd fun _ => Mm.ok ((((cutL b43.1 none (some b125.1)) ++ [b118.1]) ++ (cutL b43.1 (some b125.1) none)), b132.2)) (Mm.ok (b43.1, b132.2))).bd fun b143 => (pickM takenA scr b143.2 [((0 : Int), (0 : Int), (1 : Int)), ((5 : Int), (4 : Int), (1 : Int)), ((-(21 : Int)), (0 : Int), (1 : Int)), ((19 : Int), (21 : Int), (1 : Int)), ((0 : Int), (1 : Int), (0 : Int)), ((0 : Int), (1 : Int), (21 : Int)), ((19 : Int), (20 : Int), (20 : Int))]).bd fun b237 => (takenA scr b237.2 (((b43.2.1.length : Int) + (1 : Int)))).bd fun b248 => (takenA scr b248.2 ((2 : Int))).bd fun b255 => (cond (decide (b255.1 = (0 : Int))) ((guardM ((cutL b43.2.1 none (some b248.1)).length + [b237.1].length ≤ 100000)).bd fun _ => (guardM (((cutL b43.2.1 none (some b248.1)) ++ [b237.1]).length + (cutL b43.2.1 (some b248.1) none).length ≤ 100000)).bd fun _ => Mm.ok (((cutL b43.2.1 none (some b248.1)) ++ [b237.1]) ++ (cutL b43.2.1 (some b248.1) none))) (Mm.ok b43.2.1)).bd fun b267 => Mm.ok (b143.1, b267, b255.2)) (b1.1, b18.1, b34.2) (rangeL 0 b34.1.toNat)).bd fun b60 => (takenA scr b60.2.2 ((6 : Int))).bd fun b333 => (cond (decide (b333.1 = (0 : Int))) ((takenA scr b333.2 ((4 : Int))).bd fun b346 => (rangeM ((5 : Int) + b346.1)).bd fun l354 => (guardM ((rangeL 0 ((5 : Int) + b346.1).toNat).length ≤ 50000)).bd fun _ => (mapMm (fun (x357 : Int) => Mm.ok (x357, (1 : Int))) (rangeL 0 ((5 : Int) + b346.1).toNat)).bd fun b356 => (takenA scr b346.2 ((3 : Int))).bd fun b387 => (rangeM ((3 : Int) + b387.1)).bd fun l395 => (guardM ((rangeL 0 ((3 : Int) + b387.1).toNat).length ≤ 50000)).bd fun _ => (mapMm (fun (x398 : Int) => Mm.ok (x398, (x398 + (1 : Int)), (2 : Int))) (rangeL 0 ((3 : Int) + b387.1).toNat)).bd fun b397 => Mm.ok (b356, b397, b387.2)) (Mm.ok (b60.1, b60.2.1, b333.2))).bd fun b340 => (cond (!(decide (b340.1 = []))) ((takenA scr b340.2.2 ((5 : Int))).bd fun b452 => Mm.ok ((decide (b452.1 = (0 : Int))), b452.2)) (Mm.ok (false, b340.2.2))).bd fun b447 => (cond b447.1 ((getM b340.1 (-(1 : Int))).bd fun i465 => (guardM (b340.1.length < 100000)).bd fun _ => Mm.ok ((b340.1 ++ [i465]), b447.2)) (Mm.ok (b340.1, b447.2))).bd fun b459 => (law_bad_mass ((b459.1, b340.2.1).1)).bd fun b514 => (law_bad_stretch ((b459.1, b340.2.1).2)).bd fun b521 => (cond (!(decide ((b459.1, b340.2.1) = ([], [])))) (Mm.ok Xr.non) (Mm.ok (Xr.tup Kw.weighting [(2 : Int), (0 : Int)]))).bd fun b553 => (getM [b514, b521] (1 : Int)).bd fun i564 => (cond (!i564.isNone) ((getM [b514, b521] (1 : Int)).bd fun i576 => (getO i576).bd fun a581 => Mm.ok (Xr.tup Kw.weighting [(1 : Int), a581])) (Mm.ok b553)).bd fun b574 => (getM [b514, b521] (0 : Int)).bd fun i588 => (cond (!i588.isNone) ((getM [b514, b521] (0 : Int)).bd fun i600 => (getO i600).bd fun a605 => Mm.ok (Xr.tup Kw.weighting [(0 : Int), a605])) (Mm.ok b574)).bd fun b598 => (((Weighting_init_xm (b459.1, b340.2.1).1 (b459.1, b340.2.1).2).bd fun b626 => Mm.ok b626).tr raisedX fun _ => Mm.ok Xr.non).bd fun x620 => cond (!(decide (x620 = b598))) (Mm.ok false) (cond (!(decide (b598 = Xr.non))) ((((Weighting_init_xm [] []).bd fun b656 => Mm.ok b656).tr raisedX fun _ => Mm.ok Xr.non).bd fun x640 => Mm.ok (decide (x640 = (Xr.tup Kw.weighting [(2 : Int), (0 : Int)])))) ((law_weighting ((b459.1, b340.2.1))).bd fun b667 => (cond (!(decide ((b667.1, b667.2) = (b459.1, b340.2.1)))) (Mm.ok true) ((law_weighting ((b459.1, b340.2.1))).bd fun b698 => (Weighting___eq__ b667 b698).bd fun b712 => Mm.ok (!b712))).bd fun b694 => cond b694 (Mm.ok false) ((law_weighting (([((-(20 : Int)), (20 : Int)), ((-(19 : Int)), (20 : Int))], []))).bd fun b743 => (Weighting___eq__ b667 b743).bd fun b757 => Mm.ok (decide ((!b757) = (!(decide ((b459.1, b340.2.1) = ([((-(20 : Int)), (20 : Int)), ((-(19 : Int)), (20 : Int))], [])))))))))
def sp_law (K : PySem.W.Frag) : Sp := fun vs H Q _ => ∃ (sc : Addr) (scr : List Int), vs = [.ref sc] ∧ SqL K H sc (scr.map V.int) ∧ H (He.cT K ("law", none)).2 = some (.tbl #[]) ∧ Post (law scr) (fun r => ∀ H', Q (.bl r) H') (fun _ => False)
theorem ok_law {P : Program} {w : World} {K : PySem.W.Frag} {mg : Str → Option Value} {base : Heap} {C f : Addr} {fd : FuncData} (B : Bi mg) (FF : FunD K "law" "law" (defArgs s_law) (defBody s_law) (defScope s_law) [] [] (He.ga K "law") fd) (G_law_masses : Kn P w K mg base "_law_masses" 3 ["_law_row", "_law_most", "_law_far"] (sp_law_masses K)) (G_law_stretches : Kn P w K mg base "_law_stretches" 2 ["_law_row", "_law_most", "_law_far"] (sp_law_stretches K)) (G_law_taken : Kn P w K mg base "_law_taken" 1 ["_law_row", "_law_many"] (spTaken takenA K)) (G_law_pick : Kn P w K mg base "_law_pick" 2 ["_law_row", "_law_some"] (spPick takenA K)) (G_law_bad_mass : Kn P w K mg base "_law_bad_mass" 1 ["_law_masses_here"] (sp_law_bad_mass K)) (G_law_bad_stretch : Kn P w K mg base "_law_bad_stretch" 1 ["_law_stretches_here"] (sp_law_bad_stretch K)) (G_law_weighting : Kn P w K mg base "_law_weighting" 6 ["_law_parts"] (sp_law_weighting K C)) (A_law_raised : Ask K mg "_law_raised" "_law_work" (defArgs s_law_raised) (defBody s_law_raised) (defScope s_law_raised)) (GC_Weighting : KnC P w K mg base (L2.CX P w) "Weighting" C 4 ["self", "masses", "stretches"] (spWX Weighting_init_xm K C)) (GE_W : KnE P w K mg base C 1 ["self", "other"] (sp_Weighting___eq__ K C)) (GP_masses : KnP P w K mg base C "masses" "_masses") (GP_stretches : KnP P w K mg base C "stretches" "_stretches") (RK : RaisedK K) (TB : LamX.TabB base mg (He.codeOf K ("law", none)) (He.cT K ("law", none)).2) (cx_InvalidFraction : mg "InvalidFraction" = some (.ref (He.ga K "InvalidFraction"))) (cx_InvalidNumber : mg "InvalidNumber" = some (.ref (He.ga K "InvalidNumber"))) (cx_InvalidPlaces : mg "InvalidPlaces" = some (.ref (He.ga K "InvalidPlaces"))) (cx_InvalidPolynomial : mg "InvalidPolynomial" = some (.ref (He.ga K "InvalidPolynomial"))) (cx_InvalidSums : mg "InvalidSums" = some (.ref (He.ga K "InvalidSums"))) (cx_InvalidWeighting : mg "InvalidWeighting" = some (.ref (He.ga K "InvalidWeighting"))) (cx_InvalidWeights : mg "InvalidWeights" = some (.ref (He.ga K "InvalidWeights"))) (cx_NoWeighting : mg "NoWeighting" = some (.ref (He.ga K "NoWeighting"))) (cx_ReadingError : mg "ReadingError" = some (.ref (He.ga K "ReadingError"))) (cx_TooFew : mg "TooFew" = some (.ref (He.ga K "TooFew"))) (hVE : mg "ValueError" = none) : FnOk P w K mg base CX0 8 (He.ga K "law") fd ["_law_script"] (sp_law K) := by
  refine fn_code FF sc_law (fun vs H Q E h => ?_) (fun A outer s H vs Q E hr h => ?_)
  · obtain ⟨sc, scr, rfl, _⟩ := h; rfl
  · obtain ⟨sc, scr, rfl, hs, hT, k⟩ := h
    unfold law at k
    refine ⟨_, PSs.nox (pss_cons (ps_set (i := 1) sc_law.nd rfl (Or.inl rfl) (pe_q (pe_lst (pa_cons (pv 0) (pa_cons pe_int (pa_cons pe_int (pa_cons pe_int pa_nil))))))) (pss_cons (ps_par (i := 2) (j := 3) (by rfl) sc_law.nd rfl rfl (by decide) rfl rfl (pa_cons (pe_q (pe_callTy call_list_of (by rfl) B.list (by decide +kernel) (pa_cons (pe_kn G_law_masses (hr.mono (by decide)) (pa_cons (pv 1) (pa_cons (pe_int) (pa_cons (pe_int) (pa_nil))))) pa_nil))) (pa_cons (pe_q (pe_callTy call_list_of (by rfl) B.list (by decide +kernel) (pa_cons (pe_kn G_law_stretches (hr.mono (by decide)) (pa_cons (pv 1) (pa_cons (pe_int) (pa_cons (pe_int) (pa_nil))))) pa_nil))) (pa_nil))) (by rfl)) (pss_cons (ps_for PassesOwn.never rfl (pi_range1 rfl B.range (pa_cons (pe_kn G_law_taken (hr.mono (by decide)) (pa_cons (pv 1) (pa_cons (pe_int) (pa_nil)))) (pa_nil))) (pg_name (i := 4) sc_law.nd rfl (Or.inl rfl)) (pss_cons (ps_set (i := 5) sc_law.nd rfl (Or.inl rfl) (pe_kn G_law_pick (hr.mono (by decide)) (pa_cons (pv 1) (pa_cons (pe_q (pe_lst (pa_cons (pe_q (pe_tup (pa_cons (pe_int) (pa_cons (pe_int) (pa_nil))))) (pa_cons (pe_q (pe_tup (pa_cons (pe_un un_neg (pe_int)) (pa_cons (pe_int) (pa_nil))))) (pa_cons (pe_q (pe_tup (pa_cons (pe_int) (pa_cons (pe_int) (pa_nil))))) (pa_cons (pe_q (pe_tup (pa_cons (pe_int) (pa_cons (pe_int) (pa_nil))))) (pa_cons (pe_q (pe_tup (pa_cons (pe_int) (pa_cons (pe_int) (pa_nil))))) (pa_cons (pe_q (pe_tup (pa_cons (pe_un un_neg (pe_int)) (pa_cons (pe_int) (pa_nil))))) (pa_cons (pe_q (pe_tup (pa_cons (pe_int) (pa_cons (pe_int) (pa_nil))))) (pa_nil)))))))))) pa_nil)))) (pss_cons (ps_set (i := 6) sc_law.nd rfl (Or.inl rfl) (pe_kn G_law_taken (hr.mono (by decide)) (pa_cons (pv 1) (pa_cons (pe_op op_add (pe_callB call_lenM (by rfl) B.len (by decide +kernel) (pa_cons (pv 2) pa_nil)) (pe_int)) (pa_nil))))) (pss_cons (ps_set (i := 2) sc_law.nd rfl (Or.inl rfl) (pe_ifExp (pt_cmpR op_eq (pe_kn G_law_taken (hr.mono (by decide)) (pa_cons (pv 1) (pa_cons (pe_int) (pa_nil)))) (pe_int) (nomark _)) (pe_q (pe_op op_cat (pe_q (pe_op op_cat (pe_q (pe_slice sl_list (pv 2) po_none (po_some (pv 6)))) (pe_q (pe_lst (pa_cons (pv 5) (pa_nil)))))) (pe_q (pe_slice sl_list (pv 2) (po_some (pv 6)) po_none)))) (pv 2))) (pss_cons (ps_set (i := 7) sc_law.nd rfl (Or.inl rfl) (pe_kn G_law_pick (hr.mono (by decide)) (pa_cons (pv 1) (pa_cons (pe_q (pe_lst (pa_cons (pe_q (pe_tup (pa_cons (pe_int) (pa_cons (pe_int) (pa_cons (pe_int) (pa_nil)))))) (pa_cons (pe_q (pe_tup (pa_cons (pe_int) (pa_cons (pe_int) (pa_cons (pe_int) (pa_nil)))))) (pa_cons (pe_q (pe_tup (pa_cons (pe_un un_neg (pe_int)) (pa_cons (pe_int) (pa_cons (pe_int) (pa_nil)))))) (pa_cons (pe_q (pe_tup (pa_cons (pe_int) (pa_cons (pe_int) (pa_cons (pe_int) (pa_nil)))))) (pa_cons (pe_q (pe_tup (pa_cons (pe_int) (pa_cons (pe_int) (pa_cons (pe_int) (pa_nil)))))) (pa_cons (pe_q (pe_tup (pa_cons (pe_int) (pa_cons (pe_int) (pa_cons (pe_int) (pa_nil)))))) (pa_cons (pe_q (pe_tup (pa_cons (pe_int) (pa_cons (pe_int) (pa_cons (pe_int) (pa_nil)))))) (pa_nil)))))))))) pa_nil)))) (pss_cons (ps_set (i := 6) sc_law.nd rfl (Or.inl rfl) (pe_kn G_law_taken (hr.mono (by decide)) (pa_cons (pv 1) (pa_cons (pe_op op_add (pe_callB call_lenM (by rfl) B.len (by decide +kernel) (pa_cons (pv 3) pa_nil)) (pe_int)) (pa_nil))))) (pss_one (ps_set (i := 3) sc_law.nd rfl (Or.inl rfl) (pe_ifExp (pt_cmpR op_eq (pe_kn G_law_taken (hr.mono (by decide)) (pa_cons (pv 1) (pa_cons (pe_int) (pa_nil)))) (pe_int) (nomark _)) (pe_q (pe_op op_cat (pe_q (pe_op op_cat (pe_q (pe_slice sl_list (pv 3) po_none (po_some (pv 6)))) (pe_q (pe_lst (pa_cons (pv 7) (pa_nil)))))) (pe_q (pe_slice sl_list (pv 3) (po_some (pv 6)) po_none)))) (pv 3)))))))))) (pss_cons (ps_if (pt_cmpR op_eq (pe_kn G_law_taken (hr.mono (by decide)) (pa_cons (pv 1) (pa_cons (pe_int) (pa_nil)))) (pe_int) (nomark _)) (pss_cons (ps_q (ps_setLc (i := 2) (own := [("_law_k", 13)]) (g := gName 13) rfl sc_law.nd rfl rfl (sw_true rfl rfl rfl (by decide +kernel)) (pi_range1 rfl B.range (pa_cons (pe_op op_add (pe_int) (pe_kn G_law_taken (hr.mono (by decide)) (pa_cons (pv 1) (pa_cons (pe_int) (pa_nil))))) (pa_nil))) (blkOk_by (N := ["_law_script", "_law_row", "_law_masses_here", "_law_stretches_here", "_law_turn", "_law_mass", "_law_at", "_law_stretch", "_law_parts", "_law_bad", "_law_due", "_law_one", "_law_other", "_law_k"]) (sc := defScope s_law) (by decide +kernel)) (fun _ _ _ _ _ => pg_name (i := 13) sc_law.nd rfl (Or.inl rfl)) (fun _ _ _ _ _ => pts_nil) (fun _ _ _ _ _ => pe_q (pe_tup (pa_cons (pv 13) (pa_cons (pe_int) (pa_nil))))))) (pss_one (ps_q (ps_setLc (i := 3) (own := [("_law_k", 13)]) (g := gName 13) rfl sc_law.nd rfl rfl (sw_true rfl rfl rfl (by decide +kernel)) (pi_range1 rfl B.range (pa_cons (pe_op op_add (pe_int) (pe_kn G_law_taken (hr.mono (by decide)) (pa_cons (pv 1) (pa_cons (pe_int) (pa_nil))))) (pa_nil))) (blkOk_by (N := ["_law_script", "_law_row", "_law_masses_here", "_law_stretches_here", "_law_turn", "_law_mass", "_law_at", "_law_stretch", "_law_parts", "_law_bad", "_law_due", "_law_one", "_law_other", "_law_k"]) (sc := defScope s_law) (by decide +kernel)) (fun _ _ _ _ _ => pg_name (i := 13) sc_law.nd rfl (Or.inl rfl)) (fun _ _ _ _ _ => pts_nil) (fun _ _ _ _ _ => pe_q (pe_tup (pa_cons (pv 13) (pa_cons (pe_op op_add (pv 13) (pe_int)) (pa_cons (pe_int) (pa_nil)))))))))) (pss_nil)) (pss_cons (ps_if (PW.pt (pw_and (pt_cmpR (r := rNeM K (eL (e2 PyData.int PyData.int))) (op_neM (sh_eL (sh_e2 sh_int sh_int)) (units_of hr)) (pv 2) (pe_q (pe_lst (pa_nil))) (nomark _)) (pw_and1 (pt_cmpR op_eq (pe_kn G_law_taken (hr.mono (by decide)) (pa_cons (pv 1) (pa_cons (pe_int) (pa_nil)))) (pe_int) (nomark _))))) (pss_one (ps_expr (pe_bm PySem.F.plainAttrs_list PySem.F.slot_list_append PySem.F.type_list_append mt_append (pv 2) (pa_cons (pe_ix (r := rIxL K) ix_list (pv 2) (pe_un un_neg (pe_int)) (fun _ _ => rfl)) pa_nil)))) (pss_nil)) (pss_cons (ps_set (i := 8) sc_law.nd rfl (Or.inr rfl) (pe_q (pe_tup (pa_cons (pe_q (pe_callTy call_tuple_of (by rfl) B.tuple (by decide +kernel) (pa_cons (pv 2) pa_nil))) (pa_cons (pe_q (pe_callTy call_tuple_of (by rfl) B.tuple (by decide +kernel) (pa_cons (pv 3) pa_nil))) (pa_nil)))))) (pss_cons (ps_set (i := 9) sc_law.nd rfl (Or.inl rfl) (pe_q (pe_lst (pa_cons (pe_kn G_law_bad_mass (hr.mono (by decide)) (pa_cons (pe_ix (r := rIxT K) ix_tup (pv 8) (pe_int) (fun _ _ => rfl)) (pa_nil))) (pa_cons (pe_kn G_law_bad_stretch (hr.mono (by decide)) (pa_cons (pe_ix (r := rIxT K) ix_tup (pv 8) (pe_int) (fun _ _ => rfl)) (pa_nil))) (pa_nil)))))) (pss_cons (ps_set (i := 10) sc_law.nd rfl (Or.inl rfl) (pe_ifExp (pt_cmpR (r := rNeM K (e2 (eV (e2 PyData.int PyData.int)) (eV (e3 PyData.int PyData.int PyData.int)))) (op_neM (sh_e2 (sh_eV (sh_e2 sh_int sh_int)) (sh_eV (sh_e3 sh_int sh_int sh_int))) (units_of hr)) (pv 8) (pe_q (pe_tup (pa_cons (pe_q (pe_tup (pa_nil))) (pa_cons (pe_q (pe_tup (pa_nil))) (pa_nil))))) (nomark _)) (pe_non) (pe_q (pe_tup (pa_cons (pe_str) (pa_cons (pe_int) (pa_cons (pe_int) (pa_nil)))))))) (pss_cons (ps_set (i := 10) sc_law.nd rfl (Or.inl rfl) (pe_ifExp (pt_cmp (pc_notN (pe_ix (r := rIxL K) ix_list (pv 9) (pe_int) (fun _ _ => rfl))) rfl) (pe_q (pe_tup (pa_cons (pe_str) (pa_cons (pe_int) (pa_cons (pe_ix (r := rIxL K) ix_list (pv 9) (pe_int) (fun _ _ => rfl)) (pa_nil)))))) (pv 10))) (pss_cons (ps_set (i := 10) sc_law.nd rfl (Or.inl rfl) (pe_ifExp (pt_cmp (pc_notN (pe_ix (r := rIxL K) ix_list (pv 9) (pe_int) (fun _ _ => rfl))) rfl) (pe_q (pe_tup (pa_cons (pe_str) (pa_cons (pe_int) (pa_cons (pe_ix (r := rIxL K) ix_list (pv 9) (pe_int) (fun _ _ => rfl)) (pa_nil)))))) (pv 10))) (pss_cons (ps_if (pt_cmpR (r := rNeM K eX) (op_neM sh_X (units_of hr)) (pe_ask (k := 5) A_law_raised (fun g_ cdv_ => gives_law_raised B hVE cx_ReadingError cx_InvalidWeighting cx_InvalidPlaces cx_InvalidWeights cx_InvalidSums cx_InvalidNumber cx_InvalidPolynomial cx_TooFew cx_InvalidFraction cx_NoWeighting RK) TB (hr.mono (by decide)) sc_law_raised rfl rfl rfl (Or.inl rfl) (sc := defScope s_law) rfl (by decide +kernel) rfl (fun _ _ _ _ _ => rfl) (by intro A_ outer_ s_ H_ E_ f_ c_ hr; refine pe_castT (pe_q (pe_knC GC_Weighting (hr.mono (by decide)) (passes_call (takes_of rfl rfl rfl rfl) (fun _ _ _ _ h => h)) (pa_cons (pe_ix (r := rIxT K) ix_tup (pv 8) (pe_int) (fun _ _ => rfl)) (pa_cons (pe_ix (r := rIxT K) ix_tup (pv 8) (pe_int) (fun _ _ => rfl)) pa_nil)))) ?_; (try dsimp only [LamX.lamCx, cxOf, Cx.nox]); first | done | rfl)) (pv 10) (nomark _)) (pss_one (ps_ret (pe_bl))) pss_nil) (pss_cons (ps_if (pt_cmp (pc_notN (pv 10)) rfl) (pss_one (ps_ret (pe_cmpR (r := rEqM K eX) (op_eqM sh_X (units_of hr)) (pe_ask (k := 5) A_law_raised (fun g_ cdv_ => gives_law_raised B hVE cx_ReadingError cx_InvalidWeighting cx_InvalidPlaces cx_InvalidWeights cx_InvalidSums cx_InvalidNumber cx_InvalidPolynomial cx_TooFew cx_InvalidFraction cx_NoWeighting RK) TB (hr.mono (by decide)) sc_law_raised rfl rfl rfl (Or.inl rfl) (sc := defScope s_law) rfl (by decide +kernel) rfl (fun _ _ _ _ _ => rfl) (by intro A_ outer_ s_ H_ E_ f_ c_ hr; refine pe_castT (pe_q (pe_knC GC_Weighting (hr.mono (by decide)) (passes_call (takes_of rfl rfl rfl rfl) (fun _ _ _ _ h => h)) (pa_cons (pe_q (pe_tup (pa_nil))) (pa_cons (pe_q (pe_tup (pa_nil))) pa_nil)))) ?_; (try dsimp only [LamX.lamCx, cxOf, Cx.nox]); first | done | rfl)) (pe_q (pe_tup (pa_cons (pe_str) (pa_cons (pe_int) (pa_cons (pe_int) (pa_nil)))))) (nomark _)))) pss_nil) (pss_cons (ps_set (i := 11) sc_law.nd rfl (Or.inl rfl) (pe_kn G_law_weighting (hr.mono (by decide)) (pa_cons (pv 8) (pa_nil)))) (pss_cons (ps_if (PW.pt (pw_or (pt_cmpR (r := rNeM K (e2 (eV (e2 PyData.int PyData.int)) (eV (e3 PyData.int PyData.int PyData.int)))) (op_neM (sh_e2 (sh_eV (sh_e2 sh_int sh_int)) (sh_eV (sh_e3 sh_int sh_int sh_int))) (units_of hr)) (pe_q (pe_tup (pa_cons (pe_propK GP_masses (hr.mono (by decide)) (pv 11)) (pa_cons (pe_propK GP_stretches (hr.mono (by decide)) (pv 11)) (pa_nil))))) (pv 8) (nomark _)) (pw_or1 (pt_cmpR (op_neOwn GE_W (hr.mono (by decide))) (pv 11) (pe_kn G_law_weighting (hr.mono (by decide)) (pa_cons (pv 8) (pa_nil))) (nomark _))))) (pss_one (ps_ret (pe_bl))) pss_nil) (pss_cons (ps_set (i := 12) sc_law.nd rfl (Or.inl rfl) (pe_q (pe_tup (pa_cons (pe_q (pe_tup (pa_cons (pe_q (pe_tup (pa_cons (pe_un un_neg (pe_int)) (pa_cons (pe_int) (pa_nil))))) (pa_cons (pe_q (pe_tup (pa_cons (pe_un un_neg (pe_int)) (pa_cons (pe_int) (pa_nil))))) (pa_nil))))) (pa_cons (pe_q (pe_tup (pa_nil))) (pa_nil)))))) (pss_one (ps_ret (pe_cmpR op_eq (pe_cmpR (op_neOwn GE_W (hr.mono (by decide))) (pv 11) (pe_kn G_law_weighting (hr.mono (by decide)) (pa_cons (pv 12) (pa_nil))) (nomark _)) (pe_cmpR (r := rNeM K (e2 (eV (e2 PyData.int PyData.int)) (eV (e3 PyData.int PyData.int PyData.int)))) (op_neM (sh_e2 (sh_eV (sh_e2 sh_int sh_int)) (sh_eV (sh_e3 sh_int sh_int sh_int))) (units_of hr)) (pv 8) (pv 12) (nomark _)) (nomark _))))))))))))))))))), ?_⟩
    refine ⟨_, rfl, ?_⟩
    show _ ∧ _
    refine new_rowT hs fun ra H0 eT e w => ?_
    have tb : LamX.Tabs [((He.cT K ("law", none)).2, (PyProof.Rows.envOfC "law" (defScope s_law) 0 0 Value.none).qual ++ "<lambda>")] H0 := tabs_start hT eT
    have nt : ∀ m ∈ [ra], NoTbl H0 m := nt_cons w.1 nt_nil
    generalize noTab H = F0 at e w
    have g_ := Gm.refl (M := [ra]) e
    refine ⟨_, rfl, ?_⟩
    refine ⟨F0, sc, ra, scr, (Rw.mk 0 0 0), (6 : Int), (20 : Int), rfl, e, w, (post_bd k).mono (fun b1 k v6 F2 H3 g4 ⟨r5, w7⟩ => ?_) (fun _ z => z)⟩
    have eF2 := g4.s
    have gF2 := g_.trans (g4.weak (by simp))
    obtain ⟨p8, xs9, rfl, s10, a11⟩ := dp_tup r5
    refine to_own (K := K) eF2 (.inr (ex_t eF2 s10)) fun p12 H13 g14 y15 o16 => ?_
    have a17 : DqAll K F2 xs9 (List.map (e2 PyData.int PyData.int) b1.1) := a11
    have np12 := ne_of_none w7.1 y15
    have mp12 := np12.symm
    have zp12 := gF2.fresh y15
    have eH13 := g14.s
    have gH13 := gF2.trans (g14.weak (by simp))
    replace w7 := w7.keep g14
    refine ⟨_, rfl, ?_⟩
    refine ⟨F2, sc, ra, scr, b1.2, (4 : Int), (9 : Int), rfl, eH13, w7, (post_bd k).mono (fun b18 k v23 F19 H20 g21 ⟨r22, w24⟩ => ?_) (fun _ z => z)⟩
    have eF19 := g21.s
    have gF19 := gH13.trans (g21.weak (by simp))
    replace r5 := r5.up g21.f
    replace s10 := ex_t g21.f s10
    replace a11 := a11.up g21.f
    replace o16 := g21.own (by simp [*]) o16.1 o16.2
    replace a17 := a17.up g21.f
    obtain ⟨p25, xs26, rfl, s27, a28⟩ := dp_tup r22
    refine to_LV (K := K) (M := []) eF19 s27 a28 (en := (e3 PyData.int PyData.int PyData.int)) (l := b18.1) fun v33 F29 H30 g31 r32 => ?_
    have eF29 := g31.s
    have gF29 := gF19.trans (g31.weak (by simp))
    replace r5 := r5.up g31.f
    replace s10 := ex_t g31.f s10
    replace a11 := a11.up g31.f
    replace o16 := g31.own (by simp [*]) o16.1 o16.2
    replace a17 := a17.up g31.f
    replace w24 := w24.keep g31
    replace r22 := r22.up g31.f
    replace s27 := ex_t g31.f s27
    replace a28 := a28.up g31.f
    refine ⟨_, _, rfl, ?_⟩
    refine ⟨_, rfl, ?_⟩
    refine ⟨F29, sc, ra, scr, b18.2, (3 : Int), rfl, eF29, w24, (post_bd k).mono (fun b34 k v39 F35 H36 g37 ⟨r38, w40⟩ => ?_) (fun _ z => z)⟩
    have eF35 := g37.s
    have gF35 := gF29.trans (g37.weak (by simp))
    replace r5 := r5.up g37.f
    replace s10 := ex_t g37.f s10
    replace a11 := a11.up g37.f
    replace o16 := g37.own (by simp [*]) o16.1 o16.2
    replace a17 := a17.up g37.f
    replace r22 := r22.up g37.f
    replace s27 := ex_t g37.f s27
    replace a28 := a28.up g37.f
    replace r32 := r32.up g37.f
    subst r38
    obtain ⟨h41, k⟩ := post_range k
    refine ⟨_, rfl, h41.1, h41.2, ?_⟩
    refine for_m (M := [p12, ra]) (F := F35) wlk_range (fun b43 F' H' σ' => ∃ (q2 : Addr) (c3 : V) (u4 : Option V) (u5 : Option V) (u6 : Option V) (u7 : Option V) (u8 : Option V) (u9 : Option V) (u10 : Option V) (u11 : Option V) (u12 : Option V) (u13 : Option V) (xs2 : List V), σ' = [some (V.ref sc), some (V.ref ra), some (V.ref q2), some c3, u4, u5, u6, u7, u8, u9, u10, u11, u12, u13] ∧ (q2 ∈ [p12, ra] ∨ H36 q2 = none) ∧ ra ≠ q2 ∧ (H' q2 = some (.lst xs2) ∧ F' q2 = none) ∧ DqAll K F' xs2 (List.map (e2 PyData.int PyData.int) b43.1) ∧ Dq K F' c3 ((eL (e3 PyData.int PyData.int PyData.int)) b43.2.1) ∧ RowAt K sc ra scr F' H' b43.2.2) k eF35 ⟨_, _, _, _, _, _, _, _, _, _, _, _, _, rfl, .inl (by simp), np12, o16, a17, r32, w40⟩ (fun b43 x44 v52 σ54 F45 H46 F47 H48 g49 i53 g50 r51 nx kfb43 => ?_) (fun b60 σ59 F55 H56 g57 i58 k => ?_)
    · replace r5 := r5.up g49.f
      replace s10 := ex_t g49.f s10
      replace a11 := a11.up g49.f
      replace r22 := r22.up g49.f
      replace s27 := ex_t g49.f s27
      replace a28 := a28.up g49.f
      replace r32 := r32.up g49.f
      obtain ⟨q61, c62, u63, u64, u65, u66, u67, u68, u69, u70, u71, u72, xs73, rfl, yq61, nq61, o74, a75, r76, w77⟩ := i53
      have mq61 := nq61.symm
      replace r5 := r5.up g50.f
      replace s10 := ex_t g50.f s10
      replace a11 := a11.up g50.f
      replace r22 := r22.up g50.f
      replace s27 := ex_t g50.f s27
      replace a28 := a28.up g50.f
      replace o74 := g50.own (by simp [*]) o74.1 o74.2
      replace a75 := a75.up g50.f
      replace r76 := r76.up g50.f
      replace w77 := w77.keep g50
      have eF47 := g50.s
      have gF47 := g49.trans (g50.weak (by simp))
      subst r51
      refine ⟨_, rfl, ?_⟩
      show _ ∧ _
      refine new_tup (K := K) (M := []) eF47 (.cons (Dq.int (21 : Int)) (.cons (Dq.int (1 : Int)) .nil)) (by show 2 ≤ 100000; decide) fun v82 F78 H79 g80 r81 => ?_
      have eF78 := g80.s
      have gF78 := gF47.trans (g80.weak (by simp))
      replace r5 := r5.up g80.f
      replace s10 := ex_t g80.f s10
      replace a11 := a11.up g80.f
      replace r22 := r22.up g80.f
      replace s27 := ex_t g80.f s27
      replace a28 := a28.up g80.f
      replace o74 := g80.own (by simp [*]) o74.1 o74.2
      replace a75 := a75.up g80.f
      replace r76 := r76.up g80.f
      replace w77 := w77.keep g80
      replace r81 : Dq K F78 v82 ((e2 PyData.int PyData.int) ((21 : Int), (1 : Int))) := r81
      refine ⟨_, rfl, ?_⟩
      show _ ∧ _
      refine new_tup (K := K) (M := []) eF78 (.cons (Dq.int (-(21 : Int))) (.cons (Dq.int (1 : Int)) .nil)) (by show 2 ≤ 100000; decide) fun v87 F83 H84 g85 r86 => ?_
      have eF83 := g85.s
      have gF83 := gF78.trans (g85.weak (by simp))
      replace r5 := r5.up g85.f
      replace s10 := ex_t g85.f s10
      replace a11 := a11.up g85.f
      replace r22 := r22.up g85.f
      replace s27 := ex_t g85.f s27
      replace a28 := a28.up g85.f
      replace o74 := g85.own (by simp [*]) o74.1 o74.2
      replace a75 := a75.up g85.f
      replace r76 := r76.up g85.f
      replace w77 := w77.keep g85
      replace r81 := r81.up g85.f
      replace r86 : Dq K F83 v87 ((e2 PyData.int PyData.int) ((-(21 : Int)), (1 : Int))) := r86
      show _ ∧ _
      refine new_tup (K := K) (M := []) eF83 (.cons (Dq.int (0 : Int)) (.cons (Dq.int (0 : Int)) .nil)) (by show 2 ≤ 100000; decide) fun v92 F88 H89 g90 r91 => ?_
      have eF88 := g90.s
      have gF88 := gF83.trans (g90.weak (by simp))
      replace r5 := r5.up g90.f
      replace s10 := ex_t g90.f s10
      replace a11 := a11.up g90.f
      replace r22 := r22.up g90.f
      replace s27 := ex_t g90.f s27
      replace a28 := a28.up g90.f
      replace o74 := g90.own (by simp [*]) o74.1 o74.2
      replace a75 := a75.up g90.f
      replace r76 := r76.up g90.f
      replace w77 := w77.keep g90
      replace r81 := r81.up g90.f
      replace r86 := r86.up g90.f
      replace r91 : Dq K F88 v92 ((e2 PyData.int PyData.int) ((0 : Int), (0 : Int))) := r91
      show _ ∧ _
      refine new_tup (K := K) (M := []) eF88 (.cons (Dq.int (0 : Int)) (.cons (Dq.int (21 : Int)) .nil)) (by show 2 ≤ 100000; decide) fun v97 F93 H94 g95 r96 => ?_
      have eF93 := g95.s
      have gF93 := gF88.trans (g95.weak (by simp))
      replace r5 := r5.up g95.f
      replace s10 := ex_t g95.f s10
      replace a11 := a11.up g95.f
      replace r22 := r22.up g95.f
      replace s27 := ex_t g95.f s27
      replace a28 := a28.up g95.f
      replace o74 := g95.own (by simp [*]) o74.1 o74.2
      replace a75 := a75.up g95.f
      replace r76 := r76.up g95.f
      replace w77 := w77.keep g95
      replace r81 := r81.up g95.f
      replace r86 := r86.up g95.f
      replace r91 := r91.up g95.f
      replace r96 : Dq K F93 v97 ((e2 PyData.int PyData.int) ((0 : Int), (21 : Int))) := r96
      show _ ∧ _
      refine new_tup (K := K) (M := []) eF93 (.cons (Dq.int (5 : Int)) (.cons (Dq.int (5 : Int)) .nil)) (by show 2 ≤ 100000; decide) fun v102 F98 H99 g100 r101 => ?_
      have eF98 := g100.s
      have gF98 := gF93.trans (g100.weak (by simp))
      replace r5 := r5.up g100.f
      replace s10 := ex_t g100.f s10
      replace a11 := a11.up g100.f
      replace r22 := r22.up g100.f
      replace s27 := ex_t g100.f s27
      replace a28 := a28.up g100.f
      replace o74 := g100.own (by simp [*]) o74.1 o74.2
      replace a75 := a75.up g100.f
      replace r76 := r76.up g100.f
      replace w77 := w77.keep g100
      replace r81 := r81.up g100.f
      replace r86 := r86.up g100.f
      replace r91 := r91.up g100.f
      replace r96 := r96.up g100.f
      replace r101 : Dq K F98 v102 ((e2 PyData.int PyData.int) ((5 : Int), (5 : Int))) := r101
      refine ⟨_, rfl, ?_⟩
      show _ ∧ _
      refine new_tup (K := K) (M := []) eF98 (.cons (Dq.int (-(20 : Int))) (.cons (Dq.int (3 : Int)) .nil)) (by show 2 ≤ 100000; decide) fun v107 F103 H104 g105 r106 => ?_
      have eF103 := g105.s
      have gF103 := gF98.trans (g105.weak (by simp))
      replace r5 := r5.up g105.f
      replace s10 := ex_t g105.f s10
      replace a11 := a11.up g105.f
      replace r22 := r22.up g105.f
      replace s27 := ex_t g105.f s27
      replace a28 := a28.up g105.f
      replace o74 := g105.own (by simp [*]) o74.1 o74.2
      replace a75 := a75.up g105.f
      replace r76 := r76.up g105.f
      replace w77 := w77.keep g105
      replace r81 := r81.up g105.f
      replace r86 := r86.up g105.f
      replace r91 := r91.up g105.f
      replace r96 := r96.up g105.f
      replace r101 := r101.up g105.f
      replace r106 : Dq K F103 v107 ((e2 PyData.int PyData.int) ((-(20 : Int)), (3 : Int))) := r106
      show _ ∧ _
      refine new_tup (K := K) (M := []) eF103 (.cons (Dq.int (20 : Int)) (.cons (Dq.int (20 : Int)) .nil)) (by show 2 ≤ 100000; decide) fun v112 F108 H109 g110 r111 => ?_
      have eF108 := g110.s
      have gF108 := gF103.trans (g110.weak (by simp))
      replace r5 := r5.up g110.f
      replace s10 := ex_t g110.f s10
      replace a11 := a11.up g110.f
      replace r22 := r22.up g110.f
      replace s27 := ex_t g110.f s27
      replace a28 := a28.up g110.f
      replace o74 := g110.own (by simp [*]) o74.1 o74.2
      replace a75 := a75.up g110.f
      replace r76 := r76.up g110.f
      replace w77 := w77.keep g110
      replace r81 := r81.up g110.f
      replace r86 := r86.up g110.f
      replace r91 := r91.up g110.f
      replace r96 := r96.up g110.f
      replace r101 := r101.up g110.f
      replace r106 := r106.up g110.f
      replace r111 : Dq K F108 v112 ((e2 PyData.int PyData.int) ((20 : Int), (20 : Int))) := r111
      show _ ∧ _
      refine new_lst (K := K) (M := []) eF108 (.cons r81 (.cons r86 (.cons r91 (.cons r96 (.cons r101 (.cons r106 (.cons r111 .nil))))))) (by show 7 ≤ 100000; decide) fun v117 F113 H114 g115 r116 => ?_
      have eF113 := g115.s
      have gF113 := gF108.trans (g115.weak (by simp))
      replace r5 := r5.up g115.f
      replace s10 := ex_t g115.f s10
      replace a11 := a11.up g115.f
      replace r22 := r22.up g115.f
      replace s27 := ex_t g115.f s27
      replace a28 := a28.up g115.f
      replace o74 := g115.own (by simp [*]) o74.1 o74.2
      replace a75 := a75.up g115.f
      replace r76 := r76.up g115.f
      replace w77 := w77.keep g115
      replace r81 := r81.up g115.f
      replace r86 := r86.up g115.f
      replace r91 := r91.up g115.f
      replace r96 := r96.up g115.f
      replace r101 := r101.up g115.f
      replace r106 := r106.up g115.f
      replace r111 := r111.up g115.f
      replace r116 : Dq K F113 v117 ((eL (e2 PyData.int PyData.int)) [((21 : Int), (1 : Int)), ((-(21 : Int)), (1 : Int)), ((0 : Int), (0 : Int)), ((0 : Int), (21 : Int)), ((5 : Int), (5 : Int)), ((-(20 : Int)), (3 : Int)), ((20 : Int), (20 : Int))]) := r116
      refine ⟨F113, sc, ra, scr, b43.2.2, _, (e2 PyData.int PyData.int), _, [((21 : Int), (1 : Int)), ((-(21 : Int)), (1 : Int)), ((0 : Int), (0 : Int)), ((0 : Int), (21 : Int)), ((5 : Int), (5 : Int)), ((-(20 : Int)), (3 : Int)), ((20 : Int), (20 : Int))], rfl, eF113, w77, r116, (post_bd kfb43).mono (fun b118 kfb43 v123 F119 H120 g121 ⟨r122, w124⟩ => ?_) (fun _ z => z)⟩
      have eF119 := g121.s
      have gF119 := gF113.trans (g121.weak (by simp))
      replace r5 := r5.up g121.f
      replace s10 := ex_t g121.f s10
      replace a11 := a11.up g121.f
      replace r22 := r22.up g121.f
      replace s27 := ex_t g121.f s27
      replace a28 := a28.up g121.f
      replace o74 := g121.own (by simp [*]) o74.1 o74.2
      replace a75 := a75.up g121.f
      replace r76 := r76.up g121.f
      replace r81 := r81.up g121.f
      replace r86 := r86.up g121.f
      replace r91 := r91.up g121.f
      replace r96 := r96.up g121.f
      replace r101 := r101.up g121.f
      replace r106 := r106.up g121.f
      replace r111 := r111.up g121.f
      replace r116 := r116.up g121.f
      refine ⟨_, rfl, _, rfl, ?_⟩
      refine ⟨_, _, _, rfl, .inl (sq_of o74.1), len_all a75, _, _, rfl, rfl, ?_⟩
      refine ⟨F119, sc, ra, scr, b118.2, ((b43.1.length : Int) + (1 : Int)), rfl, eF119, w124, (post_bd kfb43).mono (fun b125 kfb43 v130 F126 H127 g128 ⟨r129, w131⟩ => ?_) (fun _ z => z)⟩
      have eF126 := g128.s
      have gF126 := gF119.trans (g128.weak (by simp))
      replace r5 := r5.up g128.f
      replace s10 := ex_t g128.f s10
      replace a11 := a11.up g128.f
      replace r22 := r22.up g128.f
      replace s27 := ex_t g128.f s27
      replace a28 := a28.up g128.f
      replace o74 := g128.own (by simp [*]) o74.1 o74.2
      replace a75 := a75.up g128.f
      replace r76 := r76.up g128.f
      replace r81 := r81.up g128.f
      replace r86 := r86.up g128.f
      replace r91 := r91.up g128.f
      replace r96 := r96.up g128.f
      replace r101 := r101.up g128.f
      replace r106 := r106.up g128.f
      replace r111 := r111.up g128.f
      replace r116 := r116.up g128.f
      replace r122 := r122.up g128.f
      subst r129
      refine ⟨_, rfl, ?_⟩
      refine ⟨F126, sc, ra, scr, b125.2, (2 : Int), rfl, eF126, w131, (post_bd kfb43).mono (fun b132 kfb43 v137 F133 H134 g135 ⟨r136, w138⟩ => ?_) (fun _ z => z)⟩
      have eF133 := g135.s
      have gF133 := gF126.trans (g135.weak (by simp))
      replace r5 := r5.up g135.f
      replace s10 := ex_t g135.f s10
      replace a11 := a11.up g135.f
      replace r22 := r22.up g135.f
      replace s27 := ex_t g135.f s27
      replace a28 := a28.up g135.f
      replace o74 := g135.own (by simp [*]) o74.1 o74.2
      replace a75 := a75.up g135.f
      replace r76 := r76.up g135.f
      replace r81 := r81.up g135.f
      replace r86 := r86.up g135.f
      replace r91 := r91.up g135.f
      replace r96 := r96.up g135.f
      replace r101 := r101.up g135.f
      replace r106 := r106.up g135.f
      replace r111 := r111.up g135.f
      replace r116 := r116.up g135.f
      replace r122 := r122.up g135.f
      subst r136
      refine ⟨rfl, ?_⟩
      rw [decV_int]
      refine ⟨_, rfl, ?_⟩
      refine if_jM (M := [q61, p12, ra]) (F := F133) (fun b F' H' v => (∃ (q : Addr) (xs : List V), v = V.ref q ∧ (q ∈ [q61, p12, ra] ∨ H134 q = none) ∧ ra ≠ q ∧ (H' q = some (.lst xs) ∧ F' q = none) ∧ DqAll K F' xs (List.map (e2 PyData.int PyData.int) b.1)) ∧ RowAt K sc ra scr F' H' b.2) kfb43 (fun _ Q' kfb43ib143 => ?_) (fun _ Q' kfb43ib143 => ?_) (fun b143 v139 F140 H141 g142 i_ kfb43 => ?_)
      · have gF133_ := Gm.refl (M := [q61, p12, ra]) eF133
        refine ⟨_, rfl, _, rfl, _, rfl, ?_⟩
        refine cut_lstO (K := K) (M := []) eF133 o74.1 a75 fun v154 F150 H151 g152 r153 => ?_
        have eF150 := g152.s
        have gF150 := gF133_.trans (g152.weak (by simp))
        replace r5 := r5.up g152.f
        replace s10 := ex_t g152.f s10
        replace a11 := a11.up g152.f
        replace r22 := r22.up g152.f
        replace s27 := ex_t g152.f s27
        replace a28 := a28.up g152.f
        replace o74 := g152.own (by simp [*]) o74.1 o74.2
        replace a75 := a75.up g152.f
        replace r76 := r76.up g152.f
        replace r81 := r81.up g152.f
        replace r86 := r86.up g152.f
        replace r91 := r91.up g152.f
        replace r96 := r96.up g152.f
        replace r101 := r101.up g152.f
        replace r106 := r106.up g152.f
        replace r111 := r111.up g152.f
        replace r116 := r116.up g152.f
        replace r122 := r122.up g152.f
        replace w138 := w138.keep g152
        refine ⟨_, rfl, ?_⟩
        show _ ∧ _
        refine new_lst (K := K) (M := []) eF150 (.cons r122 .nil) (by show 1 ≤ 100000; decide) fun v159 F155 H156 g157 r158 => ?_
        have eF155 := g157.s
        have gF155 := gF150.trans (g157.weak (by simp))
        replace r5 := r5.up g157.f
        replace s10 := ex_t g157.f s10
        replace a11 := a11.up g157.f
        replace r22 := r22.up g157.f
        replace s27 := ex_t g157.f s27
        replace a28 := a28.up g157.f
        replace o74 := g157.own (by simp [*]) o74.1 o74.2
        replace a75 := a75.up g157.f
        replace r76 := r76.up g157.f
        replace r81 := r81.up g157.f
        replace r86 := r86.up g157.f
        replace r91 := r91.up g157.f
        replace r96 := r96.up g157.f
        replace r101 := r101.up g157.f
        replace r106 := r106.up g157.f
        replace r111 := r111.up g157.f
        replace r116 := r116.up g157.f
        replace r122 := r122.up g157.f
        replace w138 := w138.keep g157
        replace r153 := r153.up g157.f
        replace r158 : Dq K F155 v159 ((eL (e2 PyData.int PyData.int)) [b118.1]) := r158
        obtain ⟨p160, xs161, rfl, s162, a163⟩ := dp_lst r153
        obtain ⟨p164, xs165, rfl, s166, a167⟩ := dp_lst r158
        obtain ⟨h169, kfb43ib143⟩ := post_guard kfb43ib143
        refine ⟨_, _, _, _, rfl, rfl, eF155 _ _ s162, eF155 _ _ s166, cat_len a163 a167 h169, new_lstC (K := K) (M := []) (en := (e2 PyData.int PyData.int)) (l := (cutL b43.1 none (some b125.1))) (l' := [b118.1]) eF155 a163 a167 fun v174 F170 H171 g172 r173 => ?_⟩
        have eF170 := g172.s
        have gF170 := gF155.trans (g172.weak (by simp))
        replace r5 := r5.up g172.f
        replace s10 := ex_t g172.f s10
        replace a11 := a11.up g172.f
        replace r22 := r22.up g172.f
        replace s27 := ex_t g172.f s27
        replace a28 := a28.up g172.f
        replace o74 := g172.own (by simp [*]) o74.1 o74.2
        replace a75 := a75.up g172.f
        replace r76 := r76.up g172.f
        replace r81 := r81.up g172.f
        replace r86 := r86.up g172.f
        replace r91 := r91.up g172.f
        replace r96 := r96.up g172.f
        replace r101 := r101.up g172.f
        replace r106 := r106.up g172.f
        replace r111 := r111.up g172.f
        replace r116 := r116.up g172.f
        replace r122 := r122.up g172.f
        replace w138 := w138.keep g172
        replace r153 := r153.up g172.f
        replace r158 := r158.up g172.f
        replace s162 := g172.f _ _ s162
        replace a163 := a163.up g172.f
        replace s166 := g172.f _ _ s166
        replace a167 := a167.up g172.f
        refine ⟨_, rfl, _, rfl, _, rfl, ?_⟩
        refine cut_lstO (K := K) (M := []) eF170 o74.1 a75 fun v179 F175 H176 g177 r178 => ?_
        have eF175 := g177.s
        have gF175 := gF170.trans (g177.weak (by simp))
        replace r5 := r5.up g177.f
        replace s10 := ex_t g177.f s10
        replace a11 := a11.up g177.f
        replace r22 := r22.up g177.f
        replace s27 := ex_t g177.f s27
        replace a28 := a28.up g177.f
        replace o74 := g177.own (by simp [*]) o74.1 o74.2
        replace a75 := a75.up g177.f
        replace r76 := r76.up g177.f
        replace r81 := r81.up g177.f
        replace r86 := r86.up g177.f
        replace r91 := r91.up g177.f
        replace r96 := r96.up g177.f
        replace r101 := r101.up g177.f
        replace r106 := r106.up g177.f
        replace r111 := r111.up g177.f
        replace r116 := r116.up g177.f
        replace r122 := r122.up g177.f
        replace w138 := w138.keep g177
        replace r153 := r153.up g177.f
        replace r158 := r158.up g177.f
        replace s162 := g177.f _ _ s162
        replace a163 := a163.up g177.f
        replace s166 := g177.f _ _ s166
        replace a167 := a167.up g177.f
        replace r173 := r173.up g177.f
        obtain ⟨p180, xs181, rfl, s182, a183⟩ := dp_lst r173
        obtain ⟨p184, xs185, rfl, s186, a187⟩ := dp_lst r178
        obtain ⟨h188, kfb43ib143⟩ := post_guard kfb43ib143
        refine ⟨_, _, _, _, rfl, rfl, (eF175 _ _ s182), (eF175 _ _ s186), cat_len a183 a187 h188, own_of eF175 fun p189 H190 g191 y192 o193 => ?_⟩
        have a194 : DqAll K F175 (xs181 ++ xs185) (List.map (e2 PyData.int PyData.int) (((cutL b43.1 none (some b125.1)) ++ [b118.1]) ++ (cutL b43.1 (some b125.1) none))) := by rw [List.map_append]; exact a183.app a187
        have np189 := ne_of_none w138.1 y192
        have mp189 := np189.symm
        have nq61_p189 := ne_of_none o74.1 y192
        have np189_q61 := nq61_p189.symm
        have zp189 := gF175.fresh y192
        have eH190 := g191.s
        have gH190 := gF175.trans (g191.weak (by simp))
        replace o74 := g191.own (by simp) o74.1 o74.2
        replace w138 := w138.keep g191
        exact kfb43ib143.h _ _ _ gH190 ⟨⟨_, _, rfl, (.inr zp189), np189, o193, a194⟩, w138⟩
      · have gF133_ := Gm.refl (M := [q61, p12, ra]) eF133
        refine ⟨_, rfl, ?_⟩
        exact kfb43ib143.h _ _ _ gF133_ ⟨⟨_, _, rfl, .inl (by simp), nq61, o74, a75⟩, w138⟩
      obtain ⟨⟨q144, xs145, rfl, yq144, nq144, o146, a147⟩, w149⟩ := i_
      have mq144 := nq144.symm
      have hy196 : ∀ q ∈ [q61], q ∈ [p12, ra] ∨ H36 q = none := by intro q hq; simp only [List.mem_cons, List.not_mem_nil, or_false] at hq; rcases hq with rfl; exact yq61
      have g195 := Gm.outs [q61] hy196 gF133 (g142.weak (by simp))
      replace r5 := r5.up g142.f
      replace s10 := ex_t g142.f s10
      replace a11 := a11.up g142.f
      replace r22 := r22.up g142.f
      replace s27 := ex_t g142.f s27
      replace a28 := a28.up g142.f
      replace r76 := r76.up g142.f
      replace r81 := r81.up g142.f
      replace r86 := r86.up g142.f
      replace r91 := r91.up g142.f
      replace r96 := r96.up g142.f
      replace r101 := r101.up g142.f
      replace r106 := r106.up g142.f
      replace r111 := r111.up g142.f
      replace r116 := r116.up g142.f
      replace r122 := r122.up g142.f
      have eF140 := g142.s
      replace yq144 := out_y hy196 gF133 yq144
      refine ⟨_, rfl, ?_⟩
      show _ ∧ _
      refine new_tup (K := K) (M := []) eF140 (.cons (Dq.int (0 : Int)) (.cons (Dq.int (0 : Int)) (.cons (Dq.int (1 : Int)) .nil))) (by show 3 ≤ 100000; decide) fun v201 F197 H198 g199 r200 => ?_
      have eF197 := g199.s
      have gF197 := g195.trans (g199.weak (by simp))
      replace r5 := r5.up g199.f
      replace s10 := ex_t g199.f s10
      replace a11 := a11.up g199.f
      replace r22 := r22.up g199.f
      replace s27 := ex_t g199.f s27
      replace a28 := a28.up g199.f
      replace r76 := r76.up g199.f
      replace r81 := r81.up g199.f
      replace r86 := r86.up g199.f
      replace r91 := r91.up g199.f
      replace r96 := r96.up g199.f
      replace r101 := r101.up g199.f
      replace r106 := r106.up g199.f
      replace r111 := r111.up g199.f
      replace r116 := r116.up g199.f
      replace r122 := r122.up g199.f
      replace o146 := g199.own (by simp [*]) o146.1 o146.2
      replace a147 := a147.up g199.f
      replace w149 := w149.keep g199
      replace r200 : Dq K F197 v201 ((e3 PyData.int PyData.int PyData.int) ((0 : Int), (0 : Int), (1 : Int))) := r200
      show _ ∧ _
      refine new_tup (K := K) (M := []) eF197 (.cons (Dq.int (5 : Int)) (.cons (Dq.int (4 : Int)) (.cons (Dq.int (1 : Int)) .nil))) (by show 3 ≤ 100000; decide) fun v206 F202 H203 g204 r205 => ?_
      have eF202 := g204.s
      have gF202 := gF197.trans (g204.weak (by simp))
      replace r5 := r5.up g204.f
      replace s10 := ex_t g204.f s10
      replace a11 := a11.up g204.f
      replace r22 := r22.up g204.f
      replace s27 := ex_t g204.f s27
      replace a28 := a28.up g204.f
      replace r76 := r76.up g204.f
      replace r81 := r81.up g204.f
      replace r86 := r86.up g204.f
      replace r91 := r91.up g204.f
      replace r96 := r96.up g204.f
      replace r101 := r101.up g204.f
      replace r106 := r106.up g204.f
      replace r111 := r111.up g204.f
      replace r116 := r116.up g204.f
      replace r122 := r122.up g204.f
      replace o146 := g204.own (by simp [*]) o146.1 o146.2
      replace a147 := a147.up g204.f
      replace w149 := w149.keep g204
      replace r200 := r200.up g204.f
      replace r205 : Dq K F202 v206 ((e3 PyData.int PyData.int PyData.int) ((5 : Int), (4 : Int), (1 : Int))) := r205
      refine ⟨_, rfl, ?_⟩
      show _ ∧ _
      refine new_tup (K := K) (M := []) eF202 (.cons (Dq.int (-(21 : Int))) (.cons (Dq.int (0 : Int)) (.cons (Dq.int (1 : Int)) .nil))) (by show 3 ≤ 100000; decide) fun v211 F207 H208 g209 r210 => ?_
      have eF207 := g209.s
      have gF207 := gF202.trans (g209.weak (by simp))
      replace r5 := r5.up g209.f
      replace s10 := ex_t g209.f s10
      replace a11 := a11.up g209.f
      replace r22 := r22.up g209.f
      replace s27 := ex_t g209.f s27
      replace a28 := a28.up g209.f
      replace r76 := r76.up g209.f
      replace r81 := r81.up g209.f
      replace r86 := r86.up g209.f
      replace r91 := r91.up g209.f
      replace r96 := r96.up g209.f
      replace r101 := r101.up g209.f
      replace r106 := r106.up g209.f
      replace r111 := r111.up g209.f
      replace r116 := r116.up g209.f
      replace r122 := r122.up g209.f
      replace o146 := g209.own (by simp [*]) o146.1 o146.2
      replace a147 := a147.up g209.f
      replace w149 := w149.keep g209
      replace r200 := r200.up g209.f
      replace r205 := r205.up g209.f
      replace r210 : Dq K F207 v211 ((e3 PyData.int PyData.int PyData.int) ((-(21 : Int)), (0 : Int), (1 : Int))) := r210
      show _ ∧ _
      refine new_tup (K := K) (M := []) eF207 (.cons (Dq.int (19 : Int)) (.cons (Dq.int (21 : Int)) (.cons (Dq.int (1 : Int)) .nil))) (by show 3 ≤ 100000; decide) fun v216 F212 H213 g214 r215 => ?_
      have eF212 := g214.s
      have gF212 := gF207.trans (g214.weak (by simp))
      replace r5 := r5.up g214.f
      replace s10 := ex_t g214.f s10
      replace a11 := a11.up g214.f
      replace r22 := r22.up g214.f
      replace s27 := ex_t g214.f s27
      replace a28 := a28.up g214.f
      replace r76 := r76.up g214.f
      replace r81 := r81.up g214.f
      replace r86 := r86.up g214.f
      replace r91 := r91.up g214.f
      replace r96 := r96.up g214.f
      replace r101 := r101.up g214.f
      replace r106 := r106.up g214.f
      replace r111 := r111.up g214.f
      replace r116 := r116.up g214.f
      replace r122 := r122.up g214.f
      replace o146 := g214.own (by simp [*]) o146.1 o146.2
      replace a147 := a147.up g214.f
      replace w149 := w149.keep g214
      replace r200 := r200.up g214.f
      replace r205 := r205.up g214.f
      replace r210 := r210.up g214.f
      replace r215 : Dq K F212 v216 ((e3 PyData.int PyData.int PyData.int) ((19 : Int), (21 : Int), (1 : Int))) := r215
      show _ ∧ _
      refine new_tup (K := K) (M := []) eF212 (.cons (Dq.int (0 : Int)) (.cons (Dq.int (1 : Int)) (.cons (Dq.int (0 : Int)) .nil))) (by show 3 ≤ 100000; decide) fun v221 F217 H218 g219 r220 => ?_
      have eF217 := g219.s
      have gF217 := gF212.trans (g219.weak (by simp))
      replace r5 := r5.up g219.f
      replace s10 := ex_t g219.f s10
      replace a11 := a11.up g219.f
      replace r22 := r22.up g219.f
      replace s27 := ex_t g219.f s27
      replace a28 := a28.up g219.f
      replace r76 := r76.up g219.f
      replace r81 := r81.up g219.f
      replace r86 := r86.up g219.f
      replace r91 := r91.up g219.f
      replace r96 := r96.up g219.f
      replace r101 := r101.up g219.f
      replace r106 := r106.up g219.f
      replace r111 := r111.up g219.f
      replace r116 := r116.up g219.f
      replace r122 := r122.up g219.f
      replace o146 := g219.own (by simp [*]) o146.1 o146.2
      replace a147 := a147.up g219.f
      replace w149 := w149.keep g219
      replace r200 := r200.up g219.f
      replace r205 := r205.up g219.f
      replace r210 := r210.up g219.f
      replace r215 := r215.up g219.f
      replace r220 : Dq K F217 v221 ((e3 PyData.int PyData.int PyData.int) ((0 : Int), (1 : Int), (0 : Int))) := r220
      show _ ∧ _
      refine new_tup (K := K) (M := []) eF217 (.cons (Dq.int (0 : Int)) (.cons (Dq.int (1 : Int)) (.cons (Dq.int (21 : Int)) .nil))) (by show 3 ≤ 100000; decide) fun v226 F222 H223 g224 r225 => ?_
      have eF222 := g224.s
      have gF222 := gF217.trans (g224.weak (by simp))
      replace r5 := r5.up g224.f
      replace s10 := ex_t g224.f s10
      replace a11 := a11.up g224.f
      replace r22 := r22.up g224.f
      replace s27 := ex_t g224.f s27
      replace a28 := a28.up g224.f
      replace r76 := r76.up g224.f
      replace r81 := r81.up g224.f
      replace r86 := r86.up g224.f
      replace r91 := r91.up g224.f
      replace r96 := r96.up g224.f
      replace r101 := r101.up g224.f
      replace r106 := r106.up g224.f
      replace r111 := r111.up g224.f
      replace r116 := r116.up g224.f
      replace r122 := r122.up g224.f
      replace o146 := g224.own (by simp [*]) o146.1 o146.2
      replace a147 := a147.up g224.f
      replace w149 := w149.keep g224
      replace r200 := r200.up g224.f
      replace r205 := r205.up g224.f
      replace r210 := r210.up g224.f
      replace r215 := r215.up g224.f
      replace r220 := r220.up g224.f
      replace r225 : Dq K F222 v226 ((e3 PyData.int PyData.int PyData.int) ((0 : Int), (1 : Int), (21 : Int))) := r225
      show _ ∧ _
      refine new_tup (K := K) (M := []) eF222 (.cons (Dq.int (19 : Int)) (.cons (Dq.int (20 : Int)) (.cons (Dq.int (20 : Int)) .nil))) (by show 3 ≤ 100000; decide) fun v231 F227 H228 g229 r230 => ?_
      have eF227 := g229.s
      have gF227 := gF222.trans (g229.weak (by simp))
      replace r5 := r5.up g229.f
      replace s10 := ex_t g229.f s10
      replace a11 := a11.up g229.f
      replace r22 := r22.up g229.f
      replace s27 := ex_t g229.f s27
      replace a28 := a28.up g229.f
      replace r76 := r76.up g229.f
      replace r81 := r81.up g229.f
      replace r86 := r86.up g229.f
      replace r91 := r91.up g229.f
      replace r96 := r96.up g229.f
      replace r101 := r101.up g229.f
      replace r106 := r106.up g229.f
      replace r111 := r111.up g229.f
      replace r116 := r116.up g229.f
      replace r122 := r122.up g229.f
      replace o146 := g229.own (by simp [*]) o146.1 o146.2
      replace a147 := a147.up g229.f
      replace w149 := w149.keep g229
      replace r200 := r200.up g229.f
      replace r205 := r205.up g229.f
      replace r210 := r210.up g229.f
      replace r215 := r215.up g229.f
      replace r220 := r220.up g229.f
      replace r225 := r225.up g229.f
      replace r230 : Dq K F227 v231 ((e3 PyData.int PyData.int PyData.int) ((19 : Int), (20 : Int), (20 : Int))) := r230
      show _ ∧ _
      refine new_lst (K := K) (M := []) eF227 (.cons r200 (.cons r205 (.cons r210 (.cons r215 (.cons r220 (.cons r225 (.cons r230 .nil))))))) (by show 7 ≤ 100000; decide) fun v236 F232 H233 g234 r235 => ?_
      have eF232 := g234.s
      have gF232 := gF227.trans (g234.weak (by simp))
      replace r5 := r5.up g234.f
      replace s10 := ex_t g234.f s10
      replace a11 := a11.up g234.f
      replace r22 := r22.up g234.f
      replace s27 := ex_t g234.f s27
      replace a28 := a28.up g234.f
      replace r76 := r76.up g234.f
      replace r81 := r81.up g234.f
      replace r86 := r86.up g234.f
      replace r91 := r91.up g234.f
      replace r96 := r96.up g234.f
      replace r101 := r101.up g234.f
      replace r106 := r106.up g234.f
      replace r111 := r111.up g234.f
      replace r116 := r116.up g234.f
      replace r122 := r122.up g234.f
      replace o146 := g234.own (by simp [*]) o146.1 o146.2
      replace a147 := a147.up g234.f
      replace w149 := w149.keep g234
      replace r200 := r200.up g234.f
      replace r205 := r205.up g234.f
      replace r210 := r210.up g234.f
      replace r215 := r215.up g234.f
      replace r220 := r220.up g234.f
      replace r225 := r225.up g234.f
      replace r230 := r230.up g234.f
      replace r235 : Dq K F232 v236 ((eL (e3 PyData.int PyData.int PyData.int)) [((0 : Int), (0 : Int), (1 : Int)), ((5 : Int), (4 : Int), (1 : Int)), ((-(21 : Int)), (0 : Int), (1 : Int)), ((19 : Int), (21 : Int), (1 : Int)), ((0 : Int), (1 : Int), (0 : Int)), ((0 : Int), (1 : Int), (21 : Int)), ((19 : Int), (20 : Int), (20 : Int))]) := r235
      refine ⟨F232, sc, ra, scr, b143.2, _, (e3 PyData.int PyData.int PyData.int), _, [((0 : Int), (0 : Int), (1 : Int)), ((5 : Int), (4 : Int), (1 : Int)), ((-(21 : Int)), (0 : Int), (1 : Int)), ((19 : Int), (21 : Int), (1 : Int)), ((0 : Int), (1 : Int), (0 : Int)), ((0 : Int), (1 : Int), (21 : Int)), ((19 : Int), (20 : Int), (20 : Int))], rfl, eF232, w149, r235, (post_bd kfb43).mono (fun b237 kfb43 v242 F238 H239 g240 ⟨r241, w243⟩ => ?_) (fun _ z => z)⟩
      have eF238 := g240.s
      have gF238 := gF232.trans (g240.weak (by simp))
      replace r5 := r5.up g240.f
      replace s10 := ex_t g240.f s10
      replace a11 := a11.up g240.f
      replace r22 := r22.up g240.f
      replace s27 := ex_t g240.f s27
      replace a28 := a28.up g240.f
      replace r76 := r76.up g240.f
      replace r81 := r81.up g240.f
      replace r86 := r86.up g240.f
      replace r91 := r91.up g240.f
      replace r96 := r96.up g240.f
      replace r101 := r101.up g240.f
      replace r106 := r106.up g240.f
      replace r111 := r111.up g240.f
      replace r116 := r116.up g240.f
      replace r122 := r122.up g240.f
      replace o146 := g240.own (by simp [*]) o146.1 o146.2
      replace a147 := a147.up g240.f
      replace r200 := r200.up g240.f
      replace r205 := r205.up g240.f
      replace r210 := r210.up g240.f
      replace r215 := r215.up g240.f
      replace r220 := r220.up g240.f
      replace r225 := r225.up g240.f
      replace r230 := r230.up g240.f
      replace r235 := r235.up g240.f
      refine ⟨_, rfl, _, rfl, ?_⟩
      obtain ⟨p244, xs245, rfl, s246, a247⟩ := dp_lst r76
      refine ⟨_, _, _, rfl, .inl (sq_of (eF238 _ _ s246)), len_all a247, _, _, rfl, rfl, ?_⟩
      refine ⟨F238, sc, ra, scr, b237.2, ((b43.2.1.length : Int) + (1 : Int)), rfl, eF238, w243, (post_bd kfb43).mono (fun b248 kfb43 v253 F249 H250 g251 ⟨r252, w254⟩ => ?_) (fun _ z => z)⟩
      have eF249 := g251.s
      have gF249 := gF238.trans (g251.weak (by simp))
      replace r5 := r5.up g251.f
      replace s10 := ex_t g251.f s10
      replace a11 := a11.up g251.f
      replace r22 := r22.up g251.f
      replace s27 := ex_t g251.f s27
      replace a28 := a28.up g251.f
      replace r76 := r76.up g251.f
      replace r81 := r81.up g251.f
      replace r86 := r86.up g251.f
      replace r91 := r91.up g251.f
      replace r96 := r96.up g251.f
      replace r101 := r101.up g251.f
      replace r106 := r106.up g251.f
      replace r111 := r111.up g251.f
      replace r116 := r116.up g251.f
      replace r122 := r122.up g251.f
      replace o146 := g251.own (by simp [*]) o146.1 o146.2
      replace a147 := a147.up g251.f
      replace r200 := r200.up g251.f
      replace r205 := r205.up g251.f
      replace r210 := r210.up g251.f
      replace r215 := r215.up g251.f
      replace r220 := r220.up g251.f
      replace r225 := r225.up g251.f
      replace r230 := r230.up g251.f
      replace r235 := r235.up g251.f
      replace r241 := r241.up g251.f
      replace s246 := g251.f _ _ s246
      replace a247 := a247.up g251.f
      subst r252
      refine ⟨_, rfl, ?_⟩
      refine ⟨F249, sc, ra, scr, b248.2, (2 : Int), rfl, eF249, w254, (post_bd kfb43).mono (fun b255 kfb43 v260 F256 H257 g258 ⟨r259, w261⟩ => ?_) (fun _ z => z)⟩
      have eF256 := g258.s
      have gF256 := gF249.trans (g258.weak (by simp))
      replace r5 := r5.up g258.f
      replace s10 := ex_t g258.f s10
      replace a11 := a11.up g258.f
      replace r22 := r22.up g258.f
      replace s27 := ex_t g258.f s27
      replace a28 := a28.up g258.f
      replace r76 := r76.up g258.f
      replace r81 := r81.up g258.f
      replace r86 := r86.up g258.f
      replace r91 := r91.up g258.f
      replace r96 := r96.up g258.f
      replace r101 := r101.up g258.f
      replace r106 := r106.up g258.f
      replace r111 := r111.up g258.f
      replace r116 := r116.up g258.f
      replace r122 := r122.up g258.f
      replace o146 := g258.own (by simp [*]) o146.1 o146.2
      replace a147 := a147.up g258.f
      replace r200 := r200.up g258.f
      replace r205 := r205.up g258.f
      replace r210 := r210.up g258.f
      replace r215 := r215.up g258.f
      replace r220 := r220.up g258.f
      replace r225 := r225.up g258.f
      replace r230 := r230.up g258.f
      replace r235 := r235.up g258.f
      replace r241 := r241.up g258.f
      replace s246 := g258.f _ _ s246
      replace a247 := a247.up g258.f
      subst r259
      refine ⟨rfl, ?_⟩
      rw [decV_int]
      refine ⟨_, rfl, ?_⟩
      refine if_jM (M := []) (F := F256) (fun b F' H' v => Dq K F' v ((eL (e3 PyData.int PyData.int PyData.int)) b)) kfb43 (fun _ Q' kfb43ib267 => ?_) (fun _ Q' kfb43ib267 => ?_) (fun b267 v262 F263 H264 g265 r266 kfb43 => ?_)
      · have gF256_ := Gm.refl (M := []) eF256
        refine ⟨_, rfl, _, rfl, _, rfl, ?_⟩
        refine cut_lst (K := K) (M := []) eF256 s246 a247 fun v273 F269 H270 g271 r272 => ?_
        have eF269 := g271.s
        have gF269 := gF256_.trans (g271.weak (by simp))
        replace r5 := r5.up g271.f
        replace s10 := ex_t g271.f s10
        replace a11 := a11.up g271.f
        replace r22 := r22.up g271.f
        replace s27 := ex_t g271.f s27
        replace a28 := a28.up g271.f
        replace r76 := r76.up g271.f
        replace r81 := r81.up g271.f
        replace r86 := r86.up g271.f
        replace r91 := r91.up g271.f
        replace r96 := r96.up g271.f
        replace r101 := r101.up g271.f
        replace r106 := r106.up g271.f
        replace r111 := r111.up g271.f
        replace r116 := r116.up g271.f
        replace r122 := r122.up g271.f
        replace o146 := g271.own (by simp [*]) o146.1 o146.2
        replace a147 := a147.up g271.f
        replace r200 := r200.up g271.f
        replace r205 := r205.up g271.f
        replace r210 := r210.up g271.f
        replace r215 := r215.up g271.f
        replace r220 := r220.up g271.f
        replace r225 := r225.up g271.f
        replace r230 := r230.up g271.f
        replace r235 := r235.up g271.f
        replace r241 := r241.up g271.f
        replace s246 := g271.f _ _ s246
        replace a247 := a247.up g271.f
        replace w261 := w261.keep g271
        refine ⟨_, rfl, ?_⟩
        show _ ∧ _
        refine new_lst (K := K) (M := []) eF269 (.cons r241 .nil) (by show 1 ≤ 100000; decide) fun v278 F274 H275 g276 r277 => ?_
        have eF274 := g276.s
        have gF274 := gF269.trans (g276.weak (by simp))
        replace r5 := r5.up g276.f
        replace s10 := ex_t g276.f s10
        replace a11 := a11.up g276.f
        replace r22 := r22.up g276.f
        replace s27 := ex_t g276.f s27
        replace a28 := a28.up g276.f
        replace r76 := r76.up g276.f
        replace r81 := r81.up g276.f
        replace r86 := r86.up g276.f
        replace r91 := r91.up g276.f
        replace r96 := r96.up g276.f
        replace r101 := r101.up g276.f
        replace r106 := r106.up g276.f
        replace r111 := r111.up g276.f
        replace r116 := r116.up g276.f
        replace r122 := r122.up g276.f
        replace o146 := g276.own (by simp [*]) o146.1 o146.2
        replace a147 := a147.up g276.f
        replace r200 := r200.up g276.f
        replace r205 := r205.up g276.f
        replace r210 := r210.up g276.f
        replace r215 := r215.up g276.f
        replace r220 := r220.up g276.f
        replace r225 := r225.up g276.f
        replace r230 := r230.up g276.f
        replace r235 := r235.up g276.f
        replace r241 := r241.up g276.f
        replace s246 := g276.f _ _ s246
        replace a247 := a247.up g276.f
        replace w261 := w261.keep g276
        replace r272 := r272.up g276.f
        replace r277 : Dq K F274 v278 ((eL (e3 PyData.int PyData.int PyData.int)) [b237.1]) := r277
        obtain ⟨p279, xs280, rfl, s281, a282⟩ := dp_lst r272
        obtain ⟨p283, xs284, rfl, s285, a286⟩ := dp_lst r277
        obtain ⟨h288, kfb43ib267⟩ := post_guard kfb43ib267
        refine ⟨_, _, _, _, rfl, rfl, eF274 _ _ s281, eF274 _ _ s285, cat_len a282 a286 h288, new_lstC (K := K) (M := []) (en := (e3 PyData.int PyData.int PyData.int)) (l := (cutL b43.2.1 none (some b248.1))) (l' := [b237.1]) eF274 a282 a286 fun v293 F289 H290 g291 r292 => ?_⟩
        have eF289 := g291.s
        have gF289 := gF274.trans (g291.weak (by simp))
        replace r5 := r5.up g291.f
        replace s10 := ex_t g291.f s10
        replace a11 := a11.up g291.f
        replace r22 := r22.up g291.f
        replace s27 := ex_t g291.f s27
        replace a28 := a28.up g291.f
        replace r76 := r76.up g291.f
        replace r81 := r81.up g291.f
        replace r86 := r86.up g291.f
        replace r91 := r91.up g291.f
        replace r96 := r96.up g291.f
        replace r101 := r101.up g291.f
        replace r106 := r106.up g291.f
        replace r111 := r111.up g291.f
        replace r116 := r116.up g291.f
        replace r122 := r122.up g291.f
        replace o146 := g291.own (by simp [*]) o146.1 o146.2
        replace a147 := a147.up g291.f
        replace r200 := r200.up g291.f
        replace r205 := r205.up g291.f
        replace r210 := r210.up g291.f
        replace r215 := r215.up g291.f
        replace r220 := r220.up g291.f
        replace r225 := r225.up g291.f
        replace r230 := r230.up g291.f
        replace r235 := r235.up g291.f
        replace r241 := r241.up g291.f
        replace s246 := g291.f _ _ s246
        replace a247 := a247.up g291.f
        replace w261 := w261.keep g291
        replace r272 := r272.up g291.f
        replace r277 := r277.up g291.f
        replace s281 := g291.f _ _ s281
        replace a282 := a282.up g291.f
        replace s285 := g291.f _ _ s285
        replace a286 := a286.up g291.f
        refine ⟨_, rfl, _, rfl, _, rfl, ?_⟩
        refine cut_lst (K := K) (M := []) eF289 s246 a247 fun v298 F294 H295 g296 r297 => ?_
        have eF294 := g296.s
        have gF294 := gF289.trans (g296.weak (by simp))
        replace r5 := r5.up g296.f
        replace s10 := ex_t g296.f s10
        replace a11 := a11.up g296.f
        replace r22 := r22.up g296.f
        replace s27 := ex_t g296.f s27
        replace a28 := a28.up g296.f
        replace r76 := r76.up g296.f
        replace r81 := r81.up g296.f
        replace r86 := r86.up g296.f
        replace r91 := r91.up g296.f
        replace r96 := r96.up g296.f
        replace r101 := r101.up g296.f
        replace r106 := r106.up g296.f
        replace r111 := r111.up g296.f
        replace r116 := r116.up g296.f
        replace r122 := r122.up g296.f
        replace o146 := g296.own (by simp [*]) o146.1 o146.2
        replace a147 := a147.up g296.f
        replace r200 := r200.up g296.f
        replace r205 := r205.up g296.f
        replace r210 := r210.up g296.f
        replace r215 := r215.up g296.f
        replace r220 := r220.up g296.f
        replace r225 := r225.up g296.f
        replace r230 := r230.up g296.f
        replace r235 := r235.up g296.f
        replace r241 := r241.up g296.f
        replace s246 := g296.f _ _ s246
        replace a247 := a247.up g296.f
        replace w261 := w261.keep g296
        replace r272 := r272.up g296.f
        replace r277 := r277.up g296.f
        replace s281 := g296.f _ _ s281
        replace a282 := a282.up g296.f
        replace s285 := g296.f _ _ s285
        replace a286 := a286.up g296.f
        replace r292 := r292.up g296.f
        obtain ⟨p299, xs300, rfl, s301, a302⟩ := dp_lst r292
        obtain ⟨p303, xs304, rfl, s305, a306⟩ := dp_lst r297
        obtain ⟨h308, kfb43ib267⟩ := post_guard kfb43ib267
        refine ⟨_, _, _, _, rfl, rfl, eF294 _ _ s301, eF294 _ _ s305, cat_len a302 a306 h308, new_lstC (K := K) (M := []) (en := (e3 PyData.int PyData.int PyData.int)) (l := ((cutL b43.2.1 none (some b248.1)) ++ [b237.1])) (l' := (cutL b43.2.1 (some b248.1) none)) eF294 a302 a306 fun v313 F309 H310 g311 r312 => ?_⟩
        have eF309 := g311.s
        have gF309 := gF294.trans (g311.weak (by simp))
        replace r5 := r5.up g311.f
        replace s10 := ex_t g311.f s10
        replace a11 := a11.up g311.f
        replace r22 := r22.up g311.f
        replace s27 := ex_t g311.f s27
        replace a28 := a28.up g311.f
        replace r76 := r76.up g311.f
        replace r81 := r81.up g311.f
        replace r86 := r86.up g311.f
        replace r91 := r91.up g311.f
        replace r96 := r96.up g311.f
        replace r101 := r101.up g311.f
        replace r106 := r106.up g311.f
        replace r111 := r111.up g311.f
        replace r116 := r116.up g311.f
        replace r122 := r122.up g311.f
        replace o146 := g311.own (by simp [*]) o146.1 o146.2
        replace a147 := a147.up g311.f
        replace r200 := r200.up g311.f
        replace r205 := r205.up g311.f
        replace r210 := r210.up g311.f
        replace r215 := r215.up g311.f
        replace r220 := r220.up g311.f
        replace r225 := r225.up g311.f
        replace r230 := r230.up g311.f
        replace r235 := r235.up g311.f
        replace r241 := r241.up g311.f
        replace s246 := g311.f _ _ s246
        replace a247 := a247.up g311.f
        replace w261 := w261.keep g311
        replace r272 := r272.up g311.f
        replace r277 := r277.up g311.f
        replace s281 := g311.f _ _ s281
        replace a282 := a282.up g311.f
        replace s285 := g311.f _ _ s285
        replace a286 := a286.up g311.f
        replace r292 := r292.up g311.f
        replace r297 := r297.up g311.f
        replace s301 := g311.f _ _ s301
        replace a302 := a302.up g311.f
        replace s305 := g311.f _ _ s305
        replace a306 := a306.up g311.f
        exact kfb43ib267.h _ _ _ gF309 r312
      · have gF256_ := Gm.refl (M := []) eF256
        refine ⟨_, rfl, ?_⟩
        exact kfb43ib267.h _ _ _ gF256_ r76
      have eF263 := g265.s
      have gF263 := gF256.trans (g265.weak (by simp))
      replace r5 := r5.up g265.f
      replace s10 := ex_t g265.f s10
      replace a11 := a11.up g265.f
      replace r22 := r22.up g265.f
      replace s27 := ex_t g265.f s27
      replace a28 := a28.up g265.f
      replace r76 := r76.up g265.f
      replace r81 := r81.up g265.f
      replace r86 := r86.up g265.f
      replace r91 := r91.up g265.f
      replace r96 := r96.up g265.f
      replace r101 := r101.up g265.f
      replace r106 := r106.up g265.f
      replace r111 := r111.up g265.f
      replace r116 := r116.up g265.f
      replace r122 := r122.up g265.f
      replace o146 := g265.own (by simp [*]) o146.1 o146.2
      replace a147 := a147.up g265.f
      replace r200 := r200.up g265.f
      replace r205 := r205.up g265.f
      replace r210 := r210.up g265.f
      replace r215 := r215.up g265.f
      replace r220 := r220.up g265.f
      replace r225 := r225.up g265.f
      replace r230 := r230.up g265.f
      replace r235 := r235.up g265.f
      replace r241 := r241.up g265.f
      replace s246 := g265.f _ _ s246
      replace a247 := a247.up g265.f
      replace w261 := w261.keep g265
      exact kfb43.h _ _ _ gF263 ⟨_, _, _, _, _, _, _, _, _, _, _, _, _, rfl, yq144, nq144, o146, a147, r266, w261⟩
    have hy315 : ∀ q ∈ [p12], q ∈ [ra] ∨ H0 q = none := by intro q hq; simp only [List.mem_cons, List.not_mem_nil, or_false] at hq; rcases hq with rfl; exact (.inr zp12)
    have g314 := Gm.outs [p12] hy315 gF35 (g57.weak (by simp))
    replace r5 := r5.up g57.f
    replace s10 := ex_t g57.f s10
    replace a11 := a11.up g57.f
    replace r22 := r22.up g57.f
    replace s27 := ex_t g57.f s27
    replace a28 := a28.up g57.f
    replace r32 := r32.up g57.f
    have eF55 := g57.s
    obtain ⟨q316, c317, u318, u319, u320, u321, u322, u323, u324, u325, u326, u327, xs328, rfl, yq316, nq316, o329, a330, r331, w332⟩ := i58
    have mq316 := nq316.symm
    replace yq316 := out_y hy315 gF35 yq316
    refine ⟨_, rfl, ?_⟩
    refine ⟨F55, sc, ra, scr, b60.2.2, (6 : Int), rfl, eF55, w332, (post_bd k).mono (fun b333 k v338 F334 H335 g336 ⟨r337, w339⟩ => ?_) (fun _ z => z)⟩
    have eF334 := g336.s
    have gF334 := g314.trans (g336.weak (by simp))
    replace r5 := r5.up g336.f
    replace s10 := ex_t g336.f s10
    replace a11 := a11.up g336.f
    replace r22 := r22.up g336.f
    replace s27 := ex_t g336.f s27
    replace a28 := a28.up g336.f
    replace o329 := g336.own (by simp [*]) o329.1 o329.2
    replace a330 := a330.up g336.f
    replace r331 := r331.up g336.f
    subst r337
    refine ⟨rfl, ?_⟩
    rw [decV_int]
    refine ⟨_, rfl, ?_⟩
    refine ifs_jM (M := [q316, ra]) (F := F334) (fun b340 F' H' σ' => ∃ (q2 : Addr) (c3 : V) (u4 : Option V) (u5 : Option V) (u6 : Option V) (u7 : Option V) (u8 : Option V) (u9 : Option V) (u10 : Option V) (u11 : Option V) (u12 : Option V) (u13 : Option V) (xs2 : List V), σ' = [some (V.ref sc), some (V.ref ra), some (V.ref q2), some c3, u4, u5, u6, u7, u8, u9, u10, u11, u12, u13] ∧ (q2 ∈ [q316, ra] ∨ H335 q2 = none) ∧ ra ≠ q2 ∧ (H' q2 = some (.lst xs2) ∧ F' q2 = none) ∧ DqAll K F' xs2 (List.map (e2 PyData.int PyData.int) b340.1) ∧ Dq K F' c3 ((eL (e3 PyData.int PyData.int PyData.int)) b340.2.1) ∧ RowAt K sc ra scr F' H' b340.2.2) k (fun _ nx kjb340 => ?_) (fun _ nx kjb340 => ?_) (fun b340 σ344 F341 H342 g343 i345 k => ?_)
    · have gF334_ := Gm.refl (M := [q316, ra]) eF334
      refine ⟨_, rfl, ?_⟩
      refine ⟨F334, sc, ra, scr, b333.2, (4 : Int), rfl, eF334, w339, (post_bd kjb340).mono (fun b346 kjb340 v351 F347 H348 g349 ⟨r350, w352⟩ => ?_) (fun _ z => z)⟩
      have eF347 := g349.s
      have gF347 := gF334_.trans (g349.weak (by simp))
      replace r5 := r5.up g349.f
      replace s10 := ex_t g349.f s10
      replace a11 := a11.up g349.f
      replace r22 := r22.up g349.f
      replace s27 := ex_t g349.f s27
      replace a28 := a28.up g349.f
      replace o329 := g349.own (by simp [*]) o329.1 o329.2
      replace a330 := a330.up g349.f
      replace r331 := r331.up g349.f
      subst r350
      refine ⟨_, _, rfl, rfl, ?_⟩
      obtain ⟨h353, kjb340⟩ := post_range kjb340
      refine ⟨_, rfl, h353.1, h353.2, ?_⟩
      obtain ⟨h374, kjb340⟩ := post_guard kjb340
      refine lc_mapO (K := K) (M := []) wlk_range (e2 PyData.int PyData.int) kjb340 eF347 h374 (fun _ _ => by simp) (fun x357 v372 F365 H366 F367 H368 g369 g370 r371 Q' k355 => ?_) (fun _ z => z) (fun b356 p382 xs383 F359 H360 g361 y386 o384 a385 kjb340 => ?_) gm_name
      · have g375 := Gm.refl (M := []) g369.s
        replace r5 := r5.up g369.f
        replace s10 := ex_t g369.f s10
        replace a11 := a11.up g369.f
        replace r22 := r22.up g369.f
        replace s27 := ex_t g369.f s27
        replace a28 := a28.up g369.f
        replace o329 := g369.own (by simp [*]) o329.1 o329.2
        replace a330 := a330.up g369.f
        replace r331 := r331.up g369.f
        replace w352 := w352.keep g369
        replace r5 := r5.up g370.f
        replace s10 := ex_t g370.f s10
        replace a11 := a11.up g370.f
        replace r22 := r22.up g370.f
        replace s27 := ex_t g370.f s27
        replace a28 := a28.up g370.f
        replace o329 := g370.own (by simp [*]) o329.1 o329.2
        replace a330 := a330.up g370.f
        replace r331 := r331.up g370.f
        replace w352 := w352.keep g370
        have eF367 := g370.s
        have gF367 := g375.trans (g370.weak (by simp))
        subst r371
        refine ⟨rfl, _, rfl, ?_⟩
        show _ ∧ _
        refine new_tup (K := K) (M := []) eF367 (.cons (Dq.int x357) (.cons (Dq.int (1 : Int)) .nil)) (by show 2 ≤ 100000; decide) fun v380 F376 H377 g378 r379 => ?_
        have eF376 := g378.s
        have gF376 := gF367.trans (g378.weak (by simp))
        replace r5 := r5.up g378.f
        replace s10 := ex_t g378.f s10
        replace a11 := a11.up g378.f
        replace r22 := r22.up g378.f
        replace s27 := ex_t g378.f s27
        replace a28 := a28.up g378.f
        replace o329 := g378.own (by simp [*]) o329.1 o329.2
        replace a330 := a330.up g378.f
        replace r331 := r331.up g378.f
        replace w352 := w352.keep g378
        replace r379 : Dq K F376 v380 ((e2 PyData.int PyData.int) (x357, (1 : Int))) := r379
        exact k355.h _ _ _ gF376 r379
      have np382 := ne_of_none w352.1 y386
      have mp382 := np382.symm
      have nq316_p382 := ne_of_none o329.1 y386
      have np382_q316 := nq316_p382.symm
      have zp382 := gF347.fresh y386
      have eF359 := g361.s
      have gF359 := gF347.trans (g361.weak (by simp))
      replace r5 := r5.up g361.f
      replace s10 := ex_t g361.f s10
      replace a11 := a11.up g361.f
      replace r22 := r22.up g361.f
      replace s27 := ex_t g361.f s27
      replace a28 := a28.up g361.f
      replace o329 := g361.own (by simp [*]) o329.1 o329.2
      replace a330 := a330.up g361.f
      replace r331 := r331.up g361.f
      replace w352 := w352.keep g361
      refine ⟨_, rfl, ?_⟩
      refine ⟨F359, sc, ra, scr, b346.2, (3 : Int), rfl, eF359, w352, (post_bd kjb340).mono (fun b387 kjb340 v392 F388 H389 g390 ⟨r391, w393⟩ => ?_) (fun _ z => z)⟩
      have eF388 := g390.s
      have gF388 := gF359.trans (g390.weak (by simp))
      replace r5 := r5.up g390.f
      replace s10 := ex_t g390.f s10
      replace a11 := a11.up g390.f
      replace r22 := r22.up g390.f
      replace s27 := ex_t g390.f s27
      replace a28 := a28.up g390.f
      replace o329 := g390.own (by simp [*]) o329.1 o329.2
      replace a330 := a330.up g390.f
      replace r331 := r331.up g390.f
      replace o384 := g390.own (by simp [*]) o384.1 o384.2
      replace a385 := a385.up g390.f
      subst r391
      refine ⟨_, _, rfl, rfl, ?_⟩
      obtain ⟨h394, kjb340⟩ := post_range kjb340
      refine ⟨_, rfl, h394.1, h394.2, ?_⟩
      obtain ⟨h415, kjb340⟩ := post_guard kjb340
      refine lc_map (K := K) (M := []) wlk_range (e3 PyData.int PyData.int PyData.int) kjb340 eF388 h415 (fun _ _ => by simp) (fun x398 v413 F406 H407 F408 H409 g410 g411 r412 Q' k396 => ?_) (fun _ z => z) (fun b397 v399 F400 H401 g402 r403 kjb340 => ?_) gm_name
      · have g416 := Gm.refl (M := []) g410.s
        replace r5 := r5.up g410.f
        replace s10 := ex_t g410.f s10
        replace a11 := a11.up g410.f
        replace r22 := r22.up g410.f
        replace s27 := ex_t g410.f s27
        replace a28 := a28.up g410.f
        replace o329 := g410.own (by simp [*]) o329.1 o329.2
        replace a330 := a330.up g410.f
        replace r331 := r331.up g410.f
        replace o384 := g410.own (by simp [*]) o384.1 o384.2
        replace a385 := a385.up g410.f
        replace w393 := w393.keep g410
        replace r5 := r5.up g411.f
        replace s10 := ex_t g411.f s10
        replace a11 := a11.up g411.f
        replace r22 := r22.up g411.f
        replace s27 := ex_t g411.f s27
        replace a28 := a28.up g411.f
        replace o329 := g411.own (by simp [*]) o329.1 o329.2
        replace a330 := a330.up g411.f
        replace r331 := r331.up g411.f
        replace o384 := g411.own (by simp [*]) o384.1 o384.2
        replace a385 := a385.up g411.f
        replace w393 := w393.keep g411
        have eF408 := g411.s
        have gF408 := g416.trans (g411.weak (by simp))
        subst r412
        refine ⟨rfl, _, rfl, _, rfl, _, _, rfl, rfl, ?_⟩
        show _ ∧ _
        refine new_tup (K := K) (M := []) eF408 (.cons (Dq.int x398) (.cons (Dq.int (x398 + (1 : Int))) (.cons (Dq.int (2 : Int)) .nil))) (by show 3 ≤ 100000; decide) fun v421 F417 H418 g419 r420 => ?_
        have eF417 := g419.s
        have gF417 := gF408.trans (g419.weak (by simp))
        replace r5 := r5.up g419.f
        replace s10 := ex_t g419.f s10
        replace a11 := a11.up g419.f
        replace r22 := r22.up g419.f
        replace s27 := ex_t g419.f s27
        replace a28 := a28.up g419.f
        replace o329 := g419.own (by simp [*]) o329.1 o329.2
        replace a330 := a330.up g419.f
        replace r331 := r331.up g419.f
        replace o384 := g419.own (by simp [*]) o384.1 o384.2
        replace a385 := a385.up g419.f
        replace w393 := w393.keep g419
        replace r420 : Dq K F417 v421 ((e3 PyData.int PyData.int PyData.int) (x398, (x398 + (1 : Int)), (2 : Int))) := r420
        exact k396.h _ _ _ gF417 r420
      have eF400 := g402.s
      have gF400 := gF388.trans (g402.weak (by simp))
      replace r5 := r5.up g402.f
      replace s10 := ex_t g402.f s10
      replace a11 := a11.up g402.f
      replace r22 := r22.up g402.f
      replace s27 := ex_t g402.f s27
      replace a28 := a28.up g402.f
      replace o329 := g402.own (by simp [*]) o329.1 o329.2
      replace a330 := a330.up g402.f
      replace r331 := r331.up g402.f
      replace o384 := g402.own (by simp [*]) o384.1 o384.2
      replace a385 := a385.up g402.f
      replace w393 := w393.keep g402
      exact kjb340.h _ _ _ gF400 ⟨_, _, _, _, _, _, _, _, _, _, _, _, _, rfl, (.inr zp382), np382, o384, a385, r403, w393⟩
    · have gF334_ := Gm.refl (M := [q316, ra]) eF334
      exact kjb340.h _ _ _ gF334_ ⟨_, _, _, _, _, _, _, _, _, _, _, _, _, rfl, .inl (by simp), nq316, o329, a330, r331, w339⟩
    have hy424 : ∀ q ∈ [q316], q ∈ [ra] ∨ H0 q = none := by intro q hq; simp only [List.mem_cons, List.not_mem_nil, or_false] at hq; rcases hq with rfl; exact yq316
    have g423 := Gm.outs [q316] hy424 gF334 (g343.weak (by simp))
    replace r5 := r5.up g343.f
    replace s10 := ex_t g343.f s10
    replace a11 := a11.up g343.f
    replace r22 := r22.up g343.f
    replace s27 := ex_t g343.f s27
    replace a28 := a28.up g343.f
    replace r331 := r331.up g343.f
    have eF341 := g343.s
    obtain ⟨q425, c426, u427, u428, u429, u430, u431, u432, u433, u434, u435, u436, xs437, rfl, yq425, nq425, o438, a439, r440, w441⟩ := i345
    have mq425 := nq425.symm
    replace yq425 := out_y hy424 gF334 yq425
    refine ⟨_, rfl, ?_⟩
    show _ ∧ _
    refine new_lst (K := K) (M := []) eF341 .nil (by show 0 ≤ 100000; decide) fun v446 F442 H443 g444 r445 => ?_
    have eF442 := g444.s
    have gF442 := g423.trans (g444.weak (by simp))
    replace r5 := r5.up g444.f
    replace s10 := ex_t g444.f s10
    replace a11 := a11.up g444.f
    replace r22 := r22.up g444.f
    replace s27 := ex_t g444.f s27
    replace a28 := a28.up g444.f
    replace o438 := g444.own (by simp [*]) o438.1 o438.2
    replace a439 := a439.up g444.f
    replace r440 := r440.up g444.f
    replace w441 := w441.keep g444
    replace r445 : Dq K F442 v446 ((eL (e2 PyData.int PyData.int)) []) := r445
    refine ⟨b340.1, [], (own_dp (en := (e2 PyData.int PyData.int)) (l := b340.1) o438.1 a439 eF442), r445.dp eF442, ?_⟩
    refine ⟨_, rfl, ?_⟩
    refine and_jS (M := [ra]) (fun st' F' H' => RowAt K sc ra scr F' H' st') eF442 w441 k (fun _ Q' ktb447 => ?_) (fun b447 F448 H449 g450 w451 k => ?_)
    · have gF442_ := Gm.refl (M := [ra]) eF442
      refine ⟨_, rfl, ?_⟩
      refine ⟨F442, sc, ra, scr, b340.2.2, (5 : Int), rfl, eF442, w441, (post_bd ktb447).mono (fun b452 ktb447 v457 F453 H454 g455 ⟨r456, w458⟩ => ?_) (fun _ z => z)⟩
      have eF453 := g455.s
      have gF453 := gF442_.trans (g455.weak (by simp))
      replace r5 := r5.up g455.f
      replace s10 := ex_t g455.f s10
      replace a11 := a11.up g455.f
      replace r22 := r22.up g455.f
      replace s27 := ex_t g455.f s27
      replace a28 := a28.up g455.f
      replace o438 := g455.own (by simp [*]) o438.1 o438.2
      replace a439 := a439.up g455.f
      replace r440 := r440.up g455.f
      replace r445 := r445.up g455.f
      subst r456
      refine ⟨rfl, ?_⟩
      rw [decV_int]
      refine ⟨_, rfl, ?_⟩
      exact ktb447.h _ _ gF453 w458
    have eF448 := g450.s
    have gF448 := gF442.trans (g450.weak (by simp))
    replace r5 := r5.up g450.f
    replace s10 := ex_t g450.f s10
    replace a11 := a11.up g450.f
    replace r22 := r22.up g450.f
    replace s27 := ex_t g450.f s27
    replace a28 := a28.up g450.f
    replace o438 := g450.own (by simp [*]) o438.1 o438.2
    replace a439 := a439.up g450.f
    replace r440 := r440.up g450.f
    replace r445 := r445.up g450.f
    refine ifs_jM (M := [q425, ra]) (F := F448) (fun b459 F' H' σ' => ∃ (u4 : Option V) (u5 : Option V) (u6 : Option V) (u7 : Option V) (u8 : Option V) (u9 : Option V) (u10 : Option V) (u11 : Option V) (u12 : Option V) (u13 : Option V) (xs2 : List V), σ' = [some (V.ref sc), some (V.ref ra), some (V.ref q425), some c426, u4, u5, u6, u7, u8, u9, u10, u11, u12, u13] ∧ (H' q425 = some (.lst xs2) ∧ F' q425 = none) ∧ DqAll K F' xs2 (List.map (e2 PyData.int PyData.int) b459.1) ∧ RowAt K sc ra scr F' H' b459.2) k (fun _ nx kjb459 => ?_) (fun _ nx kjb459 => ?_) (fun b459 σ463 F460 H461 g462 i464 k => ?_)
    · have gF448_ := Gm.refl (M := [q425, ra]) eF448
      refine ⟨_, rfl, .inl ⟨rfl, _, sq_of o438.1⟩, _, rfl, _, rfl, ?_⟩
      obtain ⟨i465, h466, kjb459⟩ := post_get kjb459
      obtain ⟨v467, h468, r469⟩ := dq_at a439 h466
      refine ⟨_, _, _, _, rfl, rfl, (sq_of o438.1), h468, ?_⟩
      obtain ⟨h470, kjb459⟩ := post_guard kjb459
      refine ⟨_, _, _, rfl, rfl, o438.1, own_sz a439 h470, ?_⟩
      have g471 := gF448_.putOr (o := .lst (xs437 ++ [v467])) (.inl (by simp)) o438.1 o438.2
      replace w451 := w451.put nq425 (o := .lst (xs437 ++ [v467]))
      replace o438 : (upd H449 q425 (.lst (xs437 ++ [v467]))) q425 = some (.lst (xs437 ++ [v467])) ∧ F448 q425 = none := ⟨upd_same, o438.2⟩
      replace a439 : DqAll K F448 (xs437 ++ [v467]) (List.map (e2 PyData.int PyData.int) (b340.1 ++ [i465])) := by rw [List.map_append]; exact a439.app (.cons r469 .nil)
      have e472 := g471.s
      exact kjb459.h _ _ _ g471 ⟨_, _, _, _, _, _, _, _, _, _, _, rfl, o438, a439, w451⟩
    · have gF448_ := Gm.refl (M := [q425, ra]) eF448
      exact kjb459.h _ _ _ gF448_ ⟨_, _, _, _, _, _, _, _, _, _, _, rfl, o438, a439, w451⟩
    have hy474 : ∀ q ∈ [q425], q ∈ [ra] ∨ H0 q = none := by intro q hq; simp only [List.mem_cons, List.not_mem_nil, or_false] at hq; rcases hq with rfl; exact yq425
    have g473 := Gm.outs [q425] hy474 gF448 (g462.weak (by simp))
    replace r5 := r5.up g462.f
    replace s10 := ex_t g462.f s10
    replace a11 := a11.up g462.f
    replace r22 := r22.up g462.f
    replace s27 := ex_t g462.f s27
    replace a28 := a28.up g462.f
    replace r440 := r440.up g462.f
    replace r445 := r445.up g462.f
    have eF460 := g462.s
    obtain ⟨u475, u476, u477, u478, u479, u480, u481, u482, u483, u484, xs485, rfl, o486, a487, w488⟩ := i464
    refine ⟨_, rfl, ?_⟩
    refine to_VO (K := K) (M := []) eF460 o486.1 a487 (en := (e2 PyData.int PyData.int)) (l := b459.1) fun v493 F489 H490 g491 r492 => ?_
    have eF489 := g491.s
    have gF489 := g473.trans (g491.weak (by simp))
    replace r5 := r5.up g491.f
    replace s10 := ex_t g491.f s10
    replace a11 := a11.up g491.f
    replace r22 := r22.up g491.f
    replace s27 := ex_t g491.f s27
    replace a28 := a28.up g491.f
    replace r440 := r440.up g491.f
    replace r445 := r445.up g491.f
    replace o486 := g491.own (by simp [*]) o486.1 o486.2
    replace a487 := a487.up g491.f
    replace w488 := w488.keep g491
    refine ⟨_, rfl, ?_⟩
    obtain ⟨p494, xs495, rfl, s496, a497⟩ := dp_lst r440
    refine to_VL (K := K) (M := []) eF489 s496 a497 (en := (e3 PyData.int PyData.int PyData.int)) (l := b340.2.1) fun v502 F498 H499 g500 r501 => ?_
    have eF498 := g500.s
    have gF498 := gF489.trans (g500.weak (by simp))
    replace r5 := r5.up g500.f
    replace s10 := ex_t g500.f s10
    replace a11 := a11.up g500.f
    replace r22 := r22.up g500.f
    replace s27 := ex_t g500.f s27
    replace a28 := a28.up g500.f
    replace r440 := r440.up g500.f
    replace r445 := r445.up g500.f
    replace o486 := g500.own (by simp [*]) o486.1 o486.2
    replace a487 := a487.up g500.f
    replace w488 := w488.keep g500
    replace r492 := r492.up g500.f
    replace s496 := g500.f _ _ s496
    replace a497 := a497.up g500.f
    show _ ∧ _
    refine new_tup (K := K) (M := []) eF498 (.cons r492 (.cons r501 .nil)) (by show 2 ≤ 100000; decide) fun v507 F503 H504 g505 r506 => ?_
    have eF503 := g505.s
    have gF503 := gF498.trans (g505.weak (by simp))
    replace r5 := r5.up g505.f
    replace s10 := ex_t g505.f s10
    replace a11 := a11.up g505.f
    replace r22 := r22.up g505.f
    replace s27 := ex_t g505.f s27
    replace a28 := a28.up g505.f
    replace r440 := r440.up g505.f
    replace r445 := r445.up g505.f
    replace o486 := g505.own (by simp [*]) o486.1 o486.2
    replace a487 := a487.up g505.f
    replace w488 := w488.keep g505
    replace r492 := r492.up g505.f
    replace s496 := g505.f _ _ s496
    replace a497 := a497.up g505.f
    replace r501 := r501.up g505.f
    replace r506 : Dq K F503 v507 ((e2 (eV (e2 PyData.int PyData.int)) (eV (e3 PyData.int PyData.int PyData.int))) (b459.1, b340.2.1)) := r506
    refine ⟨_, rfl, ?_⟩
    obtain ⟨p508, x509, x510, rfl, s511, d512, d513⟩ := dp_tup2 r506
    refine ⟨_, _, _, _, rfl, rfl, ex_t eF503 s511, rfl, ?_⟩
    refine ⟨F503, _, (b459.1, b340.2.1).1, rfl, eF503, d512, (post_bd k).mono (fun b514 k v519 F515 H516 g517 r518 => ?_) (fun _ z => z)⟩
    have eF515 := g517.s
    have gF515 := gF503.trans (g517.weak (by simp))
    replace r5 := r5.up g517.f
    replace s10 := ex_t g517.f s10
    replace a11 := a11.up g517.f
    replace r22 := r22.up g517.f
    replace s27 := ex_t g517.f s27
    replace a28 := a28.up g517.f
    replace r440 := r440.up g517.f
    replace r445 := r445.up g517.f
    replace o486 := g517.own (by simp [*]) o486.1 o486.2
    replace a487 := a487.up g517.f
    replace w488 := w488.keep g517
    replace r492 := r492.up g517.f
    replace s496 := g517.f _ _ s496
    replace a497 := a497.up g517.f
    replace r501 := r501.up g517.f
    replace r506 := r506.up g517.f
    replace s511 := ex_t g517.f s511
    replace d512 := d512.up g517.f
    replace d513 := d513.up g517.f
    refine ⟨_, rfl, ?_⟩
    refine ⟨_, _, _, _, rfl, rfl, ex_t eF515 s511, rfl, ?_⟩
    refine ⟨F515, _, (b459.1, b340.2.1).2, rfl, eF515, d513, (post_bd k).mono (fun b521 k v526 F522 H523 g524 r525 => ?_) (fun _ z => z)⟩
    have eF522 := g524.s
    have gF522 := gF515.trans (g524.weak (by simp))
    replace r5 := r5.up g524.f
    replace s10 := ex_t g524.f s10
    replace a11 := a11.up g524.f
    replace r22 := r22.up g524.f
    replace s27 := ex_t g524.f s27
    replace a28 := a28.up g524.f
    replace r440 := r440.up g524.f
    replace r445 := r445.up g524.f
    replace o486 := g524.own (by simp [*]) o486.1 o486.2
    replace a487 := a487.up g524.f
    replace w488 := w488.keep g524
    replace r492 := r492.up g524.f
    replace s496 := g524.f _ _ s496
    replace a497 := a497.up g524.f
    replace r501 := r501.up g524.f
    replace r506 := r506.up g524.f
    replace s511 := ex_t g524.f s511
    replace d512 := d512.up g524.f
    replace d513 := d513.up g524.f
    replace r518 := r518.up g524.f
    show _ ∧ _
    refine new_lst (K := K) (M := []) eF522 (.cons r518 (.cons r525 .nil)) (by show 2 ≤ 100000; decide) fun v532 F528 H529 g530 r531 => ?_
    have eF528 := g530.s
    have gF528 := gF522.trans (g530.weak (by simp))
    replace r5 := r5.up g530.f
    replace s10 := ex_t g530.f s10
    replace a11 := a11.up g530.f
    replace r22 := r22.up g530.f
    replace s27 := ex_t g530.f s27
    replace a28 := a28.up g530.f
    replace r440 := r440.up g530.f
    replace r445 := r445.up g530.f
    replace o486 := g530.own (by simp [*]) o486.1 o486.2
    replace a487 := a487.up g530.f
    replace w488 := w488.keep g530
    replace r492 := r492.up g530.f
    replace s496 := g530.f _ _ s496
    replace a497 := a497.up g530.f
    replace r501 := r501.up g530.f
    replace r506 := r506.up g530.f
    replace s511 := ex_t g530.f s511
    replace d512 := d512.up g530.f
    replace d513 := d513.up g530.f
    replace r518 := r518.up g530.f
    replace r525 := r525.up g530.f
    replace r531 : Dq K F528 v532 ((eL (eO PyData.int)) [b514, b521]) := r531
    refine ⟨_, rfl, ?_⟩
    show _ ∧ _
    refine new_tup (K := K) (M := []) eF528 .nil (by show 0 ≤ 100000; decide) fun v537 F533 H534 g535 r536 => ?_
    have eF533 := g535.s
    have gF533 := gF528.trans (g535.weak (by simp))
    replace r5 := r5.up g535.f
    replace s10 := ex_t g535.f s10
    replace a11 := a11.up g535.f
    replace r22 := r22.up g535.f
    replace s27 := ex_t g535.f s27
    replace a28 := a28.up g535.f
    replace r440 := r440.up g535.f
    replace r445 := r445.up g535.f
    replace o486 := g535.own (by simp [*]) o486.1 o486.2
    replace a487 := a487.up g535.f
    replace w488 := w488.keep g535
    replace r492 := r492.up g535.f
    replace s496 := g535.f _ _ s496
    replace a497 := a497.up g535.f
    replace r501 := r501.up g535.f
    replace r506 := r506.up g535.f
    replace s511 := ex_t g535.f s511
    replace d512 := d512.up g535.f
    replace d513 := d513.up g535.f
    replace r518 := r518.up g535.f
    replace r525 := r525.up g535.f
    replace r531 := r531.up g535.f
    replace r536 : Dq K F533 v537 (eV (e2 PyData.int PyData.int) []) := r536
    show _ ∧ _
    refine new_tup (K := K) (M := []) eF533 .nil (by show 0 ≤ 100000; decide) fun v542 F538 H539 g540 r541 => ?_
    have eF538 := g540.s
    have gF538 := gF533.trans (g540.weak (by simp))
    replace r5 := r5.up g540.f
    replace s10 := ex_t g540.f s10
    replace a11 := a11.up g540.f
    replace r22 := r22.up g540.f
    replace s27 := ex_t g540.f s27
    replace a28 := a28.up g540.f
    replace r440 := r440.up g540.f
    replace r445 := r445.up g540.f
    replace o486 := g540.own (by simp [*]) o486.1 o486.2
    replace a487 := a487.up g540.f
    replace w488 := w488.keep g540
    replace r492 := r492.up g540.f
    replace s496 := g540.f _ _ s496
    replace a497 := a497.up g540.f
    replace r501 := r501.up g540.f
    replace r506 := r506.up g540.f
    replace s511 := ex_t g540.f s511
    replace d512 := d512.up g540.f
    replace d513 := d513.up g540.f
    replace r518 := r518.up g540.f
    replace r525 := r525.up g540.f
    replace r531 := r531.up g540.f
    replace r536 := r536.up g540.f
    replace r541 : Dq K F538 v542 (eV (e3 PyData.int PyData.int PyData.int) []) := r541
    show _ ∧ _
    refine new_tup (K := K) (M := []) eF538 (.cons r536 (.cons r541 .nil)) (by show 2 ≤ 100000; decide) fun v547 F543 H544 g545 r546 => ?_
    have eF543 := g545.s
    have gF543 := gF538.trans (g545.weak (by simp))
    replace r5 := r5.up g545.f
    replace s10 := ex_t g545.f s10
    replace a11 := a11.up g545.f
    replace r22 := r22.up g545.f
    replace s27 := ex_t g545.f s27
    replace a28 := a28.up g545.f
    replace r440 := r440.up g545.f
    replace r445 := r445.up g545.f
    replace o486 := g545.own (by simp [*]) o486.1 o486.2
    replace a487 := a487.up g545.f
    replace w488 := w488.keep g545
    replace r492 := r492.up g545.f
    replace s496 := g545.f _ _ s496
    replace a497 := a497.up g545.f
    replace r501 := r501.up g545.f
    replace r506 := r506.up g545.f
    replace s511 := ex_t g545.f s511
    replace d512 := d512.up g545.f
    replace d513 := d513.up g545.f
    replace r518 := r518.up g545.f
    replace r525 := r525.up g545.f
    replace r531 := r531.up g545.f
    replace r536 := r536.up g545.f
    replace r541 := r541.up g545.f
    replace r546 : Dq K F543 v547 ((e2 (eV (e2 PyData.int PyData.int)) (eV (e3 PyData.int PyData.int PyData.int))) ([], [])) := r546
    refine ⟨(b459.1, b340.2.1), ([], []), r506.dp eF543, r546.dp eF543, ?_⟩
    refine ⟨_, rfl, ?_⟩
    refine if_jM (M := []) (F := F543) (fun b F' H' v => Dq K F' v (eX b)) k (fun _ Q' kib553 => ?_) (fun _ Q' kib553 => ?_) (fun b553 v548 F549 H550 g551 r552 k => ?_)
    · have gF543_ := Gm.refl (M := []) eF543
      exact kib553.h _ _ _ gF543_ Dq.non
    · have gF543_ := Gm.refl (M := []) eF543
      show _ ∧ _
      refine new_tup (K := K) (M := []) eF543 (.cons (Dq.str ("weighting" : Str)) (.cons (Dq.int (2 : Int)) (.cons (Dq.int (0 : Int)) .nil))) (by show 3 ≤ 100000; decide) fun v559 F555 H556 g557 r558 => ?_
      have eF555 := g557.s
      have gF555 := gF543_.trans (g557.weak (by simp))
      replace r5 := r5.up g557.f
      replace s10 := ex_t g557.f s10
      replace a11 := a11.up g557.f
      replace r22 := r22.up g557.f
      replace s27 := ex_t g557.f s27
      replace a28 := a28.up g557.f
      replace r440 := r440.up g557.f
      replace r445 := r445.up g557.f
      replace o486 := g557.own (by simp [*]) o486.1 o486.2
      replace a487 := a487.up g557.f
      replace w488 := w488.keep g557
      replace r492 := r492.up g557.f
      replace s496 := g557.f _ _ s496
      replace a497 := a497.up g557.f
      replace r501 := r501.up g557.f
      replace r506 := r506.up g557.f
      replace s511 := ex_t g557.f s511
      replace d512 := d512.up g557.f
      replace d513 := d513.up g557.f
      replace r518 := r518.up g557.f
      replace r525 := r525.up g557.f
      replace r531 := r531.up g557.f
      replace r536 := r536.up g557.f
      replace r541 := r541.up g557.f
      replace r546 := r546.up g557.f
      replace r558 : Dq K F555 v559 (eX (Xr.tup Kw.weighting [(2 : Int), (0 : Int)])) := r558
      exact kib553.h _ _ _ gF555 r558
    have eF549 := g551.s
    have gF549 := gF543.trans (g551.weak (by simp))
    replace r5 := r5.up g551.f
    replace s10 := ex_t g551.f s10
    replace a11 := a11.up g551.f
    replace r22 := r22.up g551.f
    replace s27 := ex_t g551.f s27
    replace a28 := a28.up g551.f
    replace r440 := r440.up g551.f
    replace r445 := r445.up g551.f
    replace o486 := g551.own (by simp [*]) o486.1 o486.2
    replace a487 := a487.up g551.f
    replace w488 := w488.keep g551
    replace r492 := r492.up g551.f
    replace s496 := g551.f _ _ s496
    replace a497 := a497.up g551.f
    replace r501 := r501.up g551.f
    replace r506 := r506.up g551.f
    replace s511 := ex_t g551.f s511
    replace d512 := d512.up g551.f
    replace d513 := d513.up g551.f
    replace r518 := r518.up g551.f
    replace r525 := r525.up g551.f
    replace r531 := r531.up g551.f
    replace r536 := r536.up g551.f
    replace r541 := r541.up g551.f
    replace r546 := r546.up g551.f
    refine ⟨_, rfl, ?_⟩
    obtain ⟨p560, xs561, rfl, s562, a563⟩ := dp_lst r531
    obtain ⟨i564, h565, k⟩ := post_get k
    obtain ⟨v566, h567, r568⟩ := dq_at a563 h565
    refine ⟨_, _, _, _, rfl, rfl, (sq_of (eF549 _ _ s562)), h567, ?_⟩
    refine ⟨_, rfl, ?_⟩
    rw [none_O r568]
    refine if_jM (M := []) (F := F549) (fun b F' H' v => Dq K F' v (eX b)) k (fun _ Q' kib574 => ?_) (fun _ Q' kib574 => ?_) (fun b574 v569 F570 H571 g572 r573 k => ?_)
    · have gF549_ := Gm.refl (M := []) eF549
      refine ⟨_, rfl, ?_⟩
      obtain ⟨i576, h577, kib574⟩ := post_get kib574
      obtain ⟨v578, h579, r580⟩ := dq_at a563 h577
      refine ⟨_, _, _, _, rfl, rfl, (sq_of (eF549 _ _ s562)), h579, ?_⟩
      obtain ⟨a581, h582, kib574⟩ := post_getO kib574
      have qa581 := dq_some r580 h582
      obtain rfl := dp_int qa581
      show _ ∧ _
      refine new_tup (K := K) (M := []) eF549 (.cons (Dq.str ("weighting" : Str)) (.cons (Dq.int (1 : Int)) (.cons (Dq.int a581) .nil))) (by show 3 ≤ 100000; decide) fun v587 F583 H584 g585 r586 => ?_
      have eF583 := g585.s
      have gF583 := gF549_.trans (g585.weak (by simp))
      replace r5 := r5.up g585.f
      replace s10 := ex_t g585.f s10
      replace a11 := a11.up g585.f
      replace r22 := r22.up g585.f
      replace s27 := ex_t g585.f s27
      replace a28 := a28.up g585.f
      replace r440 := r440.up g585.f
      replace r445 := r445.up g585.f
      replace o486 := g585.own (by simp [*]) o486.1 o486.2
      replace a487 := a487.up g585.f
      replace w488 := w488.keep g585
      replace r492 := r492.up g585.f
      replace s496 := g585.f _ _ s496
      replace a497 := a497.up g585.f
      replace r501 := r501.up g585.f
      replace r506 := r506.up g585.f
      replace s511 := ex_t g585.f s511
      replace d512 := d512.up g585.f
      replace d513 := d513.up g585.f
      replace r518 := r518.up g585.f
      replace r525 := r525.up g585.f
      replace r531 := r531.up g585.f
      replace r536 := r536.up g585.f
      replace r541 := r541.up g585.f
      replace r546 := r546.up g585.f
      replace r552 := r552.up g585.f
      replace s562 := g585.f _ _ s562
      replace a563 := a563.up g585.f
      replace r568 := r568.up g585.f
      replace r580 := r580.up g585.f
      replace r586 : Dq K F583 v587 (eX (Xr.tup Kw.weighting [(1 : Int), a581])) := r586
      exact kib574.h _ _ _ gF583 r586
    · have gF549_ := Gm.refl (M := []) eF549
      refine ⟨_, rfl, ?_⟩
      exact kib574.h _ _ _ gF549_ r552
    have eF570 := g572.s
    have gF570 := gF549.trans (g572.weak (by simp))
    replace r5 := r5.up g572.f
    replace s10 := ex_t g572.f s10
    replace a11 := a11.up g572.f
    replace r22 := r22.up g572.f
    replace s27 := ex_t g572.f s27
    replace a28 := a28.up g572.f
    replace r440 := r440.up g572.f
    replace r445 := r445.up g572.f
    replace o486 := g572.own (by simp [*]) o486.1 o486.2
    replace a487 := a487.up g572.f
    replace w488 := w488.keep g572
    replace r492 := r492.up g572.f
    replace s496 := g572.f _ _ s496
    replace a497 := a497.up g572.f
    replace r501 := r501.up g572.f
    replace r506 := r506.up g572.f
    replace s511 := ex_t g572.f s511
    replace d512 := d512.up g572.f
    replace d513 := d513.up g572.f
    replace r518 := r518.up g572.f
    replace r525 := r525.up g572.f
    replace r531 := r531.up g572.f
    replace r536 := r536.up g572.f
    replace r541 := r541.up g572.f
    replace r546 := r546.up g572.f
    replace r552 := r552.up g572.f
    replace s562 := g572.f _ _ s562
    replace a563 := a563.up g572.f
    replace r568 := r568.up g572.f
    refine ⟨_, rfl, ?_⟩
    obtain ⟨i588, h589, k⟩ := post_get k
    obtain ⟨v590, h591, r592⟩ := dq_at a563 h589
    refine ⟨_, _, _, _, rfl, rfl, (sq_of (eF570 _ _ s562)), h591, ?_⟩
    refine ⟨_, rfl, ?_⟩
    rw [none_O r592]
    refine if_jM (M := []) (F := F570) (fun b F' H' v => Dq K F' v (eX b)) k (fun _ Q' kib598 => ?_) (fun _ Q' kib598 => ?_) (fun b598 v593 F594 H595 g596 r597 k => ?_)
    · have gF570_ := Gm.refl (M := []) eF570
      refine ⟨_, rfl, ?_⟩
      obtain ⟨i600, h601, kib598⟩ := post_get kib598
      obtain ⟨v602, h603, r604⟩ := dq_at a563 h601
      refine ⟨_, _, _, _, rfl, rfl, (sq_of (eF570 _ _ s562)), h603, ?_⟩
      obtain ⟨a605, h606, kib598⟩ := post_getO kib598
      have qa605 := dq_some r604 h606
      obtain rfl := dp_int qa605
      show _ ∧ _
      refine new_tup (K := K) (M := []) eF570 (.cons (Dq.str ("weighting" : Str)) (.cons (Dq.int (0 : Int)) (.cons (Dq.int a605) .nil))) (by show 3 ≤ 100000; decide) fun v611 F607 H608 g609 r610 => ?_
      have eF607 := g609.s
      have gF607 := gF570_.trans (g609.weak (by simp))
      replace r5 := r5.up g609.f
      replace s10 := ex_t g609.f s10
      replace a11 := a11.up g609.f
      replace r22 := r22.up g609.f
      replace s27 := ex_t g609.f s27
      replace a28 := a28.up g609.f
      replace r440 := r440.up g609.f
      replace r445 := r445.up g609.f
      replace o486 := g609.own (by simp [*]) o486.1 o486.2
      replace a487 := a487.up g609.f
      replace w488 := w488.keep g609
      replace r492 := r492.up g609.f
      replace s496 := g609.f _ _ s496
      replace a497 := a497.up g609.f
      replace r501 := r501.up g609.f
      replace r506 := r506.up g609.f
      replace s511 := ex_t g609.f s511
      replace d512 := d512.up g609.f
      replace d513 := d513.up g609.f
      replace r518 := r518.up g609.f
      replace r525 := r525.up g609.f
      replace r531 := r531.up g609.f
      replace r536 := r536.up g609.f
      replace r541 := r541.up g609.f
      replace r546 := r546.up g609.f
      replace r552 := r552.up g609.f
      replace s562 := g609.f _ _ s562
      replace a563 := a563.up g609.f
      replace r568 := r568.up g609.f
      replace r573 := r573.up g609.f
      replace r592 := r592.up g609.f
      replace r604 := r604.up g609.f
      replace r610 : Dq K F607 v611 (eX (Xr.tup Kw.weighting [(0 : Int), a605])) := r610
      exact kib598.h _ _ _ gF607 r610
    · have gF570_ := Gm.refl (M := []) eF570
      refine ⟨_, rfl, ?_⟩
      exact kib598.h _ _ _ gF570_ r573
    have eF594 := g596.s
    have gF594 := gF570.trans (g596.weak (by simp))
    replace r5 := r5.up g596.f
    replace s10 := ex_t g596.f s10
    replace a11 := a11.up g596.f
    replace r22 := r22.up g596.f
    replace s27 := ex_t g596.f s27
    replace a28 := a28.up g596.f
    replace r440 := r440.up g596.f
    replace r445 := r445.up g596.f
    replace o486 := g596.own (by simp [*]) o486.1 o486.2
    replace a487 := a487.up g596.f
    replace w488 := w488.keep g596
    replace r492 := r492.up g596.f
    replace s496 := g596.f _ _ s496
    replace a497 := a497.up g596.f
    replace r501 := r501.up g596.f
    replace r506 := r506.up g596.f
    replace s511 := ex_t g596.f s511
    replace d512 := d512.up g596.f
    replace d513 := d513.up g596.f
    replace r518 := r518.up g596.f
    replace r525 := r525.up g596.f
    replace r531 := r531.up g596.f
    replace r536 := r536.up g596.f
    replace r541 := r541.up g596.f
    replace r546 := r546.up g596.f
    replace r552 := r552.up g596.f
    replace s562 := g596.f _ _ s562
    replace a563 := a563.up g596.f
    replace r568 := r568.up g596.f
    replace r573 := r573.up g596.f
    replace r592 := r592.up g596.f
    have t612 := tabs_gm tb nt gF594
    refine ⟨t612, fun H613 x614 tb615 => ?_⟩
    have e617 := noTab_ext eF594 x614
    replace r5 := dqN (exN_noTab F594) _ _ r5
    replace s10 := exN_sq (exN_noTab F594) s10
    replace a11 := dqAllN (exN_noTab F594) _ _ a11
    replace r22 := dqN (exN_noTab F594) _ _ r22
    replace s27 := exN_sq (exN_noTab F594) s27
    replace a28 := dqAllN (exN_noTab F594) _ _ a28
    replace r440 := dqN (exN_noTab F594) _ _ r440
    replace r445 := dqN (exN_noTab F594) _ _ r445
    replace o486 := own_noTab o486 x614
    replace a487 := dqAllN (exN_noTab F594) _ _ a487
    replace w488 := row_noTab w488 x614
    replace r492 := dqN (exN_noTab F594) _ _ r492
    replace s496 := exN_noTab F594 _ _ s496 (fun ps z => nomatch z)
    replace a497 := dqAllN (exN_noTab F594) _ _ a497
    replace r501 := dqN (exN_noTab F594) _ _ r501
    replace r506 := dqN (exN_noTab F594) _ _ r506
    replace s511 := exN_sq (exN_noTab F594) s511
    replace d512 := dqN (exN_noTab F594) _ _ d512
    replace d513 := dqN (exN_noTab F594) _ _ d513
    replace r518 := dqN (exN_noTab F594) _ _ r518
    replace r525 := dqN (exN_noTab F594) _ _ r525
    replace r531 := dqN (exN_noTab F594) _ _ r531
    replace r536 := dqN (exN_noTab F594) _ _ r536
    replace r541 := dqN (exN_noTab F594) _ _ r541
    replace r546 := dqN (exN_noTab F594) _ _ r546
    replace r552 := dqN (exN_noTab F594) _ _ r552
    replace s562 := exN_noTab F594 _ _ s562 (fun ps z => nomatch z)
    replace a563 := dqAllN (exN_noTab F594) _ _ a563
    replace r568 := dqN (exN_noTab F594) _ _ r568
    replace r573 := dqN (exN_noTab F594) _ _ r573
    replace r592 := dqN (exN_noTab F594) _ _ r592
    replace r597 := dqN (exN_noTab F594) _ _ r597
    generalize noTab F594 = F616 at e617 r5 s10 a11 r22 s27 a28 r440 r445 o486 a487 w488 r492 s496 a497 r501 r506 s511 d512 d513 r518 r525 r531 r536 r541 r546 r552 s562 a563 r568 r573 r592 r597
    have gF616 := Gm.refl (M := [ra, q425]) e617
    have nt618 : ∀ m ∈ [ra, q425], NoTbl H613 m := nt_cons w488.1 (nt_cons o486.1 (nt_nil))
    refine lam_jM (F := F616) k (fun Q_ E_ k619 => ?_) (fun x620 v621 F622 H623 g624 r625 k => ?_)
    · have gF616_ := Gm.refl (M := []) e617
      refine ⟨_, rfl, ?_⟩
      refine ⟨_, _, _, _, rfl, rfl, ex_t e617 s511, rfl, _, rfl, ?_⟩
      refine ⟨_, _, _, _, rfl, rfl, ex_t e617 s511, rfl, ?_⟩
      refine make_WX e617 d512 d513 ((post_bd k619).mono (fun b626 k619 v631 F627 H628 g629 r630 => ?_) (fun e_ z cls_ d_ F_ H_ g_x x_ => z cls_ d_ F_ H_ (gF616_.trans (g_x.weak (by simp))) x_))
      have eF627 := g629.s
      have gF627 := gF616_.trans (g629.weak (by simp))
      replace r5 := r5.up g629.f
      replace s10 := ex_t g629.f s10
      replace a11 := a11.up g629.f
      replace r22 := r22.up g629.f
      replace s27 := ex_t g629.f s27
      replace a28 := a28.up g629.f
      replace r440 := r440.up g629.f
      replace r445 := r445.up g629.f
      replace o486 := g629.own (by simp [*]) o486.1 o486.2
      replace a487 := a487.up g629.f
      replace w488 := w488.keep g629
      replace r492 := r492.up g629.f
      replace s496 := g629.f _ _ s496
      replace a497 := a497.up g629.f
      replace r501 := r501.up g629.f
      replace r506 := r506.up g629.f
      replace s511 := ex_t g629.f s511
      replace d512 := d512.up g629.f
      replace d513 := d513.up g629.f
      replace r518 := r518.up g629.f
      replace r525 := r525.up g629.f
      replace r531 := r531.up g629.f
      replace r536 := r536.up g629.f
      replace r541 := r541.up g629.f
      replace r546 := r546.up g629.f
      replace r552 := r552.up g629.f
      replace s562 := g629.f _ _ s562
      replace a563 := a563.up g629.f
      replace r568 := r568.up g629.f
      replace r573 := r573.up g629.f
      replace r592 := r592.up g629.f
      replace r597 := r597.up g629.f
      exact k619.h _ _ _ gF627
    have eF622 := g624.s
    have gF622 := gF616.trans (g624.weak (by simp))
    replace r5 := r5.up g624.f
    replace s10 := ex_t g624.f s10
    replace a11 := a11.up g624.f
    replace r22 := r22.up g624.f
    replace s27 := ex_t g624.f s27
    replace a28 := a28.up g624.f
    replace r440 := r440.up g624.f
    replace r445 := r445.up g624.f
    replace o486 := g624.own (by simp [*]) o486.1 o486.2
    replace a487 := a487.up g624.f
    replace w488 := w488.keep g624
    replace r492 := r492.up g624.f
    replace s496 := g624.f _ _ s496
    replace a497 := a497.up g624.f
    replace r501 := r501.up g624.f
    replace r506 := r506.up g624.f
    replace s511 := ex_t g624.f s511
    replace d512 := d512.up g624.f
    replace d513 := d513.up g624.f
    replace r518 := r518.up g624.f
    replace r525 := r525.up g624.f
    replace r531 := r531.up g624.f
    replace r536 := r536.up g624.f
    replace r541 := r541.up g624.f
    replace r546 := r546.up g624.f
    replace r552 := r552.up g624.f
    replace s562 := g624.f _ _ s562
    replace a563 := a563.up g624.f
    replace r568 := r568.up g624.f
    replace r573 := r573.up g624.f
    replace r592 := r592.up g624.f
    replace r597 := r597.up g624.f
    refine ⟨_, rfl, x620, b598, r625.dp eF622, r597.dp eF622, ?_⟩
    refine ⟨_, rfl, ?_⟩
    refine cs k (fun _ k => ?_) (fun _ k => ?_)
    · exact k.h _
    · refine ⟨_, rfl, _, rfl, ?_⟩
      rw [none_X r597]
      refine cs k (fun _ k => ?_) (fun _ k => ?_)
      · have t632 := tabs_gm tb615 nt618 gF622
        refine ⟨t632, fun H633 x634 tb635 => ?_⟩
        have e637 := noTab_ext eF622 x634
        replace r5 := dqN (exN_noTab F622) _ _ r5
        replace s10 := exN_sq (exN_noTab F622) s10
        replace a11 := dqAllN (exN_noTab F622) _ _ a11
        replace r22 := dqN (exN_noTab F622) _ _ r22
        replace s27 := exN_sq (exN_noTab F622) s27
        replace a28 := dqAllN (exN_noTab F622) _ _ a28
        replace r440 := dqN (exN_noTab F622) _ _ r440
        replace r445 := dqN (exN_noTab F622) _ _ r445
        replace o486 := own_noTab o486 x634
        replace a487 := dqAllN (exN_noTab F622) _ _ a487
        replace w488 := row_noTab w488 x634
        replace r492 := dqN (exN_noTab F622) _ _ r492
        replace s496 := exN_noTab F622 _ _ s496 (fun ps z => nomatch z)
        replace a497 := dqAllN (exN_noTab F622) _ _ a497
        replace r501 := dqN (exN_noTab F622) _ _ r501
        replace r506 := dqN (exN_noTab F622) _ _ r506
        replace s511 := exN_sq (exN_noTab F622) s511
        replace d512 := dqN (exN_noTab F622) _ _ d512
        replace d513 := dqN (exN_noTab F622) _ _ d513
        replace r518 := dqN (exN_noTab F622) _ _ r518
        replace r525 := dqN (exN_noTab F622) _ _ r525
        replace r531 := dqN (exN_noTab F622) _ _ r531
        replace r536 := dqN (exN_noTab F622) _ _ r536
        replace r541 := dqN (exN_noTab F622) _ _ r541
        replace r546 := dqN (exN_noTab F622) _ _ r546
        replace r552 := dqN (exN_noTab F622) _ _ r552
        replace s562 := exN_noTab F622 _ _ s562 (fun ps z => nomatch z)
        replace a563 := dqAllN (exN_noTab F622) _ _ a563
        replace r568 := dqN (exN_noTab F622) _ _ r568
        replace r573 := dqN (exN_noTab F622) _ _ r573
        replace r592 := dqN (exN_noTab F622) _ _ r592
        replace r597 := dqN (exN_noTab F622) _ _ r597
        replace r625 := dqN (exN_noTab F622) _ _ r625
        generalize noTab F622 = F636 at e637 r5 s10 a11 r22 s27 a28 r440 r445 o486 a487 w488 r492 s496 a497 r501 r506 s511 d512 d513 r518 r525 r531 r536 r541 r546 r552 s562 a563 r568 r573 r592 r597 r625
        have gF636 := Gm.refl (M := [ra, q425]) e637
        have nt638 : ∀ m ∈ [ra, q425], NoTbl H633 m := nt_cons w488.1 (nt_cons o486.1 (nt_nil))
        refine lam_jM (F := F636) k (fun Q_ E_ k639 => ?_) (fun x640 v641 F642 H643 g644 r645 k => ?_)
        · have gF636_ := Gm.refl (M := []) e637
          show _ ∧ _
          refine new_tup (K := K) (M := []) e637 .nil (by show 0 ≤ 100000; decide) fun v650 F646 H647 g648 r649 => ?_
          have eF646 := g648.s
          have gF646 := gF636_.trans (g648.weak (by simp))
          replace r5 := r5.up g648.f
          replace s10 := ex_t g648.f s10
          replace a11 := a11.up g648.f
          replace r22 := r22.up g648.f
          replace s27 := ex_t g648.f s27
          replace a28 := a28.up g648.f
          replace r440 := r440.up g648.f
          replace r445 := r445.up g648.f
          replace o486 := g648.own (by simp [*]) o486.1 o486.2
          replace a487 := a487.up g648.f
          replace w488 := w488.keep g648
          replace r492 := r492.up g648.f
          replace s496 := g648.f _ _ s496
          replace a497 := a497.up g648.f
          replace r501 := r501.up g648.f
          replace r506 := r506.up g648.f
          replace s511 := ex_t g648.f s511
          replace d512 := d512.up g648.f
          replace d513 := d513.up g648.f
          replace r518 := r518.up g648.f
          replace r525 := r525.up g648.f
          replace r531 := r531.up g648.f
          replace r536 := r536.up g648.f
          replace r541 := r541.up g648.f
          replace r546 := r546.up g648.f
          replace r552 := r552.up g648.f
          replace s562 := g648.f _ _ s562
          replace a563 := a563.up g648.f
          replace r568 := r568.up g648.f
          replace r573 := r573.up g648.f
          replace r592 := r592.up g648.f
          replace r597 := r597.up g648.f
          replace r625 := r625.up g648.f
          replace r649 : Dq K F646 v650 (eV (e2 PyData.int PyData.int) []) := r649
          show _ ∧ _
          refine new_tup (K := K) (M := []) eF646 .nil (by show 0 ≤ 100000; decide) fun v655 F651 H652 g653 r654 => ?_
          have eF651 := g653.s
          have gF651 := gF646.trans (g653.weak (by simp))
          replace r5 := r5.up g653.f
          replace s10 := ex_t g653.f s10
          replace a11 := a11.up g653.f
          replace r22 := r22.up g653.f
          replace s27 := ex_t g653.f s27
          replace a28 := a28.up g653.f
          replace r440 := r440.up g653.f
          replace r445 := r445.up g653.f
          replace o486 := g653.own (by simp [*]) o486.1 o486.2
          replace a487 := a487.up g653.f
          replace w488 := w488.keep g653
          replace r492 := r492.up g653.f
          replace s496 := g653.f _ _ s496
          replace a497 := a497.up g653.f
          replace r501 := r501.up g653.f
          replace r506 := r506.up g653.f
          replace s511 := ex_t g653.f s511
          replace d512 := d512.up g653.f
          replace d513 := d513.up g653.f
          replace r518 := r518.up g653.f
          replace r525 := r525.up g653.f
          replace r531 := r531.up g653.f
          replace r536 := r536.up g653.f
          replace r541 := r541.up g653.f
          replace r546 := r546.up g653.f
          replace r552 := r552.up g653.f
          replace s562 := g653.f _ _ s562
          replace a563 := a563.up g653.f
          replace r568 := r568.up g653.f
          replace r573 := r573.up g653.f
          replace r592 := r592.up g653.f
          replace r597 := r597.up g653.f
          replace r625 := r625.up g653.f
          replace r649 := r649.up g653.f
          replace r654 : Dq K F651 v655 (eV (e3 PyData.int PyData.int PyData.int) []) := r654
          refine make_WX eF651 r649 r654 ((post_bd k639).mono (fun b656 k639 v661 F657 H658 g659 r660 => ?_) (fun e_ z cls_ d_ F_ H_ g_x x_ => z cls_ d_ F_ H_ (gF651.trans (g_x.weak (by simp))) x_))
          have eF657 := g659.s
          have gF657 := gF651.trans (g659.weak (by simp))
          replace r5 := r5.up g659.f
          replace s10 := ex_t g659.f s10
          replace a11 := a11.up g659.f
          replace r22 := r22.up g659.f
          replace s27 := ex_t g659.f s27
          replace a28 := a28.up g659.f
          replace r440 := r440.up g659.f
          replace r445 := r445.up g659.f
          replace o486 := g659.own (by simp [*]) o486.1 o486.2
          replace a487 := a487.up g659.f
          replace w488 := w488.keep g659
          replace r492 := r492.up g659.f
          replace s496 := g659.f _ _ s496
          replace a497 := a497.up g659.f
          replace r501 := r501.up g659.f
          replace r506 := r506.up g659.f
          replace s511 := ex_t g659.f s511
          replace d512 := d512.up g659.f
          replace d513 := d513.up g659.f
          replace r518 := r518.up g659.f
          replace r525 := r525.up g659.f
          replace r531 := r531.up g659.f
          replace r536 := r536.up g659.f
          replace r541 := r541.up g659.f
          replace r546 := r546.up g659.f
          replace r552 := r552.up g659.f
          replace s562 := g659.f _ _ s562
          replace a563 := a563.up g659.f
          replace r568 := r568.up g659.f
          replace r573 := r573.up g659.f
          replace r592 := r592.up g659.f
          replace r597 := r597.up g659.f
          replace r625 := r625.up g659.f
          replace r649 := r649.up g659.f
          replace r654 := r654.up g659.f
          exact k639.h _ _ _ gF657
        have eF642 := g644.s
        have gF642 := gF636.trans (g644.weak (by simp))
        replace r5 := r5.up g644.f
        replace s10 := ex_t g644.f s10
        replace a11 := a11.up g644.f
        replace r22 := r22.up g644.f
        replace s27 := ex_t g644.f s27
        replace a28 := a28.up g644.f
        replace r440 := r440.up g644.f
        replace r445 := r445.up g644.f
        replace o486 := g644.own (by simp [*]) o486.1 o486.2
        replace a487 := a487.up g644.f
        replace w488 := w488.keep g644
        replace r492 := r492.up g644.f
        replace s496 := g644.f _ _ s496
        replace a497 := a497.up g644.f
        replace r501 := r501.up g644.f
        replace r506 := r506.up g644.f
        replace s511 := ex_t g644.f s511
        replace d512 := d512.up g644.f
        replace d513 := d513.up g644.f
        replace r518 := r518.up g644.f
        replace r525 := r525.up g644.f
        replace r531 := r531.up g644.f
        replace r536 := r536.up g644.f
        replace r541 := r541.up g644.f
        replace r546 := r546.up g644.f
        replace r552 := r552.up g644.f
        replace s562 := g644.f _ _ s562
        replace a563 := a563.up g644.f
        replace r568 := r568.up g644.f
        replace r573 := r573.up g644.f
        replace r592 := r592.up g644.f
        replace r597 := r597.up g644.f
        replace r625 := r625.up g644.f
        show _ ∧ _
        refine new_tup (K := K) (M := []) eF642 (.cons (Dq.str ("weighting" : Str)) (.cons (Dq.int (2 : Int)) (.cons (Dq.int (0 : Int)) .nil))) (by show 3 ≤ 100000; decide) fun v666 F662 H663 g664 r665 => ?_
        have eF662 := g664.s
        have gF662 := gF642.trans (g664.weak (by simp))
        replace r5 := r5.up g664.f
        replace s10 := ex_t g664.f s10
        replace a11 := a11.up g664.f
        replace r22 := r22.up g664.f
        replace s27 := ex_t g664.f s27
        replace a28 := a28.up g664.f
        replace r440 := r440.up g664.f
        replace r445 := r445.up g664.f
        replace o486 := g664.own (by simp [*]) o486.1 o486.2
        replace a487 := a487.up g664.f
        replace w488 := w488.keep g664
        replace r492 := r492.up g664.f
        replace s496 := g664.f _ _ s496
        replace a497 := a497.up g664.f
        replace r501 := r501.up g664.f
        replace r506 := r506.up g664.f
        replace s511 := ex_t g664.f s511
        replace d512 := d512.up g664.f
        replace d513 := d513.up g664.f
        replace r518 := r518.up g664.f
        replace r525 := r525.up g664.f
        replace r531 := r531.up g664.f
        replace r536 := r536.up g664.f
        replace r541 := r541.up g664.f
        replace r546 := r546.up g664.f
        replace r552 := r552.up g664.f
        replace s562 := g664.f _ _ s562
        replace a563 := a563.up g664.f
        replace r568 := r568.up g664.f
        replace r573 := r573.up g664.f
        replace r592 := r592.up g664.f
        replace r597 := r597.up g664.f
        replace r625 := r625.up g664.f
        replace r645 := r645.up g664.f
        replace r665 : Dq K F662 v666 (eX (Xr.tup Kw.weighting [(2 : Int), (0 : Int)])) := r665
        refine ⟨x640, (Xr.tup Kw.weighting [(2 : Int), (0 : Int)]), r645.dp eF662, r665.dp eF662, ?_⟩
        exact k.h _
      · refine ⟨_, rfl, ?_⟩
        refine ⟨F622, _, (b459.1, b340.2.1), rfl, eF622, r506, (post_bd k).mono (fun b667 k v672 F668 H669 g670 r671 => ?_) (fun _ z => z)⟩
        have eF668 := g670.s
        have gF668 := gF622.trans (g670.weak (by simp))
        replace r5 := r5.up g670.f
        replace s10 := ex_t g670.f s10
        replace a11 := a11.up g670.f
        replace r22 := r22.up g670.f
        replace s27 := ex_t g670.f s27
        replace a28 := a28.up g670.f
        replace r440 := r440.up g670.f
        replace r445 := r445.up g670.f
        replace o486 := g670.own (by simp [*]) o486.1 o486.2
        replace a487 := a487.up g670.f
        replace w488 := w488.keep g670
        replace r492 := r492.up g670.f
        replace s496 := g670.f _ _ s496
        replace a497 := a497.up g670.f
        replace r501 := r501.up g670.f
        replace r506 := r506.up g670.f
        replace s511 := ex_t g670.f s511
        replace d512 := d512.up g670.f
        replace d513 := d513.up g670.f
        replace r518 := r518.up g670.f
        replace r525 := r525.up g670.f
        replace r531 := r531.up g670.f
        replace r536 := r536.up g670.f
        replace r541 := r541.up g670.f
        replace r546 := r546.up g670.f
        replace r552 := r552.up g670.f
        replace s562 := g670.f _ _ s562
        replace a563 := a563.up g670.f
        replace r568 := r568.up g670.f
        replace r573 := r573.up g670.f
        replace r592 := r592.up g670.f
        replace r597 := r597.up g670.f
        replace r625 := r625.up g670.f
        refine ⟨_, rfl, ?_⟩
        obtain ⟨a674, dx675, m676, t677, rfl, h678, r679, r680⟩ := r671.ex
        refine ⟨_, _, _, rfl, eF668 _ _ h678, _, _, _, _, rfl, eF668 _ _ h678, wf_m _ _, ?_⟩
        obtain ⟨p681, xs682, rfl, s683, a684⟩ := dp_tup r679
        refine ⟨_, rfl, ?_⟩
        refine ⟨_, _, _, rfl, eF668 _ _ h678, _, _, _, _, rfl, eF668 _ _ h678, wf_s _ _, ?_⟩
        obtain ⟨p685, xs686, rfl, s687, a688⟩ := dp_tup r680
        show _ ∧ _
        refine new_tup (K := K) (M := []) eF668 (.cons r679 (.cons r680 .nil)) (by show 2 ≤ 100000; decide) fun v693 F689 H690 g691 r692 => ?_
        have eF689 := g691.s
        have gF689 := gF668.trans (g691.weak (by simp))
        replace r5 := r5.up g691.f
        replace s10 := ex_t g691.f s10
        replace a11 := a11.up g691.f
        replace r22 := r22.up g691.f
        replace s27 := ex_t g691.f s27
        replace a28 := a28.up g691.f
        replace r440 := r440.up g691.f
        replace r445 := r445.up g691.f
        replace o486 := g691.own (by simp [*]) o486.1 o486.2
        replace a487 := a487.up g691.f
        replace w488 := w488.keep g691
        replace r492 := r492.up g691.f
        replace s496 := g691.f _ _ s496
        replace a497 := a497.up g691.f
        replace r501 := r501.up g691.f
        replace r506 := r506.up g691.f
        replace s511 := ex_t g691.f s511
        replace d512 := d512.up g691.f
        replace d513 := d513.up g691.f
        replace r518 := r518.up g691.f
        replace r525 := r525.up g691.f
        replace r531 := r531.up g691.f
        replace r536 := r536.up g691.f
        replace r541 := r541.up g691.f
        replace r546 := r546.up g691.f
        replace r552 := r552.up g691.f
        replace s562 := g691.f _ _ s562
        replace a563 := a563.up g691.f
        replace r568 := r568.up g691.f
        replace r573 := r573.up g691.f
        replace r592 := r592.up g691.f
        replace r597 := r597.up g691.f
        replace r625 := r625.up g691.f
        replace r671 := r671.up g691.f
        replace h678 := g691.f _ _ h678
        replace r679 := r679.up g691.f
        replace r680 := r680.up g691.f
        replace s683 := ex_t g691.f s683
        replace a684 := a684.up g691.f
        replace s687 := ex_t g691.f s687
        replace a688 := a688.up g691.f
        replace r692 : Dq K F689 v693 ((e2 (eV (e2 PyData.int PyData.int)) (eV (e3 PyData.int PyData.int PyData.int))) (b667.1, b667.2)) := r692
        refine ⟨_, rfl, (b667.1, b667.2), (b459.1, b340.2.1), r692.dp eF689, r506.dp eF689, ?_⟩
        refine ⟨_, rfl, ?_⟩
        refine or_jM (M := []) eF689 k (fun _ Q' ktb694 => ?_) (fun b694 F695 H696 g697 k => ?_)
        · have gF689_ := Gm.refl (M := []) eF689
          refine ⟨_, rfl, _, rfl, ?_⟩
          refine ⟨F689, _, (b459.1, b340.2.1), rfl, eF689, r506, (post_bd ktb694).mono (fun b698 ktb694 v703 F699 H700 g701 r702 => ?_) (fun _ z => z)⟩
          have eF699 := g701.s
          have gF699 := gF689_.trans (g701.weak (by simp))
          replace r5 := r5.up g701.f
          replace s10 := ex_t g701.f s10
          replace a11 := a11.up g701.f
          replace r22 := r22.up g701.f
          replace s27 := ex_t g701.f s27
          replace a28 := a28.up g701.f
          replace r440 := r440.up g701.f
          replace r445 := r445.up g701.f
          replace o486 := g701.own (by simp [*]) o486.1 o486.2
          replace a487 := a487.up g701.f
          replace w488 := w488.keep g701
          replace r492 := r492.up g701.f
          replace s496 := g701.f _ _ s496
          replace a497 := a497.up g701.f
          replace r501 := r501.up g701.f
          replace r506 := r506.up g701.f
          replace s511 := ex_t g701.f s511
          replace d512 := d512.up g701.f
          replace d513 := d513.up g701.f
          replace r518 := r518.up g701.f
          replace r525 := r525.up g701.f
          replace r531 := r531.up g701.f
          replace r536 := r536.up g701.f
          replace r541 := r541.up g701.f
          replace r546 := r546.up g701.f
          replace r552 := r552.up g701.f
          replace s562 := g701.f _ _ s562
          replace a563 := a563.up g701.f
          replace r568 := r568.up g701.f
          replace r573 := r573.up g701.f
          replace r592 := r592.up g701.f
          replace r597 := r597.up g701.f
          replace r625 := r625.up g701.f
          replace r671 := r671.up g701.f
          replace h678 := g701.f _ _ h678
          replace r679 := r679.up g701.f
          replace r680 := r680.up g701.f
          replace s683 := ex_t g701.f s683
          replace a684 := a684.up g701.f
          replace s687 := ex_t g701.f s687
          replace a688 := a688.up g701.f
          replace r692 := r692.up g701.f
          obtain ⟨a705, dx706, m707, t708, rfl, h709, r710, r711⟩ := r702.ex
          refine ⟨_, _, _, _, _, _, rfl, rfl, eF699 _ _ h678, eF699 _ _ h709, F699, _, b667, _, b698, rfl, eF699, r671, r702, (post_bd ktb694).mono (fun b712 ktb694 v717 F713 H714 g715 r716 => ?_) (fun _ z => z)⟩
          subst r716
          have eF713 := g715.s
          have gF713 := gF699.trans (g715.weak (by simp))
          replace r5 := r5.up g715.f
          replace s10 := ex_t g715.f s10
          replace a11 := a11.up g715.f
          replace r22 := r22.up g715.f
          replace s27 := ex_t g715.f s27
          replace a28 := a28.up g715.f
          replace r440 := r440.up g715.f
          replace r445 := r445.up g715.f
          replace o486 := g715.own (by simp [*]) o486.1 o486.2
          replace a487 := a487.up g715.f
          replace w488 := w488.keep g715
          replace r492 := r492.up g715.f
          replace s496 := g715.f _ _ s496
          replace a497 := a497.up g715.f
          replace r501 := r501.up g715.f
          replace r506 := r506.up g715.f
          replace s511 := ex_t g715.f s511
          replace d512 := d512.up g715.f
          replace d513 := d513.up g715.f
          replace r518 := r518.up g715.f
          replace r525 := r525.up g715.f
          replace r531 := r531.up g715.f
          replace r536 := r536.up g715.f
          replace r541 := r541.up g715.f
          replace r546 := r546.up g715.f
          replace r552 := r552.up g715.f
          replace s562 := g715.f _ _ s562
          replace a563 := a563.up g715.f
          replace r568 := r568.up g715.f
          replace r573 := r573.up g715.f
          replace r592 := r592.up g715.f
          replace r597 := r597.up g715.f
          replace r625 := r625.up g715.f
          replace r671 := r671.up g715.f
          replace h678 := g715.f _ _ h678
          replace r679 := r679.up g715.f
          replace r680 := r680.up g715.f
          replace s683 := ex_t g715.f s683
          replace a684 := a684.up g715.f
          replace s687 := ex_t g715.f s687
          replace a688 := a688.up g715.f
          replace r692 := r692.up g715.f
          replace r702 := r702.up g715.f
          replace h709 := g715.f _ _ h709
          replace r710 := r710.up g715.f
          replace r711 := r711.up g715.f
          refine ⟨_, rfl, ?_⟩
          refine ⟨_, rfl, ?_⟩
          exact ktb694.h _ _ gF713
        have eF695 := g697.s
        have gF695 := gF689.trans (g697.weak (by simp))
        replace r5 := r5.up g697.f
        replace s10 := ex_t g697.f s10
        replace a11 := a11.up g697.f
        replace r22 := r22.up g697.f
        replace s27 := ex_t g697.f s27
        replace a28 := a28.up g697.f
        replace r440 := r440.up g697.f
        replace r445 := r445.up g697.f
        replace o486 := g697.own (by simp [*]) o486.1 o486.2
        replace a487 := a487.up g697.f
        replace w488 := w488.keep g697
        replace r492 := r492.up g697.f
        replace s496 := g697.f _ _ s496
        replace a497 := a497.up g697.f
        replace r501 := r501.up g697.f
        replace r506 := r506.up g697.f
        replace s511 := ex_t g697.f s511
        replace d512 := d512.up g697.f
        replace d513 := d513.up g697.f
        replace r518 := r518.up g697.f
        replace r525 := r525.up g697.f
        replace r531 := r531.up g697.f
        replace r536 := r536.up g697.f
        replace r541 := r541.up g697.f
        replace r546 := r546.up g697.f
        replace r552 := r552.up g697.f
        replace s562 := g697.f _ _ s562
        replace a563 := a563.up g697.f
        replace r568 := r568.up g697.f
        replace r573 := r573.up g697.f
        replace r592 := r592.up g697.f
        replace r597 := r597.up g697.f
        replace r625 := r625.up g697.f
        replace r671 := r671.up g697.f
        replace h678 := g697.f _ _ h678
        replace r679 := r679.up g697.f
        replace r680 := r680.up g697.f
        replace s683 := ex_t g697.f s683
        replace a684 := a684.up g697.f
        replace s687 := ex_t g697.f s687
        replace a688 := a688.up g697.f
        replace r692 := r692.up g697.f
        refine cs k (fun _ k => ?_) (fun _ k => ?_)
        · exact k.h _
        · refine ⟨_, rfl, ?_⟩
          show _ ∧ _
          refine new_tup (K := K) (M := []) eF695 (.cons (Dq.int (-(20 : Int))) (.cons (Dq.int (20 : Int)) .nil)) (by show 2 ≤ 100000; decide) fun v722 F718 H719 g720 r721 => ?_
          have eF718 := g720.s
          have gF718 := gF695.trans (g720.weak (by simp))
          replace r5 := r5.up g720.f
          replace s10 := ex_t g720.f s10
          replace a11 := a11.up g720.f
          replace r22 := r22.up g720.f
          replace s27 := ex_t g720.f s27
          replace a28 := a28.up g720.f
          replace r440 := r440.up g720.f
          replace r445 := r445.up g720.f
          replace o486 := g720.own (by simp [*]) o486.1 o486.2
          replace a487 := a487.up g720.f
          replace w488 := w488.keep g720
          replace r492 := r492.up g720.f
          replace s496 := g720.f _ _ s496
          replace a497 := a497.up g720.f
          replace r501 := r501.up g720.f
          replace r506 := r506.up g720.f
          replace s511 := ex_t g720.f s511
          replace d512 := d512.up g720.f
          replace d513 := d513.up g720.f
          replace r518 := r518.up g720.f
          replace r525 := r525.up g720.f
          replace r531 := r531.up g720.f
          replace r536 := r536.up g720.f
          replace r541 := r541.up g720.f
          replace r546 := r546.up g720.f
          replace r552 := r552.up g720.f
          replace s562 := g720.f _ _ s562
          replace a563 := a563.up g720.f
          replace r568 := r568.up g720.f
          replace r573 := r573.up g720.f
          replace r592 := r592.up g720.f
          replace r597 := r597.up g720.f
          replace r625 := r625.up g720.f
          replace r671 := r671.up g720.f
          replace h678 := g720.f _ _ h678
          replace r679 := r679.up g720.f
          replace r680 := r680.up g720.f
          replace s683 := ex_t g720.f s683
          replace a684 := a684.up g720.f
          replace s687 := ex_t g720.f s687
          replace a688 := a688.up g720.f
          replace r692 := r692.up g720.f
          replace r721 : Dq K F718 v722 ((e2 PyData.int PyData.int) ((-(20 : Int)), (20 : Int))) := r721
          refine ⟨_, rfl, ?_⟩
          show _ ∧ _
          refine new_tup (K := K) (M := []) eF718 (.cons (Dq.int (-(19 : Int))) (.cons (Dq.int (20 : Int)) .nil)) (by show 2 ≤ 100000; decide) fun v727 F723 H724 g725 r726 => ?_
          have eF723 := g725.s
          have gF723 := gF718.trans (g725.weak (by simp))
          replace r5 := r5.up g725.f
          replace s10 := ex_t g725.f s10
          replace a11 := a11.up g725.f
          replace r22 := r22.up g725.f
          replace s27 := ex_t g725.f s27
          replace a28 := a28.up g725.f
          replace r440 := r440.up g725.f
          replace r445 := r445.up g725.f
          replace o486 := g725.own (by simp [*]) o486.1 o486.2
          replace a487 := a487.up g725.f
          replace w488 := w488.keep g725
          replace r492 := r492.up g725.f
          replace s496 := g725.f _ _ s496
          replace a497 := a497.up g725.f
          replace r501 := r501.up g725.f
          replace r506 := r506.up g725.f
          replace s511 := ex_t g725.f s511
          replace d512 := d512.up g725.f
          replace d513 := d513.up g725.f
          replace r518 := r518.up g725.f
          replace r525 := r525.up g725.f
          replace r531 := r531.up g725.f
          replace r536 := r536.up g725.f
          replace r541 := r541.up g725.f
          replace r546 := r546.up g725.f
          replace r552 := r552.up g725.f
          replace s562 := g725.f _ _ s562
          replace a563 := a563.up g725.f
          replace r568 := r568.up g725.f
          replace r573 := r573.up g725.f
          replace r592 := r592.up g725.f
          replace r597 := r597.up g725.f
          replace r625 := r625.up g725.f
          replace r671 := r671.up g725.f
          replace h678 := g725.f _ _ h678
          replace r679 := r679.up g725.f
          replace r680 := r680.up g725.f
          replace s683 := ex_t g725.f s683
          replace a684 := a684.up g725.f
          replace s687 := ex_t g725.f s687
          replace a688 := a688.up g725.f
          replace r692 := r692.up g725.f
          replace r721 := r721.up g725.f
          replace r726 : Dq K F723 v727 ((e2 PyData.int PyData.int) ((-(19 : Int)), (20 : Int))) := r726
          show _ ∧ _
          refine new_tup (K := K) (M := []) eF723 (.cons r721 (.cons r726 .nil)) (by show 2 ≤ 100000; decide) fun v732 F728 H729 g730 r731 => ?_
          have eF728 := g730.s
          have gF728 := gF723.trans (g730.weak (by simp))
          replace r5 := r5.up g730.f
          replace s10 := ex_t g730.f s10
          replace a11 := a11.up g730.f
          replace r22 := r22.up g730.f
          replace s27 := ex_t g730.f s27
          replace a28 := a28.up g730.f
          replace r440 := r440.up g730.f
          replace r445 := r445.up g730.f
          replace o486 := g730.own (by simp [*]) o486.1 o486.2
          replace a487 := a487.up g730.f
          replace w488 := w488.keep g730
          replace r492 := r492.up g730.f
          replace s496 := g730.f _ _ s496
          replace a497 := a497.up g730.f
          replace r501 := r501.up g730.f
          replace r506 := r506.up g730.f
          replace s511 := ex_t g730.f s511
          replace d512 := d512.up g730.f
          replace d513 := d513.up g730.f
          replace r518 := r518.up g730.f
          replace r525 := r525.up g730.f
          replace r531 := r531.up g730.f
          replace r536 := r536.up g730.f
          replace r541 := r541.up g730.f
          replace r546 := r546.up g730.f
          replace r552 := r552.up g730.f
          replace s562 := g730.f _ _ s562
          replace a563 := a563.up g730.f
          replace r568 := r568.up g730.f
          replace r573 := r573.up g730.f
          replace r592 := r592.up g730.f
          replace r597 := r597.up g730.f
          replace r625 := r625.up g730.f
          replace r671 := r671.up g730.f
          replace h678 := g730.f _ _ h678
          replace r679 := r679.up g730.f
          replace r680 := r680.up g730.f
          replace s683 := ex_t g730.f s683
          replace a684 := a684.up g730.f
          replace s687 := ex_t g730.f s687
          replace a688 := a688.up g730.f
          replace r692 := r692.up g730.f
          replace r721 := r721.up g730.f
          replace r726 := r726.up g730.f
          replace r731 : Dq K F728 v732 ((eV (e2 PyData.int PyData.int)) [((-(20 : Int)), (20 : Int)), ((-(19 : Int)), (20 : Int))]) := r731
          show _ ∧ _
          refine new_tup (K := K) (M := []) eF728 .nil (by show 0 ≤ 100000; decide) fun v737 F733 H734 g735 r736 => ?_
          have eF733 := g735.s
          have gF733 := gF728.trans (g735.weak (by simp))
          replace r5 := r5.up g735.f
          replace s10 := ex_t g735.f s10
          replace a11 := a11.up g735.f
          replace r22 := r22.up g735.f
          replace s27 := ex_t g735.f s27
          replace a28 := a28.up g735.f
          replace r440 := r440.up g735.f
          replace r445 := r445.up g735.f
          replace o486 := g735.own (by simp [*]) o486.1 o486.2
          replace a487 := a487.up g735.f
          replace w488 := w488.keep g735
          replace r492 := r492.up g735.f
          replace s496 := g735.f _ _ s496
          replace a497 := a497.up g735.f
          replace r501 := r501.up g735.f
          replace r506 := r506.up g735.f
          replace s511 := ex_t g735.f s511
          replace d512 := d512.up g735.f
          replace d513 := d513.up g735.f
          replace r518 := r518.up g735.f
          replace r525 := r525.up g735.f
          replace r531 := r531.up g735.f
          replace r536 := r536.up g735.f
          replace r541 := r541.up g735.f
          replace r546 := r546.up g735.f
          replace r552 := r552.up g735.f
          replace s562 := g735.f _ _ s562
          replace a563 := a563.up g735.f
          replace r568 := r568.up g735.f
          replace r573 := r573.up g735.f
          replace r592 := r592.up g735.f
          replace r597 := r597.up g735.f
          replace r625 := r625.up g735.f
          replace r671 := r671.up g735.f
          replace h678 := g735.f _ _ h678
          replace r679 := r679.up g735.f
          replace r680 := r680.up g735.f
          replace s683 := ex_t g735.f s683
          replace a684 := a684.up g735.f
          replace s687 := ex_t g735.f s687
          replace a688 := a688.up g735.f
          replace r692 := r692.up g735.f
          replace r721 := r721.up g735.f
          replace r726 := r726.up g735.f
          replace r731 := r731.up g735.f
          replace r736 : Dq K F733 v737 (eV (e3 PyData.int PyData.int PyData.int) []) := r736
          show _ ∧ _
          refine new_tup (K := K) (M := []) eF733 (.cons r731 (.cons r736 .nil)) (by show 2 ≤ 100000; decide) fun v742 F738 H739 g740 r741 => ?_
          have eF738 := g740.s
          have gF738 := gF733.trans (g740.weak (by simp))
          replace r5 := r5.up g740.f
          replace s10 := ex_t g740.f s10
          replace a11 := a11.up g740.f
          replace r22 := r22.up g740.f
          replace s27 := ex_t g740.f s27
          replace a28 := a28.up g740.f
          replace r440 := r440.up g740.f
          replace r445 := r445.up g740.f
          replace o486 := g740.own (by simp [*]) o486.1 o486.2
          replace a487 := a487.up g740.f
          replace w488 := w488.keep g740
          replace r492 := r492.up g740.f
          replace s496 := g740.f _ _ s496
          replace a497 := a497.up g740.f
          replace r501 := r501.up g740.f
          replace r506 := r506.up g740.f
          replace s511 := ex_t g740.f s511
          replace d512 := d512.up g740.f
          replace d513 := d513.up g740.f
          replace r518 := r518.up g740.f
          replace r525 := r525.up g740.f
          replace r531 := r531.up g740.f
          replace r536 := r536.up g740.f
          replace r541 := r541.up g740.f
          replace r546 := r546.up g740.f
          replace r552 := r552.up g740.f
          replace s562 := g740.f _ _ s562
          replace a563 := a563.up g740.f
          replace r568 := r568.up g740.f
          replace r573 := r573.up g740.f
          replace r592 := r592.up g740.f
          replace r597 := r597.up g740.f
          replace r625 := r625.up g740.f
          replace r671 := r671.up g740.f
          replace h678 := g740.f _ _ h678
          replace r679 := r679.up g740.f
          replace r680 := r680.up g740.f
          replace s683 := ex_t g740.f s683
          replace a684 := a684.up g740.f
          replace s687 := ex_t g740.f s687
          replace a688 := a688.up g740.f
          replace r692 := r692.up g740.f
          replace r721 := r721.up g740.f
          replace r726 := r726.up g740.f
          replace r731 := r731.up g740.f
          replace r736 := r736.up g740.f
          replace r741 : Dq K F738 v742 ((e2 (eV (e2 PyData.int PyData.int)) (eV (e3 PyData.int PyData.int PyData.int))) ([((-(20 : Int)), (20 : Int)), ((-(19 : Int)), (20 : Int))], [])) := r741
          refine ⟨_, rfl, _, rfl, ?_⟩
          refine ⟨F738, _, ([((-(20 : Int)), (20 : Int)), ((-(19 : Int)), (20 : Int))], []), rfl, eF738, r741, (post_bd k).mono (fun b743 k v748 F744 H745 g746 r747 => ?_) (fun _ z => z)⟩
          have eF744 := g746.s
          have gF744 := gF738.trans (g746.weak (by simp))
          replace r5 := r5.up g746.f
          replace s10 := ex_t g746.f s10
          replace a11 := a11.up g746.f
          replace r22 := r22.up g746.f
          replace s27 := ex_t g746.f s27
          replace a28 := a28.up g746.f
          replace r440 := r440.up g746.f
          replace r445 := r445.up g746.f
          replace o486 := g746.own (by simp [*]) o486.1 o486.2
          replace a487 := a487.up g746.f
          replace w488 := w488.keep g746
          replace r492 := r492.up g746.f
          replace s496 := g746.f _ _ s496
          replace a497 := a497.up g746.f
          replace r501 := r501.up g746.f
          replace r506 := r506.up g746.f
          replace s511 := ex_t g746.f s511
          replace d512 := d512.up g746.f
          replace d513 := d513.up g746.f
          replace r518 := r518.up g746.f
          replace r525 := r525.up g746.f
          replace r531 := r531.up g746.f
          replace r536 := r536.up g746.f
          replace r541 := r541.up g746.f
          replace r546 := r546.up g746.f
          replace r552 := r552.up g746.f
          replace s562 := g746.f _ _ s562
          replace a563 := a563.up g746.f
          replace r568 := r568.up g746.f
          replace r573 := r573.up g746.f
          replace r592 := r592.up g746.f
          replace r597 := r597.up g746.f
          replace r625 := r625.up g746.f
          replace r671 := r671.up g746.f
          replace h678 := g746.f _ _ h678
          replace r679 := r679.up g746.f
          replace r680 := r680.up g746.f
          replace s683 := ex_t g746.f s683
          replace a684 := a684.up g746.f
          replace s687 := ex_t g746.f s687
          replace a688 := a688.up g746.f
          replace r692 := r692.up g746.f
          replace r721 := r721.up g746.f
          replace r726 := r726.up g746.f
          replace r731 := r731.up g746.f
          replace r736 := r736.up g746.f
          replace r741 := r741.up g746.f
          obtain ⟨a750, dx751, m752, t753, rfl, h754, r755, r756⟩ := r747.ex
          refine ⟨_, _, _, _, _, _, rfl, rfl, eF744 _ _ h678, eF744 _ _ h754, F744, _, b667, _, b743, rfl, eF744, r671, r747, (post_bd k).mono (fun b757 k v762 F758 H759 g760 r761 => ?_) (fun _ z => z)⟩
          subst r761
          have eF758 := g760.s
          have gF758 := gF744.trans (g760.weak (by simp))
          replace r5 := r5.up g760.f
          replace s10 := ex_t g760.f s10
          replace a11 := a11.up g760.f
          replace r22 := r22.up g760.f
          replace s27 := ex_t g760.f s27
          replace a28 := a28.up g760.f
          replace r440 := r440.up g760.f
          replace r445 := r445.up g760.f
          replace o486 := g760.own (by simp [*]) o486.1 o486.2
          replace a487 := a487.up g760.f
          replace w488 := w488.keep g760
          replace r492 := r492.up g760.f
          replace s496 := g760.f _ _ s496
          replace a497 := a497.up g760.f
          replace r501 := r501.up g760.f
          replace r506 := r506.up g760.f
          replace s511 := ex_t g760.f s511
          replace d512 := d512.up g760.f
          replace d513 := d513.up g760.f
          replace r518 := r518.up g760.f
          replace r525 := r525.up g760.f
          replace r531 := r531.up g760.f
          replace r536 := r536.up g760.f
          replace r541 := r541.up g760.f
          replace r546 := r546.up g760.f
          replace r552 := r552.up g760.f
          replace s562 := g760.f _ _ s562
          replace a563 := a563.up g760.f
          replace r568 := r568.up g760.f
          replace r573 := r573.up g760.f
          replace r592 := r592.up g760.f
          replace r597 := r597.up g760.f
          replace r625 := r625.up g760.f
          replace r671 := r671.up g760.f
          replace h678 := g760.f _ _ h678
          replace r679 := r679.up g760.f
          replace r680 := r680.up g760.f
          replace s683 := ex_t g760.f s683
          replace a684 := a684.up g760.f
          replace s687 := ex_t g760.f s687
          replace a688 := a688.up g760.f
          replace r692 := r692.up g760.f
          replace r721 := r721.up g760.f
          replace r726 := r726.up g760.f
          replace r731 := r731.up g760.f
          replace r736 := r736.up g760.f
          replace r741 := r741.up g760.f
          replace r747 := r747.up g760.f
          replace h754 := g760.f _ _ h754
          replace r755 := r755.up g760.f
          replace r756 := r756.up g760.f
          refine ⟨_, rfl, ?_⟩
          refine ⟨_, rfl, _, rfl, (b459.1, b340.2.1), ([((-(20 : Int)), (20 : Int)), ((-(19 : Int)), (20 : Int))], []), r506.dp eF758, r741.dp eF758, ?_⟩
          refine ⟨rfl, ?_⟩
          rw [decV_bl]
          exact k.h _
end L

set_option Elab.async false
set_option linter.all false
set_option maxRecDepth 100000
set_option maxHeartbeats 0
namespace L
open PySem L2 Evl Wk
abbrev sp_p_masses : Stmt := inClass (top 18) 1
abbrev sp_p_stretches : Stmt := inClass (top 18) 2
/-! ### the head -/
def fileN : Str := "/claim/cut.py"
abbrev s_InvalidWeighting_init : Stmt := inClass (top 2) 0
def dd_InvalidWeighting_init : He5.DefA := ⟨initAt "InvalidWeighting" "__init__", "__init__", "InvalidWeighting.__init__", defArgs s_InvalidWeighting_init, defBody s_InvalidWeighting_init, defScope s_InvalidWeighting_init, [], []⟩
theorem ok_InvalidWeighting_init {P : Program} {w : World} {K : PySem.W.Frag} {mg : Str → Option Value} {base : Heap} {fd : FuncData} {cda cc : Addr} (I : IniD K P mg "InvalidWeighting" "__init__" "InvalidWeighting.__init__" (defArgs s_InvalidWeighting_init) (defBody s_InvalidWeighting_init) (defScope s_InvalidWeighting_init) fd cda cc) (nf_part : NoAttr K (He.ga K "InvalidWeighting") "part") (nf_index : NoAttr K (He.ga K "InvalidWeighting") "index") : FnOk P w K mg base CX0 1 (He.ma K (He.ga K "InvalidWeighting") "__init__") fd ["self", "part", "index"] (spI2 (He.ga K "InvalidWeighting") "part" "index") := by
  obtain ⟨⟨oc, od, kV, doc, pm, ct, an, osl, rfl, lk⟩, cd, sc, _, _⟩ := I
  refine fn_ofS (N := ["self", "part", "index", "__class__"]) (fun _ => rfl) lk cd (NdefX.nscope_by (by decide +kernel)) sc rfl rfl rfl (fun _ => rfl) (fun _ => rfl) (fun vs H Q E h => ?_) (fun A outer s H vs Q E h => ?_)
  · obtain ⟨a, i, j, rfl, _⟩ := h; rfl
  · obtain ⟨a, i, j, rfl, hi, hj, ha, k⟩ := h
    refine ⟨a, _, _, rfl, ha, pa_cons (pe_joined (.cons pe_str (.cons (pe_fmt (pv 1)) (.cons pe_str (.cons (pe_fmt (pv 2)) .nil))))) pa_nil, pss_cons (ps_ost (pv 0) (pv 1)) (pss_one (ps_ost (pv 0) (pv 2))), ?_⟩
    refine js2 (by decide +kernel) (by decide +kernel) hi hj (fun Q q => ⟨_, rfl, q⟩) (fun Q q => ⟨_, rfl, q⟩) (fun y => ?_)
    refine ⟨by show 1 ≤ 1000; decide, ha, ?_⟩
    refine ⟨_, rfl, _, rfl, a, _, rfl, sc.oex, nf_part, .inl ⟨ha, fun dx hd hn => ?_⟩⟩
    refine ⟨_, rfl, _, rfl, a, _, rfl, sc.oex, nf_index, .inr ⟨dx, _, upd_same, ?_, by show 1 ≤ 900; decide, k dx hd hn⟩⟩
    rw [upd_ne hn, upd_same]
def es : List He5.DefA := [dd_InvalidWeighting_init]
def dd_whole_within : He5.DefA := ⟨gAt "whole_within", "whole_within", "whole_within", defArgs s_whole_within, defBody s_whole_within, defScope s_whole_within, [], []⟩
def dd_Weighting___eq__ : He5.DefA := ⟨initAt "Weighting" "__eq__", "__eq__", "Weighting.__eq__", defArgs s_Weighting___eq__, defBody s_Weighting___eq__, defScope s_Weighting___eq__, [], []⟩
def dd_is_place : He5.DefA := ⟨gAt "is_place", "is_place", "is_place", defArgs s_is_place, defBody s_is_place, defScope s_is_place, [], []⟩
def dd_is_mass : He5.DefA := ⟨gAt "is_mass", "is_mass", "is_mass", defArgs s_is_mass, defBody s_is_mass, defScope s_is_mass, [], []⟩
def dd_check_masses : He5.DefA := ⟨gAt "check_masses", "check_masses", "check_masses", defArgs s_check_masses, defBody s_check_masses, defScope s_check_masses, [], []⟩
def dd_check_stretches : He5.DefA := ⟨gAt "check_stretches", "check_stretches", "check_stretches", defArgs s_check_stretches, defBody s_check_stretches, defScope s_check_stretches, [], []⟩
def dd_Weighting_init : He5.DefA := ⟨initAt "Weighting" "__init__", "__init__", "Weighting.__init__", defArgs s_Weighting_init, defBody s_Weighting_init, defScope s_Weighting_init, [], []⟩
def dd_law_taken : He5.DefA := ⟨gAt "_law_taken", "_law_taken", "_law_taken", defArgs s_law_taken, defBody s_law_taken, defScope s_law_taken, [], []⟩
def dd_law_pick : He5.DefA := ⟨gAt "_law_pick", "_law_pick", "_law_pick", defArgs s_law_pick, defBody s_law_pick, defScope s_law_pick, [], []⟩
def dd_law_masses : He5.DefA := ⟨gAt "_law_masses", "_law_masses", "_law_masses", defArgs s_law_masses, defBody s_law_masses, defScope s_law_masses, [], []⟩
def dd_law_stretches : He5.DefA := ⟨gAt "_law_stretches", "_law_stretches", "_law_stretches", defArgs s_law_stretches, defBody s_law_stretches, defScope s_law_stretches, [], []⟩
def dd_law_weighting : He5.DefA := ⟨gAt "_law_weighting", "_law_weighting", "_law_weighting", defArgs s_law_weighting, defBody s_law_weighting, defScope s_law_weighting, [], []⟩
def dd_law_bad_mass : He5.DefA := ⟨gAt "_law_bad_mass", "_law_bad_mass", "_law_bad_mass", defArgs s_law_bad_mass, defBody s_law_bad_mass, defScope s_law_bad_mass, [], []⟩
def dd_law_bad_stretch : He5.DefA := ⟨gAt "_law_bad_stretch", "_law_bad_stretch", "_law_bad_stretch", defArgs s_law_bad_stretch, defBody s_law_bad_stretch, defScope s_law_bad_stretch, [], []⟩
def dd_law_raised : He5.DefA := ⟨gAt "_law_raised", "_law_raised", "_law_raised", defArgs s_law_raised, defBody s_law_raised, defScope s_law_raised, [], []⟩
def dd_law : He5.DefA := ⟨gAt "law", "law", "law", defArgs s_law, defBody s_law, defScope s_law, [], []⟩
def dd_p_masses : He5.DefA := ⟨propG "Weighting" "masses", "masses", "Weighting.masses", defArgs sp_p_masses, defBody sp_p_masses, defScope sp_p_masses, [], []⟩
def dd_p_stretches : He5.DefA := ⟨propG "Weighting" "stretches", "stretches", "Weighting.stretches", defArgs sp_p_stretches, defBody sp_p_stretches, defScope sp_p_stretches, [], []⟩
def fn : List He5.DefA := [dd_whole_within, dd_Weighting___eq__, dd_is_place, dd_is_mass, dd_check_masses, dd_check_stretches, dd_Weighting_init, dd_law_taken, dd_law_pick, dd_law_masses, dd_law_stretches, dd_law_weighting, dd_law_bad_mass, dd_law_bad_stretch, dd_law_raised, dd_law, dd_p_masses, dd_p_stretches]
def fa : List He.Fa := [.free "len", .free "int", .free "bool", .free "str", .free "abs", .free "sum", .free "min", .free "max", .free "list", .free "tuple", .free "set", .free "dict", .free "sorted", .free "range", .free "enumerate", .free "zip", .free "reversed", .free "isinstance", .glo "whole_within", .glo "is_place", .glo "is_mass", .glo "check_masses", .glo "check_stretches", .glo "_law_taken", .glo "_law_pick", .glo "_law_masses", .glo "_law_stretches", .glo "_law_weighting", .glo "_law_bad_mass", .glo "_law_bad_stretch", .glo "_law_raised", .glo "law", .glo "Weighting", .cls "Weighting", .mkr "Weighting", .noat "Weighting" "_masses", .noat "Weighting" "_stretches", .free "ValueError", .glo "InvalidFraction", .glo "InvalidNumber", .glo "InvalidPlaces", .glo "InvalidPolynomial", .glo "InvalidSums", .glo "InvalidWeighting", .glo "InvalidWeights", .glo "NoWeighting", .glo "ReadingError", .glo "TooFew", .noat "InvalidWeighting" "part", .noat "InvalidWeighting" "index", .free "super", .int "FARTHEST" (20), .int "HEAVIEST" (20), .int "MOST_MASSES" (6), .int "MOST_STRETCHES" (4), .meth "Weighting" "__eq__"]
def ex (K : PySem.W.Frag) : Bool := propB "Weighting" "masses" K && (propB "Weighting" "stretches" K && (insB "Weighting" K && (neB "Weighting" K && (raisedB K && (supB "InvalidWeighting" fileN K)))))
abbrev R : PySem.W.OpenRow := PySem.W.OpenLaw.row PySem.Challenge.rw_fewreadings_k01_weightings_validated
def asL : List Addr := [3, 6, 4, 24, 46, 58, 70, 91, 112, 124, 136, 157, 169, 178, 216, 227, 234, 241, 248, 255, 262, 267, 274, 281, 288, 295, 302, 307, 0, 23, 45, 57, 69, 90, 111, 123, 135, 156, 168, 177, 215, 226, 233, 240, 247, 254, 261, 266, 273, 280, 287, 294, 301, 306, 22, 25, 43, 44, 56, 68, 88, 89, 109, 110, 122, 134, 154, 155, 167, 172, 174, 175, 176, 190, 198, 206, 213, 214, 217, 218, 221, 223, 224, 225, 228, 230, 231, 232, 235, 237, 238, 239, 242, 244, 245, 246, 249, 251, 252, 253, 256, 258, 259, 260, 263, 265, 268, 270, 271, 272, 275, 277, 278, 279, 282, 284, 285, 286, 289, 291, 292, 293, 296, 298, 299, 300, 303, 305, 42, 31, 87, 76, 108, 97, 153, 142, 189, 197, 205, 212, 37, 39, 40, 41, 82, 84, 85, 86, 103, 105, 106, 107, 148, 150, 151, 152, 186, 188, 196, 204, 207, 209, 210, 211, 191, 193, 194, 195, 199, 201, 202, 203, 2]
def ts : List He.Defn := [("law", none)]
abbrev hk : PySem.W.Hook := hookXT asL fa fn es ts ex
def ob (s : PySem.W.SharedT) : He.AlD := obsXT asL fa fn es ts ex (HandSHeadRun.getT s)
theorem ob_eq (s : PySem.W.SharedT) : ob s = hk.obs s.abs := obsXT_eq (HandSHeadRun.getT_eq s)
abbrev looseN : List Str := (["ReadingError", "InvalidWeighting", "InvalidNumber", "InvalidPolynomial", "InvalidPlaces", "InvalidWeights", "TooFew", "InvalidFraction", "InvalidSums", "NoWeighting", "whole_within", "FARTHEST", "HEAVIEST", "MOST_MASSES", "MOST_STRETCHES", "Weighting", "is_place", "is_mass", "check_masses", "check_stretches"] : List Str) ++ (["_law_taken", "_law_pick", "_law_masses", "_law_stretches", "_law_weighting", "_law_raised", "_law_bad_mass", "_law_bad_stretch"] : List Str)
abbrev vw : Program := PySem.W.view R.prog [32]
theorem run (w : World) : HandSHeadRun.RunEq R vw hk ob 6000 looseN w := by
  intro os
  kernel_rfl
theorem facts {P : Program} {w : World} {K : PySem.W.Frag} {h : Heap} {mg : Str → Option Value} {f : Addr} (X : K.In h) (G : h.Ns mainGlobals mg) (hfa : mg ("law" : Str) = some (.ref f)) (c0 : SaysXS fa fn es ex K) (hPf : ((P.main.file : Str) == fileN) = true) (hPt : (P.main.scope.names.lookup ("super" : Str)).isSome = false) :
    ∃ fd : FuncData, (∀ (s : Shared) (v : Value), BindsTo s fd ⟨[v], []⟩ [("_law_script", v)]) ∧ ∀ base : Heap, K.In base → base.Ns mainGlobals mg → LamX.TabB base mg (He.codeOf K ("law", none)) (He.cT K ("law", none)).2 → FnOk P w K mg base CX0 8 f fd ["_law_script"] (sp_law K) := by
  have c := c0.old
  have B : Bi mg := ⟨He.free_ok X G (c.fact 0 (f := .free "len") rfl), He.free_ok X G (c.fact 1 (f := .free "int") rfl), He.free_ok X G (c.fact 2 (f := .free "bool") rfl), He.free_ok X G (c.fact 3 (f := .free "str") rfl), He.free_ok X G (c.fact 4 (f := .free "abs") rfl), He.free_ok X G (c.fact 5 (f := .free "sum") rfl), He.free_ok X G (c.fact 6 (f := .free "min") rfl), He.free_ok X G (c.fact 7 (f := .free "max") rfl), He.free_ok X G (c.fact 8 (f := .free "list") rfl), He.free_ok X G (c.fact 9 (f := .free "tuple") rfl), He.free_ok X G (c.fact 10 (f := .free "set") rfl), He.free_ok X G (c.fact 11 (f := .free "dict") rfl), He.free_ok X G (c.fact 12 (f := .free "sorted") rfl), He.free_ok X G (c.fact 13 (f := .free "range") rfl), He.free_ok X G (c.fact 14 (f := .free "enumerate") rfl), He.free_ok X G (c.fact 15 (f := .free "zip") rfl), He.free_ok X G (c.fact 16 (f := .free "reversed") rfl), He.free_ok X G (c.fact 17 (f := .free "isinstance") rfl)⟩
  obtain ⟨fd_whole_within, F_whole_within⟩ := c.def_ 0 (d := dd_whole_within) rfl
  obtain ⟨fd_Weighting___eq__, F_Weighting___eq__⟩ := c.def_ 1 (d := dd_Weighting___eq__) rfl
  obtain ⟨fd_is_place, F_is_place⟩ := c.def_ 2 (d := dd_is_place) rfl
  obtain ⟨fd_is_mass, F_is_mass⟩ := c.def_ 3 (d := dd_is_mass) rfl
  obtain ⟨fd_check_masses, F_check_masses⟩ := c.def_ 4 (d := dd_check_masses) rfl
  obtain ⟨fd_check_stretches, F_check_stretches⟩ := c.def_ 5 (d := dd_check_stretches) rfl
  obtain ⟨fd_Weighting_init, F_Weighting_init⟩ := c.def_ 6 (d := dd_Weighting_init) rfl
  obtain ⟨fd_law_taken, F_law_taken⟩ := c.def_ 7 (d := dd_law_taken) rfl
  obtain ⟨fd_law_pick, F_law_pick⟩ := c.def_ 8 (d := dd_law_pick) rfl
  obtain ⟨fd_law_masses, F_law_masses⟩ := c.def_ 9 (d := dd_law_masses) rfl
  obtain ⟨fd_law_stretches, F_law_stretches⟩ := c.def_ 10 (d := dd_law_stretches) rfl
  obtain ⟨fd_law_weighting, F_law_weighting⟩ := c.def_ 11 (d := dd_law_weighting) rfl
  obtain ⟨fd_law_bad_mass, F_law_bad_mass⟩ := c.def_ 12 (d := dd_law_bad_mass) rfl
  obtain ⟨fd_law_bad_stretch, F_law_bad_stretch⟩ := c.def_ 13 (d := dd_law_bad_stretch) rfl
  obtain ⟨fd_law_raised, F_law_raised⟩ := c.def_ 14 (d := dd_law_raised) rfl
  obtain ⟨fd_law, F_law⟩ := c.def_ 15 (d := dd_law) rfl
  obtain ⟨fd_p_masses, F_p_masses⟩ := c.def_ 16 (d := dd_p_masses) rfl
  obtain ⟨fd_p_stretches, F_p_stretches⟩ := c.def_ 17 (d := dd_p_stretches) rfl
  have e0 := c.ext
  obtain ⟨x0, e1⟩ := He.ba e0
  obtain ⟨x1, e2⟩ := He.ba e1
  obtain ⟨x2, e3⟩ := He.ba e2
  obtain ⟨x3, e4⟩ := He.ba e3
  obtain ⟨x4, e5⟩ := He.ba e4
  have x5 := e5
  have cx_InvalidFraction := He.glo_ok X G (c.fact 38 (f := .glo "InvalidFraction") rfl)
  have cx_InvalidNumber := He.glo_ok X G (c.fact 39 (f := .glo "InvalidNumber") rfl)
  have cx_InvalidPlaces := He.glo_ok X G (c.fact 40 (f := .glo "InvalidPlaces") rfl)
  have cx_InvalidPolynomial := He.glo_ok X G (c.fact 41 (f := .glo "InvalidPolynomial") rfl)
  have cx_InvalidSums := He.glo_ok X G (c.fact 42 (f := .glo "InvalidSums") rfl)
  have cx_InvalidWeighting := He.glo_ok X G (c.fact 43 (f := .glo "InvalidWeighting") rfl)
  have cx_InvalidWeights := He.glo_ok X G (c.fact 44 (f := .glo "InvalidWeights") rfl)
  have cx_NoWeighting := He.glo_ok X G (c.fact 45 (f := .glo "NoWeighting") rfl)
  have cx_ReadingError := He.glo_ok X G (c.fact 46 (f := .glo "ReadingError") rfl)
  have cx_TooFew := He.glo_ok X G (c.fact 47 (f := .glo "TooFew") rfl)
  have nf_InvalidWeighting_part := He.noat_ok (c.fact 48 (f := .noat "InvalidWeighting" "part") rfl)
  have nf_InvalidWeighting_index := He.noat_ok (c.fact 49 (f := .noat "InvalidWeighting" "index") rfl)
  have hVE := He.free_ok X G (c.fact 37 (f := .free "ValueError") rfl)
  have RK := raisedB_ok x4
  have sup0 := He.free_ok X G (c.fact 50 (f := .free "super") rfl)
  obtain ⟨fd_InvalidWeighting, cda_InvalidWeighting, cc_InvalidWeighting, I_InvalidWeighting⟩ := c0.ini (P := P) (mg := mg) (x := "InvalidWeighting") (file := fileN) 0 (d := dd_InvalidWeighting_init) rfl rfl x5 hPf sup0 hPt
  have c_FARTHEST := He.int_ok X G (c.fact 51 (f := .int "FARTHEST" (20)) rfl)
  have c_HEAVIEST := He.int_ok X G (c.fact 52 (f := .int "HEAVIEST" (20)) rfl)
  have c_MOST_MASSES := He.int_ok X G (c.fact 53 (f := .int "MOST_MASSES" (6)) rfl)
  have c_MOST_STRETCHES := He.int_ok X G (c.fact 54 (f := .int "MOST_STRETCHES" (4)) rfl)
  have cl := He.cls_ok (c.fact 33 (f := .cls "Weighting") rfl)
  have n_masses := He.noat_ok (c.fact 35 (f := .noat "Weighting" "_masses") rfl)
  have n_stretches := He.noat_ok (c.fact 36 (f := .noat "Weighting" "_stretches") rfl)
  have e := hfa.symm.trans (He.glo_ok X G (c.fact 31 (f := .glo "law") rfl))
  cases e
  have bl := FunD.bindsA (ps := ["_law_script"]) F_law fun _ _ _ _ _ _ us hl => match us, hl with | [_], _ => rfl
  refine ⟨fd_law, fun s v => bl s [v] rfl, fun base _ _ TB => ?_⟩
  have cl_W := cl
  have na_masses := n_masses
  have na_stretches := n_stretches
  have c_W := He.glo_ok X G (c.fact 32 (f := .glo "Weighting") rfl)
  have IC_W := insB_ok cl x2
  have ME_W := He.meth_ok (c.fact 55 (f := .meth "Weighting" "__eq__") rfl)
  have GP_masses : KnP P w K mg base (He.ga K "Weighting") "masses" "_masses" := knP_of x0 cl n_masses F_p_masses ⟨rfl, rfl, rfl, by decide +kernel, rfl, by decide +kernel, by decide +kernel⟩ rfl fun _ _ _ _ _ _ us hl => match us, hl with | [_], _ => rfl
  have GP_stretches : KnP P w K mg base (He.ga K "Weighting") "stretches" "_stretches" := knP_of x1 cl n_stretches F_p_stretches ⟨rfl, rfl, rfl, by decide +kernel, rfl, by decide +kernel, by decide +kernel⟩ rfl fun _ _ _ _ _ _ us hl => match us, hl with | [_], _ => rfl
  have GX_InvalidWeighting : KnX P w K mg base "InvalidWeighting" 1 ["self", "part", "index"] (spI2 (He.ga K "InvalidWeighting") "part" "index") := ⟨⟨_, ok_InvalidWeighting_init I_InvalidWeighting nf_InvalidWeighting_part nf_InvalidWeighting_index, I_InvalidWeighting.binds rfl (fun _ _ _ _ _ _ _ us hl => match us, hl with | [_, _, _], _ => rfl)⟩, I_InvalidWeighting.sc.oex, I_InvalidWeighting.ini, I_InvalidWeighting.typ, cx_InvalidWeighting⟩
  have G_whole_within : Kn P w K mg base "whole_within" 1 ["number", "low", "high"] (sp_whole_within K) := ⟨_, _, ok_whole_within (C := He.ga K "Weighting") B F_whole_within, He.glo_ok X G (c.fact 18 (f := .glo "whole_within") rfl), F_whole_within.kp, F_whole_within.bindsN fun _ _ _ _ _ _ us hl => match us, hl with | [_, _, _], _ => rfl⟩
  have GE_W : KnE P w K mg base (He.ga K "Weighting") 1 ["self", "other"] (sp_Weighting___eq__ K (He.ga K "Weighting")) := knE_of ME_W x3 (ok_Weighting___eq__ (C := He.ga K "Weighting") B F_Weighting___eq__ IC_W c_W cl_W na_masses na_stretches) (F_Weighting___eq__.bindsN fun _ _ _ _ _ _ us hl => match us, hl with | [_, _], _ => rfl)
  have G_is_place : Kn P w K mg base "is_place" 2 ["number"] (sp_is_place K) := ⟨_, _, ok_is_place (C := He.ga K "Weighting") B F_is_place G_whole_within c_FARTHEST, He.glo_ok X G (c.fact 19 (f := .glo "is_place") rfl), F_is_place.kp, F_is_place.bindsN fun _ _ _ _ _ _ us hl => match us, hl with | [_], _ => rfl⟩
  have G_is_mass : Kn P w K mg base "is_mass" 2 ["number"] (sp_is_mass K) := ⟨_, _, ok_is_mass (C := He.ga K "Weighting") B F_is_mass G_whole_within c_HEAVIEST, He.glo_ok X G (c.fact 20 (f := .glo "is_mass") rfl), F_is_mass.kp, F_is_mass.bindsN fun _ _ _ _ _ _ us hl => match us, hl with | [_], _ => rfl⟩
  have G_check_masses : Kx P w K mg base "check_masses" 3 ["masses"] (sp_check_masses K) := ⟨_, _, ok_check_masses (C := He.ga K "Weighting") B F_check_masses G_is_place G_is_mass c_FARTHEST c_MOST_MASSES GX_InvalidWeighting, He.glo_ok X G (c.fact 21 (f := .glo "check_masses") rfl), F_check_masses.kp, F_check_masses.bindsN fun _ _ _ _ _ _ us hl => match us, hl with | [_], _ => rfl⟩
  have G_check_stretches : Kx P w K mg base "check_stretches" 3 ["stretches"] (sp_check_stretches K) := ⟨_, _, ok_check_stretches (C := He.ga K "Weighting") B F_check_stretches G_is_place G_is_mass c_FARTHEST c_MOST_STRETCHES GX_InvalidWeighting, He.glo_ok X G (c.fact 22 (f := .glo "check_stretches") rfl), F_check_stretches.kp, F_check_stretches.bindsN fun _ _ _ _ _ _ us hl => match us, hl with | [_], _ => rfl⟩
  have GC_Weighting : KnC P w K mg base (L2.CX P w) "Weighting" (He.ga K "Weighting") 4 ["self", "masses", "stretches"] (spWX Weighting_init_xm K (He.ga K "Weighting")) := ⟨⟨_, _, He.mkr_ok (c.fact 34 (f := .mkr "Weighting") rfl), ok_Weighting_init (C := He.ga K "Weighting") B cl n_masses n_stretches F_Weighting_init G_check_masses G_check_stretches GX_InvalidWeighting, F_Weighting_init.bindsN fun _ _ _ _ _ _ us hl => match us, hl with | [_, _, _], _ => rfl⟩, He.glo_ok X G (c.fact 32 (f := .glo "Weighting") rfl)⟩
  have G_law_taken : Kn P w K mg base "_law_taken" 1 ["_law_row", "_law_many"] (spTaken takenA K) := ⟨_, _, ok_law_taken B F_law_taken, He.glo_ok X G (c.fact 23 (f := .glo "_law_taken") rfl), F_law_taken.kp, F_law_taken.bindsN fun _ _ _ _ _ _ us hl => match us, hl with | [_, _], _ => rfl⟩
  have G_law_pick : Kn P w K mg base "_law_pick" 2 ["_law_row", "_law_some"] (spPick takenA K) := ⟨_, _, ok_law_pick B F_law_pick G_law_taken, He.glo_ok X G (c.fact 24 (f := .glo "_law_pick") rfl), F_law_pick.kp, F_law_pick.bindsN fun _ _ _ _ _ _ us hl => match us, hl with | [_, _], _ => rfl⟩
  have G_law_masses : Kn P w K mg base "_law_masses" 3 ["_law_row", "_law_most", "_law_far"] (sp_law_masses K) := ⟨_, _, ok_law_masses (C := He.ga K "Weighting") B F_law_masses G_law_taken G_law_pick, He.glo_ok X G (c.fact 25 (f := .glo "_law_masses") rfl), F_law_masses.kp, F_law_masses.bindsN fun _ _ _ _ _ _ us hl => match us, hl with | [_, _, _], _ => rfl⟩
  have G_law_stretches : Kn P w K mg base "_law_stretches" 2 ["_law_row", "_law_most", "_law_far"] (sp_law_stretches K) := ⟨_, _, ok_law_stretches (C := He.ga K "Weighting") B F_law_stretches G_law_taken, He.glo_ok X G (c.fact 26 (f := .glo "_law_stretches") rfl), F_law_stretches.kp, F_law_stretches.bindsN fun _ _ _ _ _ _ us hl => match us, hl with | [_, _, _], _ => rfl⟩
  have G_law_weighting : Kn P w K mg base "_law_weighting" 6 ["_law_parts"] (sp_law_weighting K (He.ga K "Weighting")) := ⟨_, _, ok_law_weighting (C := He.ga K "Weighting") B F_law_weighting GC_Weighting, He.glo_ok X G (c.fact 27 (f := .glo "_law_weighting") rfl), F_law_weighting.kp, F_law_weighting.bindsN fun _ _ _ _ _ _ us hl => match us, hl with | [_], _ => rfl⟩
  have G_law_bad_mass : Kn P w K mg base "_law_bad_mass" 1 ["_law_masses_here"] (sp_law_bad_mass K) := ⟨_, _, ok_law_bad_mass (C := He.ga K "Weighting") B F_law_bad_mass, He.glo_ok X G (c.fact 28 (f := .glo "_law_bad_mass") rfl), F_law_bad_mass.kp, F_law_bad_mass.bindsN fun _ _ _ _ _ _ us hl => match us, hl with | [_], _ => rfl⟩
  have G_law_bad_stretch : Kn P w K mg base "_law_bad_stretch" 1 ["_law_stretches_here"] (sp_law_bad_stretch K) := ⟨_, _, ok_law_bad_stretch (C := He.ga K "Weighting") B F_law_bad_stretch, He.glo_ok X G (c.fact 29 (f := .glo "_law_bad_stretch") rfl), F_law_bad_stretch.kp, F_law_bad_stretch.bindsN fun _ _ _ _ _ _ us hl => match us, hl with | [_], _ => rfl⟩
  have A_law_raised := ask_of F_law_raised (He.glo_ok X G (c.fact 30 (f := .glo "_law_raised") rfl)) (F_law_raised.bindsN fun _ _ _ _ _ _ us hl => match us, hl with | [_], _ => rfl)
  exact ok_law (f := 0) (C := He.ga K "Weighting") B F_law G_law_masses G_law_stretches G_law_taken G_law_pick G_law_bad_mass G_law_bad_stretch G_law_weighting A_law_raised GC_Weighting GE_W GP_masses GP_stretches RK TB cx_InvalidFraction cx_InvalidNumber cx_InvalidPlaces cx_InvalidPolynomial cx_InvalidSums cx_InvalidWeighting cx_InvalidWeights cx_NoWeighting cx_ReadingError cx_TooFew hVE
open PySem PySem.W PySem.Calls PyProof.Rows
theorem of_law (math : ∀ scr : List Int, scr.length ≤ 63 → law scr = .ok true) : PySem.Challenge.rw_fewreadings_k01_weightings_validated.Holds := by
  w_on; o_law
  refine HandSHeadRun.head_any (r := R) (q := vw) (H := hk) (ob := ob) (M := 6000) (loose := looseN) (d := HandSHeadRun.topDef R.prog 32) (kwd := []) ob_eq
    (by kernel_rfl) (fun s => by kernel_rfl) run (by kernel_rfl) (by kernel_rfl) (by kernel_rfl) (by rfl) (by first | assumption | decide +kernel) (by decide +kernel) ⟨rfl, rfl, rfl, rfl, rfl, by decide +kernel⟩ ?hw ?hc
  case hw => w_witness2
  case hc =>
    refine LamX.walk_ofTsE (l := PySem.Challenge.rw_fewreadings_k01_weightings_validated) (n := 63) (k := 8) (x := "_law_script") (CX := fun _ => L2.CX0) rfl (by decide) (by kernel_rfl) ⟨rfl, by decide, by decide⟩ ?F (fun _ _ _ _ _ z => z)
    intro w mg fa h Y G hmg0
    obtain ⟨K, KX, c, tk⟩ := Y
    have hmg : mg ("law" : PySem.Str) = some (.ref fa) := by
      have e : (HandSHeadRun.topDef R.prog 32).name = ("law" : PySem.Str) := by kernel_rfl
      rw [← e]
      exact hmg0
    obtain ⟨fd, hb, hF⟩ := facts (P := PySem.Challenge.rw_fewreadings_k01_weightings_validated.prog) (w := w) KX G hmg c (by kernel_rfl) (by kernel_rfl)
    have t1 := tk ("law", none) (List.mem_singleton.mpr rfl)
    refine ⟨K, KX, fd, [He.cT K ("law", none)], sp_law K, fun q hq => ?_, fun q hq => ?_, fun q hq => ?_, hb, fun H a ns hl _ hT hS => ⟨a, ns, rfl, hS, hT _ (List.mem_singleton.mpr rfl), ?_⟩, fun base hK hN tb => hF base hK hN (tb _ (List.mem_singleton.mpr rfl))⟩
    · rw [List.mem_singleton.mp hq]; exact t1.empty
    · rw [List.mem_singleton.mp hq]; exact t1.out
    · rw [List.mem_singleton.mp hq]; exact PySem.W.codeHd_of_K KX t1.hd
    · rw [math ns hl]; exact ⟨fun H => rfl⟩
end L

set_option Elab.async false
set_option linter.all false
set_option maxRecDepth 100000
set_option maxHeartbeats 2000000
set_option exponentiation.threshold 100
namespace L
open PySem L2 Evl Wk
/-! ### fractions, in any terms -/
/-! ### places, weights, polynomials that are handed in -/
theorem weights_fold {f : Unit → Int × (Int × Int) → Mm Unit} {count : Int} (hf : ∀ s y, f s y = cond ((decide (y.1 = count)) || (decide (y.2.2 = (0 : Int)))) (Mm.bad) (Mm.ok ())) : ∀ (l : List (Int × Int)) (k : Int), k + l.length ≤ count → (∀ x ∈ l, x.2 ≠ 0) → foldM f () (numL k l) = .ok ()
  | [], k, _, _ => rfl
  | x :: l, k, h, hn => by
    rw [List.length_cons] at h
    unfold numL foldM
    rw [hf, cF (by rw [decide_eq_false (by show ¬ k = count; omega), decide_eq_false (hn x (List.mem_cons_self ..))]; rfl), bdo]
    exact weights_fold hf l (k + 1) (by omega) fun y hy => hn y (List.mem_cons_of_mem _ hy)
def toR (l : List Int) : List Rat := l.map fun x => ((x : Int) : Rat)
theorem toR_fr (l : List Int) : (toR l).map fr = l.map fun x => (x, (1 : Int)) := by
  unfold toR
  rw [List.map_map]
  exact List.map_congr_left fun x _ => fr_of_int x
theorem toR_sq {l : List Int} {c : Nat} (h : ∀ x ∈ l, x.natAbs < 2 ^ c) (h0 : 0 < c) : Sqs c (toR l) := fun q hq => by
  obtain ⟨x, hx, rfl⟩ := List.mem_map.mp hq
  exact sq_int (h x hx) h0
def zipR (ps ws : List Rat) (f : List Rat) : List Rat := (ps.zip ws).map fun x => x.2 * ev f x.1
def Rd (ps ws f : List Rat) : Rat := (zipR ps ws f).sum
/-! ### weightings that are right, their sums -/
theorem pow_fold {f : Int → Int → Mm Int} {base : Int} {b : Nat} (hb : base.natAbs < 2 ^ b) (hf : ∀ s x, f s x = (mulM s base).bd fun m => Mm.ok m) : ∀ (l : List Int) (s : Int) (a : Nat), s.natAbs < 2 ^ a → a + b * (l.length + 1) ≤ 900000 → foldM f s l = .ok (s * base ^ l.length)
  | [], s, a, _, _ => by simp [foldM]
  | x :: l, s, a, ha, h => by
    have e : a + b + b * (l.length + 1) ≤ 900000 := by
      rw [List.length_cons] at h
      have : b * (l.length + 1 + 1) = b * (l.length + 1) + b := by rw [Nat.mul_succ]
      omega
    unfold foldM
    rw [hf, mul_ok ha hb (by omega)]
    show foldM f (s * base) l = _
    rw [pow_fold hb hf l (s * base) (a + b) (mul_lt ha hb (Nat.le_refl _)) e, List.length_cons, Int.mul_assoc, Int.pow_succ']
theorem pow_lt {base : Int} {b : Nat} (hb : base.natAbs < 2 ^ b) : ∀ n : Nat, (base ^ n).natAbs < 2 ^ (b * n + 1)
  | 0 => by simp
  | n + 1 => by
    rw [Int.pow_succ]
    exact mul_lt (pow_lt hb n) hb (by rw [Nat.mul_succ]; omega)
theorem sum_lt {a : Nat} : ∀ l : List Int, (∀ x ∈ l, x.natAbs < 2 ^ a) → l.sum.natAbs < 2 ^ (a + l.length)
  | [], _ => by
    have := two_le (a + 0)
    show 0 < 2 ^ (a + 0)
    omega
  | x :: l, h => by
    rw [List.sum_cons]
    refine add_lt (h x (List.mem_cons_self ..)) (sum_lt l fun y hy => h y (List.mem_cons_of_mem _ hy)) ?_ ?_ <;> (rw [List.length_cons]; omega)
structure Good (w : Wt) : Prop where
  ms : ∀ m ∈ w.1, m.1.natAbs ≤ 20 ∧ 1 ≤ m.2 ∧ m.2 ≤ 20
  ss : ∀ s ∈ w.2, s.1.natAbs ≤ 20 ∧ s.2.1.natAbs ≤ 20 ∧ 1 ≤ s.2.2 ∧ s.2.2 ≤ 20 ∧ s.1 < s.2.1
  lm : w.1.length ≤ 6
  ls : w.2.length ≤ 4
  ne : w.1 ≠ [] ∨ w.2 ≠ []
def mI (k : Nat) (m : Int × Int) : Int := m.2 * m.1 ^ k
def sI (k : Nat) (s : Int × Int × Int) : Int := s.2.2 * (s.2.1 ^ (k + 1) - s.1 ^ (k + 1))
def PS (w : Wt) (k : Nat) : Rat := (((w.1.map (mI k)).sum * ((k : Int) + 1) + (w.2.map (sI k)).sum : Int) : Rat) / (((k : Int) + 1 : Int) : Rat)
theorem pow_lt20 {x : Int} {k : Nat} (h : x.natAbs ≤ 20) (hk : k ≤ 61) : (x ^ k).natAbs < 2 ^ 306 := up_lt (pow_lt (b := 5) (by omega) k) (by omega)
theorem mI_lt {k : Nat} {m : Int × Int} (h : m.1.natAbs ≤ 20 ∧ 1 ≤ m.2 ∧ m.2 ≤ 20) (hk : k ≤ 60) : (mI k m).natAbs < 2 ^ 320 :=
  mul_lt (a := 5) (by omega) (pow_lt20 h.1 (by omega)) (by decide)
theorem sI_lt {k : Nat} {s : Int × Int × Int} (h : s.1.natAbs ≤ 20 ∧ s.2.1.natAbs ≤ 20 ∧ 1 ≤ s.2.2 ∧ s.2.2 ≤ 20 ∧ s.1 < s.2.1) (hk : k ≤ 60) : (sI k s).natAbs < 2 ^ 320 :=
  mul_lt (a := 5) (by omega) (sub_lt (n := 307) (pow_lt20 h.2.1 (by omega)) (pow_lt20 h.1 (by omega)) (by decide) (by decide)) (by decide)
theorem small_lt {k : Nat} (hk : k ≤ 60) : ((k : Int) + 1).natAbs < 2 ^ 6 := by
  have : (2 : Nat) ^ 6 = 64 := by decide
  omega
theorem sums_lt {w : Wt} (g : Good w) {k : Nat} (hk : k ≤ 60) : (w.1.map (mI k)).sum.natAbs < 2 ^ 326 ∧ (w.2.map (sI k)).sum.natAbs < 2 ^ 326 := by
  constructor
  · refine up_lt (sum_lt (a := 320) _ fun x hx => ?_) (by rw [List.length_map]; have := g.lm; omega)
    obtain ⟨m, hm, rfl⟩ := List.mem_map.mp hx
    exact mI_lt (g.ms m hm) hk
  · refine up_lt (sum_lt (a := 320) _ fun x hx => ?_) (by rw [List.length_map]; have := g.ls; omega)
    obtain ⟨m, hm, rfl⟩ := List.mem_map.mp hx
    exact sI_lt (g.ss m hm) hk
theorem sq_PS {w : Wt} (g : Good w) {k : Nat} (hk : k ≤ 60) : Sq 340 (PS w k) := by
  obtain ⟨a, b⟩ := sums_lt g hk
  refine sq_div (by omega) ?_ (up_lt (small_lt hk) (by decide))
  exact add_lt (mul_lt a (small_lt hk) (Nat.le_refl _)) b (by decide) (by decide)
theorem whole_ok {n l h : Int} (a : l ≤ n) (b : n ≤ h) : whole_within n l h = .ok true := by
  unfold whole_within
  rw [decide_eq_true a, decide_eq_true b]
  rfl
theorem sum_cast {α : Type} (f : α → Int) : ∀ l : List α, (l.map fun x => ((f x : Int) : Rat)).sum = (((l.map f).sum : Int) : Rat)
  | [] => rfl
  | x :: l => by
    rw [List.map_cons, List.sum_cons, List.map_cons, List.sum_cons, sum_cast f l]
    push_cast
    rfl
theorem sum_castD {α : Type} (f : α → Int) (c : Rat) : ∀ l : List α, (l.map fun x => ((f x : Int) : Rat) / c).sum = (((l.map f).sum : Int) : Rat) / c
  | [] => by
    show (0 : Rat) = ((0 : Int) : Rat) / c
    push_cast
    grind
  | x :: l => by
    rw [List.map_cons, List.sum_cons, List.map_cons, List.sum_cons, sum_castD f c l]
    push_cast
    grind
theorem sum_nn : ∀ l : List Int, (∀ x ∈ l, 0 < x) → 0 ≤ l.sum ∧ (l ≠ [] → 0 < l.sum)
  | [], _ => ⟨by decide, fun h => absurd rfl h⟩
  | x :: l, h => by
    have a := (sum_nn l fun y hy => h y (List.mem_cons_of_mem _ hy)).1
    have b := h x (List.mem_cons_self ..)
    rw [List.sum_cons]
    exact ⟨by omega, fun _ => by omega⟩
theorem PS0_pos {w : Wt} (g : Good w) : 0 < PS w 0 := by
  have a := sum_nn (w.1.map (mI 0)) fun x hx => by
    obtain ⟨m, hm, rfl⟩ := List.mem_map.mp hx
    have := g.ms m hm
    unfold mI
    rw [Int.pow_zero]
    omega
  have b := sum_nn (w.2.map (sI 0)) fun x hx => by
    obtain ⟨s, hs, rfl⟩ := List.mem_map.mp hx
    have := g.ss s hs
    unfold sI
    rw [Int.pow_succ, Int.pow_zero, Int.pow_succ, Int.pow_zero, Int.one_mul, Int.one_mul]
    exact Int.mul_pos (by omega) (by omega)
  have c : 0 < (w.1.map (mI 0)).sum + (w.2.map (sI 0)).sum := by
    rcases g.ne with h | h
    · have := a.2 (by simpa using h)
      omega
    · have := b.2 (by simpa using h)
      omega
  unfold PS
  have e : (((w.1.map (mI 0)).sum * (((0 : Nat) : Int) + 1) + (w.2.map (sI 0)).sum : Int) : Rat) / (((((0 : Nat) : Int) + 1 : Int)) : Rat) = (((w.1.map (mI 0)).sum + (w.2.map (sI 0)).sum : Int) : Rat) := by
    push_cast
    grind
  rw [e]
  exact Rat.intCast_pos.mpr c
theorem pow_lt12 {x : Int} {k : Nat} (h : x.natAbs ≤ 20) (hk : k ≤ 13) : (x ^ k).natAbs < 2 ^ 66 := up_lt (pow_lt (b := 5) (by omega) k) (by omega)
theorem sq_PS12 {w : Wt} (g : Good w) {k : Nat} (hk : k ≤ 12) : Sq 90 (PS w k) := by
  have sm : ((k : Int) + 1).natAbs < 2 ^ 4 := by
    have : (2 : Nat) ^ 4 = 16 := by decide
    omega
  have a : (w.1.map (mI k)).sum.natAbs < 2 ^ 80 := by
    refine up_lt (sum_lt (a := 72) _ fun x hx => ?_) (by rw [List.length_map]; have := g.lm; omega)
    obtain ⟨m, hm, rfl⟩ := List.mem_map.mp hx
    have q := g.ms m hm
    exact mul_lt (a := 5) (by omega) (pow_lt12 q.1 (by omega)) (by decide)
  have b : (w.2.map (sI k)).sum.natAbs < 2 ^ 80 := by
    refine up_lt (sum_lt (a := 72) _ fun x hx => ?_) (by rw [List.length_map]; have := g.ls; omega)
    obtain ⟨s, hs, rfl⟩ := List.mem_map.mp hx
    have q := g.ss s hs
    exact mul_lt (a := 5) (by omega) (sub_lt (n := 67) (pow_lt12 q.2.1 (by omega)) (pow_lt12 q.1 (by omega)) (by decide) (by decide)) (by decide)
  refine sq_div (by omega) ?_ (up_lt sm (by decide))
  exact add_lt (mul_lt a sm (Nat.le_refl _)) b (by decide) (by decide)
def tW (w : Wt) (x : Int × Rat) : Rat := x.2 * PS w x.1.toNat
def WS (w : Wt) (l : List Rat) : Rat := ((numL 0 l).map (tW w)).sum
structure MsOk (ms : Ms) : Prop where
  each : ∀ m ∈ ms, m.1.natAbs ≤ 20 ∧ 1 ≤ m.2 ∧ m.2 ≤ 20
  asc : (ms.map (·.1)).Pairwise (· < ·)
  len : ms.length ≤ 6
theorem zeroW : MsOk [(0, 1)] := ⟨by decide, by decide, by decide⟩
def SsTo : Int → Ss → Int → Prop
  | a, [], z => a ≤ z
  | a, s :: l, z => a ≤ s.1 ∧ s.1 < s.2.1 ∧ 1 ≤ s.2.2 ∧ s.2.2 ≤ 20 ∧ SsTo s.2.1 l z
theorem SsTo.le : ∀ {l : Ss} {a z : Int}, SsTo a l z → a ≤ z
  | [], _, _, h => h
  | s :: l, a, z, h => by
    have := SsTo.le h.2.2.2.2
    have := h.1
    have := h.2.1
    omega
theorem SsTo.up : ∀ {l : Ss} {a z z' : Int}, SsTo a l z → z ≤ z' → SsTo a l z'
  | [], _, _, _, h, k => Int.le_trans h k
  | s :: l, _, _, _, ⟨a, b, c, d, e⟩, k => ⟨a, b, c, d, SsTo.up e k⟩
theorem SsTo.low : ∀ {l : Ss} {a a' z : Int}, SsTo a l z → a' ≤ a → SsTo a' l z
  | [], _, _, _, h, k => Int.le_trans k h
  | s :: l, _, _, _, ⟨a, b, c, d, e⟩, k => ⟨Int.le_trans k a, b, c, d, e⟩
theorem SsTo.app {lo hi h : Int} : ∀ {l : Ss} {a y : Int}, SsTo a l y → y ≤ lo → lo < hi → 1 ≤ h → h ≤ 20 → SsTo a (l ++ [(lo, hi, h)]) hi
  | [], a, y, h1, h2, h3, h4, h5 => ⟨Int.le_trans h1 h2, h3, h4, h5, Int.le_refl _⟩
  | s :: l, a, y, ⟨a1, b, c, d, e⟩, h2, h3, h4, h5 => ⟨a1, b, c, d, SsTo.app e h2 h3 h4 h5⟩
theorem SsTo.each : ∀ {l : Ss} {a z : Int}, SsTo a l z → -20 ≤ a → z ≤ 20 → ∀ s ∈ l, s.1.natAbs ≤ 20 ∧ s.2.1.natAbs ≤ 20 ∧ 1 ≤ s.2.2 ∧ s.2.2 ≤ 20 ∧ s.1 < s.2.1
  | [], _, _, _, _, _, _, h => by cases h
  | t :: l, a, z, ⟨a1, b, c, d, e⟩, ha, hz, s, h => by
    have := SsTo.le e
    rcases List.mem_cons.mp h with rfl | h
    · omega
    · exact SsTo.each e (by omega) hz s h
theorem is_place_ok {n : Int} (h : n.natAbs ≤ 20) : is_place n = .ok true := by
  unfold is_place
  rw [whole_ok (by omega) (by omega)]
  rfl
theorem is_mass_ok {n : Int} (h : 1 ≤ n) (h2 : n ≤ 20) : is_mass n = .ok true := by
  unfold is_mass
  rw [whole_ok h h2]
  rfl
theorem check_masses_ok {ms : Ms} (g : MsOk ms) : check_masses ms = .ok () := by
  unfold check_masses
  rw [enumL_eq]
  have k : ∀ (l : Ms) (k a : Int), 0 ≤ k → k + l.length ≤ 6 → (∀ m ∈ l, m.1.natAbs ≤ 20 ∧ 1 ≤ m.2 ∧ m.2 ≤ 20) → (l.map (·.1)).Pairwise (· < ·) → (∀ m ∈ l, a < m.1) →
      ∃ r, foldM (fun (b5 : Int) (x6 : (Int × (Int × Int))) => (cond (decide (x6.1 = (6 : Int))) (Mm.ok true) ((is_place (x6.2.1)).bd fun b42 => (cond (!b42) (Mm.ok true) ((is_mass (x6.2.2)).bd fun b53 => Mm.ok ((!b53) || (decide (x6.2.1 ≤ b5))))).bd fun b49 => Mm.ok b49)).bd fun b38 => cond b38 (Mm.bad) (Mm.ok x6.2.1)) a (numL k l) = .ok r := by
    intro l
    induction l with
    | nil => intro k a _ _ _ _ _; exact ⟨a, rfl⟩
    | cons m l ih =>
      intro k a h0 h1 h2 h3 h4
      obtain ⟨q1, q2⟩ := List.pairwise_cons.mp (show (m.1 :: l.map (·.1)).Pairwise (· < ·) from h3)
      obtain ⟨r, hr⟩ := ih (k + 1) m.1 (by omega) (by rw [List.length_cons] at h1; omega) (fun x hx => h2 x (List.mem_cons_of_mem _ hx)) q2 (fun x hx => q1 x.1 (List.mem_map_of_mem hx))
      refine ⟨r, ?_⟩
      have hm := h2 m (List.mem_cons_self ..)
      have ha := h4 m (List.mem_cons_self ..)
      unfold numL foldM
      rw [show decide ((k, m).1 = 6) = false from decide_eq_false (by show ¬ k = 6; rw [List.length_cons] at h1; omega)]
      simp only [bdo, cond_false, cond_true, Bool.not_true, Bool.false_or, is_place_ok hm.1, is_mass_ok hm.2.1 hm.2.2, decide_eq_false (show ¬ m.1 ≤ a by omega)]
      exact hr
  obtain ⟨r, hr⟩ := k ms 0 (-20 - 1) (by decide) (by have := g.len; omega) g.each g.asc (fun m hm => by have := g.each m hm; omega)
  rw [hr]
  rfl
theorem check_stretches_ok {ss : Ss} {z : Int} (g : SsTo (-20) ss z) (hz : z ≤ 20) (hl : ss.length ≤ 4) : check_stretches ss = .ok () := by
  unfold check_stretches
  rw [enumL_eq]
  have k : ∀ (l : Ss) (k a : Int), 0 ≤ k → k + l.length ≤ 4 → -20 ≤ a → SsTo a l z →
      ∃ r, foldM (fun (b5 : Int) (x6 : (Int × (Int × Int × Int))) => (cond (decide (x6.1 = (4 : Int))) (Mm.ok true) ((is_place (x6.2.1)).bd fun b45 => (cond (!b45) (Mm.ok true) ((is_place (x6.2.2.1)).bd fun b56 => (cond (!b56) (Mm.ok true) ((is_mass (x6.2.2.2)).bd fun b67 => Mm.ok (!b67))).bd fun b63 => Mm.ok b63)).bd fun b52 => Mm.ok b52)).bd fun b41 => cond b41 (Mm.bad) (cond ((decide (x6.2.1 < b5)) || (decide (x6.2.2.1 ≤ x6.2.1))) (Mm.bad) (Mm.ok x6.2.2.1))) a (numL k l) = .ok r := by
    intro l
    induction l with
    | nil => intro k a _ _ _ _; exact ⟨a, rfl⟩
    | cons m l ih =>
      intro k a h0 h1 h2 h3
      obtain ⟨q1, q2, q3, q4, q5⟩ := h3
      have q6 := q5.le
      obtain ⟨r, hr⟩ := ih (k + 1) m.2.1 (by omega) (by rw [List.length_cons] at h1; omega) (by omega) q5
      refine ⟨r, ?_⟩
      unfold numL foldM
      rw [show decide ((k, m).1 = 4) = false from decide_eq_false (by show ¬ k = 4; rw [List.length_cons] at h1; omega)]
      simp only [bdo, cond_false, cond_true, Bool.not_true, Bool.false_or, is_place_ok (show m.1.natAbs ≤ 20 by omega), is_place_ok (show m.2.1.natAbs ≤ 20 by omega), is_mass_ok q3 q4, decide_eq_false (show ¬ m.1 < a by omega), decide_eq_false (show ¬ m.2.1 ≤ m.1 by omega)]
      exact hr
  obtain ⟨r, hr⟩ := k ss 0 (-20) (by decide) (by omega) (by decide) g
  rw [hr]
  rfl
structure WOk (w : Wt) : Prop where
  ms : MsOk w.1
  ss : SsTo (-20) w.2 20
  ls : w.2.length ≤ 4
  ne : w.1 ≠ [] ∨ w.2 ≠ []
theorem WOk.good {w : Wt} (h : WOk w) : Good w := ⟨h.ms.each, h.ss.each (by decide) (by decide), h.ms.len, h.ls, h.ne⟩
theorem map_id3 (l : Ss) : l.map (fun x => (x.1, x.2.1, x.2.2)) = l := by
  conv => rhs; rw [← List.map_id l]
  rfl
theorem map_id2 (l : Ms) : l.map (fun x => (x.1, x.2)) = l := by
  conv => rhs; rw [← List.map_id l]
  rfl
theorem init_ok {w : Wt} (h : WOk w) : Weighting_init w.1 w.2 = .ok w := by
  have hm := h.ms.len
  have hs := h.ls
  unfold Weighting_init
  rw [check_masses_ok h.ms]
  show (check_stretches w.2).bd _ = _
  rw [check_stretches_ok h.ss (by decide) h.ls]
  have e : cond (decide ((w.1.length : Int) = 0)) (Mm.ok (decide ((w.2.length : Int) = 0))) (Mm.ok false) = Mm.ok false := by
    by_cases q : (w.1.length : Int) = 0
    · rw [decide_eq_true q]
      rcases h.ne with n | n
      · exact absurd (List.length_eq_zero_iff.mp (by omega)) n
      · rw [decide_eq_false (show ¬ (w.2.length : Int) = 0 from fun z => n (List.length_eq_zero_iff.mp (by omega)))]
        rfl
    · rw [decide_eq_false q]
      rfl
  show Mm.bd (cond (decide ((w.1.length : Int) = 0)) (Mm.ok (decide ((w.2.length : Int) = 0))) (Mm.ok false)) _ = _
  rw [e]
  show (guardM _).bd _ = _
  rw [bd_guard (by omega), mapMm_eq (f := fun (x28 : Int × Int) => Mm.ok (x28.1, x28.2)) (g := fun x => (x.1, x.2)) _ fun x hx => rfl, map_id2]
  show (guardM _).bd _ = _
  rw [bd_guard (by omega), mapMm_eq (f := fun (x75 : Int × Int × Int) => Mm.ok (x75.1, x75.2.1, x75.2.2)) (g := fun x => (x.1, x.2.1, x.2.2)) _ fun x hx => rfl, map_id3]
  rfl
/-! ### polynomials by their roots -/
def rp (p : Rat) : Rat → List Rat → List Rat
  | z, [] => [z]
  | z, x :: l => (z - x * p) :: rp p x l
theorem rp_len (p : Rat) : ∀ (l : List Rat) (z : Rat), (rp p z l).length = l.length + 1
  | [], _ => rfl
  | x :: l, z => by
    unfold rp
    rw [List.length_cons, rp_len p l, List.length_cons]
theorem zip_rp (p : Rat) : ∀ (l : List Rat) (z : Rat), ((z :: l).zip (l.map (· * p) ++ [0])).map (fun x => x.1 - x.2) = rp p z l
  | [], z => by
    show [z - 0] = [z]
    congr 1
    grind
  | x :: l, z => by
    rw [List.map_cons, List.cons_append, List.zip_cons_cons, List.map_cons, zip_rp p l x]
    rfl
def WRf (ps l : List Rat) : List Rat := ps.foldl (fun l p => rp p 0 l) l
def WR (ps : List Rat) : List Rat := WRf ps [1]
theorem WRf_len : ∀ (ps l : List Rat), (WRf ps l).length = l.length + ps.length
  | [], l => rfl
  | p :: ps, l => by
    show (WRf ps (rp p 0 l)).length = _
    rw [WRf_len ps, rp_len, List.length_cons]
    omega
theorem WR_len (ps : List Rat) : (WR ps).length = ps.length + 1 := by
  unfold WR
  rw [WRf_len]
  show 1 + _ = _
  omega
/-! ### what has a bottom in common -/
def Dv (D : Int) (a : Nat) (q : Rat) : Prop := ∃ n : Int, q = (n : Rat) / (D : Rat) ∧ n.natAbs < 2 ^ a
theorem Dv.sq {D : Int} {a : Nat} {q : Rat} (h : Dv D a q) (h0 : 0 < D) (hD : D.natAbs < 2 ^ a) : Sq a q := by
  obtain ⟨n, rfl, hn⟩ := h
  exact sq_div h0 hn hD
theorem Dv.up {D : Int} {a b : Nat} {q : Rat} (h : Dv D a q) (k : a ≤ b) : Dv D b q := by
  obtain ⟨n, e, hn⟩ := h
  exact ⟨n, e, up_lt hn k⟩
theorem dv_zero {D : Int} {a : Nat} : Dv D a 0 := ⟨0, by push_cast; grind, by have := two_le a; show 0 < 2 ^ a; omega⟩
theorem dv_step {D B : Int} {a e : Nat} {z x p : Rat} (hD : 0 < D) (hB : 0 < B) (hz : Dv D a z) (hx : Dv D a x) (hp : Dv B e p) (hBe : B.natAbs < 2 ^ e) : Dv (D * B) (a + e + 1) (z - x * p) := by
  obtain ⟨n, rfl, hn⟩ := hz
  obtain ⟨m, rfl, hm⟩ := hx
  obtain ⟨s, rfl, hs⟩ := hp
  refine ⟨n * B - m * s, ?_, sub_lt (mul_lt hn hBe (Nat.le_refl _)) (mul_lt hm hs (Nat.le_refl _)) (by omega) (by omega)⟩
  have k1 := intc_ne (n := D) (by omega)
  have k2 := intc_ne (n := B) (by omega)
  push_cast
  grind
theorem dv_last {D B : Int} {a e : Nat} {z : Rat} (hD : 0 < D) (hB : 0 < B) (hz : Dv D a z) (hBe : B.natAbs < 2 ^ e) : Dv (D * B) (a + e + 1) z := by
  obtain ⟨n, rfl, hn⟩ := hz
  refine ⟨n * B, ?_, mul_lt hn hBe (by omega)⟩
  have k1 := intc_ne (n := D) (by omega)
  have k2 := intc_ne (n := B) (by omega)
  push_cast
  grind
theorem rp_dv {D B : Int} {a e : Nat} {p : Rat} (hD : 0 < D) (hB : 0 < B) (hp : Dv B e p) (hBe : B.natAbs < 2 ^ e) : ∀ (l : List Rat) (z : Rat), Dv D a z → (∀ x ∈ l, Dv D a x) → ∀ q ∈ rp p z l, Dv (D * B) (a + e + 1) q
  | [], z, hz, _, q, hq => by
    rw [List.mem_singleton.mp hq]
    exact dv_last hD hB hz hBe
  | x :: l, z, hz, hl, q, hq => by
    have hx := hl x (List.mem_cons_self ..)
    rcases List.mem_cons.mp hq with rfl | hq
    · exact dv_step hD hB hz hx hp hBe
    · exact rp_dv hD hB hp hBe l x hx (fun y hy => hl y (List.mem_cons_of_mem _ hy)) q hq
theorem wrf_dv {B : Int} {e : Nat} (hB : 0 < B) (hBe : B.natAbs < 2 ^ e) : ∀ (ps l : List Rat) (D : Int) (a : Nat), 0 < D → (∀ p ∈ ps, Dv B e p) → (∀ x ∈ l, Dv D a x) → ∀ q ∈ WRf ps l, Dv (D * B ^ ps.length) (a + (e + 1) * ps.length) q
  | [], l, D, a, _, _, hl, q, hq => by
    rw [List.length_nil, Int.pow_zero, Int.mul_one]
    exact hl q hq
  | p :: ps, l, D, a, hD, hp, hl, q, hq => by
    have h := wrf_dv hB hBe ps (rp p 0 l) (D * B) (a + e + 1) (Int.mul_pos hD hB) (fun q hq => hp q (List.mem_cons_of_mem _ hq)) (rp_dv hD hB (hp p (List.mem_cons_self ..)) hBe l 0 dv_zero hl) q hq
    have e1 : D * B * B ^ ps.length = D * B ^ (p :: ps).length := by rw [List.length_cons, Int.pow_succ, Int.mul_assoc, Int.mul_comm B]
    have e2 : a + e + 1 + (e + 1) * ps.length = a + (e + 1) * (p :: ps).length := by rw [List.length_cons, Nat.mul_succ]; omega
    rw [e1, e2] at h
    exact h
structure PB (B : Int) (e : Nat) (ps : List Rat) : Prop where
  b0 : 0 < B
  be : B.natAbs < 2 ^ e
  each : ∀ p ∈ ps, Dv B e p
theorem PB.sq {B : Int} {e : Nat} {ps : List Rat} (h : PB B e ps) : Sqs e ps := fun p hp => (h.each p hp).sq h.b0 h.be
theorem PB.sub {B : Int} {e : Nat} {ps qs : List Rat} (h : PB B e ps) (k : ∀ p ∈ qs, p ∈ ps) : PB B e qs := ⟨h.b0, h.be, fun p hp => h.each p (k p hp)⟩
theorem pow_ltZ {B : Int} {e : Nat} (h : B.natAbs < 2 ^ e) : ∀ n : Nat, (B ^ n).natAbs < 2 ^ (e * n + 1)
  | 0 => by simp
  | n + 1 => by
    rw [Int.pow_succ]
    exact mul_lt (pow_ltZ h n) h (by rw [Nat.mul_succ]; omega)
theorem pow_posZ {B : Int} (h : 0 < B) : ∀ n : Nat, 0 < B ^ n
  | 0 => by rw [Int.pow_zero]; decide
  | n + 1 => by
    rw [Int.pow_succ]
    exact Int.mul_pos (pow_posZ h n) h
theorem dv_one {a : Nat} : Dv 1 (a + 1) 1 := ⟨1, by decide +kernel, by have := two_le a; show 1 < 2 ^ (a + 1); rw [Nat.pow_succ]; omega⟩
theorem WR_sq {B : Int} {e : Nat} {ps : List Rat} (h : PB B e ps) : Sqs (1 + (e + 1) * ps.length) (WR ps) := fun q hq => by
  have d := wrf_dv h.b0 h.be ps [1] 1 1 (by decide) h.each (fun x hx => by rw [List.mem_singleton.mp hx]; exact dv_one) q hq
  rw [Int.one_mul] at d
  refine d.sq (pow_posZ h.b0 _) (up_lt (pow_ltZ h.be _) ?_)
  rw [Nat.succ_mul]
  omega
/-! ### values -/
theorem ev_rp (p x : Rat) : ∀ (l : List Rat) (z : Rat), ev (rp p z l) x = z + ev l x * (x - p)
  | [], z => by
    show z + x * 0 = z + 0 * (x - p)
    grind
  | c :: l, z => by
    show (z - c * p) + x * ev (rp p c l) x = z + (c + x * ev l x) * (x - p)
    rw [ev_rp p x l c]
    grind
def prd (x : Rat) (ps : List Rat) : Rat := ps.foldl (fun a p => a * (x - p)) 1
theorem prd_from (x : Rat) : ∀ (ps : List Rat) (a : Rat), ps.foldl (fun a p => a * (x - p)) a = a * prd x ps
  | [], a => by
    show a = a * 1
    grind
  | p :: ps, a => by
    unfold prd
    rw [List.foldl_cons, List.foldl_cons, prd_from x ps, prd_from x ps]
    grind
theorem prd_cons (x p : Rat) (ps : List Rat) : prd x (p :: ps) = (x - p) * prd x ps := by
  unfold prd
  rw [List.foldl_cons, prd_from]
  show 1 * (x - p) * prd x ps = _
  unfold prd
  grind
theorem ev_WRf (x : Rat) : ∀ (ps l : List Rat), ev (WRf ps l) x = ev l x * prd x ps
  | [], l => by
    show ev l x = ev l x * 1
    grind
  | p :: ps, l => by
    show ev (WRf ps (rp p 0 l)) x = _
    rw [ev_WRf x ps, ev_rp, prd_cons]
    grind
theorem ev_WR (x : Rat) (ps : List Rat) : ev (WR ps) x = prd x ps := by
  unfold WR
  rw [ev_WRf]
  show (1 + x * 0) * _ = _
  grind
theorem prd_ne {x : Rat} : ∀ {ps : List Rat}, x ∉ ps → prd x ps ≠ 0
  | [], _ => by
    show (1 : Rat) ≠ 0
    decide
  | p :: ps, h => by
    have h1 : x ≠ p := fun e => h (by rw [e]; exact List.mem_cons_self ..)
    have h2 := prd_ne (x := x) (ps := ps) fun e => h (List.mem_cons_of_mem _ e)
    rw [prd_cons]
    intro z
    rcases Rat.mul_eq_zero.mp z with q | q
    · exact h1 (by grind)
    · exact h2 q
theorem prd_zero {x : Rat} : ∀ {ps : List Rat}, x ∈ ps → prd x ps = 0
  | [], h => by cases h
  | p :: ps, h => by
    rw [prd_cons]
    rcases List.mem_cons.mp h with rfl | h
    · grind
    · rw [prd_zero h]
      grind
theorem prd_sq {B : Int} {e : Nat} {x : Rat} : ∀ {ps : List Rat}, 0 < B → B.natAbs < 2 ^ e → Dv B e x → (∀ p ∈ ps, Dv B e p) → Sq (1 + (e + 1) * ps.length) (prd x ps)
  | [], _, _, _, _ => one_sq
  | p :: ps, hB, hBe, hx, hp => by
    have ih := prd_sq (ps := ps) hB hBe hx fun q hq => hp q (List.mem_cons_of_mem _ hq)
    have d : Sq (e + 1) (x - p) := by
      obtain ⟨n, rfl, hn⟩ := hx
      obtain ⟨m, rfl, hm⟩ := hp p (List.mem_cons_self ..)
      have k := intc_ne (n := B) (by omega)
      have e1 : (n : Rat) / (B : Rat) - (m : Rat) / (B : Rat) = ((n - m : Int) : Rat) / (B : Rat) := by
        push_cast
        grind
      rw [e1]
      exact sq_div hB (sub_lt hn hm (by omega) (by omega)) (up_lt hBe (by omega))
    rw [prd_cons]
    exact sq_mul d ih (by rw [List.length_cons, Nat.mul_succ]; omega)
/-! ### the polynomial that is 1 at one place and 0 at the others -/
def oth (ps : List Rat) (i : Nat) : List Rat := ps.take i ++ ps.drop (i + 1)
def LB (ps : List Rat) (i : Nat) : List Rat := (WR (oth ps i)).map fun c => c / prd (ps.getD i 0) (oth ps i)
theorem oth_len {ps : List Rat} {i : Nat} (h : i < ps.length) : (oth ps i).length = ps.length - 1 := by
  unfold oth
  rw [List.length_append, List.length_take, List.length_drop]
  omega
theorem oth_mem {ps : List Rat} {i : Nat} {q : Rat} (h : q ∈ oth ps i) : q ∈ ps := by
  rcases List.mem_append.mp h with h | h
  · exact List.mem_of_mem_take h
  · exact List.mem_of_mem_drop h
theorem oth_not {ps : List Rat} {i : Nat} (ha : ps.Pairwise (· < ·)) (h : i < ps.length) : ps[i] ∉ oth ps i := by
  have e : ps = ps.take i ++ ps[i] :: ps.drop (i + 1) := by
    rw [← List.drop_eq_getElem_cons h, List.take_append_drop]
  have k : ∀ (l r : List Rat) (x : Rat), (l ++ x :: r).Pairwise (· < ·) → x ∉ l ++ r := fun l r x hp hx => by
    obtain ⟨_, h2, h3⟩ := List.pairwise_append.mp hp
    rcases List.mem_append.mp hx with q | q
    · exact absurd (h3 x q x (List.mem_cons_self ..)) (by grind)
    · exact absurd ((List.pairwise_cons.mp h2).1 x q) (by grind)
  exact k _ _ _ (by rw [← e]; exact ha)
theorem getD_at {ps : List Rat} {i : Nat} (h : i < ps.length) : ps.getD i 0 = ps[i] := by
  rw [List.getD_eq_getElem?_getD, List.getElem?_eq_getElem h]
  rfl
theorem cut_lo {α : Type} (l : List α) (n : Nat) (h : n ≤ l.length) : cutL l none (some (n : Int)) = l.take n := by
  unfold cutL
  rw [HT.sIx_none, HT.sIx_nat, Nat.min_eq_left h]
  rfl
theorem cut_hi {α : Type} (l : List α) (n : Nat) (h : n ≤ l.length) : cutL l (some (n : Int)) none = l.drop n := by
  unfold cutL
  rw [HT.sIx_none, HT.sIx_nat, Nat.min_eq_left h]
  exact List.take_of_length_le (by rw [List.length_drop]; omega)
theorem LB_len {ps : List Rat} {i : Nat} (h : i < ps.length) : (LB ps i).length = ps.length := by
  unfold LB
  rw [List.length_map, WR_len, oth_len h]
  omega
theorem LB_sq {B : Int} {e : Nat} {ps : List Rat} (hp : PB B e ps) (ha : ps.Pairwise (· < ·)) {i : Nat} (h : i < ps.length) : Sqs (2 * (1 + (e + 1) * (ps.length - 1))) (LB ps i) := fun q hq => by
  have ho : PB B e (oth ps i) := hp.sub fun p hp => oth_mem hp
  obtain ⟨c, hc, rfl⟩ := List.mem_map.mp hq
  have s1 := WR_sq ho c hc
  have s2 := prd_sq (ps := oth ps i) hp.b0 hp.be (hp.each ps[i] (List.getElem_mem h)) ho.each
  rw [oth_len h] at s1 s2
  have ne := prd_ne (oth_not ha h)
  rw [getD_at h]
  exact sq_divB s1 s2 ne (by omega)
/-! ### weights -/
def Wts (w : Wt) (ps : List Rat) : List Rat := (List.range ps.length).map fun i => WS w (LB ps i)
theorem Wts_len (w : Wt) (ps : List Rat) : (Wts w ps).length = ps.length := by
  unfold Wts
  rw [List.length_map, List.length_range]
theorem WS_sq {w : Wt} (g : Good w) {B : Int} {e : Nat} {ps : List Rat} (hp : PB B e ps) (ha : ps.Pairwise (· < ·)) (hl : ps.length ≤ 6) (he : e ≤ 30) {i : Nat} (h : i < ps.length) : Sq (1 + (2 * (1 + (e + 1) * (ps.length - 1)) + 91) * ps.length) (WS w (LB ps i)) := by
  have sL := LB_sq hp ha h
  have k : ∀ l : List (Int × Rat), (∀ x ∈ l, Sq (2 * (1 + (e + 1) * (ps.length - 1)) + 90) (tW w x)) → Sq (1 + (2 * (1 + (e + 1) * (ps.length - 1)) + 91) * l.length) (l.map (tW w)).sum := fun l => by
    induction l with
    | nil => intro _; exact zero_sqn (by omega)
    | cons x l ih =>
      intro hx
      rw [List.map_cons, List.sum_cons]
      exact sq_add (hx x (List.mem_cons_self ..)) (ih fun y hy => hx y (List.mem_cons_of_mem _ hy)) (by rw [List.length_cons, Nat.mul_succ]; omega)
  have q := k (numL 0 (LB ps i)) fun x hx => by
    obtain ⟨a, b, m⟩ := numL_mem _ 0 x hx
    have := LB_len h
    exact sq_mul (sL _ m) (sq_PS12 g (by omega)) (Nat.le_refl _)
  rw [numL_len, LB_len h] at q
  exact q
/-! ### indexes -/
theorem filMm_eq {α γ : Type} {f : α → Mm (Option γ)} (g : α → Option γ) : ∀ l : List α, (∀ x ∈ l, f x = .ok (g x)) → filMm f l = .ok (l.filterMap g)
  | [], _ => rfl
  | x :: l, h => by
    unfold filMm
    rw [h x (List.mem_cons_self ..), bdo, filMm_eq g l fun y hy => h y (List.mem_cons_of_mem _ hy), bdo, List.filterMap_cons]
    cases g x <;> rfl
theorem filMm_map {α β γ : Type} {f : β → Mm (Option γ)} {g : α → β} : ∀ l : List α, filMm f (l.map g) = filMm (fun x => f (g x)) l
  | [] => rfl
  | x :: l => by
    rw [List.map_cons]
    unfold filMm
    rw [filMm_map l]
theorem numL_fst {α : Type} : ∀ (l : List α) (k : Int), (numL k l).map (·.1) = rangeL k l.length
  | [], k => rfl
  | x :: l, k => by
    unfold numL
    rw [List.map_cons, numL_fst l, List.length_cons, rangeL_succ]
theorem numL_at {α : Type} {l : List α} {y : Int × α} (h : y ∈ numL 0 l) : l[y.1.toNat]? = some y.2 ∧ 0 ≤ y.1 := by
  have k : ∀ (l pre : List α) (y : Int × α), y ∈ numL (pre.length : Int) l → (pre ++ l)[y.1.toNat]? = some y.2 := fun l => by
    induction l with
    | nil => intro pre y h; cases h
    | cons x l ih =>
      intro pre y h
      rcases List.mem_cons.mp h with rfl | h
      · show (pre ++ x :: l)[((pre.length : Int)).toNat]? = some x
        rw [Int.toNat_natCast]
        simp
      · have := ih (pre ++ [x]) y (by rw [List.length_append, List.length_singleton]; exact h)
        simpa using this
  exact ⟨by simpa using k l [] y h, (numL_mem l 0 y h).1⟩
def idx (P : Rat → Bool) (l : List Rat) : List Int := (numL 0 l).filterMap fun y => if P y.2 then some y.1 else none
theorem idx_prog {f : Int × (Int × Int) → Mm (Option Int)} (P : Rat → Bool) (l : List Rat) (hf : ∀ (i : Int) (q : Rat), q ∈ l → f (i, fr q) = .ok (if P q then some i else none)) : filMm f (enumL (l.map fr)) = .ok (idx P l) := by
  rw [enumL_eq, numL_map, filMm_map]
  exact filMm_eq _ _ fun y hy => hf y.1 y.2 (numL_mem l 0 y hy).2.2
theorem idx_law {f : Int → Mm (Option Int)} (P : Rat → Bool) (l : List Rat) (hf : ∀ (i : Nat) (q : Rat), l[i]? = some q → f (i : Int) = .ok (if P q then some (i : Int) else none)) : filMm f (rangeL 0 l.length) = .ok (idx P l) := by
  rw [← numL_fst, filMm_map]
  refine filMm_eq _ _ fun y hy => ?_
  obtain ⟨h1, h2⟩ := numL_at hy
  have e : y.1 = ((y.1.toNat : Nat) : Int) := by omega
  have := hf y.1.toNat y.2 h1
  rw [← e] at this
  exact this
theorem fr_isz (q : Rat) : decide (fr q = ((0, 1) : Int × Int)) = decide (q = 0) := by
  rw [← fr_zero]
  exact decide_eq_decide.mpr ⟨fr_inj, fun h => by rw [h]⟩
theorem fr_isp (q : Rat) : decide ((fr q).1 > (0 : Int)) = decide (0 < q) := decide_eq_decide.mpr (by
  constructor
  · intro h
    have v := fr_val q
    have p : (0 : Rat) < ((fr q).1 : Rat) := Rat.intCast_pos.mpr h
    have d : (0 : Rat) < ((fr q).2 : Rat) := Rat.intCast_pos.mpr (den_posI q)
    rw [← v, Rat.div_def]
    exact Rat.mul_pos p (Rat.inv_pos.mpr d)
  · exact fun h => num_pos' h)
structure Pls (n : Nat) (pl : List (Int × Int)) (ps : List Rat) : Prop where
  rx : All2 (fun p x => Rx 7 x p) ps pl
  asc : ps.Pairwise (· < ·)
  len : ps.length ≤ n
  pos : 0 < ps.length
  pb : ∃ B, PB B 6 ps
theorem int_pls {n : Nat} (zs : List Int) (h : zs.Pairwise (· < ·)) (hb : ∀ z ∈ zs, z.natAbs ≤ 40) (hl : zs.length ≤ n) (h0 : 0 < zs.length) : Pls n (zs.map fun z => (z, (1 : Int))) (zs.map fun z => ((z : Int) : Rat)) := by
  have e6 : (2 : Nat) ^ 6 = 64 := by decide
  have e7 : (2 : Nat) ^ 7 = 128 := by decide
  refine ⟨?_, ?_, by rw [List.length_map]; exact hl, by rw [List.length_map]; exact h0, 1, by decide, by decide, fun p hp => ?_⟩
  · clear h hl h0
    induction zs with
    | nil => exact .nil
    | cons z zs ih => exact .cons (rx_int (by have := hb z (List.mem_cons_self ..); omega) (by decide)) (ih fun y hy => hb y (List.mem_cons_of_mem _ hy))
  · rw [List.pairwise_map]
    exact h.imp fun k => Rat.intCast_lt_intCast.mpr k
  · obtain ⟨z, hz, rfl⟩ := List.mem_map.mp hp
    refine ⟨z, ?_, by have := hb z hz; omega⟩
    push_cast
    grind
theorem mass_places (w : Wt) : w.1.map (fun x => (x.1, (1 : Int))) = (w.1.map (·.1)).map fun z => (z, (1 : Int)) := by rw [List.map_map]; rfl
/-! ### the law's polynomial through readings -/
theorem appL {α γ : Type} {p : α → γ → Prop} {l l' : List α} {r r' : List γ} (h : All2 p l r) (h' : All2 p l' r') : All2 p (l ++ l') (r ++ r') := by
  induction h with
  | nil => exact h'
  | cons a _ ih => exact .cons a ih
theorem takeL {α γ : Type} {p : α → γ → Prop} {l : List α} {r : List γ} (h : All2 p l r) : ∀ n, All2 p (l.take n) (r.take n) := by
  induction h with
  | nil => intro n; rw [List.take_nil, List.take_nil]; exact .nil
  | cons a _ ih =>
    intro n
    cases n with
    | zero => exact .nil
    | succ n => exact .cons a (ih n)
theorem dropL {α γ : Type} {p : α → γ → Prop} {l : List α} {r : List γ} (h : All2 p l r) : ∀ n, All2 p (l.drop n) (r.drop n) := by
  induction h with
  | nil => intro n; rw [List.drop_nil, List.drop_nil]; exact .nil
  | cons a b ih =>
    intro n
    cases n with
    | zero => exact .cons a b
    | succ n => exact ih n
theorem cut_take {α : Type} (l : List α) (n : Nat) : cutL l none (some (n : Int)) = l.take n := by
  by_cases h : n ≤ l.length
  · exact cut_lo l n h
  · unfold cutL
    rw [HT.sIx_none, HT.sIx_nat, Nat.min_eq_right (by omega), List.take_of_length_le (l := l) (i := n) (by omega)]
    exact List.take_of_length_le (Nat.le_refl _)
theorem cut_drop {α : Type} (l : List α) (n : Nat) : cutL l (some (n : Int)) none = l.drop n := by
  by_cases h : n ≤ l.length
  · exact cut_hi l n h
  · unfold cutL
    rw [HT.sIx_none, HT.sIx_nat, Nat.min_eq_right (by omega), List.drop_eq_nil_of_le (as := l) (i := n) (by omega), List.drop_eq_nil_of_le (as := l) (i := l.length) (Nat.le_refl _), List.take_nil]
theorem hornerX {f : Int × Int → Int × Int → Mm (Int × Int)} {p : Rat} {b c : Nat} (hp : Sq b p) (N : Nat) (hf : ∀ y x, Rx c y x → ∀ q a, Sq a q → a + b + c + 1 ≤ N → f (fr q) y = .ok (fr (q * p + x))) : ∀ {l : List Rat} {r : List (Int × Int)}, All2 (fun q y => Rx c y q) l r → (b + c + 1) * l.length + 1 ≤ N → foldM f ((0, 1) : Int × Int) r.reverse = .ok (fr (ev l p)) := by
  intro l r h
  induction h with
  | nil =>
    intro _
    show Mm.ok _ = _
    rw [← fr_zero]
    rfl
  | cons a h ih =>
    rename_i x y l r
    intro hN
    have e : (b + c + 1) * (x :: l).length = (b + c + 1) * l.length + (b + c + 1) := by rw [List.length_cons, Nat.mul_succ]
    have hl : Sqs c l := h.left fun _ _ r => r.sq
    rw [List.reverse_cons, foldM_app, ih (by omega)]
    show (f _ y).bd _ = _
    rw [hf y x a _ _ (ev_sq hp l hl) (by omega)]
    show Mm.ok _ = _
    congr 2
    show _ = x + p * ev l p
    grind
theorem all_loop {α : Type} {f : Unit → α → Mm (Fl Bool Unit)} (P : α → Bool) : ∀ l : List α, (∀ x ∈ l, f () x = cond (!(P x)) (.ok (.ret false)) (.ok (.go ()))) → (foldL f () l).bd (fun o => o.el (fun _ => Mm.ok true) (fun r => Mm.ok r)) = .ok (l.all P)
  | [], _ => rfl
  | x :: l, h => by
    unfold foldL
    rw [h x (List.mem_cons_self ..), List.all_cons]
    cases hx : P x with
    | false => rfl
    | true =>
      rw [cF (c := !true) rfl, bdo]
      exact all_loop P l fun y hy => h y (List.mem_cons_of_mem _ hy)
/-! ### the law's own fractions, its other family -/
theorem fdiv_flip {g a : Int} (h : 0 < g) (d : g ∣ a) : (0 : Int) - a.fdiv g = a.fdiv (-g) := by
  rw [fdiv_neg_dvd h d, Int.fdiv_eq_ediv_of_nonneg _ (by omega), Int.neg_ediv_of_dvd d]
  omega
theorem rev_rng {n : Nat} : (rangeL 0 n).reverse = (rangeL 0 n).map fun i => (n : Int) - 1 - i := by
  rw [← rangeDn_rev]
  unfold rangeDn rangeL
  rw [List.map_map]
  exact List.map_congr_left fun i _ => by show (n : Int) - 1 - i = (n : Int) - 1 - (0 + i); omega
/-! ### what the law draws -/
theorem pickA_ok {α : Type} {scr : List Int} {st : Rw} {l : List α} {N : Nat} (r : Rk N st) (h0 : 0 < l.length) (h1 : l.length < 1000) (hN : N < 999999) : Yes (pickM takenA scr st l) fun r => r.1 ∈ l ∧ Rk (N + 1) r.2 := by
  unfold pickM
  refine (takenA_ok r (by omega) (by omega) hN).bd fun b hb => ?_
  obtain ⟨⟨b0, b1⟩, rb⟩ := hb
  obtain ⟨x, hx, g⟩ := getM_ok (l := l) b0 b1
  exact .eq g (.ok ⟨hx, rb⟩)
theorem hasM_iff {α : Type} [DecidableEq α] (l : List α) (a : α) : hasM l a = decide (a ∈ l) := by
  unfold hasM
  rw [Bool.eq_iff_iff, List.contains_iff_mem, decide_eq_true_eq]
theorem mem_fr {p : Rat} {l : List Rat} : hasM (l.map fr) (fr p) = decide (p ∈ l) := by
  rw [hasM_iff]
  refine decide_eq_decide.mpr ?_
  constructor
  · intro h
    obtain ⟨q, hq, e⟩ := List.mem_map.mp h
    rw [← fr_inj e]
    exact hq
  · intro h
    exact List.mem_map_of_mem h
theorem lt_tr {a b c : Rat} (h : a < b) (h' : b < c) : a < c := by grind
theorem spot {p : Rat} : ∀ l : List Rat, l.Pairwise (· < ·) → p ∉ l → (l.take (l.filter fun q => decide (q < p)).length ++ [p] ++ l.drop (l.filter fun q => decide (q < p)).length).Pairwise (· < ·)
  | [], _, _ => by simp
  | q :: l, h, hn => by
    obtain ⟨h1, h2⟩ := List.pairwise_cons.mp h
    have hq : p ≠ q := fun e => hn (by rw [e]; exact List.mem_cons_self ..)
    have hl : p ∉ l := fun e => hn (List.mem_cons_of_mem _ e)
    by_cases c : q < p
    · rw [List.filter_cons_of_pos (by simpa using c), List.length_cons, List.take_succ_cons, List.drop_succ_cons]
      have ih := spot l h2 hl
      rw [List.cons_append, List.cons_append]
      refine List.pairwise_cons.mpr ⟨fun x hx => ?_, ih⟩
      rw [List.append_assoc, List.mem_append, List.mem_append, List.mem_singleton] at hx
      rcases hx with hx | hx | hx
      · exact h1 x (List.mem_of_mem_take hx)
      · rw [hx]; exact c
      · exact h1 x (List.mem_of_mem_drop hx)
    · have lt : p < q := by
        have := Rat.not_lt.mp c
        exact Rat.lt_of_le_of_ne this hq
      have e : (q :: l).filter (fun q => decide (q < p)) = [] := by
        rw [List.filter_eq_nil_iff]
        intro x hx
        rcases List.mem_cons.mp hx with rfl | hx
        · simpa using c
        · have := h1 x hx
          simp only [decide_eq_true_eq]
          intro z
          exact c (lt_tr this z)
      rw [e]
      show (p :: q :: l).Pairwise (· < ·)
      refine List.pairwise_cons.mpr ⟨fun x hx => ?_, h⟩
      rcases List.mem_cons.mp hx with rfl | hx
      · exact lt
      · exact lt_tr lt (h1 x hx)
/-! ### the laws of family A: weightings that are drawn, their sums -/
theorem pair_fold {f : Int × Int → Int → Mm (Int × Int)} {hi lo : Int} {b : Nat} (h1 : hi.natAbs < 2 ^ b) (h2 : lo.natAbs < 2 ^ b) (hf : ∀ s x, f s x = (mulM s.1 hi).bd fun m => (mulM s.2 lo).bd fun n => Mm.ok (m, n)) : ∀ (l : List Int) (s : Int × Int) (a : Nat), s.1.natAbs < 2 ^ a → s.2.natAbs < 2 ^ a → a + b * (l.length + 1) ≤ 900000 →
    foldM f s l = .ok (s.1 * hi ^ l.length, s.2 * lo ^ l.length)
  | [], s, a, _, _, _ => by simp [foldM]
  | x :: l, s, a, ha, ha2, h => by
    have e : a + b + b * (l.length + 1) ≤ 900000 := by
      rw [List.length_cons] at h
      have : b * (l.length + 1 + 1) = b * (l.length + 1) + b := by rw [Nat.mul_succ]
      omega
    unfold foldM
    rw [hf, mul_ok ha h1 (by omega)]
    show Mm.bd (Mm.bd (mulM s.2 lo) _) _ = _
    rw [mul_ok ha2 h2 (by omega)]
    show foldM f (s.1 * hi, s.2 * lo) l = _
    rw [pair_fold h1 h2 hf l _ (a + b) (mul_lt ha h1 (Nat.le_refl _)) (mul_lt ha2 h2 (Nat.le_refl _)) e, List.length_cons, Int.mul_assoc, Int.mul_assoc, Int.pow_succ', Int.pow_succ']
theorem insU_len (x : Int) : ∀ l : List Int, (insU x l).length ≤ l.length + 1
  | [] => by simp [insU]
  | y :: l => by
    have := insU_len x l
    unfold insU
    split
    · simp
    · split
      · simp
      · simp only [List.length_cons]; omega
theorem sortedSet_len : ∀ l : List Int, (sortedSet l).length ≤ l.length
  | [] => by simp [sortedSet]
  | x :: l => by
    have := sortedSet_len l
    have := insU_len x (sortedSet l)
    show (insU x (sortedSet l)).length ≤ l.length + 1
    omega
theorem law_masses_ok {scr : List Int} {st : Rw} {most far : Int} {N : Nat} (r : Rk N st) (h0 : 0 ≤ most) (h1 : most ≤ 6) (f0 : 0 ≤ far) (f1 : far ≤ 20) (hN : N < 9000) : Yes (law_masses scr st most far) fun r => MsOk r.1 ∧ Rk (N + 30) r.2 := by
  unfold law_masses
  refine (takenA_ok r (by omega) (by omega) (by omega)).bd fun b hb => ?_
  obtain ⟨⟨b0, b1⟩, rb⟩ := hb
  rw [range_ok (by omega) (by omega)]
  refine .guard (by rw [rangeL_len]; omega) ?_
  refine (yes_mapS (fun s n => ∃ k, Rk k s ∧ k + n ≤ N + 7) (fun _ y => y.natAbs ≤ 20) _ _ ⟨N + 1, rb, by rw [rangeL_len]; omega⟩ fun s x n hx hs => ?_).bd fun c hc => ?_
  · obtain ⟨k, rk, hk⟩ := hs
    refine .eq (mul_ok (a := 2) (b := 5) (by decide) (by omega) (by decide)) ?_
    refine (takenA_ok rk (by omega) (by omega) (by omega)).bd fun d hd => ?_
    exact .ok ⟨by show (d.1 - far).natAbs ≤ 20; omega, k + 1, hd.2, by omega⟩
  · obtain ⟨hc, k, rk, hk⟩ := hc
    have l1 := hc.len
    rw [rangeL_len] at l1
    have l2 := sortedSet_len c.1
    have hp := hc.right fun x y h => h
    refine .guard (by omega) (.guard (by omega) ?_)
    refine (yes_mapS (fun s n => ∃ k, Rk k s ∧ k + 3 * n ≤ N + 30) (fun (x : Int) (y : Int × Int) => y.1 = x ∧ 1 ≤ y.2 ∧ y.2 ≤ 20) (sortedSet c.1) c.2 ⟨k, rk, by omega⟩ fun s x n hx hs => ?_).bd fun d hd => ?_
    · obtain ⟨k, rk, hk⟩ := hs
      refine (takenA_ok rk (by decide) (by decide) (by omega)).bd fun e he => ?_
      refine (takenA_ok he.2 (by decide) (by decide) (by omega)).bd fun f hf => ?_
      refine (pickA_ok hf.2 (by simp) (by simp) (by omega)).bd fun g hg => ?_
      refine .ok ⟨⟨rfl, ?_⟩, k + 3, hg.2, by omega⟩
      have m := hg.1
      simp only [List.mem_cons, List.not_mem_nil, or_false] at m
      show 1 ≤ 1 + g.1 ∧ 1 + g.1 ≤ 20
      omega
    · obtain ⟨hd, k2, rk2, hk2⟩ := hd
      have l3 := hd.len
      have hf := hd.fst (g := (·.1)) fun x y h => h.1
      refine .ok ⟨⟨fun m hm => ⟨?_, hd.right (fun x y h => h.2) m hm⟩, by rw [hf]; exact asc_sortedSet _, by show d.1.length ≤ 6; omega⟩, rk2.1, rk2.2.1, rk2.2.2.1, by have := rk2.2.2.2; show d.2.pos ≤ _; omega⟩
      have : m.1 ∈ sortedSet c.1 := by
        rw [← hf]
        exact List.mem_map_of_mem hm
      exact hp _ ((mem_sortedSet _ _).mp this)
theorem law_stretches_ok {scr : List Int} {st : Rw} {far : Int} {N : Nat} (r : Rk N st) (f0 : 1 ≤ far) (f1 : far ≤ 20) (hN : N < 9000) : Yes (law_stretches scr st 3 far) fun r => (SsTo (-20) r.1 20 ∧ r.1.length ≤ 3) ∧ Rk (N + 10) r.2 := by
  unfold law_stretches
  refine (takenA_ok r (by omega) (by omega) (by omega)).bd fun b hb => ?_
  obtain ⟨⟨b0, b1⟩, rb⟩ := hb
  rw [range_ok (by omega) (by omega)]
  refine (yes_fold (fun (s : Int × Ss × Rw) (l : List Int) => s.2.1.length + l.length ≤ 3 ∧ (∃ y, y ≤ s.1 ∧ y ≤ far ∧ SsTo (-far) s.2.1 y) ∧ ∃ k, Rk k s.2.2 ∧ k + 3 * l.length ≤ N + 10) _ _ ⟨by rw [rangeL_len]; show 0 + b.1.toNat ≤ 3; omega, ⟨-far, by show -far ≤ 0 - far; omega, by omega, Int.le_refl _⟩, N + 1, rb, by rw [rangeL_len]; omega⟩ fun s x l hs => ?_).bd fun c hc => ?_
  · obtain ⟨hl, ⟨y, y1, y2, hy⟩, k, rk, hk⟩ := hs
    rw [List.length_cons] at hl hk
    refine (takenA_ok rk (by omega) (by omega) (by omega)).bd fun d hd => ?_
    refine (takenA_ok hd.2 (by omega) (by omega) (by omega)).bd fun e he => ?_
    have d0 := hd.1.1
    have e0 := he.1.1
    by_cases q : s.1 + d.1 + 1 + e.1 ≤ far
    · rw [decide_eq_true q]
      refine (takenA_ok he.2 (by omega) (by omega) (by omega)).bd fun f hf => ?_
      refine .guard (by omega) (.ok ⟨?_, ⟨s.1 + d.1 + 1 + e.1, Int.le_refl _, q, ?_⟩, k + 3, hf.2, by omega⟩)
      · show (s.2.1 ++ [_]).length + l.length ≤ 3
        rw [List.length_append, List.length_singleton]
        omega
      · exact hy.app (by omega) (by omega) (by omega) (by omega)
    · rw [decide_eq_false q]
      refine .ok ⟨by show s.2.1.length + l.length ≤ 3; omega, ⟨y, by show y ≤ s.1 + d.1; omega, y2, hy⟩, k + 2, he.2, by omega⟩
  · obtain ⟨hl, ⟨y, y1, y2, hy⟩, k, rk, hk⟩ := hc
    refine .ok ⟨⟨(hy.low (by omega)).up (by omega), by simpa using hl⟩, rk.1, rk.2.1, rk.2.2.1, by have := rk.2.2.2; show c.2.2.pos ≤ _; omega⟩
theorem num_at : ∀ {l : List Rat} {i : Nat} {x : Int × Rat}, (numL 0 l)[i]? = some x → x.1 = (i : Int) ∧ l[i]? = some x.2 := by
  have gen : ∀ (l : List Rat) (k : Nat) (i : Nat) (x : Int × Rat), (numL (k : Int) l)[i]? = some x → x.1 = ((k + i : Nat) : Int) ∧ l[i]? = some x.2 := fun l => by
    induction l with
    | nil => intro k i x h; cases h
    | cons a l ih =>
      intro k i x h
      have e : (k : Int) + 1 = ((k + 1 : Nat) : Int) := by omega
      cases i with
      | zero =>
        have h0 : some ((k : Int), a) = some x := h
        cases h0
        exact ⟨rfl, rfl⟩
      | succ i =>
        have h1 : (numL ((k : Int) + 1) l)[i]? = some x := h
        rw [e] at h1
        obtain ⟨p, q⟩ := ih (k + 1) i x h1
        exact ⟨by rw [p]; congr 1; omega, q⟩
  intro l i x h
  obtain ⟨p, q⟩ := gen l 0 i x h
  exact ⟨by rw [p, Nat.zero_add], q⟩
theorem law_weighting_okA {w : Wt} (h : WOk w) : law_weighting w = .ok w := by
  unfold law_weighting
  rw [init_ok h, bdo]
/-! ### weightings that are checked: the first that is wrong -/
def bm1 : Nat → Option Int → Ms → Option Int
  | _, _, [] => none
  | k, pv, m :: l => if k = 6 ∨ ¬(-20 ≤ m.1 ∧ m.1 ≤ 20) ∨ ¬(1 ≤ m.2 ∧ m.2 ≤ 20) ∨ pv.any (fun p => decide (m.1 ≤ p)) = true then some (k : Int) else bm1 (k + 1) (some m.1) l
def bs1 : Nat → Option Int → Ss → Option Int
  | _, _, [] => none
  | k, pv, s :: l => if k = 4 ∨ s.1 < -20 ∨ 20 < s.2.1 ∨ s.2.1 ≤ s.1 ∨ ¬(1 ≤ s.2.2 ∧ s.2.2 ≤ 20) ∨ pv.any (fun p => decide (s.1 < p)) = true then some (k : Int) else bs1 (k + 1) (some s.2.1) l
theorem bm1_none : ∀ (l : Ms) (k : Nat) (pv : Option Int), k ≤ 6 → bm1 k pv l = none → (∀ m ∈ l, m.1.natAbs ≤ 20 ∧ 1 ≤ m.2 ∧ m.2 ≤ 20) ∧ (l.map (·.1)).Pairwise (· < ·) ∧ (∀ p ∈ pv, ∀ m ∈ l, p < m.1) ∧ k + l.length ≤ 6
  | [], k, pv, hk, _ => ⟨(fun m h => by cases h), .nil, (fun _ _ m h => by cases h), by simpa using hk⟩
  | x :: l, k, pv, hk, h => by
    unfold bm1 at h
    by_cases c : k = 6 ∨ ¬(-20 ≤ x.1 ∧ x.1 ≤ 20) ∨ ¬(1 ≤ x.2 ∧ x.2 ≤ 20) ∨ pv.any (fun p => decide (x.1 ≤ p)) = true
    · rw [if_pos c] at h; cases h
    · rw [if_neg c] at h
      have c1 : ¬ k = 6 := fun z => c (.inl z)
      have c2 : -20 ≤ x.1 ∧ x.1 ≤ 20 := Decidable.byContradiction fun z => c (.inr (.inl z))
      have c3 : 1 ≤ x.2 ∧ x.2 ≤ 20 := Decidable.byContradiction fun z => c (.inr (.inr (.inl z)))
      have c4 : ¬ pv.any (fun p => decide (x.1 ≤ p)) = true := fun z => c (.inr (.inr (.inr z)))
      obtain ⟨a1, a2, a3, a4⟩ := bm1_none l (k + 1) _ (by omega) h
      have hx := a3 x.1 rfl
      refine ⟨fun m hm => ?_, List.pairwise_cons.mpr ⟨fun y hy => ?_, a2⟩, fun p hp m hm => ?_, by rw [List.length_cons]; omega⟩
      · rcases List.mem_cons.mp hm with rfl | hm
        · omega
        · exact a1 m hm
      · obtain ⟨m, hm, rfl⟩ := List.mem_map.mp hy
        exact hx m hm
      · rw [Option.mem_def] at hp
        subst hp
        have px : p < x.1 := by simpa using c4
        rcases List.mem_cons.mp hm with rfl | hm
        · exact px
        · have := hx m hm
          omega
theorem bs1_none : ∀ (l : Ss) (k : Nat) (pv : Option Int) (a : Int), k ≤ 4 → bs1 k pv l = none → -20 ≤ a → a ≤ 20 → (∀ s t, l = s :: t → a ≤ s.1) → SsTo a l 20 ∧ k + l.length ≤ 4
  | [], k, pv, a, hk, _, _, h2, _ => ⟨h2, by simpa using hk⟩
  | x :: l, k, pv, a, hk, h, h1, h2, h3 => by
    unfold bs1 at h
    by_cases c : k = 4 ∨ x.1 < -20 ∨ 20 < x.2.1 ∨ x.2.1 ≤ x.1 ∨ ¬(1 ≤ x.2.2 ∧ x.2.2 ≤ 20) ∨ pv.any (fun p => decide (x.1 < p)) = true
    · rw [if_pos c] at h; cases h
    · rw [if_neg c] at h
      have c1 : ¬ k = 4 := fun z => c (.inl z)
      have c2 : ¬ x.1 < -20 := fun z => c (.inr (.inl z))
      have c3 : ¬ 20 < x.2.1 := fun z => c (.inr (.inr (.inl z)))
      have c4 : ¬ x.2.1 ≤ x.1 := fun z => c (.inr (.inr (.inr (.inl z))))
      have c5 : 1 ≤ x.2.2 ∧ x.2.2 ≤ 20 := Decidable.byContradiction fun z => c (.inr (.inr (.inr (.inr (.inl z)))))
      obtain ⟨a1, a2⟩ := bs1_none l (k + 1) _ x.2.1 (by omega) h (by omega) (by omega) (fun s t e => by
        subst e
        unfold bs1 at h
        by_cases d : k + 1 = 4 ∨ s.1 < -20 ∨ 20 < s.2.1 ∨ s.2.1 ≤ s.1 ∨ ¬(1 ≤ s.2.2 ∧ s.2.2 ≤ 20) ∨ (some x.2.1).any (fun p => decide (s.1 < p)) = true
        · rw [if_pos d] at h; cases h
        · have d4 : ¬ (some x.2.1).any (fun p => decide (s.1 < p)) = true := fun z => d (.inr (.inr (.inr (.inr (.inr z)))))
          have d5 : x.2.1 ≤ s.1 := by simpa using d4
          exact d5)
      exact ⟨⟨h3 x l rfl, by omega, c5.1, c5.2, a1⟩, by rw [List.length_cons]; omega⟩
theorem whole_is (n l h : Int) : whole_within n l h = .ok (decide (l ≤ n) && decide (n ≤ h)) := by
  unfold whole_within
  rfl
theorem check_masses_is (ms : Ms) (hl : ms.length ≤ 1000) : check_masses_xm ms = match bm1 0 none ms with
    | some j => .ex ⟨0, [0, j]⟩
    | none => .ok () := by
  unfold check_masses_xm
  rw [enumL_eq]
  have k : ∀ (l : Ms) (k : Nat) (pv : Option Int) (a : Int), k ≤ 6 → (∀ m : Int × Int, -20 ≤ m.1 → pv.any (fun p => decide (m.1 ≤ p)) = decide (m.1 ≤ a)) → ∃ r, foldM (fun (b5 : Int) (x6 : (Int × (Int × Int))) => (cond (decide (x6.1 = (6 : Int))) (Mm.ok true) ((noEx (is_place (x6.2.1))).bd fun b42 => (cond (!b42) (Mm.ok true) ((noEx (is_mass (x6.2.2))).bd fun b53 => Mm.ok ((!b53) || (decide (x6.2.1 ≤ b5))))).bd fun b49 => Mm.ok b49)).bd fun b38 => cond b38 ((guardM ((0 : Int).natAbs < 18446744073709551616)).bd fun _ => (guardM (x6.1.natAbs < 18446744073709551616)).bd fun _ => Mm.ex ⟨0, [(0 : Int), x6.1]⟩) (Mm.ok x6.2.1)) a (numL (k : Int) l) = match bm1 k pv l with
      | some j => .ex ⟨0, [0, j]⟩
      | none => .ok r := by
    intro l
    induction l with
    | nil => intro k pv a _ _; exact ⟨a, rfl⟩
    | cons m l ih =>
      intro k pv a hk hp
      unfold numL foldM bm1
      have gk : guardM ((k : Int).natAbs < 18446744073709551616) = .ok () := guard_ok (by omega)
      have body : (cond (decide ((((k : Int), m) : Int × Int × Int).1 = (6 : Int))) (Mm.ok true) ((noEx (is_place m.1)).bd fun b42 => (cond (!b42) (Mm.ok true) ((noEx (is_mass m.2)).bd fun b53 => Mm.ok ((!b53) || (decide (m.1 ≤ a))))).bd fun b49 => Mm.ok b49)) = Mm.ok (decide (k = 6 ∨ ¬(-20 ≤ m.1 ∧ m.1 ≤ 20) ∨ ¬(1 ≤ m.2 ∧ m.2 ≤ 20) ∨ pv.any (fun p => decide (m.1 ≤ p)) = true)) := by
        unfold is_place is_mass
        rw [whole_is, whole_is, bdo, bdo, noEx_ok, noEx_ok, bdo, bdo]
        by_cases c1 : k = 6
        · rw [cT (decide_eq_true (by show (k : Int) = 6; omega)), decide_eq_true (.inl c1)]
        · rw [cF (decide_eq_false (by show ¬ (k : Int) = 6; omega))]
          by_cases c2 : -20 ≤ m.1 ∧ m.1 ≤ 20
          · rw [decide_eq_true c2.1, decide_eq_true c2.2, hp m c2.1]
            by_cases c3 : 1 ≤ m.2 ∧ m.2 ≤ 20
            · rw [decide_eq_true c3.1, decide_eq_true c3.2]
              show Mm.ok (decide (m.1 ≤ a)) = _
              congr 1
              by_cases c4 : m.1 ≤ a
              · rw [decide_eq_true c4, decide_eq_true (.inr (.inr (.inr rfl)))]
              · rw [decide_eq_false c4, decide_eq_false (by
                  rintro (z | z | z | z)
                  · exact c1 z
                  · exact z c2
                  · exact z c3
                  · cases z)]
            · rw [decide_eq_true (p := k = 6 ∨ _) (.inr (.inr (.inl c3)))]
              have e : (decide (1 ≤ m.2) && decide (m.2 ≤ 20)) = false := by
                rw [Bool.eq_false_iff]
                intro z
                rw [Bool.and_eq_true, decide_eq_true_eq, decide_eq_true_eq] at z
                exact c3 z
              rw [e]
              rfl
          · rw [decide_eq_true (p := k = 6 ∨ _) (.inr (.inl c2))]
            have e : (decide (-20 ≤ m.1) && decide (m.1 ≤ 20)) = false := by
              rw [Bool.eq_false_iff]
              intro z
              rw [Bool.and_eq_true, decide_eq_true_eq, decide_eq_true_eq] at z
              exact c2 z
            rw [show (decide (-(20 : Int) ≤ m.1) && decide (m.1 ≤ 20)) = false from e]
            rfl
      by_cases c : k = 6 ∨ ¬(-20 ≤ m.1 ∧ m.1 ≤ 20) ∨ ¬(1 ≤ m.2 ∧ m.2 ≤ 20) ∨ pv.any (fun p => decide (m.1 ≤ p)) = true
      · rw [decide_eq_true c] at body
        refine ⟨0, ?_⟩
        rw [if_pos c]
        refine (congrArg (fun z => Mm.bd (Mm.bd z _) _) body).trans ?_
        have late : (guardM ((0 : Int).natAbs < 18446744073709551616)).bd (fun _ => (guardM ((k : Int).natAbs < 18446744073709551616)).bd fun _ => (Mm.ex ⟨0, [(0 : Int), (k : Int)]⟩ : Mm Int)) = .ex ⟨0, [0, (k : Int)]⟩ := by rw [guard_ok (show (0 : Int).natAbs < 18446744073709551616 by decide), bdo, gk, bdo]
        exact (congrArg (fun z => Mm.bd z _) late).trans rfl
      · rw [decide_eq_false c] at body
        have c1 : ¬ k = 6 := fun z => c (.inl z)
        obtain ⟨r, hr⟩ := ih (k + 1) (some m.1) m.1 (by omega) (fun x _ => rfl)
        refine ⟨r, ?_⟩
        rw [if_neg c]
        exact (congrArg (fun z => Mm.bd (Mm.bd z _) _) body).trans hr
  obtain ⟨r, hr⟩ := k ms 0 none (-(20 : Int) - 1) (by decide) (fun m hm => by rw [decide_eq_false (by omega)]; rfl)
  refine (congrArg (fun z => Mm.bd z _) hr).trans ?_
  cases bm1 0 none ms <;> rfl
theorem dec6 {c1 c2 c3 c4 c5 c6 : Prop} [Decidable c1] [Decidable c2] [Decidable c3] [Decidable c4] [Decidable c5] [Decidable c6] {b : Bool} (h : b = true ↔ (c1 ∨ c2 ∨ c3 ∨ c4 ∨ c5 ∨ c6)) : b = decide (c1 ∨ c2 ∨ c3 ∨ c4 ∨ c5 ∨ c6) := by
  by_cases q : c1 ∨ c2 ∨ c3 ∨ c4 ∨ c5 ∨ c6
  · rw [decide_eq_true q, h.mpr q]
  · rw [decide_eq_false q]
    cases b with
    | false => rfl
    | true => exact absurd (h.mp rfl) q
theorem check_stretches_is (ss : Ss) (hl : ss.length ≤ 1000) : check_stretches_xm ss = match bs1 0 none ss with
    | some j => .ex ⟨0, [1, j]⟩
    | none => .ok () := by
  unfold check_stretches_xm
  rw [enumL_eq]
  have k : ∀ (l : Ss) (k : Nat) (pv : Option Int) (a : Int), k ≤ 4 → (∀ s : Int × Int × Int, -20 ≤ s.1 → pv.any (fun p => decide (s.1 < p)) = decide (s.1 < a)) → ∃ r, foldM (fun (b5 : Int) (x6 : (Int × (Int × Int × Int))) => (cond (decide (x6.1 = (4 : Int))) (Mm.ok true) ((noEx (is_place (x6.2.1))).bd fun b45 => (cond (!b45) (Mm.ok true) ((noEx (is_place (x6.2.2.1))).bd fun b56 => (cond (!b56) (Mm.ok true) ((noEx (is_mass (x6.2.2.2))).bd fun b67 => Mm.ok (!b67))).bd fun b63 => Mm.ok b63)).bd fun b52 => Mm.ok b52)).bd fun b41 => cond b41 ((guardM ((1 : Int).natAbs < 18446744073709551616)).bd fun _ => (guardM (x6.1.natAbs < 18446744073709551616)).bd fun _ => Mm.ex ⟨0, [(1 : Int), x6.1]⟩) (cond ((decide (x6.2.1 < b5)) || (decide (x6.2.2.1 ≤ x6.2.1))) ((guardM ((1 : Int).natAbs < 18446744073709551616)).bd fun _ => (guardM (x6.1.natAbs < 18446744073709551616)).bd fun _ => Mm.ex ⟨0, [(1 : Int), x6.1]⟩) (Mm.ok x6.2.2.1))) a (numL (k : Int) l) = match bs1 k pv l with
      | some j => .ex ⟨0, [1, j]⟩
      | none => .ok r := by
    intro l
    induction l with
    | nil => intro k pv a _ _; exact ⟨a, rfl⟩
    | cons s l ih =>
      intro k pv a hk hp
      unfold numL foldM bs1
      have gk : guardM ((k : Int).natAbs < 18446744073709551616) = .ok () := guard_ok (by omega)
      have body : (cond (decide ((((k : Int), s) : Int × Int × Int × Int).1 = (4 : Int))) (Mm.ok true) ((noEx (is_place s.1)).bd fun b45 => (cond (!b45) (Mm.ok true) ((noEx (is_place s.2.1)).bd fun b56 => (cond (!b56) (Mm.ok true) ((noEx (is_mass s.2.2)).bd fun b67 => Mm.ok (!b67))).bd fun b63 => Mm.ok b63)).bd fun b52 => Mm.ok b52)) = Mm.ok (decide (k = 4) || (!(decide (-20 ≤ s.1) && decide (s.1 ≤ 20)) || (!(decide (-20 ≤ s.2.1) && decide (s.2.1 ≤ 20)) || !(decide (1 ≤ s.2.2) && decide (s.2.2 ≤ 20))))) := by
        unfold is_place is_mass
        rw [whole_is, whole_is, whole_is, bdo, bdo, bdo, noEx_ok, noEx_ok, noEx_ok, bdo, bdo, bdo]
        by_cases c1 : k = 4
        · rw [cT (decide_eq_true (by show (k : Int) = 4; omega)), decide_eq_true c1]
          rfl
        · rw [cF (decide_eq_false (by show ¬ (k : Int) = 4; omega)), decide_eq_false c1, show -(20 : Int) = -20 from rfl]
          cases (decide (-20 ≤ s.1) && decide (s.1 ≤ 20)) <;> cases (decide (-20 ≤ s.2.1) && decide (s.2.1 ≤ 20)) <;> rfl
      have late : (guardM ((1 : Int).natAbs < 18446744073709551616)).bd (fun _ => (guardM ((k : Int).natAbs < 18446744073709551616)).bd fun _ => (Mm.ex ⟨0, [(1 : Int), (k : Int)]⟩ : Mm Int)) = .ex ⟨0, [1, (k : Int)]⟩ := by rw [guard_ok (show (1 : Int).natAbs < 18446744073709551616 by decide), bdo, gk, bdo]
      by_cases c : k = 4 ∨ s.1 < -20 ∨ 20 < s.2.1 ∨ s.2.1 ≤ s.1 ∨ ¬(1 ≤ s.2.2 ∧ s.2.2 ≤ 20) ∨ pv.any (fun p => decide (s.1 < p)) = true
      · refine ⟨0, ?_⟩
        rw [if_pos c]
        refine (congrArg (fun z => Mm.bd (Mm.bd z _) _) body).trans ?_
        cases q : (decide (k = 4) || (!(decide (-20 ≤ s.1) && decide (s.1 ≤ 20)) || (!(decide (-20 ≤ s.2.1) && decide (s.2.1 ≤ 20)) || !(decide (1 ≤ s.2.2) && decide (s.2.2 ≤ 20))))) with
        | true => exact (congrArg (fun z => Mm.bd z _) late).trans rfl
        | false =>
          simp only [Bool.or_eq_false_iff, Bool.not_eq_false', Bool.and_eq_true, decide_eq_true_eq, decide_eq_false_iff_not] at q
          obtain ⟨q1, ⟨q2, q3⟩, ⟨q4, q5⟩, q6⟩ := q
          rw [hp s q2] at c
          have z : (decide (s.1 < a) || decide (s.2.1 ≤ s.1)) = true := by
            rcases c with c | c | c | c | c | c
            · exact absurd c q1
            · omega
            · omega
            · rw [decide_eq_true c, Bool.or_true]
            · exact absurd q6 c
            · rw [c]; rfl
          show Mm.bd (cond (decide (s.1 < a) || decide (s.2.1 ≤ s.1)) _ _) _ = _
          rw [cT z]
          exact (congrArg (fun z => Mm.bd z _) late).trans rfl
      · have c1 : ¬ k = 4 := fun z => c (.inl z)
        have c2 : ¬ s.1 < -20 := fun z => c (.inr (.inl z))
        have c3 : ¬ 20 < s.2.1 := fun z => c (.inr (.inr (.inl z)))
        have c4 : ¬ s.2.1 ≤ s.1 := fun z => c (.inr (.inr (.inr (.inl z))))
        have c5 : 1 ≤ s.2.2 ∧ s.2.2 ≤ 20 := Decidable.byContradiction fun z => c (.inr (.inr (.inr (.inr (.inl z)))))
        have c6 : ¬ pv.any (fun p => decide (s.1 < p)) = true := fun z => c (.inr (.inr (.inr (.inr (.inr z)))))
        rw [hp s (by omega), decide_eq_true_eq] at c6
        obtain ⟨r, hr⟩ := ih (k + 1) (some s.2.1) s.2.1 (by omega) (fun x _ => rfl)
        refine ⟨r, ?_⟩
        rw [if_neg c]
        rw [decide_eq_false c1, decide_eq_true (show -20 ≤ s.1 by omega), decide_eq_true (show s.1 ≤ 20 by omega), decide_eq_true (show -20 ≤ s.2.1 by omega), decide_eq_true (show s.2.1 ≤ 20 by omega), decide_eq_true c5.1, decide_eq_true c5.2] at body
        refine (congrArg (fun z => Mm.bd (Mm.bd z _) _) body).trans ?_
        show Mm.bd (cond (decide (s.1 < a) || decide (s.2.1 ≤ s.1)) _ _) _ = _
        rw [decide_eq_false c6, decide_eq_false c4]
        exact hr
  obtain ⟨r, hr⟩ := k ss 0 none (-20) (by decide) (fun s hs => by rw [decide_eq_false (by omega)]; rfl)
  refine (congrArg (fun z => Mm.bd z _) hr).trans ?_
  cases bs1 0 none ss <;> rfl
def due1 (ms : Ms) (ss : Ss) : Xr := match bm1 0 none ms with
  | some j => .tup .weighting [0, j]
  | none => match bs1 0 none ss with
    | some j => .tup .weighting [1, j]
    | none => if (ms, ss) = ([], []) then .tup .weighting [2, 0] else .non
theorem wok_of {ms : Ms} {ss : Ss} (h1 : bm1 0 none ms = none) (h2 : bs1 0 none ss = none) (h3 : ¬ (ms, ss) = ([], [])) : WOk (ms, ss) := by
  obtain ⟨a1, a2, _, a4⟩ := bm1_none ms 0 none (by decide) h1
  have b := bs1_none ss 0 none (-20) (by decide) h2 (by decide) (by decide) (fun s t e => by
    subst e
    unfold bs1 at h2
    by_cases d : 0 = 4 ∨ s.1 < -20 ∨ 20 < s.2.1 ∨ s.2.1 ≤ s.1 ∨ ¬(1 ≤ s.2.2 ∧ s.2.2 ≤ 20) ∨ (none : Option Int).any (fun p => decide (s.1 < p)) = true
    · rw [if_pos d] at h2; cases h2
    · have : ¬ s.1 < -20 := fun z => d (.inr (.inl z))
      omega)
  refine ⟨⟨a1, a2, by show ms.length ≤ 6; omega⟩, b.1, by have := b.2; show ss.length ≤ 4; omega, ?_⟩
  by_cases e : ms = []
  · right
    intro e2
    exact h3 (by rw [e, show ss = [] from e2])
  · exact .inl e
theorem init_is (ms : Ms) (ss : Ss) (hm : ms.length ≤ 1000) (hs : ss.length ≤ 1000) : ((Weighting_init_xm ms ss).bd fun b => Mm.ok b).tr raisedX (fun _ => Mm.ok Xr.non) = .ok (due1 ms ss) := by
  unfold due1
  cases h1 : bm1 0 none ms with
  | some j =>
    unfold Weighting_init_xm
    rw [check_masses_is ms hm, h1]
    rfl
  | none =>
    cases h2 : bs1 0 none ss with
    | some j =>
      unfold Weighting_init_xm
      rw [check_masses_is ms hm, h1]
      show Mm.tr (Mm.bd ((check_stretches_xm ss).bd _) _) _ _ = _
      rw [check_stretches_is ss hs, h2]
      rfl
    | none =>
      by_cases h3 : (ms, ss) = ([], [])
      · simp only [Prod.mk.injEq] at h3
        obtain ⟨rfl, rfl⟩ := h3
        rfl
      · rw [(le_Weighting_init ms ss).h _ (init_ok (wok_of h1 h2 h3))]
        show _ = Mm.ok (if (ms, ss) = ([], []) then Xr.tup Kw.weighting [2, 0] else Xr.non)
        rw [if_neg h3]
        rfl
theorem bad_mass_is (ms : Ms) (hl : ms.length ≤ 1000) : law_bad_mass ms = .ok (bm1 0 none ms) := by
  unfold law_bad_mass
  rw [rangeM_ok (by omega), bdo, Int.toNat_natCast]
  have k : ∀ (rest pre : Ms), ms = pre ++ rest → foldL (R := (Option Int)) (fun (b7 : Unit) (x8 : Int) => (getM ms x8).bd fun i28 => (cond (decide (x8 = (6 : Int))) (Mm.ok true) ((cond (!((decide ((-(20 : Int)) ≤ i28.1)) && (decide (i28.1 ≤ (20 : Int))))) (Mm.ok true) ((cond (!((decide ((1 : Int) ≤ i28.2)) && (decide (i28.2 ≤ (20 : Int))))) (Mm.ok true) ((cond (decide (x8 > (0 : Int))) ((getM ms (x8 - (1 : Int))).bd fun i55 => Mm.ok (decide (i28.1 ≤ i55.1))) (Mm.ok false)).bd fun b51 => Mm.ok b51)).bd fun b47 => Mm.ok b47)).bd fun b43 => Mm.ok b43)).bd fun b39 => cond b39 (Mm.ok (Fl.ret (some x8))) (Mm.ok (Fl.go ()))) () (rangeL (pre.length : Int) rest.length) = .ok (match bm1 pre.length (pre.getLast?.map (·.1)) rest with
      | some j => Fl.ret (some j)
      | none => Fl.go ()) := by
    intro rest
    induction rest with
    | nil => intro pre _; rfl
    | cons m r ih =>
      intro pre e
      have gx : getM ms (pre.length : Int) = .ok m := by rw [e]; exact getM_mid pre r m
      have ih' := ih (pre ++ [m]) (by rw [e]; simp)
      rw [List.length_append, List.length_singleton, show (pre ++ [m]).getLast? = some m by simp] at ih'
      rw [List.length_cons, rangeL_succ]
      unfold foldL bm1
      have last : (cond (decide ((pre.length : Int) > 0)) ((getM ms ((pre.length : Int) - 1)).bd fun i55 => Mm.ok (decide (m.1 ≤ i55.1))) (Mm.ok false)) = Mm.ok ((pre.getLast?.map (·.1)).any (fun p => decide (m.1 ≤ p))) := by
        rcases List.eq_nil_or_concat pre with ep | ⟨q, y, ep⟩
        · subst ep; rfl
        · rw [List.concat_eq_append] at ep
          subst ep
          have gy : getM ms (((q ++ [y]).length : Int) - 1) = .ok y := by
            rw [show ((q ++ [y]).length : Int) - 1 = (q.length : Int) by rw [List.length_append, List.length_singleton]; omega, e, List.append_assoc]
            exact getM_mid q _ y
          rw [cT (decide_eq_true (by rw [List.length_append, List.length_singleton]; omega)), gy, bdo, show (q ++ [y]).getLast? = some y by simp]
          rfl
      have body : (cond (decide ((pre.length : Int) = (6 : Int))) (Mm.ok true) ((cond (!((decide ((-(20 : Int)) ≤ m.1)) && (decide (m.1 ≤ (20 : Int))))) (Mm.ok true) ((cond (!((decide ((1 : Int) ≤ m.2)) && (decide (m.2 ≤ (20 : Int))))) (Mm.ok true) ((cond (decide ((pre.length : Int) > (0 : Int))) ((getM ms ((pre.length : Int) - (1 : Int))).bd fun i55 => Mm.ok (decide (m.1 ≤ i55.1))) (Mm.ok false)).bd fun b51 => Mm.ok b51)).bd fun b47 => Mm.ok b47)).bd fun b43 => Mm.ok b43)) = Mm.ok (decide (pre.length = 6 ∨ ¬(-20 ≤ m.1 ∧ m.1 ≤ 20) ∨ ¬(1 ≤ m.2 ∧ m.2 ≤ 20) ∨ (pre.getLast?.map (·.1)).any (fun p => decide (m.1 ≤ p)) = true)) := by
        rw [last, bdo, show -(20 : Int) = -20 from rfl]
        have e6 : decide ((pre.length : Int) = 6) = decide (pre.length = 6) := decide_eq_decide.mpr (by omega)
        rw [e6]
        simp only [Bool.decide_or, decide_not, Bool.decide_and, Bool.decide_eq_true]
        cases decide (pre.length = 6) <;> cases (decide (-20 ≤ m.1) && decide (m.1 ≤ 20)) <;> cases (decide (1 ≤ m.2) && decide (m.2 ≤ 20)) <;> rfl
      rw [gx, bdo]
      refine (congrArg (fun z => Mm.bd (Mm.bd z _) _) body).trans ?_
      by_cases c : pre.length = 6 ∨ ¬(-20 ≤ m.1 ∧ m.1 ≤ 20) ∨ ¬(1 ≤ m.2 ∧ m.2 ≤ 20) ∨ (pre.getLast?.map (·.1)).any (fun p => decide (m.1 ≤ p)) = true
      · rw [if_pos c, decide_eq_true c]
        rfl
      · rw [if_neg c, decide_eq_false c]
        exact ih'
  have := k ms [] rfl
  rw [show (([] : Ms).length : Int) = 0 from rfl] at this
  rw [this, bdo]
  show Fl.el (match bm1 0 none ms with
    | some j => Fl.ret (some j)
    | none => Fl.go ()) _ _ = _
  cases bm1 0 none ms <;> rfl
theorem bad_stretch_is (ss : Ss) (hl : ss.length ≤ 1000) : law_bad_stretch ss = .ok (bs1 0 none ss) := by
  unfold law_bad_stretch
  rw [rangeM_ok (by omega), bdo, Int.toNat_natCast]
  have k : ∀ (rest pre : Ss), ss = pre ++ rest → foldL (R := (Option Int)) (fun (b7 : Unit) (x8 : Int) => (getM ss x8).bd fun i29 => cond ((decide (x8 = (4 : Int))) || ((decide (i29.1 < (-(20 : Int)))) || ((decide (i29.2.1 > (20 : Int))) || ((decide (i29.2.1 ≤ i29.1)) || (!((decide ((1 : Int) ≤ i29.2.2)) && (decide (i29.2.2 ≤ (20 : Int))))))))) (Mm.ok (Fl.ret (some x8))) ((cond (decide (x8 > (0 : Int))) ((getM ss (x8 - (1 : Int))).bd fun i46 => Mm.ok (decide (i29.1 < i46.2.1))) (Mm.ok false)).bd fun b42 => cond b42 (Mm.ok (Fl.ret (some x8))) (Mm.ok (Fl.go ())))) () (rangeL (pre.length : Int) rest.length) = .ok (match bs1 pre.length (pre.getLast?.map (·.2.1)) rest with
      | some j => Fl.ret (some j)
      | none => Fl.go ()) := by
    intro rest
    induction rest with
    | nil => intro pre _; rfl
    | cons s r ih =>
      intro pre e
      have gx : getM ss (pre.length : Int) = .ok s := by rw [e]; exact getM_mid pre r s
      have ih' := ih (pre ++ [s]) (by rw [e]; simp)
      rw [List.length_append, List.length_singleton, show (pre ++ [s]).getLast? = some s by simp] at ih'
      rw [List.length_cons, rangeL_succ]
      unfold foldL bs1
      have last : (cond (decide ((pre.length : Int) > 0)) ((getM ss ((pre.length : Int) - 1)).bd fun i46 => Mm.ok (decide (s.1 < i46.2.1))) (Mm.ok false)) = Mm.ok ((pre.getLast?.map (·.2.1)).any (fun p => decide (s.1 < p))) := by
        rcases List.eq_nil_or_concat pre with ep | ⟨q, y, ep⟩
        · subst ep; rfl
        · rw [List.concat_eq_append] at ep
          subst ep
          have gy : getM ss (((q ++ [y]).length : Int) - 1) = .ok y := by
            rw [show ((q ++ [y]).length : Int) - 1 = (q.length : Int) by rw [List.length_append, List.length_singleton]; omega, e, List.append_assoc]
            exact getM_mid q _ y
          rw [cT (decide_eq_true (by rw [List.length_append, List.length_singleton]; omega)), gy, bdo, show (q ++ [y]).getLast? = some y by simp]
          rfl
      rw [gx, bdo]
      rw [last, bdo, show -(20 : Int) = -20 from rfl, show decide ((pre.length : Int) = 4) = decide (pre.length = 4) from decide_eq_decide.mpr (by omega)]
      have e5 : (decide (pre.length = 4 ∨ s.1 < -20 ∨ 20 < s.2.1 ∨ s.2.1 ≤ s.1 ∨ ¬(1 ≤ s.2.2 ∧ s.2.2 ≤ 20) ∨ (pre.getLast?.map (·.2.1)).any (fun p => decide (s.1 < p)) = true)) = ((decide (pre.length = 4) || (decide (s.1 < -20) || (decide (s.2.1 > 20) || (decide (s.2.1 ≤ s.1) || !(decide (1 ≤ s.2.2) && decide (s.2.2 ≤ 20)))))) || (pre.getLast?.map (·.2.1)).any (fun p => decide (s.1 < p))) := by
        simp only [Bool.decide_or, decide_not, Bool.decide_and, Bool.decide_eq_true, Bool.or_assoc, gt_iff_lt]
      by_cases c : pre.length = 4 ∨ s.1 < -20 ∨ 20 < s.2.1 ∨ s.2.1 ≤ s.1 ∨ ¬(1 ≤ s.2.2 ∧ s.2.2 ≤ 20) ∨ (pre.getLast?.map (·.2.1)).any (fun p => decide (s.1 < p)) = true
      · rw [if_pos c]
        rw [decide_eq_true c] at e5
        cases q : (decide (pre.length = 4) || (decide (s.1 < -20) || (decide (s.2.1 > 20) || (decide (s.2.1 ≤ s.1) || !(decide (1 ≤ s.2.2) && decide (s.2.2 ≤ 20)))))) with
        | true => rfl
        | false =>
          rw [q, Bool.false_or] at e5
          rw [← e5]
          rfl
      · rw [if_neg c]
        rw [decide_eq_false c] at e5
        obtain ⟨f1, f2⟩ := Bool.or_eq_false_iff.mp e5.symm
        rw [f1, f2]
        exact ih'
  have := k ss [] rfl
  rw [show (([] : Ss).length : Int) = 0 from rfl] at this
  rw [this, bdo]
  show Fl.el (match bs1 0 none ss with
    | some j => Fl.ret (some j)
    | none => Fl.go ()) _ _ = _
  cases bs1 0 none ss <;> rfl
theorem law_stretches4 {scr : List Int} {st : Rw} {far : Int} {N : Nat} (r : Rk N st) (f0 : 1 ≤ far) (f1 : far ≤ 20) (hN : N < 9000) : Yes (law_stretches scr st 4 far) fun r => r.1.length ≤ 4 ∧ Rk (N + 20) r.2 := by
  unfold law_stretches
  refine (takenA_ok r (by omega) (by omega) (by omega)).bd fun b hb => ?_
  obtain ⟨⟨b0, b1⟩, rb⟩ := hb
  rw [range_ok (by omega) (by omega)]
  refine (yes_fold (fun (s : Int × Ss × Rw) (l : List Int) => s.2.1.length + l.length ≤ 4 ∧ ∃ k, Rk k s.2.2 ∧ k + 3 * l.length ≤ N + 20) (rangeL 0 b.1.toNat) (0 - far, [], b.2) ⟨by rw [rangeL_len]; show 0 + b.1.toNat ≤ 4; omega, N + 1, rb, by rw [rangeL_len]; omega⟩ fun s x l hs => ?_).bd fun c hc => ?_
  · obtain ⟨hl, k, rk, hk⟩ := hs
    rw [List.length_cons] at hl hk
    refine (takenA_ok rk (by omega) (by omega) (by omega)).bd fun d hd => ?_
    refine (takenA_ok hd.2 (by omega) (by omega) (by omega)).bd fun e he => ?_
    by_cases q : s.1 + d.1 + 1 + e.1 ≤ far
    · rw [decide_eq_true q]
      refine (takenA_ok he.2 (by omega) (by omega) (by omega)).bd fun f hf => ?_
      refine .guard (by omega) (.ok ⟨?_, k + 3, hf.2, by omega⟩)
      show (s.2.1 ++ [_]).length + l.length ≤ 4
      rw [List.length_append, List.length_singleton]
      omega
    · rw [decide_eq_false q]
      exact .ok ⟨by show s.2.1.length + l.length ≤ 4; omega, k + 2, he.2, by omega⟩
  · obtain ⟨hl, k, rk, hk⟩ := hc
    exact .ok ⟨by simpa using hl, rk.up (by rw [List.length_nil] at hk; omega)⟩
theorem Yes.when {α : Type} {c : Bool} {a b : Mm α} {p : α → Prop} (h : c = true → Yes a p) (k : c = false → Yes b p) : Yes (cond c a b) p := by
  cases c with
  | true => exact h rfl
  | false => exact k rfl
theorem law_true (scr : List Int) (hscr : scr.length ≤ 63) : law scr = .ok true := by
  suffices h : Yes (law scr) (fun b => b = true) by
    obtain ⟨b, e, rfl⟩ := h
    exact e
  unfold law
  have r0 : Rk 0 (Rw.mk 0 0 0) := ⟨by decide, by decide, by decide, by decide⟩
  refine (law_masses_ok r0 (by decide) (by decide) (by decide) (by decide) (by decide)).bd fun b1 hb1 => ?_
  refine (law_stretches4 (N := 30) (hb1.2.up (by decide)) (by decide) (by decide) (by decide)).bd fun b18 hb18 => ?_
  refine (takenA_ok hb18.2 (by decide) (by decide) (by decide)).bd fun b34 h34 => ?_
  refine .eq (range_ok (by omega) (by omega)) ?_
  have lm := hb1.1.len
  refine (yes_fold (fun (s : Ms × Ss × Rw) (l : List Int) => s.1.length + l.length ≤ 10 ∧ s.2.1.length + l.length ≤ 10 ∧ ∃ k, Rk k s.2.2 ∧ k + 6 * l.length ≤ 100) (rangeL 0 b34.1.toNat) (b1.1, b18.1, b34.2) ⟨by rw [rangeL_len]; show b1.1.length + _ ≤ 10; omega, by rw [rangeL_len]; show b18.1.length + _ ≤ 10; omega, 51, h34.2, by rw [rangeL_len]; omega⟩ fun s x l hs => ?_).bd fun b60 h60 => ?_
  · obtain ⟨q1, q2, k, q3, q4⟩ := hs
    rw [List.length_cons] at q1 q2 q4
    refine (pickA_ok q3 (by decide) (by decide) (by omega)).bd fun b118 h118 => ?_
    refine (takenA_ok h118.2 (by omega) (by omega) (by omega)).bd fun b125 h125 => ?_
    refine (takenA_ok h125.2 (by decide) (by decide) (by omega)).bd fun b132 h132 => ?_
    obtain ⟨n, hn⟩ := Int.eq_ofNat_of_zero_le h125.1.1
    have hn2 : n ≤ s.1.length := by omega
    refine Yes.bd (p := fun (z : Ms × Rw) => z.1.length + l.length ≤ 10 ∧ z.2 = b132.2) (Yes.when (fun _ => ?_) fun _ => ?_) fun b143 h143 => ?_
    · rw [hn, cut_lo _ _ hn2, cut_hi _ _ hn2]
      exact .guard (by simp only [List.length_take, List.length_singleton]; omega) (.guard (by simp only [List.length_append, List.length_take, List.length_drop, List.length_singleton]; omega) (.ok ⟨by simp only [List.length_append, List.length_take, List.length_drop, List.length_singleton]; omega, rfl⟩))
    · exact .ok ⟨by show s.1.length + l.length ≤ 10; omega, rfl⟩
    · rw [h143.2]
      refine (pickA_ok h132.2 (by decide) (by decide) (by omega)).bd fun b237 h237 => ?_
      refine (takenA_ok h237.2 (by omega) (by omega) (by omega)).bd fun b248 h248 => ?_
      refine (takenA_ok h248.2 (by decide) (by decide) (by omega)).bd fun b255 h255 => ?_
      obtain ⟨m, hm⟩ := Int.eq_ofNat_of_zero_le h248.1.1
      have hm2 : m ≤ s.2.1.length := by omega
      refine Yes.bd (p := fun (z : Ss) => z.length + l.length ≤ 10) (Yes.when (fun _ => ?_) fun _ => ?_) fun b267 h267 => ?_
      · rw [hm, cut_lo _ _ hm2, cut_hi _ _ hm2]
        exact .guard (by simp only [List.length_take, List.length_singleton]; omega) (.guard (by simp only [List.length_append, List.length_take, List.length_drop, List.length_singleton]; omega) (.ok (by simp only [List.length_append, List.length_take, List.length_drop, List.length_singleton]; omega)))
      · exact .ok (by omega)
      · exact .ok ⟨h143.1, h267, k + 6, h255.2, by omega⟩
  obtain ⟨q1, q2, k, q3, q4⟩ := h60
  rw [List.length_nil] at q1 q2 q4
  refine (takenA_ok q3 (by decide) (by decide) (by omega)).bd fun b333 h333 => ?_
  refine Yes.bd (p := fun (z : Ms × Ss × Rw) => z.1.length ≤ 10 ∧ z.2.1.length ≤ 10 ∧ Rk 103 z.2.2) (Yes.when (fun _ => ?_) fun _ => ?_) fun b340 h340 => ?_
  · refine (takenA_ok h333.2 (by decide) (by decide) (by omega)).bd fun b346 h346 => ?_
    refine .eq (range_ok (by omega) (by omega)) (.guard (by rw [rangeL_len]; omega) (.eq (mapMm_eq (g := fun x => (x, (1 : Int))) _ fun x hx => rfl) ?_))
    refine (takenA_ok h346.2 (by decide) (by decide) (by omega)).bd fun b387 h387 => ?_
    exact .eq (range_ok (by omega) (by omega)) (.guard (by rw [rangeL_len]; omega) (.eq (mapMm_eq (g := fun x => (x, x + 1, (2 : Int))) _ fun x hx => rfl) (.ok ⟨by rw [List.length_map, rangeL_len]; omega, by rw [List.length_map, rangeL_len]; omega, h387.2.up (by omega)⟩)))
  · exact .ok ⟨by show b60.1.length ≤ 10; omega, by show b60.2.1.length ≤ 10; omega, h333.2.up (by omega)⟩
  obtain ⟨ms, ss, st⟩ := b340
  dsimp only at h340 ⊢
  obtain ⟨l1, l2, rk⟩ := h340
  refine Yes.bd (p := fun (z : Bool × Rw) => z.1 = true → ms ≠ []) ?_ fun b447 h447 => ?_
  · by_cases e : ms = []
    · rw [decide_eq_true e]
      exact .ok fun z => by cases z
    · rw [decide_eq_false e]
      exact (takenA_ok rk (by decide) (by decide) (by decide)).bd fun b452 h452 => .ok fun _ => e
  refine Yes.bd (p := fun (z : Ms × Rw) => z.1.length ≤ 11) (Yes.when (fun c => ?_) fun _ => ?_) fun b459 h459 => ?_
  · have hne := h447 c
    rcases List.eq_nil_or_concat ms with e | ⟨m, y, e⟩
    · exact absurd e hne
    · rw [List.concat_eq_append] at e
      subst e
      refine .eq (getM_last m y) (.guard (by omega) (.ok ?_))
      show ((m ++ [y]) ++ [y]).length ≤ 11
      rw [List.length_append, List.length_singleton]
      omega
  · exact .ok (by show ms.length ≤ 11; omega)
  obtain ⟨ms, st2⟩ := b459
  dsimp only at h459 ⊢
  clear l1 h447
  refine .eq (bad_mass_is ms (by omega)) (.eq (bad_stretch_is ss (by omega)) ?_)
  refine .eq (a := if (ms, ss) = ([], []) then Xr.tup Kw.weighting [2, 0] else Xr.non) ?_ ?_
  · by_cases e : (ms, ss) = ([], [])
    · rw [decide_eq_true e, if_pos e]; rfl
    · rw [decide_eq_false e, if_neg e]; rfl
  refine .eq (a := bs1 0 none ss) rfl ?_
  refine .eq (a := match bs1 0 none ss with
    | some j => Xr.tup Kw.weighting [1, j]
    | none => if (ms, ss) = ([], []) then Xr.tup Kw.weighting [2, 0] else Xr.non) ?_ ?_
  · have g : getM [bm1 0 none ms, bs1 0 none ss] (1 : Int) = .ok (bs1 0 none ss) := rfl
    rw [g, bdo]
    cases bs1 0 none ss <;> rfl
  refine .eq (a := bm1 0 none ms) rfl ?_
  refine .eq (a := due1 ms ss) ?_ ?_
  · have g : getM [bm1 0 none ms, bs1 0 none ss] (0 : Int) = .ok (bm1 0 none ms) := rfl
    rw [g, bdo]
    unfold due1
    cases bm1 0 none ms <;> rfl
  refine .eq (init_is ms ss (by omega) (by omega)) ?_
  rw [cF (c := !(decide (due1 ms ss = due1 ms ss))) (by rw [decide_eq_true rfl]; rfl)]
  by_cases d : due1 ms ss = Xr.non
  · rw [cF (c := !(decide (due1 ms ss = Xr.non))) (by rw [decide_eq_true d]; rfl)]
    have ok : WOk (ms, ss) := by
      unfold due1 at d
      cases h1 : bm1 0 none ms with
      | some j => rw [h1] at d; cases d
      | none =>
        rw [h1] at d
        cases h2 : bs1 0 none ss with
        | some j => rw [h2] at d; cases d
        | none =>
          rw [h2] at d
          refine wok_of h1 h2 fun e => ?_
          have d' : (if (ms, ss) = ([], []) then Xr.tup Kw.weighting [2, 0] else Xr.non) = Xr.non := d
          rw [if_pos e] at d'
          cases d'
    have wi : law_weighting (ms, ss) = .ok (ms, ss) := by
      unfold law_weighting
      rw [init_ok ok, bdo]
    refine .eq wi (.eq (a := false) ?_ ?_)
    · rw [cF (c := !(decide _)) (by rw [decide_eq_true rfl]; rfl), wi, bdo]
      unfold Weighting___eq__
      rw [bdo, decide_eq_true rfl, decide_eq_true rfl]
      rfl
    rw [cond_false]
    refine .eq (a := ([((-(20 : Int)), (20 : Int)), ((-(19 : Int)), (20 : Int))], [])) rfl ?_
    unfold Weighting___eq__
    refine .eq rfl (.ok ?_)
    have e : (true && (decide ((ms, ss).1 = [((-(20 : Int)), (20 : Int)), ((-(19 : Int)), (20 : Int))]) && decide ((ms, ss).2 = []))) = decide ((ms, ss) = ([((-(20 : Int)), (20 : Int)), ((-(19 : Int)), (20 : Int))], [])) := by
      rw [Bool.true_and, ← Bool.decide_and]
      exact decide_eq_decide.mpr (by simp only [Prod.mk.injEq])
    rw [e]
    exact decide_eq_true rfl
  · rw [cT (c := !(decide (due1 ms ss = Xr.non))) (by rw [decide_eq_false d]; rfl)]
    exact .eq (a := Xr.tup Kw.weighting [2, 0]) rfl (.ok (decide_eq_true rfl))
end L

theorem PySem.Challenge.cw_fewreadings_k01_weightings_validated_holds : PySem.Challenge.rw_fewreadings_k01_weightings_validated.Holds := by
  exact L.of_law L.law_true
