import PyProof.Rows.All
import Wide.All
import OpenK.AllK
import Wide.FinOn
import HandS.ForMost
import HandS.ForExc
import HandS.Walk
import HandS.Wide
import HandS.Evl
import HandS.Deep
import HandS.Gcd
import HandS.TupAny
import HandS.Strs
import HandS.Defaults
import KE.GoesMore
import HandS.IsInst
import HandS.Property
import HandS.SetFor
import HandS.Head0
import HandS.Head1
import HandS.Head2
import HandS.HeadEnd
import HandS.HeadHook1
import HandS.HeadHook2
import HandS.HeadNt
import HandS.Ends
import HandS.Head3
import HandS.Star
import HandS.Style
import HandS.Iter
import HandS.List
import KE.GoesZip
import KE.GoesEnum
import HandS.Zip
import HandS.Conv
import HandS.TupMul
import HandS.OwnEq
import HandS.More
import HandS.Codes
import HandS.ExcOwn
import HandS.ExcInit
import HandS.TryMany
import HandS.FStr
import HandS.Nested
import KE.KExcSuper
import HandS.ExcField
import PyProof.StrLaws
import HandS.ExcIs
import HandS.Lambda
import KE.KExcIs
import HandS.HeadWalk
import HandS.HeadHook4
import PySem.Challenge.RW_fewreadings_k12_true_weightings_have_goo
set_option Elab.async false
set_option linter.all false
set_option maxRecDepth 100000
set_option maxHeartbeats 4000000
namespace Wk
open PySem L2 Evl

/-! ### outcomes -/
structure Er where
  c : Nat
  fs : List Int
inductive Mm (α : Type) where
  | ok (a : α)
  | ex (e : Er)
  | bad
def Mm.bd {α β : Type} (m : Mm α) (f : α → Mm β) : Mm β := match m with
  | .ok a => f a
  | .ex e => .ex e
  | .bad => .bad
def Out {α : Type} (m : Mm α) (p : α → Prop) (q : Er → Prop) : Prop := match m with
  | .ok a => p a
  | .ex e => q e
  | .bad => False
/-- what holds of an outcome -/
structure Post {α : Type} (m : Mm α) (p : α → Prop) (q : Er → Prop) : Prop where
  h : Out m p q
section
variable {α β : Type} {m : Mm α} {f : α → Mm β} {p : α → Prop} {r : β → Prop} {q : Er → Prop}
theorem post_bd (h : Post (m.bd f) r q) : Post m (fun a => Post (f a) r q) q := by
  cases m with
  | ok a => exact ⟨⟨h.h⟩⟩
  | ex e => exact ⟨h.h⟩
  | bad => exact ⟨h.h⟩
theorem Post.mono {p' : α → Prop} {q' : Er → Prop} (h : Post m p q) (hp : ∀ a, p a → p' a) (hq : ∀ e, q e → q' e) : Post m p' q' := by
  cases m with
  | ok a => exact ⟨hp a h.h⟩
  | ex e => exact ⟨hq e h.h⟩
  | bad => exact ⟨h.h⟩
theorem Post.of_ok {a : α} (e : m = .ok a) (h : p a) : Post m p q := by
  rw [e]; exact ⟨h⟩
theorem Post.elim {C : Prop} (h : Post (Mm.bad : Mm α) p q) : C := h.h.elim
theorem post_ok {a : α} (h : Post (.ok a) p q) : p a := h.h
end
@[simp] theorem bd_ok {α β : Type} (a : α) (f : α → Mm β) : (Mm.ok a).bd f = f a := rfl
@[simp] theorem bd_ex {α β : Type} (e : Er) (f : α → Mm β) : (Mm.ex e : Mm α).bd f = .ex e := rfl
@[simp] theorem bd_bad {α β : Type} (f : α → Mm β) : (Mm.bad : Mm α).bd f = .bad := rfl
def guardM (c : Prop) [Decidable c] : Mm Unit := if c then .ok () else .bad
instance {i j : Int} : Decidable (CMulW i j) := by unfold CMulW; exact inferInstance
instance {i j : Int} : Decidable (CDivW i j) := by unfold CDivW; exact inferInstance
def CDv (_ j : Int) : Prop := j ≠ 0 ∧ j.natAbs.log2 < 9000
instance {i j : Int} : Decidable (CDv i j) := by unfold CDv; exact inferInstance
def mulM (i j : Int) : Mm Int := if CMulW i j then .ok (i * j) else .bad
def divM (i j : Int) : Mm Int := if CDv i j then .ok (i.fdiv j) else .bad
def modM (i j : Int) : Mm Int := if j ≠ 0 then .ok (i.fmod j) else .bad
def getM {α : Type} (xs : List α) (i : Int) : Mm α := match atI xs i with
  | some a => .ok a
  | none => .bad
section
variable {β : Type} {f : Int → Mm β} {r : β → Prop} {q : Er → Prop} {i j : Int}
theorem post_mul (h : Post ((mulM i j).bd f) r q) : ∃ m, CMulW i j ∧ i * j = m ∧ Post (f m) r q := by
  unfold mulM at h
  split at h
  · exact ⟨_, ‹_›, rfl, ⟨h.h⟩⟩
  · exact h.h.elim
theorem post_div (h : Post ((divM i j).bd f) r q) : ∃ m, CDv i j ∧ i.fdiv j = m ∧ Post (f m) r q := by
  unfold divM at h
  split at h
  · exact ⟨_, ‹_›, rfl, ⟨h.h⟩⟩
  · exact h.h.elim
theorem post_mod (h : Post ((modM i j).bd f) r q) : ∃ m, j ≠ 0 ∧ i.fmod j = m ∧ Post (f m) r q := by
  unfold modM at h
  split at h
  · exact ⟨_, ‹_›, rfl, ⟨h.h⟩⟩
  · exact h.h.elim
theorem post_get {α : Type} {xs : List α} {f : α → Mm β} (h : Post ((getM xs i).bd f) r q) : ∃ a, atI xs i = some a ∧ Post (f a) r q := by
  unfold getM at h
  split at h
  · exact ⟨_, ‹_›, ⟨h.h⟩⟩
  · exact h.h.elim
theorem post_guard {c : Prop} [Decidable c] {f : Unit → Mm β} (h : Post ((guardM c).bd f) r q) : c ∧ Post (f ()) r q := by
  unfold guardM at h
  split at h
  · exact ⟨‹_›, ⟨h.h⟩⟩
  · exact h.h.elim
end
section
variable {X : Cx}
theorem op_divM : OpR X (binaryOp .FloorDiv) (fun x y H Q => ∃ i j m, x = .int i ∧ y = .int j ∧ CDv i j ∧ i.fdiv j = m ∧ Q (.int m) H) := by
  intro pins s σ H x y v u Q I rx ry h
  obtain ⟨i, j, m, rfl, rfl, c, rfl, q⟩ := h
  exact (opI (C := CDv) (g := fun i j => i.fdiv j) fun i j _ _ _ _ _ hc q => PyProof.Rows.floordiv_int hc.1 q (.inl (PyProof.noPylong_of_log2 hc.2))) pins s σ H _ _ v u Q I rx ry ⟨i, j, rfl, rfl, c, q⟩
theorem op_mulM : OpR X (binaryOp .Mult) (fun x y H Q => ∃ i j m, x = .int i ∧ y = .int j ∧ CMulW i j ∧ i * j = m ∧ Q (.int m) H) := by
  intro pins s σ H x y v u Q I rx ry h
  obtain ⟨i, j, m, rfl, rfl, c, rfl, q⟩ := h
  exact op_mulW pins s σ H _ _ v u Q I rx ry ⟨i, j, rfl, rfl, c, q⟩
theorem op_modM : OpR X (binaryOp .Mod) (fun x y H Q => ∃ i j m, x = .int i ∧ y = .int j ∧ j ≠ 0 ∧ i.fmod j = m ∧ Q (.int m) H) := by
  intro pins s σ H x y v u Q I rx ry h
  obtain ⟨i, j, m, rfl, rfl, c, rfl, q⟩ := h
  exact op_modN pins s σ H _ _ v u Q I rx ry ⟨i, j, rfl, rfl, c, q⟩
theorem pe_gint {x : Str} {i : Int} {pos : Pos} (h : ∃ t, X.mg x = some (.int i t)) (hg : Gl X x := by rfl) (hd : (x == ("__debug__" : Str)) = false := by decide) : PE X (.Name x pos) (tC (.int i)) := by
  obtain ⟨t, h⟩ := h
  exact pe_glob hg h ⟨t, rfl⟩ hd
theorem pe_gref {x : Str} {a : Addr} {pos : Pos} (h : X.mg x = some (.ref a)) (hg : Gl X x := by rfl) (hd : (x == ("__debug__" : Str)) = false := by decide) : PE X (.Name x pos) (tC (.ref a)) := pe_glob hg h rfl hd
end

/-! ### heaps: F what is fixed, H all -/
structure Gm (M : List Addr) (F H F' H' : Hp) : Prop where
  f : Ex F F'
  s : Ex F' H'
  h : ∀ a o, a ∉ M → H a = some o → H' a = some o
  n : ∀ a o, H a = some o → F a = none → F' a = none
  m : ∀ a o, H a = some o → ∃ o', H' a = some o'
section
variable {M : List Addr} {F H F1 H1 F2 H2 : Hp}
theorem Gm.refl (e : Ex F H) : Gm M F H F H := ⟨Ex.refl _, e, fun _ _ _ h => h, fun _ _ _ h => h, fun _ o h => ⟨o, h⟩⟩
theorem Gm.trans (a : Gm M F H F1 H1) (b : Gm M F1 H1 F2 H2) : Gm M F H F2 H2 :=
  ⟨a.f.trans b.f, b.s, fun x o hx h => b.h x o hx (a.h x o hx h), fun x o h hf => by
    obtain ⟨o', h'⟩ := a.m x o h
    exact b.n x o' h' (a.n x o h hf), fun x o h => by
    obtain ⟨o', h'⟩ := a.m x o h
    exact b.m x o' h'⟩
theorem Gm.up (a : Gm [] F H F1 H1) : Gm M F H F1 H1 := ⟨a.f, a.s, fun x o _ h => a.h x o (by simp) h, a.n, a.m⟩
/-- an owned object of the caller's that the callee leaves -/
theorem Gm.own (a : Gm M F H F1 H1) {p : Addr} {o : HO} (hp : p ∉ M) (h : H p = some o) (f : F p = none) : H1 p = some o ∧ F1 p = none := ⟨a.h p o hp h, a.n p o h f⟩
theorem Gm.fresh (a : Gm M F H F1 H1) {p : Addr} (h : H1 p = none) : H p = none := by
  cases e : H p with
  | none => rfl
  | some o =>
    obtain ⟨o', h'⟩ := a.m p o e
    rw [h] at h'
    cases h'
/-- a new fixed object -/
theorem Gm.new (e : Ex F H) {p : Addr} {o : HO} (h : H p = none) : Gm M F H (upd F p o) (upd H p o) := by
  have hf : F p = none := by
    cases q : F p with
    | none => rfl
    | some u => rw [e p u q] at h; cases h
  refine ⟨Ex.new hf, fun a u ha => ?_, fun a u _ ha => ?_, fun a u ha hn => ?_, fun a u ha => ?_⟩
  · by_cases q : a = p
    · subst q; rw [upd_same] at ha ⊢; exact ha
    · rw [upd_ne q] at ha ⊢; exact e a u ha
  · rw [upd_ne (ne_of_none ha h)]; exact ha
  · rw [upd_ne (ne_of_none ha h)]; exact hn
  · exact ⟨u, by rw [upd_ne (ne_of_none ha h)]; exact ha⟩
/-- a new object that may change -/
theorem Gm.newM (e : Ex F H) {p : Addr} {o : HO} (h : H p = none) : Gm M F H F (upd H p o) := by
  refine ⟨Ex.refl _, fun a u ha => ?_, fun a u _ ha => ?_, fun a u ha hn => hn, fun a u ha => ?_⟩
  · rw [upd_ne (ne_of_none (e a u ha) h)]; exact e a u ha
  · rw [upd_ne (ne_of_none ha h)]; exact ha
  · exact ⟨u, by rw [upd_ne (ne_of_none ha h)]; exact ha⟩
/-- an own object changes -/
theorem Gm.put (e : Ex F H) {p : Addr} {o u : HO} (h : H p = some u) (hf : F p = none) : Gm (p :: M) F H F (upd H p o) := by
  refine ⟨Ex.refl _, fun a u ha => ?_, fun a u hM ha => ?_, fun a u ha hn => hn, fun a u ha => ?_⟩
  · have q : a ≠ p := fun q => by rw [q, hf] at ha; cases ha
    rw [upd_ne q]; exact e a u ha
  · have q : a ≠ p := fun q => hM (by rw [q]; simp)
    rw [upd_ne q]; exact ha
  · by_cases q : a = p
    · subst q; exact ⟨o, upd_same⟩
    · exact ⟨u, by rw [upd_ne q]; exact ha⟩
/-- a change of an object that is younger than F0 H0 -/
theorem Gm.putYoung {F0 H0 : Hp} (g : Gm M F0 H0 F H) {p : Addr} {o u : HO} (h : H p = some u) (hf : F p = none) (h0 : H0 p = none) : Gm M F0 H0 F (upd H p o) := by
  refine ⟨g.f, fun a u ha => ?_, fun a u hM ha => ?_, g.n, fun a u ha => ?_⟩
  · have q : a ≠ p := fun q => by rw [q, hf] at ha; cases ha
    rw [upd_ne q]; exact g.s a u ha
  · have q : a ≠ p := fun q => by rw [q, h0] at ha; cases ha
    rw [upd_ne q]; exact g.h a u hM ha
  · by_cases q : a = p
    · subst q; exact ⟨o, upd_same⟩
    · obtain ⟨o', h'⟩ := g.m a u ha
      exact ⟨o', by rw [upd_ne q]; exact h'⟩
/-- an own young object is fixed -/
theorem Gm.fix {F0 H0 : Hp} (g : Gm M F0 H0 F H) {p : Addr} {o : HO} (h : H p = some o) (hf : F p = none) (h0 : H0 p = none) : Gm M F0 H0 (upd F p o) H := by
  refine ⟨fun a u ha => ?_, fun a u ha => ?_, g.h, fun a u ha hn => ?_, g.m⟩
  · have q : a ≠ p := fun q => by
      have z := g.f a u ha
      rw [q, hf] at z; cases z
    rw [upd_ne q]; exact g.f a u ha
  · by_cases q : a = p
    · subst q; rw [upd_same] at ha; rw [h]; exact ha
    · rw [upd_ne q] at ha; exact g.s a u ha
  · have q : a ≠ p := fun q => by rw [q, h0] at ha; cases ha
    rw [upd_ne q]; exact g.n a u ha hn
end

/-- what follows an answer -/
def Ret (M : List Addr) (F H : Hp) (S : Hp → Hp → V → Prop) (Q : VK) : Prop := ∀ v F' H', Gm M F H F' H' → S F' H' v → Q v H'
theorem Ret.then_ {M : List Addr} {F H F1 H1 : Hp} {S : Hp → Hp → V → Prop} {Q : VK} (k : Ret M F H S Q) (g : Gm M F H F1 H1) : Ret M F1 H1 S Q := fun v F' H' g' s => k v F' H' (g.trans g') s

/-! ### data -/
mutual
inductive Dq (K : PySem.W.Frag) (H : Hp) : V → PyData → Prop
  | non : Dq K H .non .none
  | bl (b : Bool) : Dq K H (.bl b) (.bool b)
  | int (i : Int) : Dq K H (.int i) (.int i)
  | str (x : Str) : Dq K H (.str x) (.str x)
  | lst {a : Addr} {xs : List V} {ds : List PyData} : H a = some (.lst xs) → DqAll K H xs ds → Dq K H (.ref a) (.list ds)
  | tup {a : Addr} {xs : List V} {ds : List PyData} : SqT K H a xs → DqAll K H xs ds → Dq K H (.ref a) (.tuple ds)
inductive DqAll (K : PySem.W.Frag) (H : Hp) : List V → List PyData → Prop
  | nil : DqAll K H [] []
  | cons {v : V} {vs : List V} {d : PyData} {ds : List PyData} : Dq K H v d → DqAll K H vs ds → DqAll K H (v :: vs) (d :: ds)
end
section
variable {K : PySem.W.Frag} {F F' H H' : Hp}
mutual
theorem dp_mono (e : Ex F F') : ∀ (d : PyData) (v : V), Dq K F v d → Dq K F' v d
  | .none, _, .non => .non
  | .bool _, _, .bl b => .bl b
  | .int _, _, .int i => .int i
  | .str _, _, .str x => .str x
  | .list ds, _, .lst h a => .lst (e _ _ h) (dpAll_mono e ds _ a)
  | .tuple ds, _, .tup h a => .tup (ex_t e h) (dpAll_mono e ds _ a)
  | .dict _, _, h => by cases h
theorem dpAll_mono (e : Ex F F') : ∀ (ds : List PyData) (vs : List V), DqAll K F vs ds → DqAll K F' vs ds
  | [], _, .nil => .nil
  | d :: ds, _, .cons h a => .cons (dp_mono e d _ h) (dpAll_mono e ds _ a)
end
mutual
theorem dq_dp : ∀ (d : PyData) (v : V), Dq K F v d → Dp K F v d
  | .none, _, .non => .non
  | .bool _, _, .bl b => .bl b
  | .int _, _, .int i => .int i
  | .str _, _, .str x => .str x
  | .list ds, _, .lst h a => .lst (sq_of h) (dqAll_dp ds _ a)
  | .tuple ds, _, .tup h a => .tup h (dqAll_dp ds _ a)
  | .dict _, _, h => by cases h
theorem dqAll_dp : ∀ (ds : List PyData) (vs : List V), DqAll K F vs ds → DpAll K F vs ds
  | [], _, .nil => .nil
  | d :: ds, _, .cons h a => .cons (dq_dp d _ h) (dqAll_dp ds _ a)
end
theorem _root_.Wk.Dq.dp {v : V} {d : PyData} (h : Dq K F v d) (e : Ex F F') : Dp K F' v d := dq_dp d v (dp_mono e d v h)
theorem _root_.Wk.Dq.up {v : V} {d : PyData} (h : Dq K F v d) (e : Ex F F') : Dq K F' v d := dp_mono e d v h
theorem _root_.Wk.DqAll.up {v : List V} {d : List PyData} (h : DqAll K F v d) (e : Ex F F') : DqAll K F' v d := dpAll_mono e d v h
theorem _root_.Wk.DqAll.len {vs : List V} {ds : List PyData} (h : DqAll K F vs ds) : vs.length = ds.length := by
  induction ds generalizing vs with
  | nil => cases h; rfl
  | cons d ds ih => cases h with | cons h a => simp [ih a]
theorem _root_.Wk.DqAll.get {vs : List V} {ds : List PyData} (h : DqAll K F vs ds) : ∀ {i : Nat} {d : PyData}, ds[i]? = some d → ∃ v, vs[i]? = some v ∧ Dq K F v d := by
  induction ds generalizing vs with
  | nil => intro i d e; simp at e
  | cons d ds ih =>
    cases h with
    | cons h a =>
      intro i x e
      cases i with
      | zero => simp at e; subst e; exact ⟨_, rfl, h⟩
      | succ i => simpa using ih a (by simpa using e)
theorem _root_.Wk.DqAll.getV {vs : List V} {ds : List PyData} (h : DqAll K F vs ds) : ∀ {i : Nat} {v : V}, vs[i]? = some v → ∃ d, ds[i]? = some d ∧ Dq K F v d := by
  induction ds generalizing vs with
  | nil => cases h; intro i d e; simp at e
  | cons d ds ih =>
    cases h with
    | cons h a =>
      intro i x e
      cases i with
      | zero => simp at e; subst e; exact ⟨_, rfl, h⟩
      | succ i => simpa using ih a (by simpa using e)
theorem _root_.Wk.DqAll.app {vs ws : List V} {ds es : List PyData} (h : DqAll K F vs ds) (h2 : DqAll K F ws es) : DqAll K F (vs ++ ws) (ds ++ es) := by
  induction ds generalizing vs with
  | nil => cases h; exact h2
  | cons d ds ih => cases h with | cons h a => exact .cons h (ih a)
theorem _root_.Wk.DqAll.take {vs : List V} {ds : List PyData} (h : DqAll K F vs ds) : ∀ n, DqAll K F (vs.take n) (ds.take n) := by
  induction ds generalizing vs with
  | nil => cases h; intro n; simp; exact .nil
  | cons d ds ih =>
    cases h with
    | cons h a =>
      intro n
      cases n with
      | zero => exact .nil
      | succ n => exact .cons h (ih a n)
theorem _root_.Wk.DqAll.drop {vs : List V} {ds : List PyData} (h : DqAll K F vs ds) : ∀ n, DqAll K F (vs.drop n) (ds.drop n) := by
  induction ds generalizing vs with
  | nil => cases h; intro n; simp; exact .nil
  | cons d ds ih =>
    cases h with
    | cons h a =>
      intro n
      cases n with
      | zero => exact .cons h a
      | succ n => exact ih a n
theorem dp_int {v : V} {i : Int} (h : Dq K F v (.int i)) : v = .int i := by cases h; rfl
theorem dp_bl {v : V} {b : Bool} (h : Dq K F v (.bool b)) : v = .bl b := by cases h; rfl
theorem dp_non {v : V} (h : Dq K F v .none) : v = .non := by cases h; rfl
theorem dp_str {v : V} {x : Str} (h : Dq K F v (.str x)) : v = .str x := by cases h; rfl
theorem dp_lst {v : V} {ds : List PyData} (h : Dq K F v (.list ds)) : ∃ p xs, v = .ref p ∧ F p = some (.lst xs) ∧ DqAll K F xs ds := by
  cases h with | lst h a => exact ⟨_, _, rfl, h, a⟩
theorem dp_tup {v : V} {ds : List PyData} (h : Dq K F v (.tuple ds)) : ∃ p xs, v = .ref p ∧ SqT K F p xs ∧ DqAll K F xs ds := by
  cases h with | tup h a => exact ⟨_, _, rfl, h, a⟩
theorem dp_tup2 {v : V} {d e : PyData} (h : Dq K F v (.tuple [d, e])) : ∃ p x y, v = .ref p ∧ SqT K F p [x, y] ∧ Dq K F x d ∧ Dq K F y e := by
  obtain ⟨p, xs, rfl, hs, a⟩ := dp_tup h
  cases a with | cons h1 a => cases a with | cons h2 a => cases a; exact ⟨p, _, _, rfl, hs, h1, h2⟩
theorem dp_tup3 {v : V} {d e f : PyData} (h : Dq K F v (.tuple [d, e, f])) : ∃ p x y z, v = .ref p ∧ SqT K F p [x, y, z] ∧ Dq K F x d ∧ Dq K F y e ∧ Dq K F z f := by
  obtain ⟨p, xs, rfl, hs, a⟩ := dp_tup h
  cases a with | cons h1 a => cases a with | cons h2 a => cases a with | cons h3 a => cases a; exact ⟨p, _, _, _, rfl, hs, h1, h2, h3⟩
end

/-! ### new tuples, new lists -/
section
variable {K : PySem.W.Frag} {M : List Addr} {F H : Hp} {Q : VK} {xs : List V} {ds : List PyData}
theorem new_tup (e : Ex F H) (a : DqAll K F xs ds) (hl : xs.length ≤ 100000) (k : Ret M F H (fun F' _ v => Dq K F' v (.tuple ds)) Q) : xs.length ≤ sizeLine ∧ ∀ p, H p = none → Q (.ref p) (upd H p (.tup xs)) :=
  ⟨sz_of hl, fun p hp => by
    have g : Gm M F H (upd F p (.tup xs)) (upd H p (.tup xs)) := Gm.new e hp
    exact k _ _ _ g (.tup (st_of upd_same) (a.up g.f))⟩
theorem new_lst (e : Ex F H) (a : DqAll K F xs ds) (hl : xs.length ≤ 100000) (k : Ret M F H (fun F' _ v => Dq K F' v (.list ds)) Q) : xs.length ≤ sizeLine ∧ ∀ p, H p = none → Q (.ref p) (upd H p (.lst xs)) :=
  ⟨sz_of hl, fun p hp => by
    have g : Gm M F H (upd F p (.lst xs)) (upd H p (.lst xs)) := Gm.new e hp
    exact k _ _ _ g (.lst upd_same (a.up g.f))⟩
end

/-! ### encoders -/
def eN (_ : Unit) : PyData := .none
def e2 {α β : Type} (f : α → PyData) (g : β → PyData) (p : α × β) : PyData := .tuple [f p.1, g p.2]
def e1 {α : Type} (f : α → PyData) (p : α) : PyData := .tuple [f p]
def e3 {α β γ : Type} (f : α → PyData) (g : β → PyData) (h : γ → PyData) (p : α × β × γ) : PyData := .tuple [f p.1, g p.2.1, h p.2.2]
def eL {α : Type} (f : α → PyData) (l : List α) : PyData := .list (l.map f)
def eV {α : Type} (f : α → PyData) (l : List α) : PyData := .tuple (l.map f)
def eO {α : Type} (f : α → PyData) (o : Option α) : PyData := match o with
  | none => .none
  | some a => f a
/-- data of a depth at most n whose equality is that of the values -/
structure Sh {α : Type} [DecidableEq α] (f : α → PyData) (n : Nat) : Prop where
  lay : ∀ a, (f a).canLay0 = true
  dep : ∀ a, (f a).depth ≤ n
  eq : ∀ a b, PyData.eqv (f a) (f b) = decide (a = b)
section
variable {α β γ : Type} [DecidableEq α] [DecidableEq β] [DecidableEq γ] {f : α → PyData} {g : β → PyData} {h : γ → PyData} {n m k : Nat}
theorem Sh.shaped (s : Sh f n) (hn : n ≤ 64 := by decide) (a : α) : SeqAt.shaped (f a) = true := by
  unfold SeqAt.shaped
  rw [s.lay a, Bool.true_and]
  exact decide_eq_true (Nat.le_trans (s.dep a) hn)
theorem sh_int : Sh PyData.int 0 := ⟨fun _ => by simp [PyData.canLay0], fun _ => by simp [PyData.depth], fun a b => by simp only [PyData.eqv]; exact Bool.eq_iff_iff.mpr (by simp)⟩
theorem sh_bool : Sh PyData.bool 0 := ⟨fun _ => by simp [PyData.canLay0], fun _ => by simp [PyData.depth], fun a b => by simp only [PyData.eqv]; exact Bool.eq_iff_iff.mpr (by simp)⟩
theorem sh_n : Sh eN 0 := ⟨fun _ => by simp [eN, PyData.canLay0], fun _ => by simp [eN, PyData.depth], fun a b => by simp [eN, PyData.eqv]⟩
theorem sh_e2 (a : Sh f n) (b : Sh g m) : Sh (e2 f g) (max n m + 1) := ⟨fun x => by simp [e2, PyData.canLay0, PyData.canLayAll0, a.lay, b.lay], fun x => by
    have := a.dep x.1
    have := b.dep x.2
    simp [e2, PyData.depth, PyData.depthAll]
    omega, fun x y => by
    obtain ⟨x1, x2⟩ := x
    obtain ⟨y1, y2⟩ := y
    simp only [e2, PyData.eqv, PyData.eqvAll, a.eq, b.eq]
    exact Bool.eq_iff_iff.mpr (by simp)⟩
theorem sh_e3 (a : Sh f n) (b : Sh g m) (c : Sh h k) : Sh (e3 f g h) (max (max n m) k + 1) := ⟨fun x => by simp [e3, PyData.canLay0, PyData.canLayAll0, a.lay, b.lay, c.lay], fun x => by
    have := a.dep x.1
    have := b.dep x.2.1
    have := c.dep x.2.2
    simp [e3, PyData.depth, PyData.depthAll]
    omega, fun x y => by
    obtain ⟨x1, x2, x3⟩ := x
    obtain ⟨y1, y2, y3⟩ := y
    simp only [e3, PyData.eqv, PyData.eqvAll, a.eq, b.eq, c.eq]
    exact Bool.eq_iff_iff.mpr (by simp)⟩
theorem lay_map (a : Sh f n) : ∀ l : List α, PyData.canLayAll0 (l.map f) = true
  | [] => by simp [PyData.canLayAll0]
  | x :: l => by simp [PyData.canLayAll0, a.lay, lay_map a l]
theorem dep_map (a : Sh f n) : ∀ l : List α, PyData.depthAll (l.map f) ≤ n
  | [] => by simp [PyData.depthAll]
  | x :: l => by
    have := a.dep x
    have := dep_map a l
    simp [PyData.depthAll]
    omega
theorem eqv_map (a : Sh f n) : ∀ l r : List α, PyData.eqvAll (l.map f) (r.map f) = decide (l = r)
  | [], [] => by simp [PyData.eqvAll]
  | [], _ :: _ => by simp [PyData.eqvAll]
  | _ :: _, [] => by simp [PyData.eqvAll]
  | x :: l, y :: r => by
    simp only [List.map_cons, PyData.eqvAll, a.eq, eqv_map a l r]
    exact Bool.eq_iff_iff.mpr (by simp)
theorem sh_eL (a : Sh f n) : Sh (eL f) (n + 1) := ⟨fun l => by simp [eL, PyData.canLay0, lay_map a l], fun l => by
    have := dep_map a l
    simp [eL, PyData.depth]
    omega, fun l r => by simp only [eL, PyData.eqv]; exact eqv_map a l r⟩
theorem sh_eV (a : Sh f n) : Sh (eV f) (n + 1) := ⟨fun l => by simp [eV, PyData.canLay0, lay_map a l], fun l => by
    have := dep_map a l
    simp [eV, PyData.depth]
    omega, fun l r => by simp only [eV, PyData.eqv]; exact eqv_map a l r⟩
end
/-! == and != of such data -/
section
variable {X : Cx} {α : Type} [DecidableEq α] {f : α → PyData} {n : Nat}
def rEqM (K : PySem.W.Frag) (f : α → PyData) : R2 := fun x y H Q => ∃ a b : α, Dp K H x (f a) ∧ Dp K H y (f b) ∧ Q (.bl (decide (a = b))) H
def rNeM (K : PySem.W.Frag) (f : α → PyData) : R2 := fun x y H Q => ∃ a b : α, Dp K H x (f a) ∧ Dp K H y (f b) ∧ Q (.bl (!decide (a = b))) H
theorem op_eqM (s : Sh f n) (hu : X.A.units + 64 < cLine) (hn : n ≤ 64 := by decide) : OpR X (compareOp .Eq) (rEqM X.K f) := by
  intro pins st σ H x y v u Q I rx ry h
  obtain ⟨a, b, ha, hb, q⟩ := h
  exact op_eqD hu pins st σ H x y v u Q I rx ry ⟨f a, f b, ha, hb, s.shaped hn a, s.shaped hn b, by rw [s.eq]; exact q⟩
theorem op_neM (s : Sh f n) (hu : X.A.units + 64 < cLine) (hn : n ≤ 64 := by decide) : OpR X (compareOp .NotEq) (rNeM X.K f) := by
  intro pins st σ H x y v u Q I rx ry h
  obtain ⟨a, b, ha, hb, q⟩ := h
  exact op_neD hu pins st σ H x y v u Q I rx ry ⟨f a, f b, ha, hb, s.shaped hn a, s.shaped hn b, by rw [s.eq]; exact q⟩
end
end Wk

set_option Elab.async false
set_option linter.all false
set_option maxRecDepth 100000
set_option maxHeartbeats 4000000
namespace Wk
open PySem L2 Evl

/-! ### defs that are known -/
structure Kn (P : Program) (w : World) (K : PySem.W.Frag) (mg : Str → Option Value) (base : Heap) (x : Str) (k : Nat) (ps : List Str) (sp : Sp) : Prop where
  ex : ∃ f fd, FnOk P w K mg base CX0 k f fd ps sp ∧ mg x = some (.ref f) ∧ PySem.W.keepIn K (.ref f) = true ∧ Binds K fd ps []
section
variable {X : Cx} {x : Str} {k : Nat} {ps : List Str} {sp : Sp} {p pos : Pos} {e : Expr} {es : List Expr} {t : TA}
theorem pe_kn (G : Kn X.prog X.w X.K X.mg X.base x k ps sp) (hr : Room k X.A) (ha : PA X (e :: es) t) (hg : Gl X x := by rfl) (hdb : (x == ("__debug__" : Str)) = false := by decide)
    (he : starEach (e :: es) X.env = (false, eval e X.env) :: starEach es X.env := by rfl) (hpl : (backTo pos (starEach es X.env)).any (·.1) = false := by rfl) : PE X (.Call (.Name x p) (e :: es) [] pos) (tCall sp [] E0 t) := by
  obtain ⟨f, fd, F, hm, hk, hb⟩ := G.ex
  exact pe_call F hr hg hm hk hb .nil pass0 ha hdb he hpl
theorem pe_kn0 (G : Kn X.prog X.w X.K X.mg X.base x k ps sp) (hr : Room k X.A) (hg : Gl X x := by rfl) (hdb : (x == ("__debug__" : Str)) = false := by decide) : PE X (.Call (.Name x p) [] [] pos) (tCall sp [] E0 tNil) := by
  obtain ⟨f, fd, F, hm, hk, hb⟩ := G.ex
  exact pe_call0 F hr hg hm hk hb .nil pass0 hdb
end

/-! ### the row of draws -/
structure Rw where
  pos : Int
  seed : Int
  left : Int
/-- the row at ra: the script at sc, ints n -/
def RowAt (K : PySem.W.Frag) (sc ra : Addr) (scr : List Int) (F H : Hp) (st : Rw) : Prop :=
  H ra = some (.lst [.ref sc, .int st.pos, .int st.seed, .int st.left]) ∧ F ra = none ∧ SqL K F sc (scr.map V.int)
theorem RowAt.keep {K : PySem.W.Frag} {sc ra : Addr} {scr : List Int} {F H F' H' : Hp} {st : Rw} (w : RowAt K sc ra scr F H st) (g : Gm [] F H F' H') : RowAt K sc ra scr F' H' st :=
  ⟨(g.own (by simp) w.1 w.2.1).1, (g.own (by simp) w.1 w.2.1).2, ex_l g.f w.2.2⟩

/-! ### loops -/
inductive Fl (R S : Type) where
  | go (s : S)
  | brk (s : S)
  | ret (r : R)
def foldM {α S : Type} (f : S → α → Mm S) : S → List α → Mm S
  | s, [] => .ok s
  | s, x :: xs => (f s x).bd fun s' => foldM f s' xs
/-- a loop that may be left -/
def foldL {α R S : Type} (f : S → α → Mm (Fl R S)) : S → List α → Mm (Fl R S)
  | s, [] => .ok (.go s)
  | s, x :: xs => (f s x).bd fun o => match o with
    | .go s' => foldL f s' xs
    | .brk s' => .ok (.go s')
    | .ret r => .ok (.ret r)
def Fl.el {R S β : Type} (o : Fl R S) (go : S → Mm β) (ret : R → Mm β) : Mm β := match o with
  | .go s => go s
  | .brk s => go s
  | .ret r => ret r
def foldW {S : Type} (c : S → Mm Bool) (f : S → Mm S) : Nat → S → Mm S
  | 0, _ => .bad
  | n + 1, s => (c s).bd fun b => match b with
    | true => (f s).bd fun s' => foldW c f n s'
    | false => .ok s
theorem post_assoc {α β γ : Type} {m : Mm α} {f : α → Mm β} {g : β → Mm γ} {p : γ → Prop} {q : Er → Prop} (h : Post ((m.bd f).bd g) p q) : Post (m.bd fun a => (f a).bd g) p q := by
  cases m <;> exact ⟨h.h⟩
section
variable {K : PySem.W.Frag} {M : List Addr} {F H : Hp} {σ : L2.St} {D : Ends} {g : TG} {tb : TS} {α β S : Type} {xs : List V} {l : List α} {step : S → α → Mm S} {rest : S → Mm β} {ok : β → Prop} {ex : Er → Prop} {s0 : S} {J : It} {n : Nat} {G : Hp → Prop} {Y : Nat → Hp → V → Hp → Prop}
/-- a for over anything that walks, no way out but by its end; Z: what a turn finds of the i-th item -/
theorem for_mir (w : Walk J n G Y) (I : S → Hp → Hp → L2.St → Prop) (k : Post ((foldM step s0 l).bd rest) ok ex) (e : Ex F H) (h0 : I s0 F H σ) (hn : l.length = n) (hG : ∀ F' H', Gm M F H F' H' → G H')
    (hb : ∀ i s x v σ' F' H' H'' , Gm M F H F' H' → I s F' H' σ' → l[i]? = some x → Y i H' v H'' → ∀ nx : L2.St → Hp → Prop,
      Post (step s x) (fun s' => ∀ σ2 F2 H2, Gm M F H F2 H2 → I s' F2 H2 σ2 → nx σ2 H2) ex → g v σ' H'' fun σ2 H2 => tb { D with nx := nx, ct := nx, bk := D.nx } σ2 H2)
    (kk : ∀ s σ' F' H', Gm M F H F' H' → I s F' H' σ' → Post (rest s) ok ex → D.nx σ' H') :
    ∃ W : Nat → Nat → L2.St → Hp → Prop, (∃ m, W 0 m σ H) ∧ ∀ i m σ H, W i m σ H →
      (J.stop i H ∧ D.nx σ H) ∨ (J.go i H ∧ ∃ N : L2.St → Hp → Prop, (∀ σ' H', N σ' H' → ∃ m', m' < m ∧ W (i + 1) m' σ' H') ∧ ∀ x H', J.yld i H x H' → g x σ H' fun σ2 H2 => tb { D with nx := N, ct := N, bk := D.nx } σ2 H2) := by
  refine for_it w (fun i σ' H' => ∃ s F', Gm M F H F' H' ∧ I s F' H' σ' ∧ Post ((foldM step s (l.drop i)).bd rest) ok ex) ⟨s0, F, Gm.refl e, h0, k⟩ (fun i σ' H' _ ⟨s, F', g', _, _⟩ => hG F' H' g') ?_ ?_
  · rintro i v σ' H' H'' hi ⟨s, F', g', i', k'⟩ y
    have hl : i < l.length := by omega
    have e1 : l.drop i = l[i] :: l.drop (i + 1) := List.drop_eq_getElem_cons hl
    rw [e1] at k'
    have k2 := post_bd (post_assoc k')
    exact hb i s l[i] v σ' F' H' H'' g' i' (List.getElem?_eq_getElem hl) y _ (k2.mono (fun s' q σ2 F2 H2 g2 i2 => ⟨s', F2, g2, i2, q⟩) fun _ z => z)
  · rintro σ' H' ⟨s, F', g', i', k'⟩
    rw [← hn, List.drop_length] at k'
    exact kk s σ' F' H' g' i' ⟨k'.h⟩
/-- the same with ways out: brk, ret -/
theorem for_mirL {R : Type} {stepL : S → α → Mm (Fl R S)} {rest : S → Mm β} {ret : R → Mm β} (w : Walk J n G Y) (I : S → Hp → Hp → L2.St → Prop) (k : Post ((foldL stepL s0 l).bd fun o => o.el rest ret) ok ex) (e : Ex F H) (h0 : I s0 F H σ) (hn : l.length = n) (hG : ∀ F' H', Gm M F H F' H' → G H')
    (hb : ∀ i s x v σ' F' H' H'' , Gm M F H F' H' → I s F' H' σ' → l[i]? = some x → Y i H' v H'' → ∀ nx : L2.St → Hp → Prop,
      Post (stepL s x) (fun o => match o with
        | .go s' => ∀ σ2 F2 H2, Gm M F H F2 H2 → I s' F2 H2 σ2 → nx σ2 H2
        | .brk s' => ∀ σ2 F2 H2, Gm M F H F2 H2 → I s' F2 H2 σ2 → D.nx σ2 H2
        | .ret r => Post (ret r) ok ex) ex → g v σ' H'' fun σ2 H2 => tb { D with nx := nx, ct := nx, bk := D.nx } σ2 H2)
    (kk : ∀ s σ' F' H', Gm M F H F' H' → I s F' H' σ' → Post (rest s) ok ex → D.nx σ' H') :
    ∃ W : Nat → Nat → L2.St → Hp → Prop, (∃ m, W 0 m σ H) ∧ ∀ i m σ H, W i m σ H →
      (J.stop i H ∧ D.nx σ H) ∨ (J.go i H ∧ ∃ N : L2.St → Hp → Prop, (∀ σ' H', N σ' H' → ∃ m', m' < m ∧ W (i + 1) m' σ' H') ∧ ∀ x H', J.yld i H x H' → g x σ H' fun σ2 H2 => tb { D with nx := N, ct := N, bk := D.nx } σ2 H2) := by
  refine for_it w (fun i σ' H' => ∃ s F', Gm M F H F' H' ∧ I s F' H' σ' ∧ Post ((foldL stepL s (l.drop i)).bd fun o => o.el rest ret) ok ex) ⟨s0, F, Gm.refl e, h0, k⟩ (fun i σ' H' _ ⟨s, F', g', _, _⟩ => hG F' H' g') ?_ ?_
  · rintro i v σ' H' H'' hi ⟨s, F', g', i', k'⟩ y
    have hl : i < l.length := by omega
    have e1 : l.drop i = l[i] :: l.drop (i + 1) := List.drop_eq_getElem_cons hl
    rw [e1] at k'
    have k2 := post_bd (post_assoc k')
    refine hb i s l[i] v σ' F' H' H'' g' i' (List.getElem?_eq_getElem hl) y _ (k2.mono (fun o q => ?_) fun _ z => z)
    cases o with
    | go s' => exact fun σ2 F2 H2 g2 i2 => ⟨s', F2, g2, i2, ⟨q.h⟩⟩
    | brk s' => exact fun σ2 F2 H2 g2 i2 => kk s' σ2 F2 H2 g2 i2 ⟨q.h⟩
    | ret r => exact ⟨q.h⟩
  · rintro σ' H' ⟨s, F', g', i', k'⟩
    rw [← hn, List.drop_length] at k'
    exact kk s σ' F' H' g' i' ⟨k'.h⟩
/-- a while -/
theorem while_mir {c : TT} {cM : S → Mm Bool} {bM : S → Mm S} {N : Nat} (I : S → Hp → Hp → L2.St → Prop) (k : Post ((foldW cM bM N s0).bd rest) ok ex) (e : Ex F H) (h0 : I s0 F H σ)
    (hc : ∀ s σ' F' H', Gm M F H F' H' → I s F' H' σ' → ∀ Q : Bool → Hp → Prop, Post (cM s) (fun b => ∀ F2 H2, Gm M F H F2 H2 → I s F2 H2 σ' → Q b H2) ex → c σ' H' Q)
    (hb : ∀ s σ' F' H', Gm M F H F' H' → I s F' H' σ' → ∀ nx : L2.St → Hp → Prop, Post (bM s) (fun s' => ∀ σ2 F2 H2, Gm M F H F2 H2 → I s' F2 H2 σ2 → nx σ2 H2) ex → tb { D with nx := nx, ct := nx, bk := D.nx } σ' H')
    (kk : ∀ s σ' F' H', Gm M F H F' H' → I s F' H' σ' → Post (rest s) ok ex → D.nx σ' H') : tWhile c tb D σ H := by
  refine ⟨fun m σ' H' => ∃ s F', Gm M F H F' H' ∧ I s F' H' σ' ∧ Post ((foldW cM bM m s).bd rest) ok ex, ⟨N, s0, F, Gm.refl e, h0, k⟩, ?_⟩
  rintro m σ' H' ⟨s, F', g', i', k'⟩
  cases m with
  | zero => exact k'.h.elim
  | succ m =>
    refine hc s σ' F' H' g' i' _ ((post_bd (post_assoc k')).mono (fun b q F2 H2 g2 i2 => ?_) fun _ z => z)
    cases b with
    | false => exact kk s σ' F2 H2 g2 i2 ⟨q.h⟩
    | true =>
      refine ⟨fun σ2 H2 => ∃ s F', Gm M F H F' H2 ∧ I s F' H2 σ2 ∧ Post ((foldW cM bM m s).bd rest) ok ex, fun σ2 H2 ⟨s', F3, z⟩ => ⟨m, Nat.lt_succ_self _, s', F3, z⟩, ?_⟩
      exact hb s σ' F2 H2 g2 i2 _ ((post_bd (post_assoc (Post.mk q.h))).mono (fun s' q' σ2 F3 H3 g3 i3 => ⟨s', F3, g3, i3, q'⟩) fun _ z => z)
end

/-! ### comprehensions -/
def noEx {α : Type} (m : Mm α) : Mm α := match m with
  | .ex _ => .bad
  | .ok a => .ok a
  | .bad => .bad
theorem post_noEx {α : Type} {m : Mm α} {p : α → Prop} {q q' : Er → Prop} (h : Post (noEx m) p q) : Post m p q' := by
  cases m with
  | ok a => exact ⟨h.h⟩
  | ex e => exact h.h.elim
  | bad => exact h.h.elim
/-- the elements in turn; a state goes through; none: left out -/
def compM {α γ S : Type} (f : S → α → Mm (Option γ × S)) : S → List α → Mm (List γ × S)
  | s, [] => .ok ([], s)
  | s, x :: xs => (f s x).bd fun o => (compM f o.2 xs).bd fun r => .ok (o.1.toList ++ r.1, r.2)
section
variable {K : PySem.W.Frag} {M : List Addr} {F H : Hp} {σ : L2.St} {g : TG} {tt : TT} {te : TE} {vs : List Nat} {α β γ S : Type} {l : List α} {f : S → α → Mm (Option γ × S)} {rest : List γ × S → Mm β} {ok : β → Prop} {ex : Er → Prop} {s0 : S} {J : It} {n : Nat} {G : Hp → Prop} {Y : Nat → Hp → V → Hp → Prop} {Q : VK}
theorem comp_post {acc : List γ} {s : S} {l : List α} {rest : List γ × S → Mm β} : ∀ {ok : β → Prop} {ex : Er → Prop} {f : S → α → Mm (Option γ × S)} {x : α},
    Post (((compM f s (x :: l)).bd fun r => rest (acc ++ r.1, r.2))) ok ex → Post (f s x) (fun o => Post ((compM f o.2 l).bd fun r => rest ((acc ++ o.1.toList) ++ r.1, r.2)) ok ex) ex := by
  intro ok ex f x h
  have h1 := post_bd (post_assoc h)
  refine h1.mono (fun o q => ?_) fun _ z => z
  have h2 := post_assoc q
  simpa only [bd_ok, List.append_assoc] using h2
/-- what a comprehension's state asks of its word: a younger object may change, may be fixed -/
structure Stab (I : S → Hp → Hp → Prop) (H : Hp) : Prop where
  put : ∀ s F' H' D xs, I s F' H' → H D = none → I s F' (upd H' D (.lst xs))
  fix : ∀ s F' H' D xs, I s F' H' → H D = none → F' D = none → I s (upd F' D (.lst xs)) H'
/-- a comprehension: enc: how an element is told -/
theorem lc_mir (w : Walk J n G Y) (en : γ → PyData) (I : S → Hp → Hp → Prop) (k : Post ((compM f s0 l).bd rest) ok ex) (e : Ex F H) (h0 : I s0 F H) (st : Stab I H) (hn : l.length = n) (hz : l.length ≤ 50000) (hG : ∀ F' H', Gm M F H F' H' → G H')
    (hM : ∀ D, H D = none → D ∉ M)
    (hb : ∀ i s x v F' H' H'', Gm M F H F' H' → I s F' H' → l[i]? = some x → Y i H' v H'' → ∀ Q : Option V → Hp → Prop,
      Post (f s x) (fun o => ∀ F2 H2 v, Gm M F' H' F2 H2 → I o.2 F2 H2 → (match o.1 with
        | some y => ∃ u, v = some u ∧ Dq K F2 u (en y)
        | none => v = none) → Q v H2) (fun _ => False) →
      g v (wipe σ vs) H'' fun σ2 H2 => wipe σ2 vs = wipe σ vs ∧ tt σ2 H2 fun b H3 => if b = true then te σ2 H3 fun y H4 => Q (some y) H4 else Q none H3)
    (hx : ∀ e, ¬ ex e)
    (kk : ∀ (r : List γ × S) v F' H', Gm M F H F' H' → I r.2 F' H' → Dq K F' v (.list (r.1.map en)) → Post (rest r) ok ex → Q v H') :
    ∀ D, H D = none → ∃ W : Nat → Nat → Hp → Prop, (∃ m, W 0 m (upd H D (.lst []))) ∧ ∀ i m H, W i m H →
      (J.stop i H ∧ Q (.ref D) H) ∨ (J.go i H ∧ ∃ Nx : Hp → Prop, (∀ H', Nx H' → ∃ m', m' < m ∧ W (i + 1) m' H') ∧ ∀ x H', J.yld i H x H' → g x (wipe σ vs) H' fun σ2 H2 => wipe σ2 vs = wipe σ vs ∧ tt σ2 H2 fun b H3 =>
        if b = true then te σ2 H3 fun y H4 => ∃ acc, H4 D = some (.lst acc) ∧ acc.length < sizeLine ∧ Nx (upd H4 D (.lst (acc ++ [y]))) else Nx H3) := by
  intro D hD
  have k0 : Post ((compM f s0 (l.drop 0)).bd fun r => rest ([] ++ r.1, r.2)) ok ex := by simpa using k
  refine lc_it w (fun i H' => ∃ (s : S) (acc : List γ) (xs : List V) (F' : Hp), Gm M F H F' H' ∧ I s F' H' ∧ H' D = some (.lst xs) ∧ F' D = none ∧ DqAll K F' xs (acc.map en) ∧ xs.length ≤ i ∧ Post ((compM f s (l.drop i)).bd fun r => rest (acc ++ r.1, r.2)) ok ex)
    ⟨s0, [], [], F, Gm.newM e hD, st.put s0 F H D _ h0 hD, upd_same, ?_, .nil, Nat.le_refl _, k0⟩ (fun i H' _ ⟨s, acc, xs, F', g', _⟩ => hG F' H' g') ?_ ?_
  · cases q : F D with
    | none => rfl
    | some u => rw [e D u q] at hD; cases hD
  · rintro i v H' H'' hi ⟨s, acc, xs, F', g', i', hL, fL, ha, hlen, k'⟩ y
    have hl : i < l.length := by omega
    have e1 : l.drop i = l[i] :: l.drop (i + 1) := List.drop_eq_getElem_cons hl
    rw [e1] at k'
    have k2 := comp_post k'
    have hDM : D ∉ M := hM D hD
    have z := hb i s l[i] v F' H' H'' g' i' (List.getElem?_eq_getElem hl) y (fun o H4 => match o with
      | some y => ∃ acc', H4 D = some (.lst acc') ∧ acc'.length < sizeLine ∧ ∃ (s : S) (acc : List γ) (xs : List V) (F' : Hp), Gm M F H F' (upd H4 D (.lst (acc' ++ [y]))) ∧ I s F' (upd H4 D (.lst (acc' ++ [y]))) ∧ (upd H4 D (.lst (acc' ++ [y]))) D = some (.lst xs) ∧ F' D = none ∧ DqAll K F' xs (acc.map en) ∧ xs.length ≤ i + 1 ∧ Post ((compM f s (l.drop (i + 1))).bd fun r => rest (acc ++ r.1, r.2)) ok ex
      | none => ∃ (s : S) (acc : List γ) (xs : List V) (F' : Hp), Gm M F H F' H4 ∧ I s F' H4 ∧ H4 D = some (.lst xs) ∧ F' D = none ∧ DqAll K F' xs (acc.map en) ∧ xs.length ≤ i + 1 ∧ Post ((compM f s (l.drop (i + 1))).bd fun r => rest (acc ++ r.1, r.2)) ok ex)
      (k2.mono (fun o q F2 H2 v2 g2 i2 hv => ?_) fun e z => (hx e z).elim)
    · exact z
    · obtain ⟨h2L, f2L⟩ := g2.own hDM hL fL
      obtain ⟨o1, o2⟩ := o
      cases o1 with
      | some y =>
        obtain ⟨u, rfl, hu⟩ := hv
        refine ⟨xs, h2L, sz_lt (by omega), o2, acc ++ [y], xs ++ [u], F2, ?_, st.put _ _ _ _ _ i2 hD, upd_same, f2L, ?_, ?_, ?_⟩
        · exact (g'.trans g2).putYoung h2L f2L hD
        · rw [List.map_append]; exact (ha.up g2.f).app (.cons hu .nil)
        · rw [List.length_append, List.length_singleton]; omega
        · simpa using q
      | none =>
        subst hv
        refine ⟨o2, acc, xs, F2, g'.trans g2, i2, h2L, f2L, ha.up g2.f, by omega, ?_⟩
        simpa using q
  · rintro H' ⟨s, acc, xs, F', g', i', hL, fL, ha, hlen, k'⟩
    rw [← hn, List.drop_length] at k'
    have up : Ex F' (upd F' D (.lst xs)) := Ex.new fL
    exact kk (acc, s) _ (upd F' D (.lst xs)) H' (g'.fix hL fL hD) (st.fix _ _ _ _ _ i' hD fL) (.lst upd_same (ha.up up)) (by simpa [compM] using k')
theorem stab_row {K : PySem.W.Frag} {sc ra : Addr} {scr : List Int} {F H : Hp} {st : Rw} (w : RowAt K sc ra scr F H st) : Stab (fun s F H => RowAt K sc ra scr F H s) H := by
  have ne : ∀ D, H D = none → ra ≠ D := fun D hD q => by
    have z := w.1
    rw [q, hD] at z
    cases z
  refine ⟨fun s F' H' D xs i hD => ⟨?_, i.2.1, i.2.2⟩, fun s F' H' D xs i hD hf => ⟨i.1, ?_, ex_l (Ex.new hf) i.2.2⟩⟩
  · rw [upd_ne (ne D hD)]; exact i.1
  · rw [upd_ne (ne D hD)]; exact i.2.1
theorem stab_t {H : Hp} : Stab (fun (_ : Unit) _ _ => True) H := ⟨fun _ _ _ _ _ _ _ => trivial, fun _ _ _ _ _ _ _ _ => trivial⟩
theorem row_notM {K : PySem.W.Frag} {sc ra : Addr} {scr : List Int} {F H : Hp} {st : Rw} (w : RowAt K sc ra scr F H st) : ∀ D, H D = none → D ∉ [ra] := fun D hD q => by
  have z := w.1
  have e : D = ra := by simpa using q
  rw [← e, hD] at z
  cases z
end
end Wk

set_option Elab.async false
set_option linter.all false
set_option maxRecDepth 100000
set_option maxHeartbeats 4000000
namespace Wk
open PySem L2 Evl
/-! ### what follows, under a name -/
def QK (Q : VK) : VK := fun v H => Q v H
def tQ (te : TE) : TE := fun σ H Q => te σ H (QK Q)
section
variable {X : Cx} {x : Expr} {te : TE} {st : Stmt} {g : TG}
theorem pe_q (h : PE X x te) : PE X x (tQ te) := ⟨fun pins s σ H Q I q => h.run pins s σ H (QK Q) I q⟩
theorem ps_q (h : PS X st (tAsg te g)) : PS X st (tAsg (tQ te) g) := ⟨fun pins s σ H D I q => h.run pins s σ H D I q⟩
end
/-! ### joins -/
section
variable {M : List Addr} {F H : Hp} {σ : L2.St} {D : Ends} {α β : Type} {c a b : Bool} {A B : Prop} {X Y : Mm β} {rest : β → Mm α} {ok : α → Prop} {ex : Er → Prop} {Q : VK} {ta tb : TE} {tu tw : TS}
theorem cs {X Y : Mm α} (k : Post (cond c X Y) ok ex) (h1 : c = true → Post X ok ex → A) (h2 : c = false → Post Y ok ex → B) : if c = true then A else B := by
  cases c with
  | true => rw [if_pos rfl]; exact h1 rfl ⟨k.h⟩
  | false => rw [if_neg Bool.false_ne_true]; exact h2 rfl ⟨k.h⟩
theorem or_j {Q : Bool → Hp → Prop} {u : TT} (hu : a = false → ∀ Q' : Bool → Hp → Prop, Q' b H → u σ H Q') (k : Q (a || b) H) : if a = true then Q true H else u σ H Q := by
  cases a with
  | true => rw [if_pos rfl]; exact k
  | false => rw [if_neg Bool.false_ne_true]; exact hu rfl Q k
theorem and_j {Q : Bool → Hp → Prop} {u : TT} (hu : a = true → ∀ Q' : Bool → Hp → Prop, Q' b H → u σ H Q') (k : Q (a && b) H) : if a = true then u σ H Q else Q false H := by
  cases a with
  | true => rw [if_pos rfl]; exact hu rfl Q k
  | false => rw [if_neg Bool.false_ne_true]; exact k
theorem orV_j {u : TE} (hu : a = false → ∀ Q' : VK, Q' (.bl b) H → u σ H Q') (k : Q (.bl (a || b)) H) : if a = true then Q (.bl true) H else u σ H Q := by
  cases a with
  | true => rw [if_pos rfl]; exact k
  | false => rw [if_neg Bool.false_ne_true]; exact hu rfl Q k
theorem andV_j {u : TE} (hu : a = true → ∀ Q' : VK, Q' (.bl b) H → u σ H Q') (k : Q (.bl (a && b)) H) : if a = true then u σ H Q else Q (.bl false) H := by
  cases a with
  | true => rw [if_pos rfl]; exact hu rfl Q k
  | false => rw [if_neg Bool.false_ne_true]; exact k
/-- the second operand wants outcomes of its own -/
theorem or_jM {Q : Bool → Hp → Prop} {u : TT} {Y : Mm Bool} {rest : Bool → Mm α} (e : Ex F H) (k : Post ((cond a (.ok true) Y).bd rest) ok ex) (hu : a = false → ∀ Q' : Bool → Hp → Prop, Post Y (fun b => ∀ F' H', Gm M F H F' H' → Q' b H') ex → u σ H Q')
    (kk : ∀ b F' H', Gm M F H F' H' → Post (rest b) ok ex → Q b H') : if a = true then Q true H else u σ H Q := by
  cases a with
  | true => rw [if_pos rfl]; exact kk true F H (Gm.refl e) ⟨k.h⟩
  | false => rw [if_neg Bool.false_ne_true]; exact hu rfl Q ((post_bd k).mono (fun b q F' H' g => kk b F' H' g q) fun _ z => z)
theorem and_jM {Q : Bool → Hp → Prop} {u : TT} {Y : Mm Bool} {rest : Bool → Mm α} (e : Ex F H) (k : Post ((cond a Y (.ok false)).bd rest) ok ex) (hu : a = true → ∀ Q' : Bool → Hp → Prop, Post Y (fun b => ∀ F' H', Gm M F H F' H' → Q' b H') ex → u σ H Q')
    (kk : ∀ b F' H', Gm M F H F' H' → Post (rest b) ok ex → Q b H') : if a = true then u σ H Q else Q false H := by
  cases a with
  | false => rw [if_neg Bool.false_ne_true]; exact kk false F H (Gm.refl e) ⟨k.h⟩
  | true => rw [if_pos rfl]; exact hu rfl Q ((post_bd k).mono (fun b q F' H' g => kk b F' H' g q) fun _ z => z)
/-- a value by a condition -/
theorem if_jM (S : β → Hp → Hp → V → Prop) (k : Post ((cond c X Y).bd rest) ok ex)
    (ha : c = true → ∀ Q' : VK, Post X (fun b => Ret M F H (S b) Q') ex → ta σ H Q') (hb : c = false → ∀ Q' : VK, Post Y (fun b => Ret M F H (S b) Q') ex → tb σ H Q')
    (kk : ∀ b v F' H', Gm M F H F' H' → S b F' H' v → Post (rest b) ok ex → Q v H') : if c = true then ta σ H Q else tb σ H Q := by
  cases c with
  | true => rw [if_pos rfl]; exact ha rfl Q ((post_bd k).mono (fun b q v F' H' g s => kk b v F' H' g s q) fun _ z => z)
  | false => rw [if_neg Bool.false_ne_true]; exact hb rfl Q ((post_bd k).mono (fun b q v F' H' g s => kk b v F' H' g s q) fun _ z => z)
/-- an if whose ways go on -/
theorem ifs_jM (I : β → Hp → Hp → L2.St → Prop) (k : Post ((cond c X Y).bd rest) ok ex)
    (ha : c = true → ∀ nx : L2.St → Hp → Prop, Post X (fun b => ∀ σ' F' H', Gm M F H F' H' → I b F' H' σ' → nx σ' H') ex → tu { D with nx := nx } σ H)
    (hb : c = false → ∀ nx : L2.St → Hp → Prop, Post Y (fun b => ∀ σ' F' H', Gm M F H F' H' → I b F' H' σ' → nx σ' H') ex → tw { D with nx := nx } σ H)
    (kk : ∀ b σ' F' H', Gm M F H F' H' → I b F' H' σ' → Post (rest b) ok ex → D.nx σ' H') : if c = true then tu D σ H else tw D σ H := by
  cases c with
  | true => rw [if_pos rfl]; exact ha rfl D.nx ((post_bd k).mono (fun b q σ' F' H' g s => kk b σ' F' H' g s q) fun _ z => z)
  | false => rw [if_neg Bool.false_ne_true]; exact hb rfl D.nx ((post_bd k).mono (fun b q σ' F' H' g s => kk b σ' F' H' g s q) fun _ z => z)
end
/-! ### items of data -/
section
variable {K : PySem.W.Frag} {F : Hp} {α : Type} {f : α → PyData} {l : List α} {vs : List V} {a : α} {i : Int}
theorem atI_at {α : Type} {xs : List α} {i : Int} {a : α} (h : atI xs i = some a) : ∃ j, ixN xs.length i = some j ∧ xs[j]? = some a := by
  unfold atI at h
  cases e : ixN xs.length i with
  | none => rw [e] at h; cases h
  | some j => rw [e] at h; exact ⟨j, rfl, h⟩
theorem dq_at (ha : DqAll K F vs (l.map f)) (h : atI l i = some a) : ∃ v, atI vs i = some v ∧ Dq K F v (f a) := by
  obtain ⟨j, hj, hg⟩ := atI_at h
  have hl : vs.length = l.length := by rw [ha.len, List.length_map]
  obtain ⟨v, hv, hd⟩ := ha.get (i := j) (d := f a) (by rw [List.getElem?_map, hg]; rfl)
  refine ⟨v, ?_, hd⟩
  unfold atI
  rw [hl, hj]
  exact hv
theorem atI_ints {l : List Int} (h : atI l i = some a') : atI (l.map V.int) i = some (V.int a') := by
  obtain ⟨j, hj, hg⟩ := atI_at h
  unfold atI
  rw [List.length_map, hj]
  show (l.map V.int)[j]? = _
  rw [List.getElem?_map, hg]
  rfl
end
/-! ### heaps, more -/
section
variable {M : List Addr} {F H F1 H1 F0 H0 : Hp}
/-- behind a loop that may change the younger object at p -/
theorem Gm.young {p : Addr} (g : Gm M F0 H0 F H) (h0 : H0 p = none) (g2 : Gm (p :: M) F H F1 H1) : Gm M F0 H0 F1 H1 :=
  ⟨g.f.trans g2.f, g2.s, fun a o hM h => g2.h a o (fun q => by
      rcases List.mem_cons.mp q with q | q
      · rw [q, h0] at h; cases h
      · exact hM q) (g.h a o hM h), fun a o h hn => by
    obtain ⟨o', h'⟩ := g.m a o h
    exact g2.n a o' h' (g.n a o h hn), fun a o h => by
    obtain ⟨o', h'⟩ := g.m a o h
    exact g2.m a o' h'⟩
theorem Gm.putIn (g : Gm M F0 H0 F H) {p : Addr} {o u : HO} (hp : p ∈ M) (h : H p = some u) (hf : F p = none) : Gm M F0 H0 F (upd H p o) := by
  refine ⟨g.f, fun a u ha => ?_, fun a u hM ha => ?_, g.n, fun a u ha => ?_⟩
  · have q : a ≠ p := fun q => by rw [q, hf] at ha; cases ha
    rw [upd_ne q]; exact g.s a u ha
  · have q : a ≠ p := fun q => hM (by rw [q]; exact hp)
    rw [upd_ne q]; exact g.h a u hM ha
  · by_cases q : a = p
    · subst q; exact ⟨o, upd_same⟩
    · obtain ⟨o', h'⟩ := g.m a u ha
      exact ⟨o', by rw [upd_ne q]; exact h'⟩
end
/-! ### built-ins by name -/
structure Bi (mg : Str → Option Value) : Prop where
  len : mg "len" = none
  int : mg "int" = none
  bool : mg "bool" = none
  str : mg "str" = none
  abs : mg "abs" = none
  sum : mg "sum" = none
  min : mg "min" = none
  max : mg "max" = none
  list : mg "list" = none
  tuple : mg "tuple" = none
  set : mg "set" = none
  dict : mg "dict" = none
  sorted : mg "sorted" = none
  range : mg "range" = none
  enumerate : mg "enumerate" = none
  zip : mg "zip" = none
  reversed : mg "reversed" = none
  isinstance : mg "isinstance" = none
end Wk

set_option Elab.async false
set_option linter.all false
set_option maxRecDepth 100000
set_option maxHeartbeats 4000000
namespace Wk
open PySem L2 Evl
theorem Gm.weak {M M' : List Addr} {F H F' H' : Hp} (g : Gm M F H F' H') (h : ∀ a, a ∈ M → a ∈ M') : Gm M' F H F' H' := ⟨g.f, g.s, fun a o hM e => g.h a o (fun q => hM (h a q)) e, g.n, g.m⟩
/-! ### ranges -/
def rangeL (lo : Int) (n : Nat) : List Int := (List.range n).map fun (i : Nat) => lo + (i : Int)
def rangeM (j : Int) : Mm (List Int) := if -(2 ^ 62) ≤ j ∧ j < 2 ^ 62 then .ok (rangeL 0 j.toNat) else .bad
def rangeM2 (i j : Int) : Mm (List Int) := if -(2 ^ 62) ≤ i ∧ i < 2 ^ 62 ∧ -(2 ^ 62) ≤ j ∧ j < 2 ^ 62 then .ok (rangeL i (j - i).toNat) else .bad
section
variable {β : Type} {r : β → Prop} {q : Er → Prop} {i j : Int} {f : List Int → Mm β}
theorem post_range (h : Post ((rangeM j).bd f) r q) : (-(2 ^ 62) ≤ j ∧ j < 2 ^ 62) ∧ Post (f (rangeL 0 j.toNat)) r q := by
  unfold rangeM at h
  split at h
  · exact ⟨‹_›, ⟨h.h⟩⟩
  · exact h.h.elim
theorem post_range2 (h : Post ((rangeM2 i j).bd f) r q) : (-(2 ^ 62) ≤ i ∧ i < 2 ^ 62 ∧ -(2 ^ 62) ≤ j ∧ j < 2 ^ 62) ∧ Post (f (rangeL i (j - i).toNat)) r q := by
  unfold rangeM2 at h
  split at h
  · exact ⟨‹_›, ⟨h.h⟩⟩
  · exact h.h.elim
end
/-! ### fors over data, one form -/
/-- what a for or a comprehension walks over, as a list of data; R: what stands of an item -/
structure Wlk (M : List Addr) (F H : Hp) (J : It) {α : Type} (l : List α) (R : Hp → V → α → Prop) : Prop where
  ex : ∃ (n : Nat) (G : Hp → Prop) (Y : Nat → Hp → V → Hp → Prop), Walk J n G Y ∧ l.length = n ∧ (∀ F' H', Gm M F H F' H' → G H') ∧
    ∀ i x v F' H' H'', Gm M F H F' H' → l[i]? = some x → Y i H' v H'' → ∃ F'', Gm [] F' H' F'' H'' ∧ R F'' v x
section
variable {K : PySem.W.Frag} {M : List Addr} {F H : Hp} {σ : L2.St} {D : Ends} {g : TG} {tb : TS} {α β S : Type} {xs ys : List V} {l : List α} {step : S → α → Mm S} {rest : S → Mm β} {ok : β → Prop} {ex : Er → Prop} {s0 : S} {J : It} {R : Hp → V → α → Prop} {en : α → PyData} {a b : Addr}
theorem wlk_list (e : Ex F H) (h : F a = some (.lst xs)) (da : DqAll K F xs (l.map en)) : Wlk M F H (Itl K a) l (fun F v x => Dq K F v (en x)) := by
  refine ⟨_, _, _, walk_list (K := K) (a := a) (xs := xs), by rw [da.len, List.length_map], fun F' H' g' => sq_of (g'.s _ _ (g'.f _ _ h)), fun i x v F' H' H'' g' hx y => ?_⟩
  obtain ⟨rfl, hv⟩ := y
  obtain ⟨d, hd, hq⟩ := (da.up g'.f).getV hv
  rw [List.getElem?_map, hx] at hd
  cases hd
  exact ⟨F', Gm.refl g'.s, hq⟩
theorem wlk_tup (e : Ex F H) (h : SqT K F a xs) (da : DqAll K F xs (l.map en)) : Wlk M F H (Itt K a) l (fun F v x => Dq K F v (en x)) := by
  refine ⟨_, _, _, walk_tup (K := K) (a := a) (xs := xs), by rw [da.len, List.length_map], fun F' H' g' => ex_t g'.s (ex_t g'.f h), fun i x v F' H' H'' g' hx y => ?_⟩
  obtain ⟨rfl, hv⟩ := y
  obtain ⟨d, hd, hq⟩ := (da.up g'.f).getV hv
  rw [List.getElem?_map, hx] at hd
  cases hd
  exact ⟨F', Gm.refl g'.s, hq⟩
theorem rangeL_at {lo : Int} {n i : Nat} {x : Int} (h : (rangeL lo n)[i]? = some x) : x = lo + i := by
  unfold rangeL at h
  rw [List.getElem?_map] at h
  cases e : (List.range n)[i]? with
  | none => rw [e] at h; cases h
  | some j =>
    rw [e] at h
    obtain ⟨h1, h2⟩ := List.getElem?_eq_some_iff.mp e
    rw [List.getElem_range] at h2
    subst h2
    exact (Option.some.inj h).symm
theorem wlk_range {lo : Int} {n : Nat} : Wlk M F H (Itr lo n) (rangeL lo n) (fun _ v x => v = V.int x) := by
  refine ⟨_, _, _, walk_range (lo := lo) (n := n), by simp [rangeL], fun _ _ _ => trivial, fun i x v F' H' H'' g' hx y => ?_⟩
  obtain ⟨rfl, hv⟩ := y
  rw [rangeL_at hx]
  exact ⟨F', Gm.refl g'.s, hv⟩
theorem wlk_rev (e : Ex F H) (h : F a = some (.lst xs)) (da : DqAll K F xs (l.map en)) : Wlk M F H (Itv K a xs.length) l.reverse (fun F v x => Dq K F v (en x)) := by
  have hl : xs.length = l.length := by rw [da.len, List.length_map]
  refine ⟨_, _, _, walk_rev (K := K) (a := a) (xs := xs), by rw [List.length_reverse, hl], fun F' H' g' => sq_of (g'.s _ _ (g'.f _ _ h)), fun i x v F' H' H'' g' hx y => ?_⟩
  obtain ⟨rfl, hv⟩ := y
  obtain ⟨d, hd, hq⟩ := (da.up g'.f).getV hv
  have hi : i < l.reverse.length := (List.getElem?_eq_some_iff.mp hx).1
  rw [List.length_reverse] at hi
  rw [List.getElem?_reverse hi] at hx
  rw [List.getElem?_map, hl, hx] at hd
  cases hd
  exact ⟨F', Gm.refl g'.s, hq⟩
/-- enumerate: the items (i, x) -/
def enumL {α : Type} (l : List α) : List (Int × α) := (rangeL 0 l.length).zip l
theorem wlk_enum (e : Ex F H) (h : F a = some (.lst xs)) (da : DqAll K F xs (l.map en)) : Wlk M F H (Ite K a) (enumL l) (fun F v x => Dq K F v (e2 PyData.int en x)) := by
  have hl : xs.length = l.length := by rw [da.len, List.length_map]
  refine ⟨_, _, _, walk_enum (K := K) (a := a) (xs := xs), by simp [enumL, rangeL, hl], fun F' H' g' => sq_of (g'.s _ _ (g'.f _ _ h)), fun i x v F' H' H'' g' hx y => ?_⟩
  obtain ⟨T, u, w, rfl, hT, rfl, h1, h2⟩ := y
  obtain ⟨d, hd, hq⟩ := (da.up g'.f).getV h2
  obtain ⟨x1, x2⟩ := x
  unfold enumL at hx
  rw [List.getElem?_zip_eq_some] at hx
  obtain ⟨hx1, hx2⟩ := hx
  have e1 := rangeL_at hx1
  simp only at e1 hx2
  rw [List.getElem?_map, hx2] at hd
  cases hd
  cases h1
  have g2 : Gm [] F' H' (upd F' T (.tup [V.int (i : Nat), w])) (upd H' T (.tup [V.int (i : Nat), w])) := Gm.new g'.s hT
  refine ⟨_, g2, .tup (st_of upd_same) (.cons ?_ (.cons (hq.up g2.f) .nil))⟩
  rw [e1, Int.zero_add]
  exact .int _
theorem wlk_zip {α' : Type} {l' : List α'} {en' : α' → PyData} (e : Ex F H) (h : F a = some (.lst xs)) (da : DqAll K F xs (l.map en)) (h' : F b = some (.lst ys)) (da' : DqAll K F ys (l'.map en')) : Wlk M F H (Itz K a b) (l.zip l') (fun F v x => Dq K F v (e2 en en' x)) := by
  have hl : xs.length = l.length := by rw [da.len, List.length_map]
  have hl' : ys.length = l'.length := by rw [da'.len, List.length_map]
  refine ⟨_, _, _, walk_zip (K := K) (a := a) (b := b) (xs := xs) (ys := ys) rfl, by simp [hl, hl'], fun F' H' g' => ⟨sq_of (g'.s _ _ (g'.f _ _ h)), sq_of (g'.s _ _ (g'.f _ _ h'))⟩, fun i x v F' H' H'' g' hx y => ?_⟩
  obtain ⟨T, u, w, rfl, hT, rfl, h1, h2⟩ := y
  obtain ⟨d, hd, hq⟩ := (da.up g'.f).getV h1
  obtain ⟨d', hd', hq'⟩ := (da'.up g'.f).getV h2
  obtain ⟨x1, x2⟩ := x
  rw [List.getElem?_zip_eq_some] at hx
  obtain ⟨hx1, hx2⟩ := hx
  simp only at hx1 hx2
  rw [List.getElem?_map, hx1] at hd
  rw [List.getElem?_map, hx2] at hd'
  cases hd
  cases hd'
  have g2 : Gm [] F' H' (upd F' T (.tup [u, w])) (upd H' T (.tup [u, w])) := Gm.new g'.s hT
  exact ⟨_, g2, .tup (st_of upd_same) (.cons (hq.up g2.f) (.cons (hq'.up g2.f) .nil))⟩
/-- a for with no way out but its end -/
theorem for_m (w : Wlk M F H J l R) (I : S → Hp → Hp → L2.St → Prop) (k : Post ((foldM step s0 l).bd rest) ok ex) (e : Ex F H) (h0 : I s0 F H σ)
    (hb : ∀ s x v σ' F1 H1 F2 H2, Gm M F H F1 H1 → I s F1 H1 σ' → Gm [] F1 H1 F2 H2 → R F2 v x → ∀ nx : L2.St → Hp → Prop,
      Post (step s x) (fun s' => ∀ σ2 F3 H3, Gm M F H F3 H3 → I s' F3 H3 σ2 → nx σ2 H3) ex → g v σ' H2 fun σ2 H3 => tb { D with nx := nx, ct := nx, bk := D.nx } σ2 H3)
    (kk : ∀ s σ' F' H', Gm M F H F' H' → I s F' H' σ' → Post (rest s) ok ex → D.nx σ' H') :
    ∃ W : Nat → Nat → L2.St → Hp → Prop, (∃ m, W 0 m σ H) ∧ ∀ i m σ H, W i m σ H →
      (J.stop i H ∧ D.nx σ H) ∨ (J.go i H ∧ ∃ N : L2.St → Hp → Prop, (∀ σ' H', N σ' H' → ∃ m', m' < m ∧ W (i + 1) m' σ' H') ∧ ∀ x H', J.yld i H x H' → g x σ H' fun σ2 H2 => tb { D with nx := N, ct := N, bk := D.nx } σ2 H2) := by
  obtain ⟨n, G, Y, w, hn, hG, hY⟩ := w.ex
  refine for_mir w I k e h0 hn hG (fun i s x v σ' F' H' H'' g' i' hx y nx k' => ?_) kk
  obtain ⟨F'', g2, r⟩ := hY i x v F' H' H'' g' hx y
  exact hb s x v σ' F' H' F'' H'' g' i' g2 r nx k'
theorem for_mL {R' : Type} {stepL : S → α → Mm (Fl R' S)} {ret : R' → Mm β} (w : Wlk M F H J l R) (I : S → Hp → Hp → L2.St → Prop) (k : Post ((foldL stepL s0 l).bd fun o => o.el rest ret) ok ex) (e : Ex F H) (h0 : I s0 F H σ)
    (hb : ∀ s x v σ' F1 H1 F2 H2, Gm M F H F1 H1 → I s F1 H1 σ' → Gm [] F1 H1 F2 H2 → R F2 v x → ∀ nx : L2.St → Hp → Prop,
      Post (stepL s x) (fun o => match o with
        | .go s' => ∀ σ2 F3 H3, Gm M F H F3 H3 → I s' F3 H3 σ2 → nx σ2 H3
        | .brk s' => ∀ σ2 F3 H3, Gm M F H F3 H3 → I s' F3 H3 σ2 → D.nx σ2 H3
        | .ret r => Post (ret r) ok ex) ex → g v σ' H2 fun σ2 H3 => tb { D with nx := nx, ct := nx, bk := D.nx } σ2 H3)
    (kk : ∀ s σ' F' H', Gm M F H F' H' → I s F' H' σ' → Post (rest s) ok ex → D.nx σ' H') :
    ∃ W : Nat → Nat → L2.St → Hp → Prop, (∃ m, W 0 m σ H) ∧ ∀ i m σ H, W i m σ H →
      (J.stop i H ∧ D.nx σ H) ∨ (J.go i H ∧ ∃ N : L2.St → Hp → Prop, (∀ σ' H', N σ' H' → ∃ m', m' < m ∧ W (i + 1) m' σ' H') ∧ ∀ x H', J.yld i H x H' → g x σ H' fun σ2 H2 => tb { D with nx := N, ct := N, bk := D.nx } σ2 H2) := by
  obtain ⟨n, G, Y, w, hn, hG, hY⟩ := w.ex
  refine for_mirL w I k e h0 hn hG (fun i s x v σ' F' H' H'' g' i' hx y nx k' => ?_) kk
  obtain ⟨F'', g2, r⟩ := hY i x v F' H' H'' g' hx y
  exact hb s x v σ' F' H' F'' H'' g' i' g2 r nx k'
end
/-! ### comprehensions, three forms -/
theorem tYes_of {σ : L2.St} {H : Hp} {Q : Bool → Hp → Prop} (h : Q true H) : tYes σ H Q := h
def GMon (g : TG) : Prop := ∀ (v : V) (σ1 : L2.St) (H1 : Hp) (Q Q' : L2.St → Hp → Prop), (∀ s h, Q s h → Q' s h) → g v σ1 H1 Q → g v σ1 H1 Q'
def GsMon (g : TGs) : Prop := ∀ (v : List V) (σ1 : L2.St) (H1 : Hp) (Q Q' : L2.St → Hp → Prop), (∀ s h, Q s h → Q' s h) → g v σ1 H1 Q → g v σ1 H1 Q'
theorem gm_name {i : Nat} : GMon (gName i) := fun _ _ _ _ _ h q => h _ _ q
theorem gms_nil : GsMon gNil := fun _ _ _ _ _ h q => ⟨q.1, h _ _ q.2⟩
theorem gms_cons {t : TG} {u : TGs} (a : GMon t) (b : GsMon u) : GsMon (gCons t u) := fun _ _ _ _ _ h q => by
  obtain ⟨v, r, e, z⟩ := q
  exact ⟨v, r, e, a _ _ _ _ _ (fun s h' z' => b _ _ _ _ _ h z') z⟩
theorem gm_tup {K : PySem.W.Frag} {n : Nat} {t : TGs} (a : GsMon t) : GMon (gTup K n t) := fun _ _ _ _ _ h q => by
  obtain ⟨p, xs, e1, e2, e3, z⟩ := q
  exact ⟨p, xs, e1, e2, e3, a _ _ _ _ _ h z⟩

def mapMm {α γ : Type} (f : α → Mm γ) : List α → Mm (List γ)
  | [] => .ok []
  | x :: xs => (f x).bd fun y => (mapMm f xs).bd fun ys => .ok (y :: ys)
def filMm {α γ : Type} (f : α → Mm (Option γ)) : List α → Mm (List γ)
  | [] => .ok []
  | x :: xs => (f x).bd fun y => (filMm f xs).bd fun ys => .ok (y.toList ++ ys)
def mapSt {α γ S : Type} (f : S → α → Mm (γ × S)) : S → List α → Mm (List γ × S)
  | s, [] => .ok ([], s)
  | s, x :: xs => (f s x).bd fun y => (mapSt f y.2 xs).bd fun ys => .ok (y.1 :: ys.1, ys.2)
theorem bd_assoc {α β γ : Type} (m : Mm α) (f : α → Mm β) (g : β → Mm γ) : (m.bd f).bd g = m.bd fun a => (f a).bd g := by cases m <;> rfl
theorem bd_id {α : Type} (m : Mm α) : m.bd Mm.ok = m := by cases m <;> rfl
theorem filMm_comp {α γ : Type} (f : α → Mm (Option γ)) : ∀ l : List α, filMm f l = (compM (fun (_ : Unit) x => (f x).bd fun o => .ok (o, ())) () l).bd fun r => .ok r.1
  | [] => rfl
  | x :: xs => by
    simp only [filMm, compM, filMm_comp f xs, bd_assoc, bd_ok]
theorem mapMm_comp {α γ : Type} (f : α → Mm γ) : ∀ l : List α, mapMm f l = (compM (fun (_ : Unit) x => (f x).bd fun o => .ok (some o, ())) () l).bd fun r => .ok r.1
  | [] => rfl
  | x :: xs => by
    simp only [mapMm, compM, mapMm_comp f xs, bd_assoc, bd_ok, Option.toList, List.cons_append, List.nil_append]
theorem mapSt_comp {α γ S : Type} (f : S → α → Mm (γ × S)) : ∀ (s : S) (l : List α), mapSt f s l = compM (fun s x => (f s x).bd fun o => .ok (some o.1, o.2)) s l
  | _, [] => rfl
  | s, x :: xs => by
    simp only [mapSt, compM, bd_assoc, bd_ok, Option.toList, List.cons_append, List.nil_append]
    congr 1
    funext o
    rw [mapSt_comp f o.2 xs]
section
variable {K : PySem.W.Frag} {M : List Addr} {F H : Hp} {σ : L2.St} {g : TG} {tt : TT} {te : TE} {vs : List Nat} {α β γ S : Type} {l : List α} {ok : β → Prop} {ex : Er → Prop} {s0 : S} {J : It} {R : Hp → V → α → Prop} {Q : VK}
theorem lc_map {f : α → Mm γ} {rest : List γ → Mm β} (w : Wlk M F H J l R) (en : γ → PyData) (k : Post ((mapMm f l).bd rest) ok ex) (e : Ex F H) (hz : l.length ≤ 50000) (hM : ∀ D, H D = none → D ∉ M)
    (hb : ∀ x v F1 H1 F2 H2, Gm M F H F1 H1 → Gm [] F1 H1 F2 H2 → R F2 v x → ∀ Q : VK, Post (f x) (fun y => Ret M F1 H1 (fun F3 _ u => Dq K F3 u (en y)) Q) (fun _ => False) →
      g v (wipe σ vs) H2 fun σ2 H3 => wipe σ2 vs = wipe σ vs ∧ te σ2 H3 Q)
    (hx : ∀ e, ¬ ex e) (kk : ∀ (r : List γ) v F' H', Gm M F H F' H' → Dq K F' v (eL en r) → Post (rest r) ok ex → Q v H') (mono : GMon g) :
    ∀ D, H D = none → ∃ W : Nat → Nat → Hp → Prop, (∃ m, W 0 m (upd H D (.lst []))) ∧ ∀ i m H, W i m H →
      (J.stop i H ∧ Q (.ref D) H) ∨ (J.go i H ∧ ∃ Nx : Hp → Prop, (∀ H', Nx H' → ∃ m', m' < m ∧ W (i + 1) m' H') ∧ ∀ x H', J.yld i H x H' → g x (wipe σ vs) H' fun σ2 H2 => wipe σ2 vs = wipe σ vs ∧ tYes σ2 H2 fun b H3 =>
        if b = true then te σ2 H3 fun y H4 => ∃ acc, H4 D = some (.lst acc) ∧ acc.length < sizeLine ∧ Nx (upd H4 D (.lst (acc ++ [y]))) else Nx H3) := by
  obtain ⟨n, G, Y, w, hn, hG, hY⟩ := w.ex
  rw [mapMm_comp, bd_assoc] at k
  refine lc_mir w en (fun _ _ _ => True) k e trivial stab_t hn hz hG hM (fun i s x v F' H' H'' g' _ hx y Q' k' => ?_) hx (fun r v F' H' g' _ d k' => kk r.1 v F' H' g' d k')
  obtain ⟨F'', g2, r⟩ := hY i x v F' H' H'' g' hx y
  refine mono _ _ _ _ _ (fun σ2 H3 z => ⟨z.1, ?_⟩) (hb x v F' H' F'' H'' g' g2 r (fun u H4 => Q' (some u) H4) ((post_bd k').mono (fun y q u F3 H3 g3 d => q.h F3 H3 _ g3 trivial ⟨u, rfl, d⟩) fun _ z => z))
  exact tYes_of (iteT z.2)
theorem lc_st {f : Rw → α → Mm (γ × Rw)} {s0 : Rw} {rest : List γ × Rw → Mm β} {sc ra : Addr} {scr : List Int} (w : Wlk [ra] F H J l R) (en : γ → PyData) (k : Post ((mapSt f s0 l).bd rest) ok ex) (e : Ex F H) (hz : l.length ≤ 50000) (h0 : RowAt K sc ra scr F H s0)
    (hb : ∀ s x v F1 H1 F2 H2, Gm [ra] F H F1 H1 → RowAt K sc ra scr F1 H1 s → Gm [] F1 H1 F2 H2 → R F2 v x → ∀ Q : VK, Post (f s x) (fun y => Ret [ra] F1 H1 (fun F3 H3 u => Dq K F3 u (en y.1) ∧ RowAt K sc ra scr F3 H3 y.2) Q) (fun _ => False) →
      g v (wipe σ vs) H2 fun σ2 H3 => wipe σ2 vs = wipe σ vs ∧ te σ2 H3 Q)
    (hx : ∀ e, ¬ ex e) (kk : ∀ (r : List γ × Rw) v F' H', Gm [ra] F H F' H' → Dq K F' v (eL en r.1) ∧ RowAt K sc ra scr F' H' r.2 → Post (rest r) ok ex → Q v H') (mono : GMon g) :
    ∀ D, H D = none → ∃ W : Nat → Nat → Hp → Prop, (∃ m, W 0 m (upd H D (.lst []))) ∧ ∀ i m H, W i m H →
      (J.stop i H ∧ Q (.ref D) H) ∨ (J.go i H ∧ ∃ Nx : Hp → Prop, (∀ H', Nx H' → ∃ m', m' < m ∧ W (i + 1) m' H') ∧ ∀ x H', J.yld i H x H' → g x (wipe σ vs) H' fun σ2 H2 => wipe σ2 vs = wipe σ vs ∧ tYes σ2 H2 fun b H3 =>
        if b = true then te σ2 H3 fun y H4 => ∃ acc, H4 D = some (.lst acc) ∧ acc.length < sizeLine ∧ Nx (upd H4 D (.lst (acc ++ [y]))) else Nx H3) := by
  obtain ⟨n, G, Y, w, hn, hG, hY⟩ := w.ex
  rw [mapSt_comp] at k
  refine lc_mir w en (fun s F H => RowAt K sc ra scr F H s) k e h0 (stab_row h0) hn hz hG (row_notM h0) (fun i s x v F' H' H'' g' i' hx y Q' k' => ?_) hx (fun r v F' H' g' i' d k' => kk r v F' H' g' ⟨d, i'⟩ k')
  obtain ⟨F'', g2, r⟩ := hY i x v F' H' H'' g' hx y
  refine mono _ _ _ _ _ (fun σ2 H3 z => ⟨z.1, ?_⟩) (hb s x v F' H' F'' H'' g' i' g2 r (fun u H4 => Q' (some u) H4) ((post_bd k').mono (fun y q u F3 H3 g3 d => q.h F3 H3 _ g3 d.2 ⟨u, rfl, d.1⟩) fun _ z => z))
  exact tYes_of (iteT z.2)
end
end Wk

set_option Elab.async false
set_option linter.all false
set_option maxRecDepth 100000
set_option maxHeartbeats 4000000
namespace Wk
open PySem L2 Evl
theorem units_of {k : Nat} {A : Around} (r : Room k A) : A.units + 64 < cLine := r.units
theorem units_of2 {k : Nat} {A : Around} (r : Room k A) : A.units + 65 < cLine := by have := r.un; omega
def absI (i : Int) : Int := if i < 0 then -i else i
def maxI (i j : Int) : Int := if j > i then j else i
def minI (i j : Int) : Int := if j < i then j else i
theorem decV_int {i j : Int} : decide (V.int i = V.int j) = decide (i = j) := Bool.eq_iff_iff.mpr (by simp)
theorem decV_bl {i j : Bool} : decide (V.bl i = V.bl j) = decide (i = j) := Bool.eq_iff_iff.mpr (by simp)
theorem decV_str {i j : Str} : decide (V.str i = V.str j) = decide (i = j) := Bool.eq_iff_iff.mpr (by simp)
section
variable {K : PySem.W.Frag} {M : List Addr} {F F' H H' : Hp} {Q : VK} {α : Type} {en : α → PyData} {l l' : List α} {xs ys : List V} {a b p : Addr} {v : V} {ds : List PyData}
theorem none_O {o : Option α} (h : Dq K F v (eO en o)) (hn : ∀ a, en a ≠ .none := by intro a; exact fun h => nomatch h) : decide (v = .non) = o.isNone := by
  cases o with
  | none => cases h; rfl
  | some a =>
    refine decide_eq_false fun q => ?_
    subst q
    have h2 : Dq K F V.non (en a) := h
    have := hn a
    cases e : en a with
    | none => exact this e
    | _ => rw [e] at h2; cases h2
theorem chain_j {a b : Bool} {Q : VK} {σ : L2.St} {u : TE} {g : V → Hp → VK → Prop} (hu : a = true → ∀ Q' : VK, Q' (.bl b) H → u σ H fun w H' => g w H' Q') (k : Q (.bl (a && b)) H) :
    if a = true then u σ H (fun w H' => g w H' Q) else Q (.bl false) H := by
  cases a with
  | true => rw [if_pos rfl]; exact hu rfl Q k
  | false => rw [if_neg Bool.false_ne_true]; exact k
theorem len_all (h : DqAll K F xs (l.map en)) : (xs.length : Int) = (l.length : Int) := by rw [h.len, List.length_map]
theorem all_ints {l : List Int} (h : DqAll K F xs (l.map PyData.int)) : xs = l.map V.int := by
  induction l generalizing xs with
  | nil => cases h; rfl
  | cons i l ih => cases h with | cons h1 h2 => cases h1; rw [ih h2]; rfl
theorem ints_all : ∀ l : List Int, DqAll K F (l.map V.int) (l.map PyData.int)
  | [] => .nil
  | i :: l => .cons (.int i) (ints_all l)
theorem cat_len {l l' : List α} (h : DqAll K F xs (l.map en)) (h' : DqAll K F ys (l'.map en)) (hl : l.length + l'.length ≤ 100000) : xs.length + ys.length ≤ sizeLine := sz_of (by
  have := h.len
  have := h'.len
  rw [List.length_map] at *
  omega)
theorem new_lstC {l l' : List α} (e : Ex F H) (h : DqAll K F xs (l.map en)) (h' : DqAll K F ys (l'.map en)) (k : Ret M F H (fun F' _ v => Dq K F' v (eL en (l ++ l'))) Q) : ∀ p, H p = none → Q (.ref p) (upd H p (.lst (xs ++ ys))) := fun p hp => by
  have g : Gm M F H (upd F p (.lst (xs ++ ys))) (upd H p (.lst (xs ++ ys))) := Gm.new e hp
  refine k _ _ _ g (.lst upd_same ?_)
  rw [List.map_append]
  exact (h.app h').up g.f
/-- tuple + tuple -/
def rCatM (K : PySem.W.Frag) : R2 := rCatA K
theorem op_catM {X : Cx} : OpR X (binaryOp .Add) (rCatM X.K) := op_catA
theorem cat_tup {l l' : List α} (e : Ex F H) (s : SqT K F a xs) (h : DqAll K F xs (l.map en)) (s' : SqT K F b ys) (h' : DqAll K F ys (l'.map en)) (hl : l.length + l'.length ≤ 100000) (k : Ret M F H (fun F' _ v => Dq K F' v (eV en (l ++ l'))) Q) : rCatM K (.ref a) (.ref b) H Q := by
  refine ⟨a, b, xs, ys, rfl, rfl, ex_t e s, ex_t e s', cat_len h h' hl, fun q => ?_, fun _ q => ?_, fun _ _ p hp => ?_⟩
  · have hl0 : l = [] := by
      have := h.len
      rw [q, List.length_map] at this
      exact List.length_eq_zero_iff.mp this.symm
    exact k _ _ _ (Gm.refl e) (by rw [hl0]; exact .tup s' h')
  · have hl0 : l' = [] := by
      have := h'.len
      rw [q, List.length_map] at this
      exact List.length_eq_zero_iff.mp this.symm
    exact k _ _ _ (Gm.refl e) (by rw [hl0, List.append_nil]; exact .tup s h)
  · have g : Gm M F H (upd F p (.tup (xs ++ ys))) (upd H p (.tup (xs ++ ys))) := Gm.new e hp
    refine k _ _ _ g (.tup (st_of upd_same) ?_)
    rw [List.map_append]
    exact (h.app h').up g.f
/-- slices -/
def cutL {α : Type} (l : List α) (lo hi : Option Int) : List α := (l.drop (HT.sIx l.length 0 lo)).take (HT.sIx l.length l.length hi - HT.sIx l.length 0 lo)
theorem cut_all {lo hi : Option Int} (h : DqAll K F xs (l.map en)) : DqAll K F (cutV xs lo hi) ((cutL l lo hi).map en) := by
  have hl : xs.length = l.length := by rw [h.len, List.length_map]
  unfold cutV cutL
  rw [hl, List.map_take, List.map_drop]
  exact (h.drop _).take _
theorem cut_lst {lo hi : Option Int} (e : Ex F H) (s : F a = some (.lst xs)) (h : DqAll K F xs (l.map en)) (k : Ret M F H (fun F' _ v => Dq K F' v (eL en (cutL l lo hi))) Q) : rSlL K (.ref a) lo hi H Q :=
  ⟨a, xs, rfl, sq_of (e _ _ s), fun p hp => by
    have g : Gm M F H (upd F p (.lst (cutV xs lo hi))) (upd H p (.lst (cutV xs lo hi))) := Gm.new e hp
    exact k _ _ _ g (.lst upd_same ((cut_all h).up g.f))⟩
theorem sl_tupM {X : Cx} : SlR X (rSlA X.K) := sl_tupA
theorem cut_whole {α : Type} {l : List α} {lo hi : Option Int} (h : HT.sIx l.length 0 lo = 0 ∧ HT.sIx l.length l.length hi = l.length) : cutL l lo hi = l := by
  unfold cutL
  rw [h.1, h.2, List.drop_zero, Nat.sub_zero, List.take_length]
theorem cut_tup {lo hi : Option Int} (e : Ex F H) (s : SqT K F a xs) (h : DqAll K F xs (l.map en)) (k : Ret M F H (fun F' _ v => Dq K F' v (eV en (cutL l lo hi))) Q) : rSlA K (.ref a) lo hi H Q := by
  have hl : xs.length = l.length := by rw [h.len, List.length_map]
  refine ⟨a, xs, rfl, ex_t e s, fun q => ?_, fun _ p hp => ?_⟩
  · rw [hl] at q
    refine k _ _ _ (Gm.refl e) ?_
    rw [cut_whole q]
    exact .tup s h
  · have g : Gm M F H (upd F p (.tup (cutV xs lo hi))) (upd H p (.tup (cutV xs lo hi))) := Gm.new e hp
    exact k _ _ _ g (.tup (st_of upd_same) ((cut_all h).up g.f))
/-- list(x), tuple(x) -/
theorem to_LL (e : Ex F H) (s : F a = some (.lst xs)) (h : DqAll K F xs (l.map en)) (k : Ret M F H (fun F' _ v => Dq K F' v (eL en l)) Q) : ∃ p ys, [V.ref a] = [.ref p] ∧ (SqL K H p ys ∨ SqT K H p ys) ∧ ∀ l, H l = none → Q (.ref l) (upd H l (.lst ys)) :=
  ⟨a, xs, rfl, .inl (sq_of (e _ _ s)), fun p hp => by
    have g : Gm M F H (upd F p (.lst xs)) (upd H p (.lst xs)) := Gm.new e hp
    exact k _ _ _ g (.lst upd_same (h.up g.f))⟩
theorem to_LV (e : Ex F H) (s : SqT K F a xs) (h : DqAll K F xs (l.map en)) (k : Ret M F H (fun F' _ v => Dq K F' v (eL en l)) Q) : ∃ p ys, [V.ref a] = [.ref p] ∧ (SqL K H p ys ∨ SqT K H p ys) ∧ ∀ l, H l = none → Q (.ref l) (upd H l (.lst ys)) :=
  ⟨a, xs, rfl, .inr (ex_t e s), fun p hp => by
    have g : Gm M F H (upd F p (.lst xs)) (upd H p (.lst xs)) := Gm.new e hp
    exact k _ _ _ g (.lst upd_same (h.up g.f))⟩
theorem to_VL (e : Ex F H) (s : F a = some (.lst xs)) (h : DqAll K F xs (l.map en)) (k : Ret M F H (fun F' _ v => Dq K F' v (eV en l)) Q) :
    ∃ p ys, [V.ref a] = [.ref p] ∧ ((SqL K H p ys ∧ ∀ l, H l = none → Q (.ref l) (upd H l (.tup ys))) ∨ (SqT K H p ys ∧ Q (.ref p) H)) :=
  ⟨a, xs, rfl, .inl ⟨sq_of (e _ _ s), fun p hp => by
    have g : Gm M F H (upd F p (.tup xs)) (upd H p (.tup xs)) := Gm.new e hp
    exact k _ _ _ g (.tup (st_of upd_same) (h.up g.f))⟩⟩
theorem to_VV (e : Ex F H) (s : SqT K F a xs) (h : DqAll K F xs (l.map en)) (k : Ret M F H (fun F' _ v => Dq K F' v (eV en l)) Q) :
    ∃ p ys, [V.ref a] = [.ref p] ∧ ((SqL K H p ys ∧ ∀ l, H l = none → Q (.ref l) (upd H l (.tup ys))) ∨ (SqT K H p ys ∧ Q (.ref p) H)) :=
  ⟨a, xs, rfl, .inr ⟨ex_t e s, k _ _ _ (Gm.refl e) (.tup s h)⟩⟩
/-- of an own list -/
theorem to_VO (e : Ex F H) (o : H a = some (.lst xs)) (h : DqAll K F xs (l.map en)) (k : Ret M F H (fun F' _ v => Dq K F' v (eV en l)) Q) :
    ∃ p ys, [V.ref a] = [.ref p] ∧ ((SqL K H p ys ∧ ∀ l, H l = none → Q (.ref l) (upd H l (.tup ys))) ∨ (SqT K H p ys ∧ Q (.ref p) H)) :=
  ⟨a, xs, rfl, .inl ⟨sq_of o, fun p hp => by
    have g : Gm M F H (upd F p (.tup xs)) (upd H p (.tup xs)) := Gm.new e hp
    exact k _ _ _ g (.tup (st_of upd_same) (h.up g.f))⟩⟩
/-- a new own list -/
theorem new_own (e : Ex F H) (h : DqAll K F xs ds) (hl : xs.length ≤ 100000) (k : ∀ p H', Gm [] F H F H' → H p = none → (H' p = some (.lst xs) ∧ F p = none) → Q (.ref p) H') : xs.length ≤ sizeLine ∧ ∀ p, H p = none → Q (.ref p) (upd H p (.lst xs)) :=
  ⟨sz_of hl, fun p hp => k p _ (Gm.newM e hp) hp ⟨upd_same, by
    cases q : F p with
    | none => rfl
    | some u => rw [e p u q] at hp; cases hp⟩⟩
theorem own_sz (h : DqAll K F xs (l.map en)) (hl : l.length < 100000) : xs.length < sizeLine := sz_lt (by rw [h.len, List.length_map]; exact hl)
theorem RowAt.put {sc ra : Addr} {scr : List Int} {st : Rw} {o : HO} (w : RowAt K sc ra scr F H st) (h : ra ≠ p) : RowAt K sc ra scr F (upd H p o) st := ⟨by rw [upd_ne h]; exact w.1, w.2.1, w.2.2⟩
theorem RowAt.fix {sc ra : Addr} {scr : List Int} {st : Rw} {o : HO} (w : RowAt K sc ra scr F H st) (h : ra ≠ p) (u : Ex F (upd F p o)) : RowAt K sc ra scr (upd F p o) H st := ⟨w.1, by rw [upd_ne h]; exact w.2.1, ex_l u w.2.2⟩
end
section
variable {X : Cx}
theorem call_lenM : CallR X (.builtin "len") (fun xs H Q => ∃ p ys n, xs = [.ref p] ∧ (SqL X.K H p ys ∨ SqT X.K H p ys) ∧ (ys.length : Int) = n ∧ Q (.int n) H) := by
  intro pins s σ H vs us Q I r h
  obtain ⟨p, ys, n, rfl, hq, rfl, q⟩ := h
  exact call_len_seq pins s σ H _ us Q I r ⟨p, ys, rfl, hq, q⟩
theorem call_intM : CallR X (.type "int") (fun xs H Q => ∃ i, xs = [.int i] ∧ Q (.int i) H) := by
  intro pins s σ H vs us Q I r h
  exact call_int1 pins s σ H vs us Q I r (.inl h)
section
variable {α : Type} [DecidableEq α] {f : α → PyData} {n : Nat}
def hasM {α : Type} [DecidableEq α] (l : List α) (a : α) : Bool := l.contains a
def rInM (K : PySem.W.Frag) (f : α → PyData) : R2 := fun x y H Q => ∃ (a : α) (l : List α), Dp K H x (f a) ∧ Dp K H y (eL f l) ∧ Q (.bl (hasM l a)) H
def rNotInM (K : PySem.W.Frag) (f : α → PyData) : R2 := fun x y H Q => ∃ (a : α) (l : List α), Dp K H x (f a) ∧ Dp K H y (eL f l) ∧ Q (.bl (!hasM l a)) H
theorem any_eqv (s : Sh f n) (a : α) (l : List α) : (l.map f).any (fun z => PyData.eqv z (f a)) = l.contains a := by
  induction l with
  | nil => rfl
  | cons b l ih =>
    rw [List.map_cons, List.any_cons, ih, List.contains_cons, s.eq]
    congr 1
    exact Bool.eq_iff_iff.mpr (by simp only [decide_eq_true_eq, beq_iff_eq]; exact ⟨Eq.symm, Eq.symm⟩)
theorem op_inM (s : Sh f n) (hu : X.A.units + 65 < cLine) (hn : n + 1 ≤ 64 := by decide) : OpR X (compareOp .In) (rInM X.K f) := by
  intro pins st σ H x y v u Q I rx ry h
  obtain ⟨a, l, ha, hl, q⟩ := h
  refine op_inD hu pins st σ H x y v u Q I rx ry ⟨f a, l.map f, ha, hl, s.shaped (by omega) a, (sh_eL s).shaped hn l, ?_⟩
  rw [any_eqv s]
  exact q
theorem op_notInM (s : Sh f n) (hu : X.A.units + 65 < cLine) (hn : n + 1 ≤ 64 := by decide) : OpR X (compareOp .NotIn) (rNotInM X.K f) := by
  intro pins st σ H x y v u Q I rx ry h
  obtain ⟨a, l, ha, hl, q⟩ := h
  refine op_notInD hu pins st σ H x y v u Q I rx ry ⟨f a, l.map f, ha, hl, s.shaped (by omega) a, (sh_eL s).shaped hn l, ?_⟩
  rw [any_eqv s]
  exact q
end
end
end Wk

set_option Elab.async false
set_option linter.all false
set_option maxRecDepth 100000
set_option maxHeartbeats 4000000
namespace Wk
open PySem L2 Evl PySem.Spec PyProof.Rows
/-! ### enumerate of a tuple -/
theorem meets_enT (a : Addr) (its : Array Value) :
    Meets (Builtin.«enumerate.__new__» ⟨[.type "enumerate", .ref a], []⟩) (fun _ R z => z.heap.IsTuple a its ∧
      R (.ok (.ret (.ref (z.heap.push { cls := .type "tuple_iterator", data := .fields #[.ref a, .int 0 0] }).objs.size)))
        { z with heap := (z.heap.push { cls := .type "tuple_iterator", data := .fields #[.ref a, .int 0 0] }).push { cls := .type "enumerate", data := .fields #[.none, .bool false, .ref z.heap.objs.size, rawInt 0, .none, .none] } }) :=
  .of_wp fun prog w A R z h => by
    obtain ⟨hp, ge, dr, tk, os⟩ := z
    obtain ⟨ht, h⟩ := h
    have sub := sub_enumerate
    have ht' : Heap.IsTuple (Shared.heap ⟨hp, ge, dr, tk, os⟩) a its := ht
    obtain ⟨⟨c, dd, dt, sl⟩, hl, hc, n, hd⟩ := ht
    replace hc : c = .type "tuple" := hc
    replace hd : dt = .seq its n := hd
    subst hc hd
    wp_walk using AutoSeq1.wpAny_loadPart' hl
    refine wpAny_stack_any fun st => wpAny_pure ?_
    split
    · rename_i c _ _ _ _ _
      cases (c == Value.type "enumerate")
      all_goals
        wp_walk using AutoSeq1.wpAny_loadPart' hl, wpAny_pyIter_tuple ht'
        exact ⟨_, rfl, h⟩
    · wp_walk using AutoSeq1.wpAny_loadPart' hl, wpAny_pyIter_tuple ht'
      exact ⟨_, rfl, h⟩
section
variable {prog : Program} {w : World} {A : Around} {E : Value → Shared → Prop} {z : Shared}
theorem call_enT {a : Addr} {its : Array Value} {Q : Value → Shared → Prop} (ht : z.heap.IsTuple a its)
    (h : ∀ h', IsEnum h' (z.heap.objs.size + 1) z.heap.objs.size 0 .none → h'.IsTupleIter z.heap.objs.size a 0 → h'.objs.size = z.heap.objs.size + 2 →
      (∀ c o, z.heap.get? c = some o → h'.get? c = some o) → Q (.ref (z.heap.objs.size + 1)) { z with heap := h' }) :
    wpAny (model prog w) A (call (.type "enumerate") [.ref a]) Q E z := by
  refine callType_new F.called_enumerate (by decide) (F.typeCall_enumerate_1 _) (F.newCall_enumerate_1 _) (fun ob => F.args_object_init_2 ob _) F.entry_enumerate_new (meets_enT a its) ⟨ht, ?_⟩
  have sz : (z.heap.push { cls := .type "tuple_iterator", data := .fields #[.ref a, .int 0 0] }).objs.size = z.heap.objs.size + 1 := Heap.size_push ..
  show _ ∧ _
  rw [sz]
  have en : IsEnum ((z.heap.push { cls := .type "tuple_iterator", data := .fields #[.ref a, .int 0 0] }).push
      { cls := .type "enumerate", data := .fields #[.none, .bool false, .ref z.heap.objs.size, rawInt 0, .none, .none] }) (z.heap.objs.size + 1) z.heap.objs.size 0 .none := by
    have q := Heap.get?_push_size (z.heap.push { cls := .type "tuple_iterator", data := .fields #[.ref a, .int 0 0] })
      (o := { cls := .type "enumerate", data := .fields #[.none, .bool false, .ref z.heap.objs.size, rawInt 0, .none, .none] }) rfl
    rw [sz] at q
    exact q
  exact ⟨⟨_, en, rfl⟩, h _ en ⟨_, Heap.get?_push_of_some _ (Heap.get?_push_size _ rfl), rfl, rfl⟩ (by rw [Heap.size_push, sz]) fun c o x => Heap.get?_push_of_some _ (Heap.get?_push_of_some _ x)⟩
end
theorem end_enT {prog : Program} {w : World} {A : Around} {E : Value → Shared → Prop} {z : Shared} {e it a : Addr} {i : Nat} {its : Array Value} {old : Value} {Q : Option Value → Shared → Prop} (hh : A.handled = none)
    (he : IsEnum z.heap e it i old) (hit : z.heap.IsTupleIter it a i) (ht : z.heap.IsTuple a its) (hx : its[i]? = none)
    (hQ : ∀ h', Heap.ExtBut it z.heap h' → Q none { z with heap := h' }) : wpAny (model prog w) A (pyNext (.ref e)) Q E z := by
  have ty : z.TypeIs (.ref e) "enumerate" := ⟨_, he, rfl⟩
  unfold pyNext
  refine wpAny_bind (wpAny_attempt (wpAny_callSpecial?_slot (name := Str.ofString "__next__") ty F.slot_enumerate_next (wpAny_call_entry F.slot_enumerate_next ty F.entry_enumerate_next ?_ (F.args_enumerate_next_1 _))))
  show wpAny _ _ (field (.ref e) 2 >>= _) _ _ _
  refine wpAny_bind (wpAny_field he rfl (x := .ref it) rfl ?_)
  refine wpAny_bind (wpAny_nextOf_tuple_end hh hit ht hx fun h' x he' hx' => ?_)
  obtain ⟨o, ho, hc⟩ := hx'
  exact wpAny_bind (wpAny_isInstance (T := "StopIteration") (b := true) ⟨o, ho, hc⟩ isSubtype_stop (wpAny_pure (hQ _ he')))
/-- the tuple at a, each item in a new pair -/
def IteT (K : PySem.W.Frag) (a : Addr) : It :=
  ⟨fun i H => ∃ (xs : List V) (x : V), SqT K H a xs ∧ xs[i]? = some x, fun i H v H' => ∃ T x, v = .ref T ∧ H T = none ∧ H' = upd H T (.tup [.int (i : Nat), x]) ∧ ∀ xs, SqT K H a xs → xs[i]? = some x, fun i H => ∃ xs : List V, SqT K H a xs ∧ xs.length ≤ i⟩
theorem turn_enT {P : Program} {w : World} {K : PySem.W.Frag} {es : List Expr} {kk : Nat} {tp : Pos} (a e it : Addr) (hai : a ≠ it) :
    Turn P w K (.Tuple es kk tp) (IteT K a) [e, it] e (fun i h => (∃ old, IsEnum h e it ((i : Nat) : Int) old) ∧ h.IsTupleIter it a i ∧ e ≠ it) where
  mem := by simp
  obj := fun i h st b hb => by
    obtain ⟨⟨old, he⟩, ⟨o, ho, hc, hd⟩, _⟩ := st
    rcases (show b = e ∨ b = it by simpa using hb) with q | q
    · rw [q]
      exact ⟨_, he, fun v q => nomatch q⟩
    · rw [q]
      exact ⟨o, ho, fun v q => by rw [hd] at q; cases q⟩
  keep := fun i h h' st k => by
    obtain ⟨⟨old, he⟩, hi, hne⟩ := st
    exact ⟨⟨old, k e (by simp) _ he⟩, hi.at fun o q => k it (by simp) o q, hne⟩
  item := by
    intro X hP hw hK hc i pins s σ H E I hf st hg
    subst hP hw hK
    obtain ⟨⟨old, he⟩, hit, hne⟩ := st
    obtain ⟨xs, x, hq, hx⟩ := hg
    obtain ⟨its, rv, p, hz⟩ := I.tuple hq
    obtain ⟨u, hu, ru⟩ := rv.get hx
    have le : e < s.heap.objs.size := Heap.lt_size he
    have li : it < s.heap.objs.size := by
      obtain ⟨_, q, _⟩ := hit
      exact Heap.lt_size q
    have pT : s.heap.IsTuple a its.toArray := p
    have D := (Draws.tuple (prog := X.prog) (w := X.w) (A := X.A.in1) (show X.A.in1.handled = none from I.ok.hd hc) it a hai its.toArray)
    have hi : i < its.toArray.size := by
      have := (List.getElem?_eq_some_iff.mp hu).1
      simpa using this
    have hnm : e ∉ [it, a] := fun hm => by
      rcases (show e = it ∨ e = a by simpa using hm) with q | q
      · exact hne q
      · obtain ⟨o1, q1, c1, _⟩ := pT
        rw [← q, he] at q1
        cases q1
        exact nomatch (show Value.type "enumerate" = Value.type "tuple" from c1) 
    refine wpAny_pyNext_enum_itemD D he ⟨hit, pT⟩ hi hne hnm fun y h' tk hy ho ht' hT hsz hk => ?_
    · have ey : u = y := by
        have hu' : its.toArray[i]? = some u := by simpa using hu
        rw [hy] at hu'
        exact (Option.some.inj hu').symm
      subst ey
      obtain ⟨hit', _⟩ := ht'
      refine ⟨_, rfl, wpAny_letOwnedTupleGo_enum (s := { s with heap := h', toks := tk + 1 }) ho fun h'' he' sb => ?_⟩
      have hT2 : h''.get? s.heap.objs.size = some { cls := .type "tuple", data := .seq #[.int i tk, u] } := (sb.2 _ (Nat.ne_of_gt le)).trans hT
      have new : ObjOk X.prog X.w (upd H s.heap.objs.size (.tup [.int (i : Nat), x])) h'' s.heap.objs.size (.tup [.int (i : Nat), x]) :=
        ⟨by show 2 ≤ sizeLine; decide, [.int i tk, u], .cons ⟨_, rfl⟩ (.cons ru .nil), ⟨_, hT2, rfl, _, rfl⟩⟩
      have J : Inv X pins σ (upd H s.heap.objs.size (.tup [.int (i : Nat), x])) { s with heap := h'', toks := tk + 1 } :=
        I.turnedNew (ch := [e, it]) (fun b ob hb q => (sb.2 b (fun q2 => hb (by simp [q2]))).trans (hk b ob (fun q2 => hb (by simp [q2])) (fun q2 => hb (by simp [q2])) q)) hf (Nat.le_refl _) new
      refine ⟨.ref s.heap.objs.size, _, J, rfl, ⟨_, x, rfl, I.hok.fresh (Nat.le_refl _), rfl, fun ys hy => by rw [I.tuple_inj hy hq]; exact hx⟩, ⟨⟨u, ?_⟩, hit'.at fun o q => (sb.2 it (Ne.symm hne)).trans q, hne⟩, fun b hb => ?_⟩
      · have e1 : ((i + 1 : Nat) : Int) = (i : Int) + 1 := by omega
        rw [e1]
        exact he'
      · have lb : b < s.heap.objs.size := by
          rcases (show b = e ∨ b = it by simpa using hb) with q | q
          · rw [q]; exact le
          · rw [q]; exact li
        rw [upd_ne (Nat.ne_of_lt lb)]
        exact (hf b hb).1
  done := by
    intro X hP hw hK hc i pins s σ H E I hf st hg
    subst hP hw hK
    obtain ⟨⟨old, he⟩, hit, hne⟩ := st
    obtain ⟨xs, hq, hx⟩ := hg
    obtain ⟨its, rv, p, hz⟩ := I.tuple hq
    obtain ⟨f0, f1, f2, f3, f4, f5⟩ := hf it (by simp)
    have hl := rv.length
    have pT : s.heap.IsTuple a its.toArray := p
    refine end_enT (I.ok.hd hc) he hit pT (by simp; omega) fun h' eb => ⟨rfl, I.turned (t' := s.toks) (fun b o hb q => eb b o hb q) f0 f1 f3 f4 f5⟩
  self := fun A i s Q E st h => by
    obtain ⟨⟨_, he⟩, _⟩ := st
    exact wpAny_pyIter_enum he h
def iEnT (K : PySem.W.Frag) (ta : TA) : TI := fun σ H R => ta σ H fun vs H1 => ∃ a xs, vs = [.ref a] ∧ SqT K H1 a xs ∧ R (IteT K a) H1
theorem pi_enumT {X : Cx} {e : Expr} {ta : TA} {p pos tp : Pos} {es : List Expr} {kk : Nat} (hg : Gl X "enumerate") (hm : X.mg "enumerate" = none) (ha : PA X [e] ta) (hs : starEach [e] X.env = [(false, eval e X.env)] := by rfl) :
    PI X (.Tuple es kk tp) (.Call (.Name "enumerate" p) [e] [] pos) (iEnT X.K ta) := by
  refine ⟨fun pins s σ H R I h => ?_⟩
  refine Call_ (ld_blt I hg hm boot_enumerate (PyProof.Rows.callWith_type1 (thn (ha.run pos pins s σ H _ I h) fun us s1 hh => ?_) hs rfl))
  obtain ⟨vs, H1, I1, r1, a, xs, ex, hq, q⟩ := hh
  subst ex
  cases r1 with
  | cons r rr =>
    cases rr
    cases r
    obtain ⟨its, rv, p', hz⟩ := I1.tuple hq
    have pT : s1.heap.IsTuple a its.toArray := p'
    have la : a < s1.heap.objs.size := by
      obtain ⟨o, q, _⟩ := pT
      exact Heap.lt_size q
    refine call_enT pT fun h' he hit hsz hk => wpAny_pyIter_enum he ?_
    have I2 : Inv X pins σ H1 { s1 with heap := h' } := I1.kept (t' := s1.toks) hk
    refine ⟨s1.heap.objs.size + 1, [s1.heap.objs.size + 1, s1.heap.objs.size], _, _, H1, rfl, I2, turn_enT a (s1.heap.objs.size + 1) s1.heap.objs.size (Nat.ne_of_lt la), ⟨⟨.none, he⟩, hit, Nat.succ_ne_self _⟩, fun b hb => ?_, q⟩
    have hle : s1.heap.objs.size ≤ b := by
      rcases (show b = s1.heap.objs.size + 1 ∨ b = s1.heap.objs.size by simpa using hb) with z | z
      · rw [z]; exact Nat.le_succ _
      · rw [z]; exact Nat.le_refl _
    exact I1.fpOk hle (I1.hok.fresh hle)
section
variable {K : PySem.W.Frag} {M : List Addr} {F H : Hp} {α : Type} {xs : List V} {l : List α} {en : α → PyData} {a : Addr}
theorem wlk_enumT (e : Ex F H) (h : SqT K F a xs) (da : DqAll K F xs (l.map en)) : Wlk M F H (IteT K a) (enumL l) (fun F v x => Dq K F v (e2 PyData.int en x)) := by
  have hl : xs.length = l.length := by rw [da.len, List.length_map]
  refine ⟨xs.length, fun H => SqT K H a xs, YPair (fun i => some (.int (i : Nat))) (fun i => xs[i]?), ⟨fun i _ hi q => ⟨xs, xs[i], q, by simp [hi]⟩, fun _ q => ⟨xs, q, Nat.le_refl _⟩, fun i H v H' _ q y => ?_⟩, by simp [enumL, rangeL, hl], fun F' H' g' => ex_t g'.s (ex_t g'.f h), fun i x v F' H' H'' g' hx y => ?_⟩
  · obtain ⟨T, x, h1, h2, h3, h4⟩ := y
    exact ⟨T, .int (i : Nat), x, h1, h2, h3, rfl, h4 xs q⟩
  · obtain ⟨T, u, w, rfl, hT, rfl, h1, h2⟩ := y
    obtain ⟨d, hd, hq⟩ := (da.up g'.f).getV h2
    obtain ⟨x1, x2⟩ := x
    unfold enumL at hx
    rw [List.getElem?_zip_eq_some] at hx
    obtain ⟨hx1, hx2⟩ := hx
    have e1 := rangeL_at hx1
    simp only at e1 hx2
    rw [List.getElem?_map, hx2] at hd
    cases hd
    cases h1
    have g2 : Gm [] F' H' (upd F' T (.tup [V.int (i : Nat), w])) (upd H' T (.tup [V.int (i : Nat), w])) := Gm.new g'.s hT
    refine ⟨_, g2, .tup (st_of upd_same) (.cons ?_ (.cons (hq.up g2.f) .nil))⟩
    rw [e1, Int.zero_add]
    exact .int _
end
end Wk

set_option Elab.async false
set_option linter.all false
set_option maxRecDepth 100000
set_option maxHeartbeats 4000000
namespace Wk
open PySem L2 Evl PySem.Spec PyProof.Rows
/-! ### set(a list of ints), sorted -/
abbrev emS (w : World) : Obj := { cls := .type "set", dict := none, data := .set #[] 0 (.fresh 0 0 (!w.params.followText "set-order")) }
section
variable {P : Program} {w : World} {A : Around} {E : Value → Shared → Prop} {z : Shared}
theorem call_set_li {u : Addr} {its : Array Value} (ks : List Int) {Q : Value → Shared → Prop} (hh : A.handled = none) (hl : z.heap.IsList u its) (hit : IntsAre its.toList ks) (hb : ks.length + 1 < scanBound)
    (h : ∀ (h' : Heap) (tk c : Nat), SetR w h' z.heap.objs.size (fun j => decide (j ∈ ks)) c → c ≤ ks.length → (∀ b o, z.heap.get? b = some o → h'.get? b = some o) → Q (.ref z.heap.objs.size) { z with heap := h', toks := tk }) :
    wpAny (model P w) A (call (.type "set") [.ref u]) Q E z := by
  have sz : its.size = ks.length := by
    have q := IntsAre.length hit
    rwa [Array.length_toList] at q
  obtain ⟨c, tl, hmro⟩ := F.called_set.mro
  have made := F.called_set.made
  have sub := F.called_set.sub
  refine wpAny_call (codeAny_of_tree ?_); (show wpAny _ _ (callAny (.type "set") _) _ _ _)
  refine wpAny_pure ⟨Code.quiet_builtin _ (by decide +kernel), codeAny_builtin F.entry_type_call ?_⟩; rw [Around.under_plain (weight_type_call_type "set" [.ref u] []) rfl]
  have n1 := F.called_set.notType
  have n2 := F.called_set.canCreate
  have n3 := F.typeCall_set_1 (.ref u)
  repeat (any_goals (first | assumption | wp_step))
  refine codeAny_mono (code_set_led1 (.ref u) (E := E) (Q₁ := fun ob z1 => ob = .ref z.heap.objs.size ∧ z1 = { z with heap := z.heap.push (emS w) }) ⟨rfl, rfl⟩) fun r z1 hr => ?_
  cases r with
  | error e => exact hr
  | ok fl =>
    cases fl with
    | ret ob =>
      obtain ⟨rfl, rfl⟩ := hr
      have atS : (z.heap.push (emS w)).get? z.heap.objs.size = some (emS w) := Heap.get?_push_size _ rfl
      have tyS : Shared.TypeIs { z with heap := z.heap.push (emS w) } (.ref z.heap.objs.size) "set" := ⟨_, atS, rfl⟩
      have i1 := F.called_set.init.lookup
      have i2 := F.called_set.init.bind (.ref z.heap.objs.size)
      repeat (any_goals (first | assumption | wp_step))
      refine codeAny_mono (codeAny_call_builtin (R := wants (fun r z2 => r = .none ∧ ∃ h' tk c, z2 = { z with heap := h', toks := tk } ∧ SetR w h' z.heap.objs.size (fun j => decide (j ∈ ks)) c ∧ c ≤ ks.length ∧
          (∀ b o, z.heap.get? b = some o → h'.get? b = some o)) E) F.called_set.init.plain F.entry_set_init (check_set_init_1 tyS ?_)) fun r2 z2 hr2 => ?_
      · obtain ⟨ol, hol, hcl, nl, hdl⟩ := hl
        obtain ⟨oc, od, dt, sl⟩ := ol
        simp only at hcl hdl
        subst hcl
        subst hdl
        have atU : (z.heap.push (emS w)).get? u = some { cls := .type "list", dict := od, data := .seq its nl, slots := sl } := Heap.get?_push_of_some _ hol
        have no1 := F.sub_list_set
        have no2 := F.sub_list_frozenset
        have no3 : (Value.type "list" == Value.type "dict") = false := by decide
        have isl : (z.heap.push (emS w)).IsList u its := ⟨_, atU, rfl, nl, rfl⟩
        unfold Builtin.«set.__init__» noKeywords Builtin.Frozenset.updateFrom
        generalize hPI : pyIter = pI
        wp_walk
        subst hPI
        refine wpAny_pyIter_list isl ?_
        refine wpAny_bind (wpAny_runValue ?_)
        have lu : u < z.heap.objs.size := Heap.lt_size hol
        have h3 : A.in1.in1.in1.handled = none := by simp [hh]
        have ux : u ≠ (z.heap.push (emS w)).objs.size := by rw [Heap.size_push]; exact Nat.ne_of_lt (Nat.lt_succ_of_lt lu)
        have nf : z.heap.objs.size ∉ [(z.heap.push (emS w)).objs.size, u] := by
          rw [Heap.size_push]
          simp only [List.mem_cons, List.mem_singleton, List.not_mem_nil, or_false, not_or]
          exact ⟨Nat.ne_of_lt (Nat.lt_succ_self _), Nat.ne_of_gt lu⟩
        have val : ∀ (i : Nat) (v : Value), its[i]? = some v → ∃ k t, ks[i]? = some k ∧ v = .int k t := fun i v hv => by
          have hi : i < ks.length := by rw [← sz]; exact (Array.getElem?_eq_some_iff.mp hv).1
          obtain ⟨t, e⟩ := PyProof.Rows.IntsAre.int_at hit i v (by rw [Array.getElem?_toList]; exact hv)
          refine ⟨ks[i], t, List.getElem?_eq_getElem hi, ?_⟩
          rw [e, List.getD_eq_getElem?_getD, List.getElem?_eq_getElem hi]
          all_goals rfl
        refine set_update_ints ((Walks.list h3 _ u ux its).toS) z.heap.objs.size nf ks sz hb val (its.size - 0) 0 _ (by omega) (Nat.zero_le _) ⟨⟨_, Heap.get?_push_size _ rfl, rfl, rfl⟩, (isl.push _)⟩ ?a0 ?a1
        case a0 =>
          have q : ((z.heap.push (emS w)).push { cls := .type "list_iterator", data := .fields #[.ref u, .int 0 0] }).get? z.heap.objs.size = some (emS w) := Heap.get?_push_of_some _ atS
          exact ⟨0, Nat.le_refl 0, setR_new_at q⟩
        case a1 =>
          intro z3 c' hm hc' hS'
          obtain ⟨h', g2, d', tk', os'⟩ := z3
          have eg : g2 = z.gens := hm.gens
          have ed : d' = z.drawn := hm.drawn
          have eo : os' = z.os := hm.os
          subst eg; subst ed; subst eo
          (show wpAny _ _ _ _ _ _); refine wpAny_pure ?_
          show wpAny _ _ (ret Value.none) _ _ _
          rw [sz] at hc'
          refine wpAny_pure ⟨rfl, h', tk', c', rfl, hS', hc', fun b o e => ?_⟩
          have b0 : b < z.heap.objs.size := Heap.lt_size e
          have b2 : b ≠ (z.heap.push (emS w)).objs.size := by rw [Heap.size_push]; exact Nat.ne_of_lt (Nat.lt_succ_of_lt b0)
          exact hm.heap b o (by simp only [List.mem_cons, List.mem_singleton, List.not_mem_nil, or_false, not_or]; exact ⟨Nat.ne_of_lt b0, b2⟩) (Heap.get?_push_of_some _ (Heap.get?_push_of_some _ e))
      · cases r2 with
        | error e => exact hr2
        | ok f2 => cases f2 with
          | ret r =>
            obtain ⟨rfl, h', tk, c', rfl, hS', hc', hk'⟩ := hr2
            repeat (any_goals (first | assumption | wp_step))
            exact h h' tk c' hS' hc' hk'
          | _ => exact False.elim hr2
    | _ => exact False.elim hr
end
end Wk

set_option Elab.async false
set_option linter.all false
set_option maxRecDepth 100000
set_option maxHeartbeats 4000000
namespace Wk
open PySem L2 Evl PySem.Spec PyProof.Rows
section
variable {X : Cx}
/-- set(a list of ints) -/
def rSetM (w : World) (K : PySem.W.Frag) : List V → Hp → VK → Prop := fun vs H Q => ∃ (a : Addr) (ns : List Int), vs = [.ref a] ∧ SqL K H a (ns.map V.int) ∧ ns.length < 64 ∧
  ∀ p c, H p = none → c ≤ ns.length → Q (.ref p) (upd H p (SetO w p (fun j => decide (j ∈ ns)) c))
theorem cr_setM (hcalm : X.calm = true) : CallR X (.type "set") (rSetM X.w X.K) := by
  intro pins s σ H vs us Q I r h
  obtain ⟨a, ns, rfl, hq, h64, q⟩ := h
  cases r with
  | cons r rr =>
    cases rr
    cases r
    obtain ⟨its, rv, pl, hz⟩ := I.list hq
    refine call_set_li ns (I.ok.hd hcalm) pl.isList (by simpa using rv.ints) (by unfold scanBound; omega) fun h' tk c hS hc hk => ?_
    have J : Inv X pins σ (upd H s.heap.objs.size (SetO X.w s.heap.objs.size (fun j => decide (j ∈ ns)) c)) { s with heap := h', toks := tk } := I.laid hk (Nat.le_refl _) (setO_new hS)
    exact ⟨.ref s.heap.objs.size, _, J, rfl, q _ c (I.hok.fresh (Nat.le_refl _)) hc⟩
end
/-! ### a sorted set -/
def insU (x : Int) : List Int → List Int
  | [] => [x]
  | y :: l => if x < y then x :: y :: l else if x = y then y :: l else y :: insU x l
def sortedSet (l : List Int) : List Int := l.foldr insU []
theorem mem_insU (x k : Int) : ∀ l, k ∈ insU x l ↔ k = x ∨ k ∈ l
  | [] => by simp [insU]
  | y :: l => by
    unfold insU
    split
    · simp
    · split
      · rename_i h
        subst h
        simp
      · simp only [List.mem_cons, mem_insU x k l]
        constructor
        · rintro (h | h | h)
          · exact .inr (.inl h)
          · exact .inl h
          · exact .inr (.inr h)
        · rintro (h | h | h)
          · exact .inr (.inl h)
          · exact .inl h
          · exact .inr (.inr h)
theorem asc_insU (x : Int) : ∀ l : List Int, l.Pairwise (· < ·) → (insU x l).Pairwise (· < ·)
  | [], _ => by simp [insU]
  | y :: l, h => by
    obtain ⟨h1, h2⟩ := List.pairwise_cons.mp h
    unfold insU
    split
    · rename_i q
      refine List.pairwise_cons.mpr ⟨fun a ha => ?_, h⟩
      rcases List.mem_cons.mp ha with e | e
      · rw [e]; exact q
      · exact Int.lt_trans q (h1 a e)
    · split
      · exact h
      · refine List.pairwise_cons.mpr ⟨fun a ha => ?_, asc_insU x l h2⟩
        rcases (mem_insU x a l).mp ha with e | e
        · rw [e]; omega
        · exact h1 a e
theorem mem_sortedSet (k : Int) : ∀ l : List Int, k ∈ sortedSet l ↔ k ∈ l
  | [] => by simp [sortedSet]
  | x :: l => by
    show k ∈ insU x (sortedSet l) ↔ _
    rw [mem_insU, mem_sortedSet k l, List.mem_cons]
theorem asc_sortedSet : ∀ l : List Int, (sortedSet l).Pairwise (· < ·)
  | [] => List.Pairwise.nil
  | x :: l => asc_insU x _ (asc_sortedSet l)
/-- two ascending lists of the same members are one -/
theorem asc_unique : ∀ l r : List Int, l.Pairwise (· < ·) → r.Pairwise (· < ·) → (∀ k, k ∈ l ↔ k ∈ r) → l = r
  | [], [], _, _, _ => rfl
  | [], y :: r, _, _, h => absurd ((h y).mpr (List.mem_cons_self ..)) (by simp)
  | x :: l, [], _, _, h => absurd ((h x).mp (List.mem_cons_self ..)) (by simp)
  | x :: l, y :: r, hl, hr, h => by
    obtain ⟨l1, l2⟩ := List.pairwise_cons.mp hl
    obtain ⟨r1, r2⟩ := List.pairwise_cons.mp hr
    have e : x = y := by
      have hx : x = y ∨ x ∈ r := List.mem_cons.mp ((h x).mp (List.mem_cons_self ..))
      have hy : y = x ∨ y ∈ l := List.mem_cons.mp ((h y).mpr (List.mem_cons_self ..))
      rcases hx with q | q
      · exact q
      · rcases hy with q' | q'
        · exact q'.symm
        · have := r1 x q
          have := l1 y q'
          omega
    subst e
    rw [asc_unique l r l2 r2 fun k => ?_]
    constructor
    · intro hk
      rcases List.mem_cons.mp ((h k).mp (List.mem_cons_of_mem _ hk)) with q | q
      · have := l1 k hk
        omega
      · exact q
    · intro hk
      rcases List.mem_cons.mp ((h k).mpr (List.mem_cons_of_mem _ hk)) with q | q
      · have := r1 k hk
        omega
      · exact q
section
variable {K : PySem.W.Frag} {M : List Addr} {F H : Hp} {Q : VK} {w : World} {a : Addr} {l : List Int}
theorem sorted_set (e : Ex F H) (s : F a = some (.lst (l.map V.int))) (hl : l.length < 64) (k : Ret M F H (fun F' _ v => Dq K F' v (eL PyData.int (sortedSet l))) Q) :
    ∃ (a' : Addr) (ns : List Int), [V.ref a] = [.ref a'] ∧ SqL K H a' (ns.map V.int) ∧ ns.length < 64 ∧ ∀ p c, H p = none → c ≤ ns.length → rSortedSet w [.ref p] (upd H p (SetO w p (fun j => decide (j ∈ ns)) c)) Q := by
  refine ⟨a, l, rfl, sq_of (e _ _ s), hl, fun p c hp hc => ⟨p, _, c, rfl, upd_same, by omega, fun ns q asc mem _ hq => ?_⟩⟩
  have g1 : Gm M F H (upd F p (SetO w p (fun j => decide (j ∈ l)) c)) (upd H p (SetO w p (fun j => decide (j ∈ l)) c)) := Gm.new e hp
  have g2 : Gm M (upd F p (SetO w p (fun j => decide (j ∈ l)) c)) (upd H p (SetO w p (fun j => decide (j ∈ l)) c)) _ _ := Gm.new (o := .lst (ns.map V.int)) g1.s hq
  have en : ns = sortedSet l := asc_unique ns _ asc (asc_sortedSet l) fun j => by
    rw [mem, mem_sortedSet]
    simp
  refine k _ _ _ (g1.trans g2) ?_
  rw [← en]
  exact .lst upd_same (ints_all ns)
end
end Wk

set_option Elab.async false
set_option linter.all false
set_option maxRecDepth 100000
set_option maxHeartbeats 1000000
namespace Wk
open PySem L2 Evl
theorem Gm.youngs {F0 H0 : Hp} {M : List Addr} {F H F1 H1 : Hp} (ps : List Addr) (g : Gm M F0 H0 F H) (h0 : ∀ p ∈ ps, H0 p = none) (g2 : Gm (ps ++ M) F H F1 H1) : Gm M F0 H0 F1 H1 :=
  ⟨g.f.trans g2.f, g2.s, fun a o hM h => g2.h a o (fun q => by
      rcases List.mem_append.mp q with q | q
      · rw [h0 a q] at h; cases h
      · exact hM q) (g.h a o hM h), fun a o h hn => by
    obtain ⟨o', h'⟩ := g.m a o h
    exact g2.n a o' h' (g.n a o h hn), fun a o h => by
    obtain ⟨o', h'⟩ := g.m a o h
    exact g2.m a o' h'⟩
/-! ### a draw -/
def seedN (s c : Int) : Int := (s * 48271 + c + 11) % 2147483647
def takenA (scr : List Int) (st : Rw) (many : Int) : Mm (Int × Rw) :=
  if 0 < many ∧ many < 1073741824 ∧ 0 ≤ st.seed ∧ st.seed < 2147483647 ∧ 0 ≤ st.pos ∧ st.pos < 1000000 then
    if st.left > 0 then .ok (st.left % many, ⟨st.pos, st.seed, st.left / many⟩)
    else match scr[st.pos.toNat]? with
      | none => .ok ((seedN st.seed 0 / 7) % many, ⟨st.pos + 1, seedN st.seed 0, st.left⟩)
      | some c => .ok (c % many, ⟨st.pos + 1, seedN st.seed c, if c ≥ 10 ^ 18 then c / many else 0⟩)
  else .bad
def takenB (scr : List Int) (st : Rw) (many : Int) : Mm (Int × Rw) :=
  if 0 < many ∧ many < 1073741824 ∧ 0 ≤ st.seed ∧ st.seed < 2147483647 ∧ 0 ≤ st.pos ∧ st.pos < 1000000 then
    if st.left > 0 then .ok (st.left % many, ⟨st.pos, st.seed, st.left / many⟩)
    else match scr[st.pos.toNat]? with
      | none => .ok ((seedN st.seed 0 / 7) % many, ⟨st.pos + 1, seedN st.seed 0, st.left⟩)
      | some c => .ok (c % many, ⟨st.pos + 1, seedN st.seed c, if c ≥ 10 ^ 18 then c / many else st.left⟩)
  else .bad
def spTaken (tk : List Int → Rw → Int → Mm (Int × Rw)) (K : PySem.W.Frag) : Sp := fun vs H Q _ => ∃ (F : Hp) (sc ra : Addr) (scr : List Int) (st : Rw) (many : Int), vs = [.ref ra, .int many] ∧ Ex F H ∧ RowAt K sc ra scr F H st ∧
  Post (tk scr st many) (fun r => Ret [ra] F H (fun F' H' v => v = .int r.1 ∧ RowAt K sc ra scr F' H' r.2) Q) (fun _ => False)
theorem iteP {c : Bool} {A B : Prop} (h : c = true) (a : A) : if c = true then A else B := by rw [if_pos h]; exact a
theorem iteN {c : Bool} {A B : Prop} (h : c = false) (b : B) : if c = true then A else B := by rw [h, if_neg Bool.false_ne_true]; exact b
theorem cmul_small {i j : Int} (h : i.natAbs < 2 ^ 62) (h' : j.natAbs < 2 ^ 62) : CMulW i j := wide_mul h h' (by decide) (by decide) (by decide)
theorem fmod_pos {i j : Int} (h : 0 < j) : i.fmod j = i % j := Int.fmod_eq_emod_of_nonneg _ (Int.le_of_lt h)
theorem fdiv_pos {i j : Int} (h : 0 < j) : i.fdiv j = i / j := Int.fdiv_eq_ediv_of_nonneg _ (Int.le_of_lt h)
/-- pick one of a list -/
def pickM {α : Type} (tk : List Int → Rw → Int → Mm (Int × Rw)) (scr : List Int) (st : Rw) (l : List α) : Mm (α × Rw) := (tk scr st (l.length : Int)).bd fun b => (getM l b.1).bd fun a => .ok (a, b.2)
def spPick (tk : List Int → Rw → Int → Mm (Int × Rw)) (K : PySem.W.Frag) : Sp := fun vs H Q _ => ∃ (F : Hp) (sc ra : Addr) (scr : List Int) (st : Rw) (α : Type) (en : α → PyData) (v : V) (l : List α), vs = [.ref ra, v] ∧ Ex F H ∧ RowAt K sc ra scr F H st ∧ Dq K F v (eL en l) ∧
  Post (pickM tk scr st l) (fun r => Ret [ra] F H (fun F' H' v => Dq K F' v (en r.1) ∧ RowAt K sc ra scr F' H' r.2) Q) (fun _ => False)
end Wk

set_option Elab.async false
set_option linter.all false
set_option maxRecDepth 100000
set_option maxHeartbeats 1000000
namespace Wk
open PySem L2 Evl
theorem notM_nil {H : Hp} : ∀ D, H D = none → D ∉ ([] : List Addr) := fun _ _ => by simp
theorem notM_cons {H : Hp} {p : Addr} {o : HO} {M : List Addr} (h : H p = some o) (k : ∀ D, H D = none → D ∉ M) : ∀ D, H D = none → D ∉ p :: M := fun D hD q => by
  rcases List.mem_cons.mp q with q | q
  · rw [q, h] at hD; cases hD
  · exact k D hD q
/-! ### own lists whose place is open -/
section
variable {M ps : List Addr} {F0 H0 F H F1 H1 : Hp} {p : Addr} {o u : HO}
theorem Gm.putOr (g : Gm M F0 H0 F H) (y : p ∈ M ∨ H0 p = none) (h : H p = some u) (hf : F p = none) : Gm M F0 H0 F (upd H p o) := by
  rcases y with y | y
  · exact g.putIn y h hf
  · exact g.putYoung h hf y
theorem Gm.outs (ps : List Addr) (hy : ∀ p ∈ ps, p ∈ M ∨ H0 p = none) (g : Gm M F0 H0 F H) (g2 : Gm (ps ++ M) F H F1 H1) : Gm M F0 H0 F1 H1 :=
  ⟨g.f.trans g2.f, g2.s, fun a o hM h => g2.h a o (fun q => by
      rcases List.mem_append.mp q with q | q
      · rcases hy a q with z | z
        · exact hM z
        · rw [z] at h; cases h
      · exact hM q) (g.h a o hM h), fun a o h hn => by
    obtain ⟨o', h'⟩ := g.m a o h
    exact g2.n a o' h' (g.n a o h hn), fun a o h => by
    obtain ⟨o', h'⟩ := g.m a o h
    exact g2.m a o' h'⟩
theorem out_y (hy : ∀ p ∈ ps, p ∈ M ∨ H0 p = none) (g : Gm M F0 H0 F H) (y : p ∈ ps ++ M ∨ H p = none) : p ∈ M ∨ H0 p = none := by
  rcases y with y | y
  · rcases List.mem_append.mp y with q | q
    · exact hy p q
    · exact .inl q
  · exact .inr (g.fresh y)
theorem y_ra {ra : Addr} (y : p ∈ [ra] ∨ H0 p = none) (n : ra ≠ p) : H0 p = none := by
  rcases y with y | y
  · exact absurd (List.mem_singleton.mp y).symm n
  · exact y
theorem y_no (y : p ∈ ([] : List Addr) ∨ H0 p = none) : H0 p = none := by
  rcases y with y | y
  · cases y
  · exact y
end
section
variable {K : PySem.W.Frag} {F H : Hp} {Q : VK} {xs ys : List V} {α : Type} {en : α → PyData} {l l' : List α} {a b : Addr}
theorem own_of (e : Ex F H) (k : ∀ p H', Gm [] F H F H' → H p = none → (H' p = some (.lst xs) ∧ F p = none) → Q (.ref p) H') : ∀ p, H p = none → Q (.ref p) (upd H p (.lst xs)) := fun p hp => k p _ (Gm.newM e hp) hp ⟨upd_same, by
    cases q : F p with
    | none => rfl
    | some u => rw [e p u q] at hp; cases hp⟩
/-- list(x) that may change -/
theorem to_own (e : Ex F H) (s : SqL K H a xs ∨ SqT K H a xs) (k : ∀ p H', Gm [] F H F H' → H p = none → (H' p = some (.lst xs) ∧ F p = none) → Q (.ref p) H') : ∃ p ys, [V.ref a] = [.ref p] ∧ (SqL K H p ys ∨ SqT K H p ys) ∧ ∀ l, H l = none → Q (.ref l) (upd H l (.lst ys)) :=
  ⟨a, xs, rfl, s, own_of e k⟩
end
/-! ### isinstance of an int -/
section
variable {X : Cx}
theorem call_isiI : CallR X (.builtin "isinstance") (fun xs H Q => ∃ (i : Int) (n : String) (b : Bool), xs = [.int i, .ty n] ∧ ((n = "int" ∧ b = true) ∨ (n = "bool" ∧ b = false)) ∧ Q (.bl b) H) := by
  intro pins s σ H vs us Q I r h
  obtain ⟨i, n, b, rfl, hn, q⟩ := h
  rcases hn with ⟨rfl, rfl⟩ | ⟨rfl, rfl⟩
  · exact call_isi pins s σ H _ us Q I r ⟨_, _, _, _, true, rfl, .ty _, .base (.int i), kit_ty (by decide +kernel), q⟩
  · exact call_isi pins s σ H _ us Q I r ⟨_, _, _, _, false, rfl, .ty _, .base (.int i), kit_ty (by decide +kernel), q⟩
end
/-! ### tuples of unlike items, empty or not -/
section
variable {K : PySem.W.Frag} {M : List Addr} {F H : Hp} {Q : VK} {α β : Type} {en : α → PyData} {en' : β → PyData} {l : List α} {l' : List β} {xs ys : List V} {a b : Addr}
theorem cat_tupD (e : Ex F H) (s : SqT K F a xs) (h : DqAll K F xs (l.map en)) (s' : SqT K F b ys) (h' : DqAll K F ys (l'.map en')) (hl : l.length + l'.length ≤ 100000) (k : Ret M F H (fun F' _ v => Dq K F' v (.tuple (l.map en ++ l'.map en'))) Q) : rCatM K (.ref a) (.ref b) H Q := by
  have n1 : xs.length = l.length := by rw [h.len, List.length_map]
  have n2 : ys.length = l'.length := by rw [h'.len, List.length_map]
  refine ⟨a, b, xs, ys, rfl, rfl, ex_t e s, ex_t e s', sz_of (by omega), fun q => ?_, fun _ q => ?_, fun _ _ p hp => ?_⟩
  · subst q
    have hl0 : l = [] := List.length_eq_zero_iff.mp n1.symm
    exact k _ _ _ (Gm.refl e) (by rw [hl0]; exact .tup s' h')
  · subst q
    have hl0 : l' = [] := List.length_eq_zero_iff.mp n2.symm
    exact k _ _ _ (Gm.refl e) (by rw [hl0, List.map_nil, List.append_nil]; exact .tup s h)
  · have g : Gm M F H (upd F p (.tup (xs ++ ys))) (upd H p (.tup (xs ++ ys))) := Gm.new e hp
    exact k _ _ _ g (.tup (st_of upd_same) ((h.app h').up g.f))
end
section
variable {X : Cx} {α β : Type} [DecidableEq α] [DecidableEq β] {f : α → PyData} {g : β → PyData} {n m : Nat}
theorem lay_app : ∀ (l r : List PyData), PyData.canLayAll0 l = true → PyData.canLayAll0 r = true → PyData.canLayAll0 (l ++ r) = true
  | [], r, _, h => h
  | x :: l, r, h, h' => by
    simp only [PyData.canLayAll0, Bool.and_eq_true] at h
    simp only [List.cons_append, PyData.canLayAll0, Bool.and_eq_true]
    exact ⟨h.1, lay_app l r h.2 h'⟩
theorem dep_app : ∀ (l r : List PyData) (k : Nat), PyData.depthAll l ≤ k → PyData.depthAll r ≤ k → PyData.depthAll (l ++ r) ≤ k
  | [], r, _, _, h => h
  | x :: l, r, k, h, h' => by
    simp only [PyData.depthAll] at h
    simp only [List.cons_append, PyData.depthAll]
    have := dep_app l r k (by omega) h'
    omega
theorem shaped_cat (s : Sh f n) (s' : Sh g m) (l : List α) (r : List β) (h : max n m + 1 ≤ 64 := by decide) : SeqAt.shaped (.tuple (l.map f ++ r.map g)) = true := by
  unfold SeqAt.shaped
  have d := dep_app (l.map f) (r.map g) (max n m) (Nat.le_trans (dep_map s l) (Nat.le_max_left ..)) (Nat.le_trans (dep_map s' r) (Nat.le_max_right ..))
  simp only [PyData.canLay0, lay_app _ _ (lay_map s l) (lay_map s' r), PyData.depth, Bool.true_and]
  exact decide_eq_true (by omega)
/-- t != (), t == () -/
def rNilM (K : PySem.W.Frag) (neg : Bool) : R2 := fun x y H Q => ∃ (ds : List PyData) (b : Bool), Dp K H x (.tuple ds) ∧ Dp K H y (.tuple []) ∧ SeqAt.shaped (.tuple ds) = true ∧ ds.isEmpty = b ∧ Q (.bl (if neg = true then !b else b)) H
theorem eqv_nil (ds : List PyData) : PyData.eqv (.tuple ds) (.tuple []) = ds.isEmpty := by
  cases ds <;> rfl
theorem op_neNil (hu : X.A.units + 64 < cLine) : OpR X (compareOp .NotEq) (rNilM X.K true) := by
  intro pins st σ H x y v u Q I rx ry h
  obtain ⟨ds, b, hd, he, sd, rfl, q⟩ := h
  exact op_neD hu pins st σ H x y v u Q I rx ry ⟨.tuple ds, .tuple [], hd, he, sd, by decide, by rw [eqv_nil]; exact q⟩
theorem op_eqNil (hu : X.A.units + 64 < cLine) : OpR X (compareOp .Eq) (rNilM X.K false) := by
  intro pins st σ H x y v u Q I rx ry h
  obtain ⟨ds, b, hd, he, sd, rfl, q⟩ := h
  exact op_eqD hu pins st σ H x y v u Q I rx ry ⟨.tuple ds, .tuple [], hd, he, sd, by decide, by rw [eqv_nil]; exact q⟩
theorem isEmpty_cat (l : List α) (r : List β) : (l.map f ++ r.map g).isEmpty = (l.isEmpty && r.isEmpty) := by
  cases l <;> cases r <;> rfl
end
/-! ### weightings -/
abbrev Ms := List (Int × Int)
abbrev Ss := List (Int × Int × Int)
abbrev Wt := Ms × Ss
abbrev eM : Ms → PyData := eV (e2 PyData.int PyData.int)
abbrev eS : Ss → PyData := eV (e3 PyData.int PyData.int PyData.int)
def wf (m s : V) : List (Str × V) := putF "_stretches" s (putF "_masses" m [])
theorem wf_eq (m s : V) : wf m s = ([("_masses", m), ("_stretches", s)] : List (Str × V)) := by
  have n : ¬ (("_masses" : Str) = "_stretches") := by decide +kernel
  show (if ("_masses" : Str) = "_stretches" then [(("_masses" : Str), s)] else (("_masses" : Str), m) :: putF "_stretches" s []) = ([("_masses", m), ("_stretches", s)] : List (Str × V))
  rw [if_neg n]
  rfl
theorem wf_m (m s : V) : (wf m s).lookup ("_masses" : Str) = some m := by
  unfold wf
  rw [lookup_putF, if_neg (by decide +kernel), lookup_putF, if_pos rfl]
theorem wf_s (m s : V) : (wf m s).lookup ("_stretches" : Str) = some s := by
  unfold wf
  rw [lookup_putF, if_pos rfl]
/-- v is a weighting that stands fixed -/
structure IsW (K : PySem.W.Frag) (C : Addr) (F : Hp) (v : V) (w : Wt) : Prop where
  ex : ∃ a dx m s, v = .ref a ∧ F a = some (.ins C dx (wf m s)) ∧ Dq K F m (eM w.1) ∧ Dq K F s (eS w.2)
theorem IsW.up {K : PySem.W.Frag} {C : Addr} {F F' : Hp} {v : V} {w : Wt} (h : IsW K C F v w) (e : Ex F F') : IsW K C F' v w := by
  obtain ⟨a, dx, m, s, rfl, h1, h2, h3⟩ := h.ex
  exact ⟨a, dx, m, s, rfl, e _ _ h1, h2.up e, h3.up e⟩
/-- a property of a class, by its name and its field -/
structure KnP (P : Program) (w : World) (K : PySem.W.Frag) (mg : Str → Option Value) (base : Heap) (C : Addr) (f fld : Str) : Prop where
  ex : ∃ p g fd, PropOf K C f p g ∧ FnOk P w K mg base CX0 1 g fd ["self"] (getSp C fld) ∧ Binds K fd ["self"] []
  cl : Cls K C
section
variable {X : Cx} {C : Addr} {f fld : Str} {e : Expr} {ta : TE} {pos : Pos}
theorem pe_propK (G : KnP X.prog X.w X.K X.mg X.base C f fld) (hr : Room 2 X.A) (he : PE X e ta) (hab : attributeBase e f X.env (eval e X.env) = eval e X.env := by rfl) : PE X (.Attribute e f pos) (tProp C (getSp C fld) [] E0 ta) := by
  obtain ⟨p, g, fd, hp, F, hb⟩ := G.ex
  exact pe_prop he G.cl hp F hr hb .nil pass0 hab
end
/-- a class that is called: by the name x its __init__ with the promise sp -/
structure KnC (P : Program) (w : World) (K : PySem.W.Frag) (mg : Str → Option Value) (base : Heap) (CX : CXT) (x : Str) (C : Addr) (k : Nat) (ps : List Str) (sp : Sp) : Prop where
  ex : ∃ f fd, Mk K C f ∧ FnOk P w K mg base CX k f fd ps sp ∧ Binds K fd ps []
  mg : mg x = some (.ref C)
section
variable {X : Cx} {C : Addr} {x : Str} {k : Nat} {ps : List Str} {sp : Sp} {e : Expr} {es : List Expr} {t : TA} {p pos : Pos} {CX : CXT} {E : XK}
theorem pe_knC (G : KnC X.prog X.w X.K X.mg X.base CX x C k ps sp) (hr : Room (k + 1) X.A) (hx : Passes CX X E) (ha : PA X (e :: es) t) (hg : Gl X x := by rfl) (hdb : (x == ("__debug__" : Str)) = false := by decide)
    (he : starEach (e :: es) X.env = (false, eval e X.env) :: starEach es X.env := by rfl) (hpl : (backTo pos (starEach es X.env)).any (·.1) = false := by rfl) : PE X (.Call (.Name x p) (e :: es) [] pos) (tMake C sp [] E t) := by
  obtain ⟨f, fd, M, F, hb⟩ := G.ex
  exact pe_make M F hr hg G.mg hb .nil hx ha hdb he hpl
end
/-- Weighting.__init__: chk tells whether the parts may be so -/
def spW0 (chk : Ms → Ss → Mm Wt) (K : PySem.W.Frag) (C : Addr) : Sp := fun vs H Q _ => ∃ (F : Hp) (x dx : Addr) (vm vs' : V) (m : Ms) (s : Ss), vs = [.ref x, vm, vs'] ∧ Ex F H ∧ H x = some (.ins C dx []) ∧ F x = none ∧
  Dq K F vm (eM m) ∧ Dq K F vs' (eS s) ∧ Post (chk m s) (fun w => ∀ F' H' a b, Gm [x] F H F' H' → H' x = some (.ins C dx (wf a b)) → F' x = none → Dq K F' a (eM w.1) → Dq K F' b (eS w.2) → Q .non H') (fun _ => False)
theorem make_W {chk : Ms → Ss → Mm Wt} {K : PySem.W.Frag} {C : Addr} {F H : Hp} {vm vs : V} {m : Ms} {s : Ss} {Q : VK} {E : XK} (e : Ex F H) (hm : Dq K F vm (eM m)) (hs : Dq K F vs (eS s))
    (k : Post (chk m s) (fun w => Ret [] F H (fun F' _ v => IsW K C F' v w) Q) (fun _ => False)) :
    ∀ x dx, H x = none → H dx = none → dx ≠ x → spW0 chk K C (.ref x :: ([vm, vs] ++ [])) (upd (upd H dx (.own x)) x (.ins C dx [])) (fun v H2 => v = .non ∧ Q (.ref x) H2) E := by
  intro x dx hx hdx hne
  have g1 : Gm [] F H (upd F dx (.own x)) (upd H dx (.own x)) := Gm.new e hdx
  have hx1 : (upd H dx (.own x)) x = none := by rw [upd_ne hne.symm]; exact hx
  have g2 : Gm [] (upd F dx (.own x)) (upd H dx (.own x)) (upd F dx (.own x)) (upd (upd H dx (.own x)) x (.ins C dx [])) := Gm.newM g1.s hx1
  have fx : (upd F dx (.own x)) x = none := by
    cases q : (upd F dx (.own x)) x with
    | none => rfl
    | some u => rw [g1.s _ _ q] at hx1; cases hx1
  refine ⟨upd F dx (.own x), x, dx, vm, vs, m, s, rfl, g2.s, upd_same, fx, hm.up g1.f, hs.up g1.f, k.mono (fun w k F' H' a b g h1 h2 ha hb => ⟨rfl, ?_⟩) fun _ z => z⟩
  have gg : Gm [] F H F' H' := by
    refine Gm.young (g1.trans g2) hx g
  have g3 := gg.fix h1 h2 hx
  have up : Ex F' (upd F' x (.ins C dx (wf a b))) := Ex.new h2
  exact k _ _ _ g3 ⟨x, dx, a, b, rfl, upd_same, ha.up up, hb.up up⟩
end Wk

set_option Elab.async false
set_option linter.all false
namespace Wk
open PySem L2 Evl
theorem new_row {K : PySem.W.Frag} {H : Hp} {sc : Addr} {scr : List Int} {Q : VK} (hs : SqL K H sc (scr.map V.int)) (k : ∀ ra H', Ex H H' → RowAt K sc ra scr H H' ⟨0, 0, 0⟩ → Q (.ref ra) H') : [V.ref sc, V.int 0, V.int 0, V.int 0].length ≤ sizeLine ∧ ∀ p, H p = none → Q (.ref p) (upd H p (.lst [V.ref sc, V.int 0, V.int 0, V.int 0])) :=
  ⟨sz_of (by show 4 ≤ 100000; decide), fun p hp => k p _ (Ex.new hp) ⟨upd_same, hp, hs⟩⟩
end Wk

set_option Elab.async false
set_option linter.all false
set_option maxRecDepth 100000
set_option maxHeartbeats 2000000
namespace Wk
open PySem PySem.W L2 He
/-! ### properties by their names -/
def propG (x f : Str) (K : Frag) : Addr := match recIn K (ma K (ga K x) f) "property" with
  | some (.ref g :: _) => g
  | _ => 0
def propB (x f : Str) (K : Frag) : Bool := eqO (findIn K (.ref (ga K x)) f) (some (some (.ref (ma K (ga K x) f)))) && (eqO (specialIn K (.ref (ma K (ga K x) f)) "__get__") (some (some (.builtin "property.__get__"))) &&
  (decide (takesIn K (.ref (ma K (ga K x) f)) = some true) && (match recIn K (ma K (ga K x) f) "property" with
    | some (.ref _ :: _) => true
    | _ => false)))
theorem propB_ok {K : Frag} {x f : Str} (h : propB x f K = true) : PropOf K (ga K x) f (ma K (ga K x) f) (propG x f K) := by
  obtain ⟨h1, h⟩ := ba h
  obtain ⟨h2, h⟩ := ba h
  obtain ⟨h3, h4⟩ := ba h
  refine ⟨eqO_ok h1, eqO_ok h2, of_decide_eq_true h3, ?_⟩
  unfold propG
  split at h4
  · rename_i g r e
    exact ⟨r, by rw [e]⟩
  · cases h4
/-- a def of a class -/
def initAt (x m : Str) (K : Frag) : Addr := ma K (ga K x) m
/-- a name that is a built-in function -/
def bltB (x : Str) (id : String) (K : Frag) : Bool := eqO (nsIn K mainGlobals x) (some (some (.builtin id)))
theorem bltB_ok {K : Frag} {h : Heap} {mg : Str → Option Value} (X : K.In h) (G : h.Ns mainGlobals mg) {x : Str} {id : String} (c : bltB x id K = true) : mg x = some (.builtin id) := mg_of X G (eqO_ok c)
/-! ### the Hook: facts, defs, what else a Bool tells -/
def obsX (fa : List Fa) (fn : List He5.DefA) (ex : Frag → Bool) (K : Frag) : He.AlD := ((fa.all fun f => f.ok K) && ((fn.all fun d => d.ok K) && ex K), fn.map fun d => He5.fnA K (d.at_ K))
def valX (fn : List He5.DefA) : He.AlD := (true, fn.map He5.DefA.val)
def SaysX (fa : List Fa) (fn : List He5.DefA) (ex : Frag → Bool) (K : Frag) : Prop := obsX fa fn ex K = valX fn
def obsXG (n : Nat) (fa : List Fa) (fn : List He5.DefA) (ex : Frag → Bool) (g : Addr → Option Obj) : He.AlD := obsX fa fn ex (frG g (He5.asA g n))
def hookX (n : Nat) (fa : List Fa) (fn : List He5.DefA) (ex : Frag → Bool) : PySem.W.Hook where
  α := He.AlD
  obs := fun s => obsXG n fa fn ex s.heap.get?
  val := fun _ => valX fn
  says := fun _ h => ∃ K : Frag, K.In h ∧ SaysX fa fn ex K
  of := fun _ _ e => ⟨_, frG_in, e⟩
  keeps := fun _ _ _ ⟨K, hK, c⟩ k => ⟨K, Frag.In.keeps hK k, c⟩
theorem obsXG_eq {n : Nat} {fa : List Fa} {fn : List He5.DefA} {ex : Frag → Bool} {g : Addr → Option Obj} {s : Shared} (h : ∀ a, g a = s.heap.get? a) : obsXG n fa fn ex g = (hookX n fa fn ex).obs s := by
  have e : g = s.heap.get? := funext h
  rw [e] <;> rfl
section
variable {fa : List Fa} {fn : List He5.DefA} {ex : Frag → Bool} {K : Frag}
theorem SaysX.bool (c : SaysX fa fn ex K) : (((fa.all fun f => f.ok K) && ((fn.all fun d => d.ok K) && ex K)) : Bool) = true := congrArg (fun z : He.AlD => z.1) c
theorem SaysX.fact (c : SaysX fa fn ex K) (i : Nat) {f : Fa} (h : fa[i]? = some f := by rfl) : f.ok K = true :=
  List.all_eq_true.mp (ba c.bool).1 f (List.mem_of_getElem? h)
theorem SaysX.ext (c : SaysX fa fn ex K) : ex K = true := (ba (ba c.bool).2).2
theorem SaysX.def_ (c : SaysX fa fn ex K) (i : Nat) {d : He5.DefA} (h : fn[i]? = some d := by rfl) : ∃ fd, L2.FunD K d.name d.qual d.params d.body d.scope (d.dvs K) (d.kws K) (d.at_ K) fd := by
  have c2 := (ba (ba c.bool).2).1
  have e : fn.map (fun d => He5.fnA K (d.at_ K)) = fn.map He5.DefA.val := congrArg (fun z : He.AlD => z.2) c
  have e2 : (fn.map fun d => He5.fnA K (d.at_ K))[i]? = (fn.map He5.DefA.val)[i]? := by rw [e]
  rw [List.getElem?_map, List.getElem?_map, h] at e2
  exact He5.DefA.funD (Option.some.inj e2) (List.all_eq_true.mp c2 d (List.mem_of_getElem? h))
end
/-- a global's def -/
def gAt (x : Str) (K : Frag) : Addr := ga K x
theorem knP_of {P : Program} {w : World} {K : Frag} {mg : Str → Option Value} {base : Heap} {x f fld qual : Str} {params : Arguments} {body : List Stmt} {scope : Scope} {fd : FuncData} {p1 p2 p3 : Pos} (hp : propB x f K = true) (cl : Cls K (ga K x)) (n : NoAttr K (ga K x) fld)
    (F : FunD K f qual params body scope [] [] (propG x f K) fd) (S : FnScope ["self"] ["self"] scope) (hb : body = [.Return (some (.Attribute (.Name "self" p1) fld p2)) p3])
    (bi : ∀ (kV doc pm : Value) (an : Option Addr) (cdv ct : Value) (us : List Value), us.length = 1 → bindArgs (PySem.W.fnOf f qual params body scope .none kV doc pm an cdv ct) ⟨us, []⟩ = pure ([("self" : Str)].zip us)) : KnP P w K mg base (ga K x) f fld := by
  have b := F.bindsN (ps := ["self"]) bi
  obtain ⟨oc, od, dV, kV, doc, pm, an, cdv, ct, osl, rfl, lk, hcd, _, _⟩ := F.ex
  exact ⟨⟨_, _, _, propB_ok hp, fn_getter lk hcd S rfl hb cl n, b⟩, cl⟩
end Wk

set_option Elab.async false
set_option linter.all false
set_option maxRecDepth 100000
namespace Wk
open PySem L2
/-! ### outcomes that are values -/
def Yes {α : Type} (m : Mm α) (p : α → Prop) : Prop := ∃ a, m = .ok a ∧ p a
section
variable {α β γ S : Type} {m : Mm α} {f : α → Mm β} {p : α → Prop} {q : β → Prop}
theorem Yes.ok {a : α} (h : p a) : Yes (.ok a) p := ⟨a, rfl, h⟩
theorem Yes.bd (h : Yes m p) (k : ∀ a, p a → Yes (f a) q) : Yes (m.bd f) q := by
  obtain ⟨a, rfl, h⟩ := h
  exact k a h
theorem Yes.eq {a : α} (h : m = .ok a) (k : Yes (f a) q) : Yes (m.bd f) q := by
  subst h
  exact k
theorem Yes.mono {p' : α → Prop} (h : Yes m p) (k : ∀ a, p a → p' a) : Yes m p' := by
  obtain ⟨a, e, h⟩ := h
  exact ⟨a, e, k a h⟩
theorem Yes.guard {c : Prop} [Decidable c] {f : Unit → Mm β} (h : c) (k : Yes (f ()) q) : Yes ((guardM c).bd f) q := by
  unfold guardM
  rw [if_pos h]
  exact k
theorem bd_eq {a : α} (h : m = .ok a) : m.bd f = f a := by subst h; rfl
theorem bd_guard {c : Prop} [Decidable c] {f : Unit → Mm β} (h : c) : (guardM c).bd f = f () := by unfold guardM; rw [if_pos h]; rfl
theorem mapMm_eq {f : α → Mm γ} {g : α → γ} : ∀ l : List α, (∀ x ∈ l, f x = .ok (g x)) → mapMm f l = .ok (l.map g)
  | [], _ => rfl
  | x :: l, h => by
    unfold mapMm
    rw [h x (List.mem_cons_self ..), mapMm_eq l fun y hy => h y (List.mem_cons_of_mem _ hy)]
    rfl
theorem foldM_eq {f : S → α → Mm S} {g : S → α → S} (I : S → List α → Prop) : ∀ (l : List α) (s : S), I s l → (∀ s x l, I s (x :: l) → f s x = .ok (g s x) ∧ I (g s x) l) → foldM f s l = .ok (l.foldl g s)
  | [], s, _, _ => rfl
  | x :: l, s, h, k => by
    obtain ⟨e, h2⟩ := k s x l h
    unfold foldM
    rw [e]
    exact foldM_eq I l _ h2 k
theorem yes_fold {f : S → α → Mm S} (I : S → List α → Prop) : ∀ (l : List α) (s : S), I s l → (∀ s x l, I s (x :: l) → Yes (f s x) fun s' => I s' l) → Yes (foldM f s l) fun s' => I s' []
  | [], s, h, _ => ⟨s, rfl, h⟩
  | x :: l, s, h, k => by
    obtain ⟨s', e, h2⟩ := k s x l h
    unfold foldM
    rw [e]
    exact yes_fold I l s' h2 k
inductive All2 {α γ : Type} (p : α → γ → Prop) : List α → List γ → Prop
  | nil : All2 p [] []
  | cons {x : α} {y : γ} {l : List α} {r : List γ} : p x y → All2 p l r → All2 p (x :: l) (y :: r)
theorem All2.len {p : α → γ → Prop} {l : List α} {r : List γ} (h : All2 p l r) : r.length = l.length := by
  induction h with
  | nil => rfl
  | cons _ _ ih => simp [ih]
theorem All2.right {p : α → γ → Prop} {q : γ → Prop} {l : List α} {r : List γ} (h : All2 p l r) (k : ∀ x y, p x y → q y) : ∀ y ∈ r, q y := by
  induction h with
  | nil => simp
  | cons a _ ih =>
    intro y hy
    rcases List.mem_cons.mp hy with rfl | hy
    · exact k _ _ a
    · exact ih y hy
theorem All2.fst {g : γ → α} {p : α → γ → Prop} {l : List α} {r : List γ} (h : All2 p l r) (k : ∀ x y, p x y → g y = x) : r.map g = l := by
  induction h with
  | nil => rfl
  | cons a _ ih => rw [List.map_cons, k _ _ a, ih]
theorem yes_mapSt {f : S → α → Mm (γ × S)} (I : S → Prop) (p : α → γ → Prop) : ∀ (l : List α) (s : S), I s → (∀ s x, x ∈ l → I s → Yes (f s x) fun y => p x y.1 ∧ I y.2) → Yes (mapSt f s l) fun r => All2 p l r.1 ∧ I r.2
  | [], s, h, _ => ⟨_, rfl, .nil, h⟩
  | x :: l, s, h, k => by
    obtain ⟨y, e, h1, h2⟩ := k s x (List.mem_cons_self ..) h
    obtain ⟨r, e2, h3, h4⟩ := yes_mapSt I p l y.2 h2 fun s z hz => k s z (List.mem_cons_of_mem _ hz)
    unfold mapSt
    rw [e]
    show Yes ((mapSt f y.2 l).bd _) _
    rw [e2]
    exact ⟨_, rfl, .cons h1 h3, h4⟩
end
theorem range_ok {j : Int} (h : -(2 ^ 62) ≤ j) (h2 : j < 2 ^ 62) : rangeM j = .ok (rangeL 0 j.toNat) := by unfold rangeM; rw [if_pos ⟨h, h2⟩]
theorem mul_ok {i j : Int} {a b : Nat} (ha : i.natAbs < 2 ^ a) (hb : j.natAbs < 2 ^ b) (h : a + b ≤ 900000) : mulM i j = .ok (i * j) := by
  unfold mulM
  refine if_pos (wide_mul (a := a + 1) (b := b + 1) ?_ ?_ (by omega) (by omega) (by omega))
  · rw [Nat.pow_succ]; omega
  · rw [Nat.pow_succ]; omega
theorem div_any {i j : Int} {b : Nat} (h : j ≠ 0) (hb : j.natAbs < 2 ^ b) (h2 : b < 9000) : divM i j = .ok (i.fdiv j) := by
  unfold divM
  have hb' : j.natAbs < 2 ^ (b + 1) := by rw [Nat.pow_succ]; omega
  exact if_pos ⟨h, Nat.lt_of_lt_of_le (PySem.Flt.log2_lt_of (by omega) hb') (by omega)⟩
theorem div_ok {i j : Int} {b : Nat} (h : 0 < j) (hb : j.natAbs < 2 ^ b) (h2 : b < 9000) : divM i j = .ok (i / j) := by
  rw [div_any (by omega) hb h2, Int.fdiv_eq_ediv_of_nonneg _ (Int.le_of_lt h)]
theorem mod_ok {i j : Int} (h : 0 < j) : modM i j = .ok (i % j) := by
  unfold modM
  rw [if_pos (by omega), Int.fmod_eq_emod_of_nonneg _ (Int.le_of_lt h)]
theorem mod_ne {i j : Int} (h : j ≠ 0) : modM i j = .ok (i.fmod j) := by
  unfold modM
  rw [if_pos h]
/-! ### fractions -/
def fr (q : Rat) : Int × Int := (q.num, (q.den : Int))
def Sq (n : Nat) (q : Rat) : Prop := q.num.natAbs < 2 ^ n ∧ q.den < 2 ^ n
theorem fr_nat (a : Int) {d : Nat} (h : d ≠ 0) : fr ((a : Rat) / (d : Rat)) = (a / ((Nat.gcd a.natAbs d : Nat) : Int), ((d / Nat.gcd a.natAbs d : Nat) : Int)) := by
  unfold fr
  rw [← Rat.mkRat_eq_div, Rat.num_mkRat, Rat.den_mkRat, if_neg h, if_neg h, Nat.gcd_comm]
theorem fr_int (a : Int) {b : Int} (h : 0 < b) : fr ((a : Rat) / (b : Rat)) = (a / ((Nat.gcd a.natAbs b.natAbs : Nat) : Int), b / ((Nat.gcd a.natAbs b.natAbs : Nat) : Int)) := by
  obtain ⟨d, rfl⟩ := Int.eq_ofNat_of_zero_le (Int.le_of_lt h)
  have hd : d ≠ 0 := by omega
  have := fr_nat a hd
  rw [Int.natAbs_natCast, ← Int.natCast_ediv]
  exact this
theorem gcd_pos_int {a b : Int} (h : 0 < b) : 0 < ((Nat.gcd a.natAbs b.natAbs : Nat) : Int) := by
  have : 0 < Nat.gcd a.natAbs b.natAbs := Nat.gcd_pos_of_pos_right _ (by omega)
  omega
theorem gcd_le_int {a b : Int} (h : 0 < b) : ((Nat.gcd a.natAbs b.natAbs : Nat) : Int).natAbs ≤ b.natAbs := by
  rw [Int.natAbs_natCast]
  exact Nat.gcd_le_right _ (by omega)
theorem den_posI (q : Rat) : 0 < (q.den : Int) := by
  have := q.den_nz
  omega
theorem fr_val (q : Rat) : ((fr q).1 : Rat) / ((fr q).2 : Rat) = q := by
  have h := Rat.mkRat_eq_div q.num q.den
  rw [Rat.mkRat_self] at h
  unfold fr
  rw [show (((q.den : Nat) : Int) : Rat) = ((q.den : Nat) : Rat) from rfl]
  exact h.symm
theorem sq_div {n : Nat} {a b : Int} (h : 0 < b) (ha : a.natAbs < 2 ^ n) (hb : b.natAbs < 2 ^ n) : Sq n ((a : Rat) / (b : Rat)) := by
  have e := fr_int a h
  unfold fr at e
  simp only [Prod.mk.injEq] at e
  obtain ⟨e1, e2⟩ := e
  unfold Sq
  have g0 := gcd_pos_int (a := a) h
  constructor
  · rw [e1]
    exact Nat.lt_of_le_of_lt (Int.natAbs_ediv_le_natAbs _ _) ha
  · have : ((a : Rat) / (b : Rat)).den = (((a : Rat) / (b : Rat)).den : Int).natAbs := by omega
    rw [this, e2]
    exact Nat.lt_of_le_of_lt (Int.natAbs_ediv_le_natAbs _ _) hb
theorem two_le (n : Nat) : 1 ≤ 2 ^ n := Nat.one_le_two_pow
theorem add_lt {x y : Int} {a b n : Nat} (ha : x.natAbs < 2 ^ a) (hb : y.natAbs < 2 ^ b) (h : a < n) (h' : b < n) : (x + y).natAbs < 2 ^ n := by
  have e1 : 2 ^ a ≤ 2 ^ (n - 1) := Nat.pow_le_pow_right (by decide) (by omega)
  have e2 : 2 ^ b ≤ 2 ^ (n - 1) := Nat.pow_le_pow_right (by decide) (by omega)
  have e3 : 2 ^ n = 2 * 2 ^ (n - 1) := by
    rw [← Nat.pow_succ']
    congr 1
    omega
  omega
theorem sub_lt {x y : Int} {a b n : Nat} (ha : x.natAbs < 2 ^ a) (hb : y.natAbs < 2 ^ b) (h : a < n) (h' : b < n) : (x - y).natAbs < 2 ^ n := by
  have := add_lt (x := x) (y := -y) ha (by omega) h h'
  rwa [Int.sub_eq_add_neg]
theorem mul_lt {x y : Int} {a b n : Nat} (ha : x.natAbs < 2 ^ a) (hb : y.natAbs < 2 ^ b) (h : a + b ≤ n) : (x * y).natAbs < 2 ^ n :=
  Nat.lt_of_lt_of_le (wide_lt ha hb) (Nat.pow_le_pow_right (by decide) h)
theorem up_lt {x : Int} {a n : Nat} (ha : x.natAbs < 2 ^ a) (h : a ≤ n) : x.natAbs < 2 ^ n := Nat.lt_of_lt_of_le ha (Nat.pow_le_pow_right (by decide) h)
theorem Sq.up {q : Rat} {a n : Nat} (h : Sq a q) (l : a ≤ n) : Sq n q := ⟨up_lt h.1 l, Nat.lt_of_lt_of_le h.2 (Nat.pow_le_pow_right (by decide) l)⟩
theorem Sq.d {q : Rat} {a : Nat} (h : Sq a q) : ((q.den : Nat) : Int).natAbs < 2 ^ a := by rw [Int.natAbs_natCast]; exact h.2
theorem rat_add (p q : Rat) : p + q = ((p.num * (q.den : Int) + q.num * (p.den : Int) : Int) : Rat) / (((p.den : Int) * (q.den : Int) : Int) : Rat) := by
  have a := fr_val p
  have b := fr_val q
  unfold fr at a b
  have x : ((p.den : Int) : Rat) ≠ 0 := by
    have := den_posI p
    intro z
    have := Rat.intCast_inj.mp (show ((p.den : Int) : Rat) = ((0 : Int) : Rat) from z)
    omega
  have y : ((q.den : Int) : Rat) ≠ 0 := by
    have := den_posI q
    intro z
    have := Rat.intCast_inj.mp (show ((q.den : Int) : Rat) = ((0 : Int) : Rat) from z)
    omega
  push_cast
  push_cast at a b x y
  grind
theorem rat_mul (p q : Rat) : p * q = ((p.num * q.num : Int) : Rat) / (((p.den : Int) * (q.den : Int) : Int) : Rat) := by
  have a := fr_val p
  have b := fr_val q
  unfold fr at a b
  push_cast
  push_cast at a b
  grind
theorem rat_div (p q : Rat) : p / q = ((p.num * (q.den : Int) : Int) : Rat) / (((p.den : Int) * q.num : Int) : Rat) := by
  have a := fr_val p
  have b := fr_val q
  unfold fr at a b
  push_cast
  push_cast at a b
  grind
theorem sq_add {p q : Rat} {a b n : Nat} (ha : Sq a p) (hb : Sq b q) (h : a + b < n) : Sq n (p + q) := by
  rw [rat_add]
  refine sq_div (Int.mul_pos (den_posI p) (den_posI q)) ?_ (mul_lt ha.d hb.d (by omega))
  exact add_lt (mul_lt ha.1 hb.d (Nat.le_refl _)) (mul_lt hb.1 ha.d (Nat.le_refl _)) (by omega) (by omega)
theorem sq_mul {p q : Rat} {a b n : Nat} (ha : Sq a p) (hb : Sq b q) (h : a + b ≤ n) : Sq n (p * q) := by
  rw [rat_mul]
  exact sq_div (Int.mul_pos (den_posI p) (den_posI q)) (mul_lt ha.1 hb.1 h) (mul_lt ha.d hb.d h)
theorem num_pos' {q : Rat} (h : 0 < q) : 0 < q.num := by
  have := Rat.num_nonneg (q := q)
  have h1 : 0 ≤ q.num := this.mpr (Rat.le_of_lt h)
  have h2 : q.num ≠ 0 := fun z => by
    have : q = 0 := Rat.num_eq_zero.mp z
    rw [this] at h
    exact absurd h (by decide)
  omega
theorem sq_quo {p q : Rat} {a b n : Nat} (ha : Sq a p) (hb : Sq b q) (hq : 0 < q) (h : a + b ≤ n) : Sq n (p / q) := by
  rw [rat_div]
  exact sq_div (Int.mul_pos (den_posI p) (num_pos' hq)) (mul_lt ha.1 hb.d h) (mul_lt ha.d hb.1 h)
theorem fr_inj {p q : Rat} (h : fr p = fr q) : p = q := by
  have a := fr_val p
  rw [h, fr_val] at a
  exact a.symm
end Wk

set_option Elab.async false
set_option linter.all false
set_option maxRecDepth 100000
namespace Wk
open PySem L2 Evl
section
variable {K : PySem.W.Frag} {M : List Addr} {F F' H H' : Hp} {Q : VK} {α : Type} {en : α → PyData} {l l' : List α} {xs ys : List V} {a b p : Addr} {v : V} {ds : List PyData}
/-! ### None or a value -/
theorem sh_eO [DecidableEq α] {f : α → PyData} {n : Nat} (s : Sh f n) (h1 : ∀ a, PyData.eqv .none (f a) = false := by intro a; rfl) (h2 : ∀ a, PyData.eqv (f a) .none = false := by intro a; rfl) : Sh (eO f) (n + 1) :=
  ⟨fun o => by cases o with
    | none => rfl
    | some a => exact s.lay a, fun o => by cases o with
    | none => simp [eO, PyData.depth]
    | some a => exact Nat.le_succ_of_le (s.dep a), fun o o' => by
      cases o with
      | none => cases o' with
        | none => simp [eO, PyData.eqv]
        | some b => rw [show eO f none = .none from rfl, show eO f (some b) = f b from rfl, h1]; simp
      | some a => cases o' with
        | none => rw [show eO f none = .none from rfl, show eO f (some a) = f a from rfl, h2]; simp
        | some b => rw [show eO f (some a) = f a from rfl, show eO f (some b) = f b from rfl, s.eq]; simp⟩
theorem isN_go {o : Option α} {Q : VK} (h : Dq K F v (eO en o)) (q : Q (.bl o.isNone) H) (hn : ∀ a, en a ≠ .none := by intro a; exact fun h => nomatch h) : (fun (x : V) (H1 : Hp) => Q (.bl (decide (x = V.non))) H1) v H := by
  show Q (.bl (decide (v = V.non))) H
  rw [none_O h hn]
  exact q
def getO {α : Type} (o : Option α) : Mm α := match o with
  | some a => .ok a
  | none => .bad
theorem post_getO {β : Type} {f : α → Mm β} {r : β → Prop} {q : Er → Prop} {o : Option α} (h : Post ((getO o).bd f) r q) : ∃ a, o = some a ∧ Post (f a) r q := by
  cases o with
  | none => exact h.h.elim
  | some a => exact ⟨a, rfl, ⟨h.h⟩⟩
theorem dq_some {o : Option α} {x : α} (d : Dq K F v (eO en o)) (h : o = some x) : Dq K F v (en x) := by
  subst h
  exact d
/-! ### a list display with a list in it -/
theorem new_star {pre : List V} {pm : List α} (e : Ex F H) (a : DqAll K F pre (pm.map en)) (b : DqAll K F xs (l.map en)) (hl : pm.length + l.length ≤ 100000) (k : Ret M F H (fun F' _ v => Dq K F' v (eL en (pm ++ l))) Q) :
    (pre ++ (xs ++ [])).length ≤ sizeLine ∧ ∀ p, H p = none → Q (.ref p) (upd H p (.lst (pre ++ (xs ++ [])))) := by
  rw [List.append_nil]
  refine new_lst e (ds := (pm ++ l).map en) ?_ ?_ k
  · rw [List.map_append]
    exact a.app b
  · rw [List.length_append, a.len, b.len, List.length_map, List.length_map]
    exact hl
/-- a tuple of any values -/
theorem new_tupR (e : Ex F H) (hl : xs.length ≤ 100000) (k : ∀ p F' H', Gm M F H F' H' → SqT K F' p xs → Q (.ref p) H') : xs.length ≤ sizeLine ∧ ∀ p, H p = none → Q (.ref p) (upd H p (.tup xs)) :=
  ⟨sz_of hl, fun p hp => k p _ _ (Gm.new e hp) (st_of upd_same)⟩
/-! ### an item is set -/
def setM {α : Type} (l : List α) (i : Int) (v : α) : Mm (List α) := match ixN l.length i with
  | some j => .ok (l.set j v)
  | none => .bad
theorem post_set {β : Type} {f : List α → Mm β} {r : β → Prop} {q : Er → Prop} {i : Int} {x : α} (h : Post ((setM l i x).bd f) r q) : ∃ m j, ixN l.length i = some j ∧ l.set j x = m ∧ Post (f m) r q := by
  unfold setM at h
  cases e : ixN l.length i with
  | none =>
    rw [e] at h
    exact h.h.elim
  | some j =>
    rw [e] at h
    exact ⟨_, j, rfl, rfl, ⟨h.h⟩⟩
theorem all_ix {i : Int} {j : Nat} (a : DqAll K F xs (l.map en)) (h : ixN l.length i = some j) : ixN xs.length i = some j := by
  rw [a.len, List.length_map]
  exact h
theorem dqAll_set {v : V} {d : PyData} : ∀ {xs : List V} {ds : List PyData} (j : Nat), DqAll K F xs ds → Dq K F v d → DqAll K F (xs.set j v) (ds.set j d)
  | _, _, j, .nil, _ => .nil
  | _, _, 0, .cons _ b, h => .cons h b
  | _, _, j + 1, .cons a b, h => .cons a (dqAll_set j b h)
theorem all_set {j : Nat} {x : α} {m : List α} (a : DqAll K F xs (l.map en)) (h : Dq K F v (en x)) (e : l.set j x = m) : DqAll K F (xs.set j v) (m.map en) := by
  subst e
  rw [List.map_set]
  exact dqAll_set j a h
end
section
variable {K : PySem.W.Frag} {M : List Addr} {F H : Hp} {σ : L2.St} {g : TG} {tt : TT} {te : TE} {vs : List Nat} {α β γ : Type} {l : List α} {ok : β → Prop} {ex : Er → Prop} {J : It} {R : Hp → V → α → Prop} {Q : VK}
theorem lc_fil {f : α → Mm (Option γ)} {rest : List γ → Mm β} (w : Wlk M F H J l R) (en : γ → PyData) (k : Post ((filMm f l).bd rest) ok ex) (e : Ex F H) (hz : l.length ≤ 50000) (hM : ∀ D, H D = none → D ∉ M)
    (hb : ∀ x v F1 H1 F2 H2, Gm M F H F1 H1 → Gm [] F1 H1 F2 H2 → R F2 v x → ∀ Q' : Option V → Hp → Prop, Post (f x) (fun o => ∀ F3 H3 v, Gm M F1 H1 F3 H3 → (match o with
        | some y => ∃ u, v = some u ∧ Dq K F3 u (en y)
        | none => v = none) → Q' v H3) (fun _ => False) →
      g v (wipe σ vs) H2 fun σ2 H3 => wipe σ2 vs = wipe σ vs ∧ tt σ2 H3 fun b H4 => if b = true then te σ2 H4 fun y H5 => Q' (some y) H5 else Q' none H4)
    (hx : ∀ e, ¬ ex e) (kk : ∀ (r : List γ) v F' H', Gm M F H F' H' → Dq K F' v (eL en r) → Post (rest r) ok ex → Q v H') (mono : GMon g) :
    ∀ D, H D = none → ∃ W : Nat → Nat → Hp → Prop, (∃ m, W 0 m (upd H D (.lst []))) ∧ ∀ i m H, W i m H →
      (J.stop i H ∧ Q (.ref D) H) ∨ (J.go i H ∧ ∃ Nx : Hp → Prop, (∀ H', Nx H' → ∃ m', m' < m ∧ W (i + 1) m' H') ∧ ∀ x H', J.yld i H x H' → g x (wipe σ vs) H' fun σ2 H2 => wipe σ2 vs = wipe σ vs ∧ tt σ2 H2 fun b H3 =>
        if b = true then te σ2 H3 fun y H4 => ∃ acc, H4 D = some (.lst acc) ∧ acc.length < sizeLine ∧ Nx (upd H4 D (.lst (acc ++ [y]))) else Nx H3) := by
  obtain ⟨n, G, Y, w, hn, hG, hY⟩ := w.ex
  rw [filMm_comp, bd_assoc] at k
  refine lc_mir w en (fun _ _ _ => True) k e trivial stab_t hn hz hG hM (fun i s x v F' H' H'' g' _ hx y Q' k' => ?_) hx (fun r v F' H' g' _ d k' => kk r.1 v F' H' g' d k')
  obtain ⟨F'', g2, r⟩ := hY i x v F' H' H'' g' hx y
  exact hb x v F' H' F'' H'' g' g2 r Q' ((post_bd k').mono (fun o q F3 H3 v g3 d => q.h F3 H3 v g3 trivial (by cases o <;> exact d)) fun _ z => z)
end
end Wk

set_option Elab.async false
set_option linter.all false
set_option maxRecDepth 100000
set_option maxHeartbeats 2000000
namespace Wk
open PySem L2 Evl
theorem cdv_small {i j : Int} (h : j ≠ 0 ∧ j.natAbs < 1073741824) : CDv i j := by
  have e : j.natAbs < 2 ^ 30 := by have : (2 : Nat) ^ 30 = 1073741824 := by decide
                                   omega
  exact ⟨h.1, Nat.lt_of_lt_of_le (PySem.Flt.log2_lt_of (by decide) e) (by decide)⟩
/-! ### and, or: the second operand draws -/
section
variable {M : List Addr} {F H : Hp} {σ : L2.St} {α S : Type} {a : Bool} {Y : Mm (Bool × S)} {rest : Bool × S → Mm α} {st : S} {ok : α → Prop} {ex : Er → Prop} {Q : Bool → Hp → Prop} {u : TT} {QV : VK} {uE : TE}
theorem and_jS (W : S → Hp → Hp → Prop) (e : Ex F H) (h0 : W st F H) (k : Post ((cond a Y (.ok (false, st))).bd rest) ok ex)
    (hu : a = true → ∀ Q' : Bool → Hp → Prop, Post Y (fun b => ∀ F' H', Gm M F H F' H' → W b.2 F' H' → Q' b.1 H') ex → u σ H Q')
    (kk : ∀ b F' H', Gm M F H F' H' → W b.2 F' H' → Post (rest b) ok ex → Q b.1 H') : if a = true then u σ H Q else Q false H := by
  cases a with
  | false => rw [if_neg Bool.false_ne_true]; exact kk (false, st) F H (Gm.refl e) h0 ⟨k.h⟩
  | true => rw [if_pos rfl]; exact hu rfl Q ((post_bd k).mono (fun b q F' H' g s => kk b F' H' g s q) fun _ z => z)
theorem or_jS (W : S → Hp → Hp → Prop) (e : Ex F H) (h0 : W st F H) (k : Post ((cond a (.ok (true, st)) Y).bd rest) ok ex)
    (hu : a = false → ∀ Q' : Bool → Hp → Prop, Post Y (fun b => ∀ F' H', Gm M F H F' H' → W b.2 F' H' → Q' b.1 H') ex → u σ H Q')
    (kk : ∀ b F' H', Gm M F H F' H' → W b.2 F' H' → Post (rest b) ok ex → Q b.1 H') : if a = true then Q true H else u σ H Q := by
  cases a with
  | true => rw [if_pos rfl]; exact kk (true, st) F H (Gm.refl e) h0 ⟨k.h⟩
  | false => rw [if_neg Bool.false_ne_true]; exact hu rfl Q ((post_bd k).mono (fun b q F' H' g s => kk b F' H' g s q) fun _ z => z)
/-- as values -/
theorem andV_jS (W : S → Hp → Hp → Prop) (e : Ex F H) (h0 : W st F H) (k : Post ((cond a Y (.ok (false, st))).bd rest) ok ex)
    (hu : a = true → ∀ Q' : VK, Post Y (fun b => ∀ F' H', Gm M F H F' H' → W b.2 F' H' → Q' (.bl b.1) H') ex → uE σ H Q')
    (kk : ∀ b F' H', Gm M F H F' H' → W b.2 F' H' → Post (rest b) ok ex → QV (.bl b.1) H') : if a = true then uE σ H QV else QV (.bl false) H := by
  cases a with
  | false => rw [if_neg Bool.false_ne_true]; exact kk (false, st) F H (Gm.refl e) h0 ⟨k.h⟩
  | true => rw [if_pos rfl]; exact hu rfl QV ((post_bd k).mono (fun b q F' H' g s => kk b F' H' g s q) fun _ z => z)
theorem orV_jS (W : S → Hp → Hp → Prop) (e : Ex F H) (h0 : W st F H) (k : Post ((cond a (.ok (true, st)) Y).bd rest) ok ex)
    (hu : a = false → ∀ Q' : VK, Post Y (fun b => ∀ F' H', Gm M F H F' H' → W b.2 F' H' → Q' (.bl b.1) H') ex → uE σ H Q')
    (kk : ∀ b F' H', Gm M F H F' H' → W b.2 F' H' → Post (rest b) ok ex → QV (.bl b.1) H') : if a = true then QV (.bl true) H else uE σ H QV := by
  cases a with
  | true => rw [if_pos rfl]; exact kk (true, st) F H (Gm.refl e) h0 ⟨k.h⟩
  | false => rw [if_neg Bool.false_ne_true]; exact hu rfl QV ((post_bd k).mono (fun b q F' H' g s => kk b F' H' g s q) fun _ z => z)
end
/-! ### own lists: as data, repeated, popped -/
section
variable {K : PySem.W.Frag} {M : List Addr} {F F' H H' : Hp} {Q : VK} {α : Type} {en : α → PyData} {l m : List α} {xs ys : List V} {a p : Addr} {v : V} {j : Int}
theorem own_dp (h : H p = some (.lst xs)) (a : DqAll K F xs (l.map en)) (e : Ex F H) : Dp K H (.ref p) (eL en l) := .lst (sq_of h) (dqAll_dp _ _ (a.up e))
def repM {α : Type} (l : List α) (k : Int) : Mm (List α) := if -(2 ^ 63) ≤ k ∧ k < 2 ^ 63 ∧ l.length * k.toNat ≤ 100000 then .ok (List.replicate k.toNat l).flatten else .bad
theorem post_rep {β : Type} {f : List α → Mm β} {r : β → Prop} {q : Er → Prop} (h : Post ((repM l j).bd f) r q) : ∃ m, (-(2 ^ 63) ≤ j ∧ j < 2 ^ 63 ∧ l.length * j.toNat ≤ 100000) ∧ (List.replicate j.toNat l).flatten = m ∧ Post (f m) r q := by
  unfold repM at h
  split at h
  · exact ⟨_, ‹_›, rfl, ⟨h.h⟩⟩
  · exact h.h.elim
theorem all_rep (d : DqAll K F xs (l.map en)) : ∀ n : Nat, DqAll K F (List.replicate n xs).flatten ((List.replicate n l).flatten.map en)
  | 0 => .nil
  | n + 1 => by
    rw [List.replicate_succ, List.replicate_succ, List.flatten_cons, List.flatten_cons, List.map_append]
    exact d.app (all_rep d n)
theorem rep_sz (d : DqAll K F xs (l.map en)) {n : Nat} (h : l.length * n ≤ 100000) : xs.length * n ≤ sizeLine := sz_of (by rw [d.len, List.length_map]; exact h)
theorem rep_lst (e : Ex F H) (s : H a = some (.lst xs)) (d : DqAll K F xs (l.map en)) (h : -(2 ^ 63) ≤ j ∧ j < 2 ^ 63 ∧ l.length * j.toNat ≤ 100000) (hm : (List.replicate j.toNat l).flatten = m) (k : Ret M F H (fun F' _ v => Dq K F' v (eL en m)) Q) : rRep (.ref a) (.int j) H Q := by
  subst hm
  refine ⟨a, j, xs, rfl, rfl, s, h.1, h.2.1, rep_sz d h.2.2, fun p hp => ?_⟩
  have g : Gm M F H (upd F p (.lst (List.replicate j.toNat xs).flatten)) (upd H p (.lst (List.replicate j.toNat xs).flatten)) := Gm.new e hp
  exact k _ _ _ g (.lst upd_same ((all_rep d _).up g.f))
theorem rep_own (e : Ex F H) (s : H a = some (.lst xs)) (d : DqAll K F xs (l.map en)) (h : -(2 ^ 63) ≤ j ∧ j < 2 ^ 63 ∧ l.length * j.toNat ≤ 100000) (k : ∀ p H', Gm [] F H F H' → H p = none → (H' p = some (.lst (List.replicate j.toNat xs).flatten) ∧ F p = none) → Q (.ref p) H') : rRep (.ref a) (.int j) H Q :=
  ⟨a, j, xs, rfl, rfl, s, h.1, h.2.1, rep_sz d h.2.2, own_of e k⟩
theorem all_repM (d : DqAll K F xs (l.map en)) (hm : (List.replicate j.toNat l).flatten = m) : DqAll K F (List.replicate j.toNat xs).flatten (m.map en) := by
  subst hm
  exact all_rep d _
def popN {α : Type} (l : List α) : Mm (List α) := match l with
  | [] => .bad
  | x :: r => .ok (x :: r).dropLast
theorem post_pop {β : Type} {f : List α → Mm β} {r : β → Prop} {q : Er → Prop} (h : Post ((popN l).bd f) r q) : l ≠ [] ∧ Post (f l.dropLast) r q := by
  cases l with
  | nil => exact h.h.elim
  | cons x l => exact ⟨by simp, ⟨h.h⟩⟩
theorem all_pop (d : DqAll K F xs (l.map en)) : DqAll K F xs.dropLast (l.dropLast.map en) := by
  have e1 : xs.dropLast = xs.take (xs.length - 1) := List.dropLast_eq_take
  have e2 : l.dropLast.map en = (l.map en).take (xs.length - 1) := by
    rw [List.dropLast_eq_take, List.map_take, d.len, List.length_map]
  rw [e1, e2]
  exact d.take _
theorem pop_at (d : DqAll K F xs (l.map en)) (h : l ≠ []) : ∃ y, xs[xs.length - 1]? = some y := by
  have n : xs.length = l.length := by rw [d.len, List.length_map]
  have : 0 < l.length := List.length_pos_iff.mpr h
  exact ⟨_, List.getElem?_eq_getElem (by omega)⟩
end
/-! ### range that goes down -/
def rangeDn (lo : Int) (n : Nat) : List Int := (List.range n).map fun (i : Nat) => lo - (i : Int)
def rangeM3 (i j : Int) : Mm (List Int) := if -(2 ^ 62) ≤ i ∧ i < 2 ^ 62 ∧ -(2 ^ 62) ≤ j ∧ j < 2 ^ 62 then .ok (rangeDn i (i - j).toNat) else .bad
section
variable {β : Type} {r : β → Prop} {q : Er → Prop} {i j : Int} {f : List Int → Mm β}
theorem post_range3 (h : Post ((rangeM3 i j).bd f) r q) : RgC i j (-1) (i - j).toNat ∧ Post (f (rangeDn i (i - j).toNat)) r q := by
  unfold rangeM3 at h
  split at h
  · rename_i c
    exact ⟨RgC.neg c.1 c.2.1 c.2.2.1 c.2.2.2, ⟨h.h⟩⟩
  · exact h.h.elim
theorem rangeDn_at {lo : Int} {n i : Nat} {x : Int} (h : (rangeDn lo n)[i]? = some x) : x = lo - i := by
  unfold rangeDn at h
  rw [List.getElem?_map] at h
  cases e : (List.range n)[i]? with
  | none => rw [e] at h; cases h
  | some j =>
    rw [e] at h
    obtain ⟨h1, h2⟩ := List.getElem?_eq_some_iff.mp e
    rw [List.getElem_range] at h2
    subst h2
    exact (Option.some.inj h).symm
theorem wlk_rangeDn {M : List Addr} {F H : Hp} {lo : Int} {n : Nat} : Wlk M F H (Itc lo (-1) n) (rangeDn lo n) (fun _ v x => v = V.int x) := by
  refine ⟨_, _, _, walk_rangeC (lo := lo) (c := -1) (n := n), by simp [rangeDn], fun _ _ _ => trivial, fun i x v F' H' H'' g' hx y => ?_⟩
  obtain ⟨rfl, hv⟩ := y
  rw [rangeDn_at hx]
  have e2 : lo + (i : Int) * (-1) = lo - (i : Int) := by omega
  rw [← e2]
  exact ⟨F', Gm.refl g'.s, hv⟩
end
/-! ### comprehensions whose list may change -/
section
variable {K : PySem.W.Frag} {M : List Addr} {F H : Hp} {σ : L2.St} {g : TG} {tt : TT} {te : TE} {vs : List Nat} {α β γ S : Type} {l : List α} {f : S → α → Mm (Option γ × S)} {rest : List γ × S → Mm β} {ok : β → Prop} {ex : Er → Prop} {s0 : S} {J : It} {n : Nat} {G : Hp → Prop} {Y : Nat → Hp → V → Hp → Prop} {Q : VK}
theorem lc_mirO (w : Walk J n G Y) (en : γ → PyData) (I : S → Hp → Hp → Prop) (k : Post ((compM f s0 l).bd rest) ok ex) (e : Ex F H) (h0 : I s0 F H) (st : Stab I H) (hn : l.length = n) (hz : l.length ≤ 50000) (hG : ∀ F' H', Gm M F H F' H' → G H')
    (hM : ∀ D, H D = none → D ∉ M)
    (hb : ∀ i s x v F' H' H'', Gm M F H F' H' → I s F' H' → l[i]? = some x → Y i H' v H'' → ∀ Q : Option V → Hp → Prop,
      Post (f s x) (fun o => ∀ F2 H2 v, Gm M F' H' F2 H2 → I o.2 F2 H2 → (match o.1 with
        | some y => ∃ u, v = some u ∧ Dq K F2 u (en y)
        | none => v = none) → Q v H2) (fun _ => False) →
      g v (wipe σ vs) H'' fun σ2 H2 => wipe σ2 vs = wipe σ vs ∧ tt σ2 H2 fun b H3 => if b = true then te σ2 H3 fun y H4 => Q (some y) H4 else Q none H3)
    (hx : ∀ e, ¬ ex e)
    (kk : ∀ (r : List γ × S) D xs F' H', Gm M F H F' H' → I r.2 F' H' → H D = none → (H' D = some (.lst xs) ∧ F' D = none) → DqAll K F' xs (r.1.map en) → Post (rest r) ok ex → Q (.ref D) H') :
    ∀ D, H D = none → ∃ W : Nat → Nat → Hp → Prop, (∃ m, W 0 m (upd H D (.lst []))) ∧ ∀ i m H, W i m H →
      (J.stop i H ∧ Q (.ref D) H) ∨ (J.go i H ∧ ∃ Nx : Hp → Prop, (∀ H', Nx H' → ∃ m', m' < m ∧ W (i + 1) m' H') ∧ ∀ x H', J.yld i H x H' → g x (wipe σ vs) H' fun σ2 H2 => wipe σ2 vs = wipe σ vs ∧ tt σ2 H2 fun b H3 =>
        if b = true then te σ2 H3 fun y H4 => ∃ acc, H4 D = some (.lst acc) ∧ acc.length < sizeLine ∧ Nx (upd H4 D (.lst (acc ++ [y]))) else Nx H3) := by
  intro D hD
  have k0 : Post ((compM f s0 (l.drop 0)).bd fun r => rest ([] ++ r.1, r.2)) ok ex := by simpa using k
  refine lc_it w (fun i H' => ∃ (s : S) (acc : List γ) (xs : List V) (F' : Hp), Gm M F H F' H' ∧ I s F' H' ∧ H' D = some (.lst xs) ∧ F' D = none ∧ DqAll K F' xs (acc.map en) ∧ xs.length ≤ i ∧ Post ((compM f s (l.drop i)).bd fun r => rest (acc ++ r.1, r.2)) ok ex)
    ⟨s0, [], [], F, Gm.newM e hD, st.put s0 F H D _ h0 hD, upd_same, ?_, .nil, Nat.le_refl _, k0⟩ (fun i H' _ ⟨s, acc, xs, F', g', _⟩ => hG F' H' g') ?_ ?_
  · cases q : F D with
    | none => rfl
    | some u => rw [e D u q] at hD; cases hD
  · rintro i v H' H'' hi ⟨s, acc, xs, F', g', i', hL, fL, ha, hlen, k'⟩ y
    have hl : i < l.length := by omega
    have e1 : l.drop i = l[i] :: l.drop (i + 1) := List.drop_eq_getElem_cons hl
    rw [e1] at k'
    have k2 := comp_post k'
    have hDM : D ∉ M := hM D hD
    have z := hb i s l[i] v F' H' H'' g' i' (List.getElem?_eq_getElem hl) y (fun o H4 => match o with
      | some y => ∃ acc', H4 D = some (.lst acc') ∧ acc'.length < sizeLine ∧ ∃ (s : S) (acc : List γ) (xs : List V) (F' : Hp), Gm M F H F' (upd H4 D (.lst (acc' ++ [y]))) ∧ I s F' (upd H4 D (.lst (acc' ++ [y]))) ∧ (upd H4 D (.lst (acc' ++ [y]))) D = some (.lst xs) ∧ F' D = none ∧ DqAll K F' xs (acc.map en) ∧ xs.length ≤ i + 1 ∧ Post ((compM f s (l.drop (i + 1))).bd fun r => rest (acc ++ r.1, r.2)) ok ex
      | none => ∃ (s : S) (acc : List γ) (xs : List V) (F' : Hp), Gm M F H F' H4 ∧ I s F' H4 ∧ H4 D = some (.lst xs) ∧ F' D = none ∧ DqAll K F' xs (acc.map en) ∧ xs.length ≤ i + 1 ∧ Post ((compM f s (l.drop (i + 1))).bd fun r => rest (acc ++ r.1, r.2)) ok ex)
      (k2.mono (fun o q F2 H2 v2 g2 i2 hv => ?_) fun e z => (hx e z).elim)
    · exact z
    · obtain ⟨h2L, f2L⟩ := g2.own hDM hL fL
      obtain ⟨o1, o2⟩ := o
      cases o1 with
      | some y =>
        obtain ⟨u, rfl, hu⟩ := hv
        refine ⟨xs, h2L, sz_lt (by omega), o2, acc ++ [y], xs ++ [u], F2, ?_, st.put _ _ _ _ _ i2 hD, upd_same, f2L, ?_, ?_, ?_⟩
        · exact (g'.trans g2).putYoung h2L f2L hD
        · rw [List.map_append]; exact (ha.up g2.f).app (.cons hu .nil)
        · rw [List.length_append, List.length_singleton]; omega
        · simpa using q
      | none =>
        subst hv
        refine ⟨o2, acc, xs, F2, g'.trans g2, i2, h2L, f2L, ha.up g2.f, by omega, ?_⟩
        simpa using q
  · rintro H' ⟨s, acc, xs, F', g', i', hL, fL, ha, hlen, k'⟩
    rw [← hn, List.drop_length] at k'
    exact kk (acc, s) D xs F' H' g' i' hD ⟨hL, fL⟩ ha (by simpa [compM] using k')
end
section
variable {K : PySem.W.Frag} {M : List Addr} {F H : Hp} {σ : L2.St} {g : TG} {tt : TT} {te : TE} {vs : List Nat} {α β γ S : Type} {l : List α} {ok : β → Prop} {ex : Er → Prop} {s0 : S} {J : It} {R : Hp → V → α → Prop} {Q : VK}
theorem lc_mapO {f : α → Mm γ} {rest : List γ → Mm β} (w : Wlk M F H J l R) (en : γ → PyData) (k : Post ((mapMm f l).bd rest) ok ex) (e : Ex F H) (hz : l.length ≤ 50000) (hM : ∀ D, H D = none → D ∉ M)
    (hb : ∀ x v F1 H1 F2 H2, Gm M F H F1 H1 → Gm [] F1 H1 F2 H2 → R F2 v x → ∀ Q : VK, Post (f x) (fun y => Ret M F1 H1 (fun F3 _ u => Dq K F3 u (en y)) Q) (fun _ => False) →
      g v (wipe σ vs) H2 fun σ2 H3 => wipe σ2 vs = wipe σ vs ∧ te σ2 H3 Q)
    (hx : ∀ e, ¬ ex e) (kk : ∀ (r : List γ) D xs F' H', Gm M F H F' H' → H D = none → (H' D = some (.lst xs) ∧ F' D = none) → DqAll K F' xs (r.map en) → Post (rest r) ok ex → Q (.ref D) H') (mono : GMon g) :
    ∀ D, H D = none → ∃ W : Nat → Nat → Hp → Prop, (∃ m, W 0 m (upd H D (.lst []))) ∧ ∀ i m H, W i m H →
      (J.stop i H ∧ Q (.ref D) H) ∨ (J.go i H ∧ ∃ Nx : Hp → Prop, (∀ H', Nx H' → ∃ m', m' < m ∧ W (i + 1) m' H') ∧ ∀ x H', J.yld i H x H' → g x (wipe σ vs) H' fun σ2 H2 => wipe σ2 vs = wipe σ vs ∧ tYes σ2 H2 fun b H3 =>
        if b = true then te σ2 H3 fun y H4 => ∃ acc, H4 D = some (.lst acc) ∧ acc.length < sizeLine ∧ Nx (upd H4 D (.lst (acc ++ [y]))) else Nx H3) := by
  obtain ⟨n, G, Y, w, hn, hG, hY⟩ := w.ex
  rw [mapMm_comp, bd_assoc] at k
  refine lc_mirO w en (fun _ _ _ => True) k e trivial stab_t hn hz hG hM (fun i s x v F' H' H'' g' _ hx y Q' k' => ?_) hx (fun r D xs F' H' g' _ hD o d k' => kk r.1 D xs F' H' g' hD o d k')
  obtain ⟨F'', g2, r⟩ := hY i x v F' H' H'' g' hx y
  refine mono _ _ _ _ _ (fun σ2 H3 z => ⟨z.1, ?_⟩) (hb x v F' H' F'' H'' g' g2 r (fun u H4 => Q' (some u) H4) ((post_bd k').mono (fun y q u F3 H3 g3 d => q.h F3 H3 _ g3 trivial ⟨u, rfl, d⟩) fun _ z => z))
  exact tYes_of (iteT z.2)
theorem lc_stO {f : Rw → α → Mm (γ × Rw)} {s0 : Rw} {rest : List γ × Rw → Mm β} {sc ra : Addr} {scr : List Int} (w : Wlk [ra] F H J l R) (en : γ → PyData) (k : Post ((mapSt f s0 l).bd rest) ok ex) (e : Ex F H) (hz : l.length ≤ 50000) (h0 : RowAt K sc ra scr F H s0)
    (hb : ∀ s x v F1 H1 F2 H2, Gm [ra] F H F1 H1 → RowAt K sc ra scr F1 H1 s → Gm [] F1 H1 F2 H2 → R F2 v x → ∀ Q : VK, Post (f s x) (fun y => Ret [ra] F1 H1 (fun F3 H3 u => Dq K F3 u (en y.1) ∧ RowAt K sc ra scr F3 H3 y.2) Q) (fun _ => False) →
      g v (wipe σ vs) H2 fun σ2 H3 => wipe σ2 vs = wipe σ vs ∧ te σ2 H3 Q)
    (hx : ∀ e, ¬ ex e) (kk : ∀ (r : List γ × Rw) D xs F' H', Gm [ra] F H F' H' → H D = none → (H' D = some (.lst xs) ∧ F' D = none) → DqAll K F' xs (r.1.map en) → RowAt K sc ra scr F' H' r.2 → Post (rest r) ok ex → Q (.ref D) H') (mono : GMon g) :
    ∀ D, H D = none → ∃ W : Nat → Nat → Hp → Prop, (∃ m, W 0 m (upd H D (.lst []))) ∧ ∀ i m H, W i m H →
      (J.stop i H ∧ Q (.ref D) H) ∨ (J.go i H ∧ ∃ Nx : Hp → Prop, (∀ H', Nx H' → ∃ m', m' < m ∧ W (i + 1) m' H') ∧ ∀ x H', J.yld i H x H' → g x (wipe σ vs) H' fun σ2 H2 => wipe σ2 vs = wipe σ vs ∧ tYes σ2 H2 fun b H3 =>
        if b = true then te σ2 H3 fun y H4 => ∃ acc, H4 D = some (.lst acc) ∧ acc.length < sizeLine ∧ Nx (upd H4 D (.lst (acc ++ [y]))) else Nx H3) := by
  obtain ⟨n, G, Y, w, hn, hG, hY⟩ := w.ex
  rw [mapSt_comp] at k
  refine lc_mirO w en (fun s F H => RowAt K sc ra scr F H s) k e h0 (stab_row h0) hn hz hG (row_notM h0) (fun i s x v F' H' H'' g' i' hx y Q' k' => ?_) hx (fun r D xs F' H' g' i' hD o d k' => kk r D xs F' H' g' hD o d i' k')
  obtain ⟨F'', g2, r⟩ := hY i x v F' H' H'' g' hx y
  refine mono _ _ _ _ _ (fun σ2 H3 z => ⟨z.1, ?_⟩) (hb s x v F' H' F'' H'' g' i' g2 r (fun u H4 => Q' (some u) H4) ((post_bd k').mono (fun y q u F3 H3 g3 d => q.h F3 H3 _ g3 d.2 ⟨u, rfl, d.1⟩) fun _ z => z))
  exact tYes_of (iteT z.2)
end
end Wk

set_option Elab.async false
set_option linter.all false
set_option maxRecDepth 100000
set_option maxHeartbeats 4000000
namespace Wk
open PySem L2 Evl PySem.Spec PyProof.Rows
/-! ### zip of a tuple and a list -/
/-- the tuple at a and the list at b, side by side -/
def ItzM (K : PySem.W.Frag) (a b : Addr) : It :=
  ⟨fun n H => ∃ (us vs : List V) (u v : V), (SqT K H a us ∧ us[n]? = some u) ∧ SqL K H b vs ∧ vs[n]? = some v,
   fun n H r H' => ∃ c u v, r = .ref c ∧ H c = none ∧ H' = upd H c (.tup [u, v]) ∧ (∀ l, SqT K H a l → l[n]? = some u) ∧ ∀ l, SqL K H b l → l[n]? = some v,
   fun n H => ∃ us vs : List V, (SqT K H a us ∧ SqL K H b vs) ∧ (n ≤ us.length ∧ n ≤ vs.length) ∧ (n = us.length ∨ n = vs.length)⟩
/-- where such a zip stands -/
structure StM (z TI TO i1 i2 a b : Addr) (n : Nat) (h : Heap) : Prop where
  hz : IsZip h z TI TO .none
  hi : IsTupOf2 h TI (.ref i1) (.ref i2)
  ho : ∃ p q, IsTupOf2 h TO p q
  h1 : h.IsTupleIter i1 a n
  h2 : h.IsListIter i2 b n
theorem five {α : Type} {c z TI TO i1 i2 : α} (h : c ∈ [z, TI, TO, i1, i2]) : c = z ∨ c = TI ∨ c = TO ∨ c = i1 ∨ c = i2 := by simpa using h
theorem turn_zipM {P : Program} {w : World} {K : PySem.W.Frag} {es : List Expr} {kk : Nat} {tp : Pos} {a b z TI TO i1 i2 : Addr} (S : ZipSep2 z TI TO i1 i2 [i1, a] [i2, b]) (na : a ≠ i1) (nb : b ≠ i2) :
    Turn P w K (.Tuple es kk tp) (ItzM K a b) [z, TI, TO, i1, i2] z (StM z TI TO i1 i2 a b) where
  mem := by simp
  obj := fun n h st c hc => by
    obtain ⟨hz, hi, ⟨p, q, ho⟩, ⟨o1, e1, _, d1⟩, ⟨o2, e2, _, d2⟩⟩ := st
    rcases five hc with rfl | rfl | rfl | rfl | rfl
    · exact ⟨_, hz, fun _ k => nomatch k⟩
    · exact ⟨_, hi, fun _ k => nomatch k⟩
    · exact ⟨_, ho, fun _ k => nomatch k⟩
    · exact ⟨o1, e1, fun _ k => by rw [d1] at k; cases k⟩
    · exact ⟨o2, e2, fun _ k => by rw [d2] at k; cases k⟩
  keep := fun n h h' st k => by
    obtain ⟨hz, hi, ⟨p, q, ho⟩, h1, h2⟩ := st
    exact ⟨k z (by simp) _ hz, k TI (by simp) _ hi, ⟨p, q, k TO (by simp) _ ho⟩, h1.at fun o e => k i1 (by simp) o e, h2.at fun o e => k i2 (by simp) o e⟩
  item := by
    intro X hP hw hK hc n pins s σ H E I hf st hg
    subst hP hw hK
    obtain ⟨hz, hi, ⟨p0, q0, ho⟩, h1, h2⟩ := st
    obtain ⟨us, vs, u, v, ⟨qa, ga⟩, qb, gb⟩ := hg
    obtain ⟨A1, ra, pa, _⟩ := I.tuple qa
    obtain ⟨A2, rb, pb, _⟩ := I.list qb
    obtain ⟨x, hx, rx⟩ := ra.get ga
    obtain ⟨y, hy, ry⟩ := rb.get gb
    have lz : z < s.heap.objs.size := Heap.lt_size hz
    have pT : s.heap.IsTuple a A1.toArray := pa
    have pL : s.heap.IsList b A2.toArray := pb.isList
    have hand : X.A.in1.handled = none := I.ok.hd hc
    have D1 := Draws.tuple (prog := X.prog) (w := X.w) (A := X.A.in1) hand i1 a na A1.toArray
    have D2 := Draws.list (prog := X.prog) (w := X.w) (A := X.A.in1) hand i2 b nb A2.toArray
    have n1 : n < A1.toArray.size := by
      have := (List.getElem?_eq_some_iff.mp hx).1
      simpa using this
    have n2 : n < A2.toArray.size := by
      have := (List.getElem?_eq_some_iff.mp hy).1
      simpa using this
    refine wpAny_pyNext_zipD2_item S D1 D2 hz hi ho ⟨h1, pT⟩ ⟨h2, pL⟩ n1 n2 fun x' y' h' tk ex ey z' o' s1' s2' hT hsz hk => ?_
    have e1 : x = x' := by
      have k : A1.toArray[n]? = some x := by simpa using hx
      exact Option.some.inj (k.symm.trans ex)
    have e2 : y = y' := by
      have k : A2.toArray[n]? = some y := by simpa using hy
      exact Option.some.inj (k.symm.trans ey)
    subst e1 e2
    refine ⟨_, rfl, wpAny_letOwnedTupleGo_zip (s := { s with heap := h', toks := tk }) z' fun h'' z'' sb => ?_⟩
    have cell : h''.get? s.heap.objs.size = some { cls := .type "tuple", data := .seq #[x, y] } := (sb.2 _ (Nat.ne_of_gt lz)).trans hT
    have new : ObjOk X.prog X.w (upd H s.heap.objs.size (.tup [u, v])) h'' s.heap.objs.size (.tup [u, v]) := by
      refine ⟨?_, [x, y], .cons rx (.cons ry .nil), _, cell, rfl, _, rfl⟩
      show 2 ≤ sizeLine
      decide
    have same : ∀ c o, c ∉ [z, TI, TO, i1, i2] → s.heap.get? c = some o → h''.get? c = some o := fun c o hn e => by
      simp only [List.mem_cons, List.not_mem_nil, or_false, not_or] at hn
      exact (sb.2 c hn.1).trans (hk c o hn.1 hn.2.2.1 hn.2.2.2.1 hn.2.2.2.2 e)
    have J := I.turnedNew (t' := tk) (ch := [z, TI, TO, i1, i2]) same hf (Nat.le_refl _) new
    obtain ⟨it1, _⟩ := s1'
    obtain ⟨it2, _⟩ := s2'
    have dz : i1 ≠ z := fun e => S.zi1 e.symm
    have dz2 : i2 ≠ z := fun e => S.zi2 e.symm
    refine ⟨.ref s.heap.objs.size, _, J, rfl, ⟨_, u, v, rfl, I.hok.fresh (Nat.le_refl _), rfl, fun l hl => ?_, fun l hl => ?_⟩, ⟨z'', ?_, ⟨x, y, ?_⟩, it1.at fun o q => (sb.2 _ dz).trans q, it2.at fun o q => (sb.2 _ dz2).trans q⟩, fun c hc' => ?_⟩
    · rw [I.tuple_inj hl qa]
      exact ga
    · rw [I.list_inj hl qb]
      exact gb
    · exact (sb.2 _ S.TIz).trans (hk _ _ S.TIz S.TITO S.TIi1 S.TIi2 hi)
    · exact (sb.2 _ S.TOz).trans o'
    · have lt : c < s.heap.objs.size := by
        rcases five hc' with rfl | rfl | rfl | rfl | rfl
        · exact lz
        · exact Heap.lt_size hi
        · exact Heap.lt_size ho
        · obtain ⟨_, q, _⟩ := h1
          exact Heap.lt_size q
        · obtain ⟨_, q, _⟩ := h2
          exact Heap.lt_size q
      rw [upd_ne (Nat.ne_of_lt lt)]
      exact (hf c hc').1
  done := by
    intro X hP hw hK hc n pins s σ H E I hf st hg
    subst hP hw hK
    obtain ⟨hz, hi, ⟨p0, q0, ho⟩, h1, h2⟩ := st
    obtain ⟨us, vs, ⟨qa, qb⟩, ⟨l1, l2⟩, hend⟩ := hg
    obtain ⟨A1, ra, pa, _⟩ := I.tuple qa
    obtain ⟨A2, rb, pb, _⟩ := I.list qb
    have w1 := ra.length
    have w2 := rb.length
    have pT : s.heap.IsTuple a A1.toArray := pa
    have pL : s.heap.IsList b A2.toArray := pb.isList
    have hand : X.A.in1.handled = none := I.ok.hd hc
    have D1 := Draws.tuple (prog := X.prog) (w := X.w) (A := X.A.in1) hand i1 a na A1.toArray
    have D2 := Draws.list (prog := X.prog) (w := X.w) (A := X.A.in1) hand i2 b nb A2.toArray
    have m1 : A1.toArray.size = us.length := by simp only [List.size_toArray]; omega
    have m2 : A2.toArray.size = vs.length := by simp only [List.size_toArray]; omega
    refine wpAny_pyNext_zipD2_end S D1 D2 hz hi ho ⟨h1, pT⟩ ⟨h2, pL⟩ (by omega) (by omega) (by omega) fun h' tk hk => ⟨rfl, I.turnedL (t' := tk) (ch := [z, TI, TO, i1, i2]) (fun c o hn e => ?_) hf⟩
    simp only [List.mem_cons, List.not_mem_nil, or_false, not_or] at hn
    exact hk c o hn.1 hn.2.2.1 hn.2.2.2.1 hn.2.2.2.2 e
  self := fun A i s Q E st h => wpAny_pyIter_zip st.hz h
def iZipM (K : PySem.W.Frag) (ta : TA) : TI := fun σ H R => ta σ H fun rs H1 => ∃ a b us vs, rs = [.ref a, .ref b] ∧ (SqT K H1 a us ∧ SqL K H1 b vs) ∧ R (ItzM K a b) H1
theorem pi_zipM {X : Cx} {e e2 : Expr} {ta : TA} {p pos tp : Pos} {es : List Expr} {kk : Nat} (hg : Gl X "zip") (hm : X.mg "zip" = none) (ha : PA X [e, e2] ta)
    (hs : starEach [e, e2] X.env = (false, eval e X.env) :: starEach [e2] X.env := by rfl) (hp : (backTo pos (starEach [e2] X.env)).any (·.1) = false := by rfl) :
    PI X (.Tuple es kk tp) (.Call (.Name "zip" p) [e, e2] [] pos) (iZipM X.K ta) := by
  refine ⟨fun pins s σ H R I h => Call_ (ld_blt I hg hm PyProof.Rows.boot_zip (PyProof.Rows.callWith_type1 (thn (ha.run pos pins s σ H _ I h) fun rs s1 got => ?_) hs hp))⟩
  obtain ⟨vs', H1, I1, rel, a, b, us, vs, rfl, ⟨qa, qb⟩, q⟩ := got
  cases rel with
  | cons r1 rel =>
    cases rel with
    | cons r2 rel =>
      cases rel
      cases r1
      cases r2
      obtain ⟨A1, ra, pa, _⟩ := I1.tuple qa
      obtain ⟨A2, rb, pb, _⟩ := I1.list qb
      have pT : s1.heap.IsTuple a A1.toArray := pa
      have pL : s1.heap.IsList b A2.toArray := pb.isList
      have la : a < s1.heap.objs.size := by
        obtain ⟨o, g, _⟩ := pT
        exact Heap.lt_size g
      have lb : b < s1.heap.objs.size := by
        obtain ⟨o, g, _⟩ := pL
        exact Heap.lt_size g
      refine zip_begins2 (begins_tuple a A1.toArray) (begins_list b A2.toArray) pT pL fun h' hz hi ho g1 g2 hsz hk => wpAny_pyIter_zip hz ?_
      have I2 : Inv X pins σ H1 { s1 with heap := h' } := I1.kept (t' := s1.toks) hk
      have S := zip_sep2 (N := s1.heap.objs.size) (fp1 := [a]) (fp2 := [b]) (fun c hc => by rw [List.mem_singleton.mp hc]; exact la) (fun c hc => by rw [List.mem_singleton.mp hc]; exact lb)
      refine ⟨_, _, _, _, H1, rfl, I2, turn_zipM (a := a) (b := b) S (Nat.ne_of_lt la) (Nat.ne_of_lt (Nat.lt_succ_of_lt lb)), ⟨hz, hi, ⟨_, _, ho⟩, ⟨_, g1, rfl, rfl⟩, ⟨_, g2, rfl, rfl⟩⟩, fun c hc => ?_, q⟩
      have le : s1.heap.objs.size ≤ c := by
        rcases five hc with rfl | rfl | rfl | rfl | rfl
        · exact Nat.le_add_right _ _
        · exact Nat.le_add_right _ _
        · exact Nat.le_add_right _ _
        · exact Nat.le_refl _
        · exact Nat.le_add_right _ _
      exact I1.fpOk le (I1.hok.fresh le)
section
variable {K : PySem.W.Frag} {M : List Addr} {F H : Hp} {α α' : Type} {us vs : List V} {l : List α} {l' : List α'} {en : α → PyData} {en' : α' → PyData} {a b : Addr}
theorem wlk_zipM (e : Ex F H) (h : SqT K F a us) (da : DqAll K F us (l.map en)) (h' : F b = some (.lst vs)) (da' : DqAll K F vs (l'.map en')) : Wlk M F H (ItzM K a b) (l.zip l') (fun F v x => Dq K F v (e2 en en' x)) := by
  have hl : us.length = l.length := by rw [da.len, List.length_map]
  have hl' : vs.length = l'.length := by rw [da'.len, List.length_map]
  refine ⟨min us.length vs.length, fun H => SqT K H a us ∧ SqL K H b vs, YPair (fun i => us[i]?) (fun i => vs[i]?), ⟨fun i _ hi q => ⟨us, vs, us[i], vs[i], ⟨q.1, by simp⟩, q.2, by simp⟩, fun _ q => ⟨us, vs, q, by omega, by omega⟩, fun i H v H' _ q y => ?_⟩, by rw [List.length_zip, hl, hl'], fun F' H' g' => ⟨ex_t g'.s (ex_t g'.f h), sq_of (g'.s _ _ (g'.f _ _ h'))⟩, fun i x v F' H' H'' g' hx y => ?_⟩
  · obtain ⟨T, x, y, h1, h2, h3, h4, h5⟩ := y
    exact ⟨T, x, y, h1, h2, h3, h4 us q.1, h5 vs q.2⟩
  · obtain ⟨c, u, w, rfl, hc, rfl, h1, h2⟩ := y
    obtain ⟨d1, k1, q1⟩ := (da.up g'.f).getV h1
    obtain ⟨d2, k2, q2⟩ := (da'.up g'.f).getV h2
    obtain ⟨x1, x2⟩ := x
    obtain ⟨hx1, hx2⟩ := List.getElem?_zip_eq_some.mp hx
    have f1 : l[i]? = some x1 := hx1
    have f2 : l'[i]? = some x2 := hx2
    rw [List.getElem?_map, f1] at k1
    rw [List.getElem?_map, f2] at k2
    cases k1
    cases k2
    have g2 : Gm [] F' H' (upd F' c (.tup [u, w])) (upd H' c (.tup [u, w])) := Gm.new g'.s hc
    refine ⟨_, g2, .tup (st_of upd_same) (.cons (q1.up g2.f) (.cons (q2.up g2.f) .nil))⟩
end
end Wk

set_option Elab.async false
set_option linter.all false
set_option maxRecDepth 100000
set_option maxHeartbeats 2000000
namespace Wk
open PySem L2 Evl
section
variable {K : PySem.W.Frag} {M : List Addr} {F H : Hp} {Q : VK} {j : Int}
/-- list(range(j)) -/
theorem lst_rg (e : Ex F H) (h : 0 ≤ j ∧ j ≤ 100000) (k : Ret M F H (fun F' _ v => Dq K F' v (eL PyData.int (rangeL 0 j.toNat))) Q) : RgOk 0 j ∧ ∀ q, H q = none → Q (.ref q) (upd H q (.lst (rgV 0 j))) :=
  ⟨RgOk.of_le (by omega) (by omega) (by omega) (by omega), fun p hp => by
    have g : Gm M F H (upd F p (.lst (rgV 0 j))) (upd H p (.lst (rgV 0 j))) := Gm.new e hp
    have e1 : rgV 0 j = (rangeL 0 j.toNat).map V.int := by
      unfold rgV rangeL
      rw [List.map_map, Int.sub_zero]
      rfl
    refine k _ _ _ g (.lst upd_same ?_)
    rw [e1]
    exact ints_all _⟩
end
/-! ### an int in a tuple of ints -/
section
variable {X : Cx}
def rInV (K : PySem.W.Frag) : R2 := fun x y H Q => ∃ (a : Int) (l : List Int), Dp K H x (.int a) ∧ Dp K H y (eV PyData.int l) ∧ Q (.bl (hasM l a)) H
def rNotInV (K : PySem.W.Frag) : R2 := fun x y H Q => ∃ (a : Int) (l : List Int), Dp K H x (.int a) ∧ Dp K H y (eV PyData.int l) ∧ Q (.bl (!hasM l a)) H
theorem dpAll_ints {K : PySem.W.Frag} {H : Hp} : ∀ {l : List Int} {xs : List V}, DpAll K H xs (l.map PyData.int) → xs = l.map V.int
  | [], _, h => by cases h; rfl
  | i :: l, _, h => by
    cases h with
    | cons h hr =>
      cases h
      rw [dpAll_ints hr]
      rfl
theorem flat_ints : ∀ l : List Int, (l.map V.int).all flatV = true
  | [] => rfl
  | i :: l => by rw [List.map_cons, List.all_cons, flat_ints l]; rfl
theorem inV_ints (a : Int) : ∀ l : List Int, inV (V.int a) (l.map V.int) = hasM l a
  | [] => rfl
  | i :: l => by
    have e := inV_ints a l
    unfold inV hasM at e ⊢
    rw [List.map_cons, List.any_cons, e, List.contains_cons]
    congr 1
    show decide (i = a) = decide (a = i)
    exact decide_eq_decide.mpr ⟨Eq.symm, Eq.symm⟩
theorem op_inV : OpR X (compareOp .In) (rInV X.K) := by
  intro pins s σ H x y v u Q I rx ry h
  obtain ⟨a, l, hx, hy, q⟩ := h
  cases hx
  cases hy with
  | tup st da =>
    obtain rfl := dpAll_ints da
    refine op_in_seq pins s σ H _ _ v u Q I rx ry ⟨_, _, rfl, .inr st, rfl, flat_ints l, ?_⟩
    rw [if_neg Bool.false_ne_true, inV_ints]
    exact q
theorem op_notInV : OpR X (compareOp .NotIn) (rNotInV X.K) := by
  intro pins s σ H x y v u Q I rx ry h
  obtain ⟨a, l, hx, hy, q⟩ := h
  cases hx
  cases hy with
  | tup st da =>
    obtain rfl := dpAll_ints da
    refine op_notIn_seq pins s σ H _ _ v u Q I rx ry ⟨_, _, rfl, .inr st, rfl, flat_ints l, ?_⟩
    rw [if_pos rfl, inV_ints]
    exact q
end
/-! ### the run's equation, part by part -/
section
open PySem.W PySem.Calls PyProof.Rows HandSHeadRun
theorem runI_of3 {r : OpenRow} {q : Program} {H : Hook} {ob : SharedT → H.α} {M : Nat} {loose : List PySem.Str} {w : World}
    (h1 : (wholeF (fun p => stepQ (denQ tabQ) p w) fenceQ M r.prog).map (fun x => looksF r.prog x.1.heap x.2.abs) = some true)
    (h2 : (wholeF (fun p => stepQ (denQ tabQ) p w) fenceQ M r.prog).map (fun x => seenQ q loose (importedModules r.prog.main.body) (fun s => xlAt q [] s && recOk r.toRowW.records s) x.2.abs) = some (openGood q loose))
    (h3 : (wholeF (fun p => stepQ (denQ tabQ) p w) fenceQ M r.prog).map (fun x => ob x.2) = some (H.val w)) : RunEqI r q H ob M loose w := by
  unfold RunEqI
  generalize wholeF (fun p => stepQ (denQ tabQ) p w) fenceQ M r.prog = o at h1 h2 h3 ⊢
  cases o with
  | none => cases h1
  | some x =>
    have e1 := Option.some.inj h1
    have e2 := Option.some.inj h2
    have e3 := Option.some.inj h3
    exact congrArg some (Prod.ext e1 (Prod.ext e2 e3))
end
end Wk

set_option Elab.async false
set_option linter.all false
set_option maxRecDepth 100000
set_option maxHeartbeats 4000000
namespace Wk
open PySem L2 Evl PySem.Spec PyProof.Rows
theorem tuple_mulW1 (l : Addr) (items : Array Value) (n : Nat) (dd : Option Addr) (sl : Array (Option Value)) (u : Tok) :
    Meets (Builtin.«tuple.__mul__» ⟨[.ref l, .int 1 u], []⟩) (fun _ R s => s.heap.get? l = some { cls := .type "tuple", dict := dd, data := .seq items n, slots := sl } ∧ R (.ok (.ret (Value.ref l))) s) :=
  .of_wp fun prog w A R s h => by
    obtain ⟨hp, g, d, tk, os⟩ := s
    obtain ⟨hl, h⟩ := h
    have f1 := AutoSeq1.idx_int
    have c0 : (decide ((1 : Int) < -(2 ^ 63)) || decide ((1 : Int) ≥ 2 ^ 63)) = false := by decide
    have c1 : (items.isEmpty || (1 : Int) == 1) = true := by simp
    wp_walk using wpAny_loadPart' hl
    repeat (first
      | (refine wpAny_ite_false (decide_eq_false (by rw [c0]; exact Bool.false_ne_true)) ?_; wp_walk using wpAny_loadPart' hl)
      | (refine wpAny_ite_true (decide_eq_true (by rw [c1])) ?_; wp_walk using wpAny_loadPart' hl))
    exact ⟨_, rfl, h⟩
def rRepTM (K : PySem.W.Frag) : R2 := fun x y H Q => ∃ l k xs, x = .ref l ∧ y = .int k ∧ SqT K H l xs ∧ xs ≠ [] ∧ 1 ≤ k ∧ k ≤ 1000 ∧ xs.length ≤ 1000 ∧ (k = 1 → Q (.ref l) H) ∧ (2 ≤ k → ∀ p, H p = none → Q (.ref p) (upd H p (.tup (List.replicate k.toNat xs).flatten)))
theorem op_repTM {X : Cx} : OpR X (binaryOp .Mult) (rRepTM X.K) := by
  intro pins s σ H x y v u Q I rx ry h
  obtain ⟨l, k, xs, rfl, rfl, hT, hne, h1, h2, hz, q1, q2⟩ := h
  by_cases e : k = 1
  · subst e
    cases rx
    obtain ⟨t, rfl⟩ := ry
    obtain ⟨its, r, ⟨⟨cls, dd, data, sl⟩, ho, hc, n, hd⟩, hs⟩ := I.tuple hT
    simp only at hc hd
    subst hc hd
    refine wpAny_binaryOp_repeat_ref (T := "tuple") (U := "int") (by decide) ⟨_, ho, rfl⟩ (fun s' => typeIs_int s' 1 t) noFill_tuple_mul F.fills_int_mul F.slot_int_rmul repeat_tuple F.slot_int_index.lookup
      (call_meets F.slot_int_rmul (typeIs_int s 1 t) F.entry_int_rmul (F.args_int_rmul_2 _ _) (int_rmul_tuple 1 t l its.toArray n dd sl)
        ⟨ho, rfl, ⟨_, ho, rfl⟩, call_meets F.slot_tuple_mul ⟨_, ho, rfl⟩ F.entry_tuple_mul (F.args_tuple_mul_2 _ _) (tuple_mulW1 l its.toArray n dd sl t) ⟨ho, ?_⟩⟩)
    exact ⟨.ref l, H, I, rfl, q1 rfl⟩
  · exact op_repT pins s σ H _ _ v u Q I rx ry ⟨l, k, xs, rfl, rfl, hT, hne, by omega, h2, hz, q2 (by omega)⟩
section
variable {K : PySem.W.Frag} {M : List Addr} {F H : Hp} {Q : VK} {α : Type} {en : α → PyData} {l : List α} {xs : List V} {a : Addr} {j : Int}
/-- a tuple, repeated -/
theorem rep_tup (e : Ex F H) (s : SqT K F a xs) (d : DqAll K F xs (l.map en)) (h : 1 ≤ l.length ∧ l.length ≤ 1000 ∧ 1 ≤ j ∧ j ≤ 1000) (k : Ret M F H (fun F' _ v => Dq K F' v (eV en (List.replicate j.toNat l).flatten)) Q) : rRepTM K (.ref a) (.int j) H Q := by
  have hl : xs.length = l.length := by rw [d.len, List.length_map]
  refine ⟨a, j, xs, rfl, rfl, ex_t e s, fun z => ?_, h.2.2.1, h.2.2.2, by omega, fun z => ?_, fun _ p hp => ?_⟩
  · rw [z] at hl
    simp only [List.length_nil] at hl
    omega
  · have e1 : (List.replicate j.toNat l).flatten = l := by
      rw [z]
      simp
    rw [e1] at k
    exact k _ _ _ (Gm.refl e) (.tup s d)
  · have g : Gm M F H (upd F p (.tup (List.replicate j.toNat xs).flatten)) (upd H p (.tup (List.replicate j.toNat xs).flatten)) := Gm.new e hp
    exact k _ _ _ g (.tup (st_of upd_same) ((all_rep d _).up g.f))
end
end Wk

set_option Elab.async false
set_option linter.all false
set_option maxRecDepth 100000
set_option maxHeartbeats 2000000
namespace Wk
open PySem PySem.W L2 He
/-! ### the Hook over a written list of addresses -/
def obsXL (as : List Addr) (fa : List Fa) (fn : List He5.DefA) (ex : Frag → Bool) (g : Addr → Option Obj) : He.AlD := obsX fa fn ex (frG g as)
def hookXL (as : List Addr) (fa : List Fa) (fn : List He5.DefA) (ex : Frag → Bool) : PySem.W.Hook where
  α := He.AlD
  obs := fun s => obsXL as fa fn ex s.heap.get?
  val := fun _ => valX fn
  says := fun _ h => ∃ K : Frag, K.In h ∧ SaysX fa fn ex K
  of := fun _ _ e => ⟨_, frG_in, e⟩
  keeps := fun _ _ _ ⟨K, hK, c⟩ k => ⟨K, Frag.In.keeps hK k, c⟩
theorem obsXL_eq {as : List Addr} {fa : List Fa} {fn : List He5.DefA} {ex : Frag → Bool} {g : Addr → Option Obj} {s : Shared} (h : ∀ a, g a = s.heap.get? a) : obsXL as fa fn ex g = (hookXL as fa fn ex).obs s := by
  have e : g = s.heap.get? := funext h
  rw [e] <;> rfl
end Wk

set_option Elab.async false
set_option linter.all false
set_option maxRecDepth 100000
set_option maxHeartbeats 4000000
namespace WNe
open PySem PySem.Spec PyProof.Rows
section
variable {M : Model} {prog : Program} {w : World} {A : Around} {E : Value → Shared → Prop} {s : Shared} {K : PySem.W.Frag} {x y C D f : Addr} {ox : Obj} {od : Option Obj}
theorem ifBound_objNe {args : List Value} {Q : Option Value → Shared → Prop} (X : K.In s.heap) (I : PySem.W.InstAt s.heap x ox C od) (hs : PySem.W.findIn K (.ref C) "__ne__" = some (some (.builtin "object.__ne__")))
    (h : wpAny M A (call (.builtin "object.__ne__") (.ref x :: args)) (fun v => Q (some v)) E s) : wpAny M A (callSpecialIfBound? (.ref x) "__ne__" args) Q E s := by
  simp only [callSpecialIfBound?, bindSpecialIfBound?]
  refine wpAny_holding (wpAny_bind (wpAny_bind (wpAny_bind (I.type.here ((PySem.W.looks_findIn X hs).here ?_)))))
  refine wpAny_bind (wpAny_askSetting (wpAny_ite ?_))
  have fin : wpAny M A (call (.builtin "object.__ne__") ([.ref x] ++ args) >>= fun v => pure (some v)) Q E s := wpAny_bind (wpAny_mono h (fun v s' h' => wpAny_pure h') fun _ _ h' => h')
  split
  · exact wpAny_bind (wpAny_of_eq (F.cmp_object.ne.bind _) (wpAny_pure (by exact fin)))
  · exact wpAny_tryCatch (wpAny_bind (wpAny_of_eq (F.cmp_object.ne.bind _) (wpAny_pure (by exact fin))))
theorem entry_ne (X : K.In s.heap) (I : PySem.W.InstAt s.heap x ox C od) (hs : PySem.W.findIn K (.ref C) "__eq__" = some (some (.ref f))) (hf : PySem.W.isFn K (.ref f) = true) (hu : A.units < cLine) {Q : Fin → Shared → Prop}
    (hcall : wpAny (model prog w) A (call (.ref f) [.ref x, .ref y]) (fun v s' => ∃ b, v = .bool b ∧ Q (.done (.ret (.bool (!b)))) s') E s) :
    wpAny (model prog w) A (Builtin.«object.__ne__» ⟨[.ref x, .ref y], []⟩) Q E s := by
  unfold Builtin.«object.__ne__»
  repeat (first
    | with_reducible refine wpAny_cRoomFor hu ?_
    | (refine wpAny_bind (m := callSpecialIfBound? (.ref x) (Str.ofString "__eq__") [.ref y])
        (PySem.W.ifBound_K X I hs hf (wpAny_mono hcall (fun r s' hr => by
          obtain ⟨b, rfl, hq⟩ := hr
          repeat (first | exact hq | exact wpAny_pure hq | exact wpAny_truthy_bool hq | (refine wpAny_bind (m := truthy (.bool _)) (wpAny_truthy_bool ?_)) | wp_step)) fun _ _ e => e)))
    | wp_step)
theorem ne_K {Q : Value → Shared → Prop} (hu : A.units + 1 < cLine) (X : K.In s.heap) (I : PySem.W.InstAt s.heap x ox C od) (hb : PySem.W.Looks (model prog w) s.heap (typeOf (.ref y)) (.ref C))
    (hm : PySem.W.mroIn K C (.type "object") = some true) (hn : PySem.W.findIn K (.ref C) "__ne__" = some (some (.builtin "object.__ne__")))
    (hs : PySem.W.findIn K (.ref C) "__eq__" = some (some (.ref f))) (hf : PySem.W.isFn K (.ref f) = true)
    (hcall : wpAny (model prog w) A.in1 (call (.ref f) [.ref x, .ref y]) (fun v s' => ∃ b, v = .bool b ∧ Q (.bool (!b)) s') E s) : wpAny (model prog w) A (richCompare .NotEq (.ref x) (.ref y)) Q E s := by
  have one : wpAny (model prog w) A (tryCompare (.ref x) "__ne__" (.ref y)) (fun r s' => ∃ v, r = some v ∧ Q v s') E s := by
    unfold tryCompare
    refine wpAny_bind (ifBound_objNe X I hn (wpAny_call (codeAny_call_builtin F.cmp_object.ne.plain F.cmpEntry_ne (PySem.W.check_slot F.cmpKind_ne F.cmpSplit_ne (I.type.andThen (PySem.W.looks_mroIn X hm)) (F.cmpArgs_ne _ _)
      (entry_ne X I hs hf (by exact hu) (wpAny_mono hcall (fun v s' hv => ?_) fun _ _ e => e))))))
    obtain ⟨b, rfl, hq⟩ := hv
    exact ⟨b, rfl, wpAny_pure ⟨_, rfl, hq⟩⟩
  unfold richCompare
  simp only [oneThing_ref]
  refine wpAny_holding (wpAny_bind (wpAny_cRoomFor (by omega) ?_))
  rw [cmpInfo_NotEq]
  dsimp only
  refine wpAny_bind (I.type.here (wpAny_bind (hb.here ?_)))
  rw [show (Value.ref C != Value.ref C) = false from by simp]
  simp only [Bool.false_eq_true, if_false]
  refine wpAny_bind (wpAny_pure ?_)
  simp only [Bool.false_eq_true, if_false]
  refine wpAny_bind (wpAny_mono one (fun r s' z => ?_) fun _ _ e => e)
  obtain ⟨v, rfl, hq⟩ := z
  exact wpAny_pure hq
end

end WNe
namespace Wk
open PySem L2 Evl PySem.Spec PyProof.Rows
/-- two instances of C compared by C's own ==, which promises sp -/
def rOwnE (C : Addr) (sp : Sp) : R2 := fun x y H Q => ∃ a b dx dy fs gs, x = .ref a ∧ y = .ref b ∧ H a = some (.ins C dx fs) ∧ H b = some (.ins C dy gs) ∧ sp [.ref a, .ref b] H (fun v H' => ∃ r, v = .bl r ∧ Q (.bl r) H') E0
def rOwnN (C : Addr) (sp : Sp) : R2 := fun x y H Q => ∃ a b dx dy fs gs, x = .ref a ∧ y = .ref b ∧ H a = some (.ins C dx fs) ∧ H b = some (.ins C dy gs) ∧ sp [.ref a, .ref b] H (fun v H' => ∃ r, v = .bl r ∧ Q (.bl (!r)) H') E0
/-- the class's own == with its promise, and no != of its own -/
structure KnE (P : Program) (w : World) (K : PySem.W.Frag) (mg : Str → Option Value) (base : Heap) (C : Addr) (k : Nat) (ps : List Str) (sp : Sp) : Prop where
  ex : ∃ f fd, FnOk P w K mg base CX0 k f fd ps sp ∧ PySem.W.findIn K (.ref C) "__eq__" = some (some (.ref f)) ∧ PySem.W.isFn K (.ref f) = true ∧ Binds K fd ps []
  ne : PySem.W.findIn K (.ref C) "__ne__" = some (some (.builtin "object.__ne__"))
  ob : PySem.W.mroIn K C (.type "object") = some true
section
variable {X : Cx} {C : Addr} {n : Nat} {ps : List Str} {sp : Sp}
theorem own_call {f : Addr} {fd : FuncData} (F : FnOk X.prog X.w X.K X.mg X.base CX0 n f fd ps sp) (hb : Binds X.K fd ps []) {A : Around} (sb : Sub X n A) {pins : List (Addr × Obj)} {s : Shared} {σ : L2.St} {H : Hp} {a b : Addr} {Q : VK} (I : Inv X pins σ H s)
    (hsp : sp [.ref a, .ref b] H Q E0) : wpAny (model X.prog X.w) A (call (.ref f) [.ref a, .ref b]) (fun v s' => ∃ z H', Inv X pins σ H' s' ∧ RelV z v ∧ Q z H') X.xe s := by
  have e0 : Env0 X.prog X.w X.K X.mg X.base A X.stack s H := by
    have e := I.env0
    exact ⟨by rw [sb.fr]; exact e.frames, e.mod, e.bs, e.bsz, e.funs, e.frf, e.hok, e.bare⟩
  have hl := F.len _ _ _ _ hsp
  have r2 : Vals [V.ref a, V.ref b] [Value.ref a, Value.ref b] := .cons rfl (.cons rfl .nil)
  refine wpAny_call (codeAny_mono (F.run A X.stack s H ⟨[.ref a, .ref b], []⟩ [.ref a, .ref b] [.ref a, .ref b] _ E0 sb.room e0 (by
    have := hb s [.ref a, .ref b] I.kIn (by simpa using hl)
    simpa using this) r2 hsp) fun r s' hq => ?_)
  cases r with
  | error e => exact pass0 pins σ H s e s' I hq
  | ok fl =>
    cases fl with
    | ret w =>
      obtain ⟨z, H', I', rz, ez⟩ := I.after hq
      exact ⟨z, H', I', rz, ez⟩
    | next => exact False.elim hq
    | brk => exact False.elim hq
    | cont => exact False.elim hq
theorem op_neOwn (G : KnE X.prog X.w X.K X.mg X.base C n ps sp) (hr : Room (n + 1) X.A) : OpR X (compareOp .NotEq) (rOwnN C sp) := by
  intro pins s σ H x y v u Q I rx ry h
  obtain ⟨f, fd, F, hs, hf, hb⟩ := G.ex
  obtain ⟨a, b, dx, dy, fs, gs, rfl, rfl, ha, hb', hsp⟩ := h
  cases rx
  cases ry
  obtain ⟨mA, J, _⟩ := ins_get I.hok ha
  obtain ⟨mB, J', _⟩ := ins_get I.hok hb'
  obtain ⟨od, J, _⟩ := J.look
  obtain ⟨od', J', _⟩ := J'.look
  have un := hr.un
  refine WNe.ne_K (by omega) I.kIn J J'.type G.ob G.ne hs hf (wpAny_mono (own_call F hb (A := X.A.in1) ⟨hr.in1, rfl⟩ I hsp) (fun v s' q => ?_) fun _ _ e => e)
  obtain ⟨z, H', I', rz, r, rfl, q⟩ := q
  cases rz
  exact ⟨r, rfl, .bl (!r), H', I', rfl, q⟩
theorem op_eqOwn (G : KnE X.prog X.w X.K X.mg X.base C n ps sp) (hr : Room (n + 1) X.A) : OpR X (compareOp .Eq) (rOwnE C sp) := by
  intro pins s σ H x y v u Q I rx ry h
  obtain ⟨f, fd, F, hs, hf, hb⟩ := G.ex
  obtain ⟨a, b, dx, dy, fs, gs, rfl, rfl, ha, hb', hsp⟩ := h
  cases rx
  cases ry
  obtain ⟨mA, J, _⟩ := ins_get I.hok ha
  obtain ⟨mB, J', _⟩ := ins_get I.hok hb'
  obtain ⟨od, J, _⟩ := J.look
  obtain ⟨od', J', _⟩ := J'.look
  have un := hr.un
  obtain ⟨m, hF⟩ := I.fr
  refine PySem.W.cmp_K (op := .Eq) (tb := .ref C) (by omega) hF I.ok.mod.kin J J'.type (by simp [PySem.W.notFirst]) hs hf (wpAny_mono (own_call F hb (A := X.A) ⟨hr.mono (by omega), rfl⟩ I hsp) (fun v s' q => ?_) fun _ _ e => e)
  obtain ⟨z, H', I', rz, r, rfl, q⟩ := q
  cases rz
  exact ⟨.bl r, H', I', rfl, q⟩
end
end Wk

set_option Elab.async false
set_option linter.all false
set_option maxRecDepth 100000
set_option maxHeartbeats 2000000
namespace Wk
open PySem L2 Evl
/-- a list that a call reads, and nothing of it stays -/
theorem Gm.lend {F H F' H' : Hp} {p : Addr} {o : HO} (e : Ex F H) (g : Gm [] (upd F p o) H F' H') : Gm [] F H F H' :=
  ⟨Ex.refl _, fun a u ha => g.h a u (by simp) (e a u ha), g.h, fun _ _ _ hn => hn, g.m⟩
theorem ex_fix {F H : Hp} {p : Addr} {o : HO} (e : Ex F H) (h : H p = some o) : Ex (upd F p o) H := fun a u ha => by
  by_cases q : a = p
  · subst q
    rw [upd_same] at ha
    cases ha
    exact h
  · rw [upd_ne q] at ha
    exact e a u ha
/-! ### what an own == asks of the class, as the head tells it -/
section
open PySem.W He
variable {K : Frag}
def insB (x : Str) (K : Frag) : Bool := eqO (findIn K (.ref (ga K x)) "__class__") (some (some (.builtin "object.__class__"))) && (eqO (specialIn K (.builtin "object.__class__") "__get__") (some (some (.builtin "getset_descriptor.__get__"))) &&
  (decide (takesIn K (.builtin "object.__class__") = some true) && (decide (mroIn K (ga K x) (.type "object") = some true) && decide (kitOne K (.ref (ga K x)) (.ref (ga K x)) = some true))))
theorem insB_ok {x : Str} (cl : Cls K (ga K x)) (h : insB x K = true) : C8.InsC K (ga K x) := by
  obtain ⟨h1, h⟩ := ba h
  obtain ⟨h2, h⟩ := ba h
  obtain ⟨h3, h⟩ := ba h
  obtain ⟨h4, h5⟩ := ba h
  exact ⟨cl, eqO_ok h1, eqO_ok h2, of_decide_eq_true h3, of_decide_eq_true h4, of_decide_eq_true h5⟩
def neB (x : Str) (K : Frag) : Bool := eqO (findIn K (.ref (ga K x)) "__ne__") (some (some (.builtin "object.__ne__"))) && decide (mroIn K (ga K x) (.type "object") = some true)
theorem knE_of {P : Program} {w : World} {mg : Str → Option Value} {base : Heap} {x : Str} {fd : FuncData} {k : Nat} {ps : List Str} {sp : Sp} (M : Meth K (ga K x) "__eq__" (ma K (ga K x) "__eq__")) (h : neB x K = true)
    (F : FnOk P w K mg base CX0 k (ma K (ga K x) "__eq__") fd ps sp) (hb : Binds K fd ps []) : KnE P w K mg base (ga K x) k ps sp := by
  obtain ⟨h1, h2⟩ := ba h
  exact ⟨⟨_, fd, F, M.1, M.2, hb⟩, eqO_ok h1, of_decide_eq_true h2⟩
end
end Wk

set_option Elab.async false
set_option linter.all false
set_option maxRecDepth 100000
set_option maxHeartbeats 4000000
namespace Wk
open PySem L2 Evl PySem.Spec PyProof.Rows NdefX LamX
/-! ### an exception's __init__ that says super().__init__(..) -/
/-- what the written part says of the class at D -/
structure SupC (K : PySem.W.Frag) (P : Program) (mg : Str → Option Value) (D cda cc : Addr) : Prop where
  oex : OexC K D
  sup : PySem.W.ks_superIn K D D "__init__" = some (some (.builtin "ValueError.__init__"))
  sub : PySem.W.subIn K (.ref D) (.type "ValueError") = some true
  self : PySem.W.mroIn K D (.ref D) = some true
  opq : PySem.W.nsIn K cStatics "thirdparty.any" = some none
  code : ∃ ccl cdd vs ccs file tf, K.lookup cda = some ⟨ccl, cdd, .fields vs, ccs⟩ ∧ vs[2]? = some (.str file tf) ∧ ((P.main.file : Str) == file) = true
  cell : ∃ cl cld csl, K.lookup cc = some ⟨cl, cld, .cell (some (.ref D)), csl⟩
  sup0 : mg "super" = none
  top : (P.main.scope.names.lookup ("super" : Str)).isSome = false
section
variable {K : PySem.W.Frag} {P : Program} {mg : Str → Option Value} {D cda cc : Addr}
theorem SupC.cls {h : Heap} (S : SupC K P mg D cda cc) (X : K.In h) : ∃ cd oD, PySem.W.clsIn K D = some cd ∧ h.get? D = some oD ∧ oD.data = .cls cd := by
  obtain ⟨nm, q, N, bs, bm, sn, sub, ab, col, dd, k0, k1, k2, k3, k5, hC, hbm⟩ := S.oex.cls
  refine ⟨_, _, ?_, X _ _ hC, rfl⟩
  unfold PySem.W.clsIn
  rw [hC]
end
section
variable {prog : Program} {w : World} {A : Around} {E : Value → Shared → Prop} {h : Heap} {g : Array GenState} {d : Drawn} {t : Nat} {os : OsState}
variable {nm q : Str} {C N : Addr} {bs bm bmB : List Value} {hdct : Bool} {sn : List Str} {sub : List Value} {ab : Bool} {col : Option Bool} {dd : Option Addr} {k0 k1 k2 k3 k5 : Option Value} {B newId i : String}
theorem call_mw (FB : ExcBaseFacts B newId i bmB) {u e t0 : Addr} {rest : List Value} {Q : Value → Shared → Prop}
    (hC : h.get? C = some (excClassObj nm q C N bs bm hdct sn sub ab col dd k0 k1 k2 k3 k5 newId)) (he : h.get? e = some (PySem.HandSPX.excO C t0)) (hu : h.get? u = some (PySem.W.kxs_mw i e)) (hrest : rest.length ≤ sizeLine)
    (hq : ∀ h' t1, (∀ b o, b ≠ e → h.get? b = some o → h'.get? b = some o) → h'.get? e = some (PySem.HandSPX.excO C t1) → Q .none ⟨h', g, d, t, os⟩) :
    wpAny (model prog w) A (call (.ref u) rest) Q E ⟨h, g, d, t, os⟩ := by
  refine wpAny_call (codeAny_of_tree ?_)
  show wpAny _ A.in1 (callAny (.ref u) ⟨rest, []⟩) _ _ _
  simp only [callAny]
  refine wpAny_bind (wpAny_load hu ?_)
  simp only [PySem.W.kxs_mw, show (Value.type "method-wrapper" == Value.type "method" || Value.type "method-wrapper" == Value.type "builtin_function_or_method" || Value.type "method-wrapper" == Value.type "method-wrapper") = true by decide, if_true]
  refine PySem.W.KFB.if_so (by decide) ?_
  refine wpAny_bind (PySem.W.check_bound_init FB.toExcCallFacts hC he rfl ?_)
  refine wpAny_bind (wpAny_pure (wpAny_pure ?_))
  refine ⟨plainId_quiet FB.init.plain _, codeAny_builtin FB.initEntry ?_⟩
  refine PySem.W.exc_init_tree (cls := .ref C) (t0 := t0) (dv := none) (c2 := .none) (c3 := .none) (b4 := .bool false) he hrest fun h' k e' t' => ?_
  exact hq h' _ k e'
end
theorem clo_one {x k : Str} {v c : Addr} (h : ([(k, v)] : List (Str × Addr)).lookup x = some c) : x = k ∧ c = v := by
  have m := PySem.mem_of_lookup h
  rw [List.mem_singleton] at m
  exact ⟨congrArg Prod.fst m, congrArg Prod.snd m⟩
theorem clo_self {k : Str} {v : Addr} : ([(k, v)] : List (Str × Addr)).lookup k = some v := by simp [List.lookup]
abbrev nfS (name qual : Str) (params : Arguments) (body : List Stmt) (scope : Scope) (cda cc : Addr) : NF := ⟨name, qual, params, body, scope, [("__class__", cc)], cda⟩
abbrev supSt (e : Expr) (es : List Expr) (p0 p1 p2 pos pos' : Pos) : Stmt := .Expr (.Call (.Attribute (.Call (.Name "super" p0) [] [] p1) "__init__" p2) (e :: es) [] pos) pos'
theorem fn_ofS {CX : CXT} {P : Program} {w : World} {K : PySem.W.Frag} {mg : Str → Option Value} {base : Heap} {k : Nat} {f D cda cc : Addr} {name qual : Str} {params : Arguments} {e : Expr} {es : List Expr} {rest : List Stmt} {p0 p1 p2 pos pos' : Pos} {scope : Scope} {dV kV doc pm ct oc : Value} {an od : Option Addr}
    {osl : Array (Option Value)} {N ps : List Str} {sp : Sp} {ar : Arg} {pl : Env → Sem Bool}
    (hcall : ∀ env, eval (.Call (.Attribute (.Call (.Name "super" p0) [] [] p1) "__init__" p2) (e :: es) [] pos) env = (do
      let ov ← attributeBase (.Call (.Name "super" p0) [] [] p1) "__init__" env (eval (.Call (.Name "super" p0) [] [] p1) env)
      standAt p2.atName
      let (f, first) ← holding [ov] (getMethod ov "__init__" (pl env))
      callWith pos f first (backTo pos (starEach (e :: es) env)) []))
    (lk : K.lookup f = some ⟨oc, od, .func (PySem.W.ksFn name qual params (supSt e es p0 p1 p2 pos pos' :: rest) scope dV kV doc pm an (.ref cda) ct cc), osl⟩)
    (hcd : PySem.W.codeIn K (.ref cda) qual = true) (S : NScope N ps ["__class__"] scope) (SC : SupC K P mg D cda cc) (hp : (params.posonlyargs ++ params.args).head? = some ar) (h0 : ps[0]? = some ar.arg)
    (hks : scope.names.lookup ("super" : Str) = some .globalImplicit) (he : ∀ env, starEach (e :: es) env = (false, eval e env) :: starEach es env) (hpl : ∀ env, (backTo pos (starEach es env)).any (·.1) = false)
    (len : ∀ vs H Q E, sp vs H Q E → vs.length = ps.length)
    (hbody : ∀ (A : Around) (outer : List Env) (s : Shared) (H : Hp) (vs : List V) (Q : VK) (E : XK), sp vs H Q E →
      ∃ (a : Addr) (ta : TA) (tr : TS), vs[0]? = some (V.ref a) ∧ H a = some (exo a D none) ∧ PA (ncx CX P w K mg base N (nfS name qual params (supSt e es p0 p1 p2 pos pos' :: rest) scope cda cc) f A outer s H E) (e :: es) ta ∧
        PSs (ncx CX P w K mg base N (nfS name qual params (supSt e es p0 p1 p2 pos pos' :: rest) scope cda cc) f A outer s H E) rest tr ∧
        ta (startF N vs [some (V.ref D)]) H fun us H1 => us.length ≤ 1000 ∧ H1 a = some (exo a D none) ∧ tr { nx := fun _ H' => Q .non H', rt := Q } (startF N vs [some (V.ref D)]) H1) :
    FnOk P w K mg base CX (k + 1) f (PySem.W.ksFn name qual params (supSt e es p0 p1 p2 pos pos' :: rest) scope dV kV doc pm an (.ref cda) ct cc) ps sp := by
  refine ⟨len, fun A outer s H args us vs Q E hr e0 hb r hsp => ?_⟩
  have hl := len _ _ _ _ hsp
  obtain ⟨a, ta, tr, hv0, ha, hpa, hps, hq⟩ := hbody A outer s H vs Q E hsp
  have KX : K.In s.heap := e0.mod.kin.keeps fun b o e => (e0.bs b o e).1
  have lim : s.heap.NoLimit := e0.mod.nolimit.keeps fun b o e => (e0.bs b o e).1
  obtain ⟨cl, cld, csl, hcell⟩ := SC.cell
  obtain ⟨ccl, cdd, vsC, ccs, file, tf, hcode, hvs, hfile⟩ := SC.code
  have C : CellsAt [("__class__", cc)] ["__class__"] [some (V.ref D)] s.heap H := by
    refine ⟨rfl, fun y c hy => ?_, fun x y c hx hy => ?_, fun i y hi => ?_⟩
    · obtain ⟨rfl, rfl⟩ := clo_one hy
      exact ⟨(e0.bs _ _ (e0.mod.kin _ _ hcell)).2, _, _, KX _ _ hcell, rfl⟩
    · rw [(clo_one hx).1, (clo_one hy).1]
    · have hi0 : i = 0 := by
        have := (List.getElem?_eq_some_iff.mp hi).1
        simp only [List.length_cons, List.length_nil] at this
        omega
      subst hi0
      obtain rfl : "__class__" = y := by simpa using hi
      refine ⟨cc, clo_self, fun v hv => ?_⟩
      obtain rfl : V.ref D = v := by simpa using hv
      exact ⟨.ref D, rfl, _, KX _ _ hcell, rfl⟩
  refine ks_codeAny_call_defAt hr.depth (KX _ _ lk) rfl lim (PySem.W.codeRec_of KX hcd) rfl hb S.nocell (fun ⟨n, _⟩ hy => S.par n (List.of_mem_zip hy).1) (fun h₀ hns kp => ?_) S.co S.gen S.kind
  have I : Inv (ncx CX P w K mg base N (nfS name qual params (supSt e es p0 p1 p2 pos pos' :: rest) scope cda cc) f A outer s H E) [] (startF N vs [some (V.ref D)]) H { s with heap := h₀, toks := s.toks + (ps.zip us).length } :=
    inv_startN (F := nfS name qual params (supSt e es p0 p1 p2 pos pos' :: rest) scope cda cc) S hr.hd e0 hl r C hns kp
  show _root_.PySem.wpAt _ (ncx CX P w K mg base N (nfS name qual params (supSt e es p0 p1 p2 pos pos' :: rest) scope cda cc) f A outer s H E).A (.func (supSt e es p0 p1 p2 pos pos' :: rest) (ncx CX P w K mg base N (nfS name qual params (supSt e es p0 p1 p2 pos pos' :: rest) scope cda cc) f A outer s H E).env) (execs (supSt e es p0 p1 p2 pos pos' :: rest) (ncx CX P w K mg base N (nfS name qual params (supSt e es p0 p1 p2 pos pos' :: rest) scope cda cc) f A outer s H E).env) _ _ _
  have hout : ∀ fl s', SP (ncx CX P w K mg base N (nfS name qual params (supSt e es p0 p1 p2 pos pos' :: rest) scope cda cc) f A outer s H E) [] { nx := fun _ H' => Q .non H', rt := Q } fl s' → CR CX outer P w H s Q E (.ok (.ret (match fl with | .ret v => v | _ => .none))) s' := fun fl s' hs => by
    have fin : ∀ {σ' : L2.St} {H' : Hp} {v : V} {u : Value}, Inv (ncx CX P w K mg base N (nfS name qual params (supSt e es p0 p1 p2 pos pos' :: rest) scope cda cc) f A outer s H E) [] σ' H' s' → L2.RelV v u → Q v H' → CE outer P w H s Q u s' :=
      fun {σ' H' v u} J rv q => ⟨v, H', J.os, J.bare, J.base, J.hok, rv, q⟩
    cases fl with
    | ret u =>
      obtain ⟨v, σ', H', J, rv, q⟩ := hs
      exact fin J rv q
    | next =>
      obtain ⟨σ', H', J, q⟩ := hs
      exact fin (v := V.non) (u := Value.none) J rfl q
    | brk =>
      obtain ⟨_, _, _, q⟩ := hs
      exact False.elim q
    | cont =>
      obtain ⟨_, _, _, q⟩ := hs
      exact False.elim q
  have hk0 : (K.lookup f) = some ⟨oc, od, .func (PySem.W.ksFn name qual params (supSt e es p0 p1 p2 pos pos' :: rest) scope dV kV doc pm an (.ref cda) ct cc), osl⟩ := lk
  have KX0 : K.In h₀ := KX.keeps kp
  obtain ⟨cdD, oD, hclD, hD1, hD2⟩ := SC.cls KX0
  obtain ⟨t1, hx⟩ := exo_at I.hok ha
  have hx : h₀.get? a = some ({ cls := .ref D, dict := none, data := .fields #[.ref t1, .none, .none, .none, .bool false, .none] } : Obj) := hx
  have hne : a ≠ D := fun z => by
    rw [z, hD1] at hx
    cases hx
    cases hD2
  obtain ⟨m, hns', hlk⟩ := id I.loc
  have hN0 : N[0]? = some ar.arg := by
    have q := S.pre
    have z : (N.take (ps.length + 1))[0]? = (ps ++ ([("__class__" : Str)] : List Str))[0]? := by rw [← q]; rfl
    rw [List.getElem?_take_of_lt (by omega)] at z
    have lp : 0 < ps.length := (List.getElem?_eq_some_iff.mp h0).1
    rw [z, List.getElem?_append_left lp]
    exact h0
  have kself : scope.names.lookup ar.arg = some .local := S.par _ (List.mem_of_getElem? h0)
  have hmx : m ar.arg = some (.ref a) := by
    have hs0 : (startF N vs [some (V.ref D)])[0]? = some (some (V.ref a)) := by
      unfold startF
      rw [List.getElem?_append_left (by rw [List.length_map]; exact (List.getElem?_eq_some_iff.mp hv0).1), List.getElem?_map, hv0]
      rfl
    obtain ⟨u, ru, hlu⟩ := hlk 0 ar.arg _ hN0 hs0 (.inl kself)
    obtain rfl : u = Value.ref a := ru
    rcases hlu with ⟨_, z⟩ | ⟨k, _⟩
    · exact z
    · have k : scope.names.lookup ar.arg = some .cell ∨ scope.names.lookup ar.arg = some .free := k
      rw [kself] at k
      rcases k with k | k <;> cases k
  obtain ⟨mb, hb1, hb2⟩ := I.mod.blt
  have kcls : scope.names.lookup ("__class__" : Str) = some .free := S.frk _ (List.mem_singleton.mpr rfl)
  refine ks_wpAt_execs_cons (ks_wpAt_Expr_any (hi := I.quiet) (ks_wpAt_MethodCall (he := hcall _) ?_))
  refine ks_wpAt_super_base hks kcls (by decide) rfl (KX0 _ _ lk) rfl hp rfl (KX0 _ _ hcode) rfl hvs hfile SC.top ?_
  refine PySem.W.ks_loadName_global I.ok.kind hks (PySem.Calls.loadGlobal_builtin (by rw [I.ok.glob]; exact I.mod.glob.keeps I.bk) SC.sup0 (by rw [I.ok.blt]; exact hb1.keeps I.bk) ((hb2 "super" (by decide)).trans PyProof.Rows.Boot.«super») ⟨rfl, ?_⟩)
  refine wpAny_loadName_free I.ok.kind kcls clo_self ⟨_, KX0 _ _ hcell, rfl⟩ ?_
  refine wpAny_loadName_local I.ok.kind kself hns' hmx ?_
  refine ks_wpAny_isType_cls hD1 hD2 ⟨rfl, ?_⟩
  refine ks_wpAny_call_super hD1 hD2 hx rfl (fun c z => by cases z) (PySem.W.looks_mroIn KX0 SC.self) (fun h1 hso k1 => ?_)
  have I1 := I.kept (h' := h1) (t' := s.toks + (ps.zip us).length) k1
  have KX1 : K.In h1 := KX0.keeps k1
  have hx1 := k1 _ _ hx
  have IA : PySem.W.InstAt h1 a ({ cls := .ref D, dict := none, data := .fields #[.ref t1, .none, .none, .none, .bool false, .none] } : Obj) D none := ⟨hx1, rfl, rfl, trivial⟩
  have hm := SC.sup
  unfold PySem.W.ks_superIn at hm
  rw [hclD] at hm
  refine PySem.W.kxs_getMethod PySem.W.kxs_ValueError hso (PySem.W.looks_opaque KX1 SC.opq) (l₀ := cdD.mro) (fun A Q E s k q => wpAny_bind ((PySem.W.looks_clsIn KX1 hclD) A _ E s k (wpAny_pure q))) rfl KX1 hm (IA.type.andThen (PySem.W.looks_subIn KX1 SC.sub)) hne (by decide) ?_
  have hmw : (h1.push (PySem.W.kxs_mw "ValueError.__init__" a)).get? h1.objs.size = some (PySem.W.kxs_mw "ValueError.__init__" a) := Heap.get?_push_at rfl rfl
  have k2 : ∀ b o, h1.get? b = some o → (h1.push (PySem.W.kxs_mw "ValueError.__init__" a)).get? b = some o := fun b o e => Heap.get?_push_of_some _ e
  have I2 := (I1.kept (h' := h1.push (PySem.W.kxs_mw "ValueError.__init__" a)) (t' := s.toks + (ps.zip us).length + 1) k2).pins_of (pins' := [(h1.objs.size, PySem.W.kxs_mw "ValueError.__init__" a)]) fun p hp => by
    rw [List.mem_singleton] at hp
    subst hp
    exact ⟨hmw, I1.hok.fresh (Nat.le_refl _), Nat.ne_of_gt I1.lt, I1.nofs (Nat.le_refl _), fun v z => by cases z⟩
  refine PySem.W.kxs_callWith (i := "ValueError.__init__") (x := a) (by rw [he]; show (false || (backTo pos (starEach es _)).any (·.1)) = false; rw [hpl]; rfl) ?_
  rw [he]
  refine PySem.Calls.evalArgs_plain (thn (by have z := hpa.run pos [(h1.objs.size, PySem.W.kxs_mw "ValueError.__init__" a)] _ _ H _ I2 hq; rw [he] at z; exact z) fun vals s3 hv3 => ?_)
  obtain ⟨vs3, H3, I3, r3, hl3, ha3, hq3⟩ := hv3
  obtain ⟨t3, ho3⟩ := exo_at I3.hok ha3
  have pin3 := I3.pin (h1.objs.size, PySem.W.kxs_mw "ValueError.__init__" a) (by simp)
  refine ⟨pin3.1, ?_⟩
  obtain ⟨nm, q, Nn, bs, bm, sn, sub, ab, col, dd, k0, k1', k2', k3', k5, hC, hbm⟩ := SC.oex.cls
  obtain ⟨hp3, g3, d3, tk3, os3⟩ := s3
  have hl : vals.length ≤ sizeLine := by
    rw [← Paired.length r3, sizeLine_eq]
    omega
  refine call_mw F.excBase_ValueError (I3.kIn _ _ hC) ho3 pin3.1 hl fun h4 t4 k4 hx4 => ?_
  have J := I3.write (t' := tk3) (x := a) (e := a) (o := exo a D none) (by rw [ha3]; exact True.intro) (.inl rfl) k4 ⟨_, hx4⟩ (exo_ok hx4)
  have eu : upd H3 a (exo a D none) = H3 := by
    funext b
    by_cases hb : b = a
    · rw [hb, upd_same, ha3]
    · rw [upd_ne hb]
  rw [eu] at J
  have J0 := J.pins_of (pins' := []) fun p hp => by cases hp
  exact wpAt_of_wpAny (wpAny_mono (hps.run [] _ _ H3 _ J0 hq3) hout fun e s' hs => hs)
end Wk

set_option Elab.async false
set_option linter.all false
set_option maxRecDepth 100000
set_option maxHeartbeats 4000000
namespace Wk
open PySem PySem.W L2 He
/-! ### what the head tells of an exception class with an own __init__ -/
def oexB (x : Str) (K : Frag) : Bool := (match K.lookup (ga K x) with
    | some ⟨.type t, _, .cls cd, sl⟩ => t == "type" && ((match cd.mro with
      | .ref C :: bm => C == ga K x && PySem.HandSPX.refsVE bm
      | _ => false) && (cd.hasDict && (!cd.hasDel && (match sl.toList with
      | [_, _, _, _, some (.builtin n), _] => n == "ValueError.__new__"
      | _ => false))))
    | _ => false) && (eqO (findIn K (.ref (ga K x)) "__setattr__") (some (some (.builtin "object.__setattr__"))) && (decide (subIn K (.ref (ga K x)) (.type "BaseException") = some true) &&
    (decide (typeIn K (.ref (ga K x)) = some (.type "type")) && keepIn K (.ref (ga K x)))))
theorem oexB_ok {x : Str} {K : Frag} (h : oexB x K = true) : OexC K (ga K x) := by
  obtain ⟨h1, h⟩ := ba h
  obtain ⟨h2, h⟩ := ba h
  obtain ⟨h3, h⟩ := ba h
  obtain ⟨h4, h5⟩ := ba h
  refine ⟨?_, eqO_ok h2, of_decide_eq_true h3, of_decide_eq_true h4, h5⟩
  generalize ga K x = C0 at *
  split at h1
  · rename_i t dd cd sl ho
    obtain ⟨a1, h1⟩ := ba h1
    obtain ⟨a2, h1⟩ := ba h1
    obtain ⟨a3, h1⟩ := ba h1
    obtain ⟨a4, a5⟩ := ba h1
    obtain ⟨nm, bs, mro, ns, qn, hd, sn, sub, ab, col, del⟩ := cd
    split at a2
    · rename_i C bm hm
      obtain ⟨b1, b2⟩ := ba a2
      split at a5
      · rename_i k0 k1 k2 k3 n k5 hs
        have e1 := eq_of_beq a1
        have e2 := eq_of_beq b1
        have e3 := eq_of_beq a5
        have e4 : del = false := by simpa using a4
        have e5 : hd = true := a3
        have hm : mro = .ref C :: bm := hm
        subst e1 e2 e3 e4 e5 hm
        have hsl : sl = #[k0, k1, k2, k3, some (.builtin "ValueError.__new__"), k5] := by
          obtain ⟨l⟩ := sl
          simp only at hs
          rw [hs]
        subst hsl
        exact ⟨nm, qn, ns, bs, bm, sn, sub, ab, col, dd, k0, k1, k2, k3, k5, ho, b2⟩
      · cases a5
    · cases a2
  · cases h1
def cfB (file : Str) (K : Frag) : Value → Bool
  | .ref cda => (match K.lookup cda with
    | some ⟨_, _, .fields vs, _⟩ => (match (vs[2]? : Option Value) with
      | some (.str fl _) => decide (fl = file)
      | _ => false)
    | _ => false)
  | _ => false
theorem cfB_ok {file : Str} {K : Frag} {v : Value} (h : cfB file K v = true) : ∃ cda ccl cdd vs ccs tf, v = .ref cda ∧ K.lookup cda = some ⟨ccl, cdd, .fields vs, ccs⟩ ∧ (vs[2]? : Option Value) = some (.str file tf) := by
  unfold cfB at h
  split at h
  · rename_i cda
    split at h
    · rename_i ccl cdd vs ccs hcode
      split at h
      · rename_i fl tf hvs
        obtain rfl := of_decide_eq_true h
        exact ⟨cda, _, _, _, _, _, rfl, hcode, hvs⟩
      · cases h
    · cases h
  · cases h
def ceB (x : Str) (K : Frag) : List (Str × Addr) → Bool
  | [(n, cc)] => decide (n = "__class__") && (match K.lookup cc with
      | some ⟨_, _, .cell (some (.ref D)), _⟩ => decide (D = ga K x)
      | _ => false)
  | _ => false
theorem ceB_ok {x : Str} {K : Frag} {l : List (Str × Addr)} (h : ceB x K l = true) : ∃ (cc : Addr) (cl : Value) (cld : Option Addr) (csl : Array (Option Value)), l = [(("__class__" : Str), cc)] ∧ K.lookup cc = some ⟨cl, cld, .cell (some (.ref (ga K x))), csl⟩ := by
  unfold ceB at h
  split at h
  · rename_i n cc
    obtain ⟨b1, b2⟩ := ba h
    obtain rfl := of_decide_eq_true b1
    split at b2
    · rename_i cl cld D csl hcell
      obtain rfl := of_decide_eq_true b2
      exact ⟨cc, _, _, _, rfl, hcell⟩
    · cases b2
  · cases h
def noneB : Value → Bool
  | .none => true
  | _ => false
theorem noneB_ok {v : Value} (h : noneB v = true) : v = .none := by
  cases v <;> first | rfl | cases h
def cloB (x : Str) (file : Str) (K : Frag) : Bool := match K.lookup (ma K (ga K x) "__init__") with
  | some ⟨_, _, .func fd, _⟩ => ceB x K fd.closure && (noneB fd.defaults && cfB file K fd.code)
  | _ => false
def supB (x : Str) (file : Str) (K : Frag) : Bool := oexB x K && (decide (ks_superIn K (ga K x) (ga K x) "__init__" = some (some (.builtin "ValueError.__init__"))) && (decide (subIn K (.ref (ga K x)) (.type "ValueError") = some true) && (decide (mroIn K (ga K x) (.ref (ga K x)) = some true) &&
  (eqO (nsIn K cStatics "thirdparty.any") (some none) && (cloB x file K && (eqO (findIn K (.ref (ga K x)) "__init__") (some (some (.ref (ma K (ga K x) "__init__")))) && decide (typeIn K (.ref (ma K (ga K x) "__init__")) = some (.type "function"))))))))
/-- a def, its closure told apart -/
def fnSA (K : Frag) (a : Addr) : FnW := match K.lookup a with
  | some ⟨_, _, .func fd, _⟩ => some (fd.name, fd.qualname, fd.params, fd.body, fd.scope, fd.globals, [], fd.builtins)
  | _ => none
structure IniD (K : Frag) (P : Program) (mg : Str → Option Value) (x name qual : Str) (params : Arguments) (body : List Stmt) (scope : Scope) (fd : FuncData) (cda cc : Addr) : Prop where
  lk : ∃ (oc : Value) (od : Option Addr) (kV doc pm ct : Value) (an : Option Addr) (osl : Array (Option Value)),
    fd = ksFn name qual params body scope .none kV doc pm an (.ref cda) ct cc ∧ K.lookup (ma K (ga K x) "__init__") = some ⟨oc, od, .func fd, osl⟩
  cd : codeIn K (.ref cda) qual = true
  sc : SupC K P mg (ga K x) cda cc
  ini : findIn K (.ref (ga K x)) "__init__" = some (some (.ref (ma K (ga K x) "__init__")))
  typ : typeIn K (.ref (ma K (ga K x) "__init__")) = some (.type "function")
theorem iniD_of {K : Frag} {P : Program} {mg : Str → Option Value} {d : He5.DefA} {x file : Str} (hat : d.at_ K = ma K (ga K x) "__init__") (e : fnSA K (d.at_ K) = d.val) (c : d.ok K = true) (h : supB x file K = true) (hf : ((P.main.file : Str) == file) = true) (hs : mg "super" = none)
    (ht : (P.main.scope.names.lookup ("super" : Str)).isSome = false) : ∃ fd cda cc, IniD K P mg x d.name d.qual d.params d.body d.scope fd cda cc := by
  obtain ⟨h1, h⟩ := ba h
  obtain ⟨h2, h⟩ := ba h
  obtain ⟨h3, h⟩ := ba h
  obtain ⟨h4, h⟩ := ba h
  obtain ⟨h5, h⟩ := ba h
  obtain ⟨h6, h⟩ := ba h
  obtain ⟨h7, h8⟩ := ba h
  obtain ⟨kp, c2⟩ := ba c
  unfold cloB at h6
  unfold fnSA at e
  rw [hat] at e c2
  cases q : K.lookup (ma K (ga K x) "__init__") with
  | none =>
    rw [q] at c2
    cases c2
  | some o =>
    obtain ⟨oc, od, dt, osl⟩ := o
    rw [q] at c2 e h6
    cases dt with
    | func fd =>
      obtain ⟨n1, n2, n3, n4, n5, n6, n7, n8, n9, n10, n11, n12, n13, n14, n15⟩ := fd
      have e2 : (some (n1, n2, n3, n4, n5, n6, ([] : List (Str × Addr)), n15) : FnW) = some (d.name, d.qual, d.params, .stmts d.body, d.scope, mainGlobals, [], builtinsNs) := e
      simp only [Option.some.injEq, Prod.mk.injEq] at e2
      obtain ⟨g1, g2, g3, g4, g5, g6, _, g8⟩ := e2
      obtain ⟨a1, a2⟩ := ba h6
      obtain ⟨a0, a2⟩ := ba a2
      have c3 := (ba c2).1
      dsimp only at a0 a1 a2 c3
      have z8 := noneB_ok a0
      obtain ⟨cc, cl, cld, csl, z7, hcell⟩ := ceB_ok a1
      obtain ⟨cda, ccl, cdd, vs, ccs, tf, zc, hcode, hvs⟩ := cfB_ok a2
      subst z8 z7 zc
      subst g1 g2 g3 g4 g5 g6 g8
      exact ⟨_, cda, cc, ⟨_, _, _, _, _, _, _, _, rfl, q⟩, c3, ⟨oexB_ok h1, of_decide_eq_true h2, of_decide_eq_true h3, of_decide_eq_true h4, eqO_ok h5, ⟨_, _, _, _, _, _, hcode, hvs, hf⟩, ⟨_, _, _, hcell⟩, hs, ht⟩, eqO_ok h7, of_decide_eq_true h8⟩
    | _ => cases c2
/-! ### the Hook with such classes -/
def obsXS (as : List Addr) (fa : List Fa) (fn es : List He5.DefA) (ex : Frag → Bool) (g : Addr → Option Obj) : He.AlD :=
  (((fa.all fun f => f.ok (frG g as)) && ((fn.all fun d => d.ok (frG g as)) && ((es.all fun d => d.ok (frG g as)) && ex (frG g as)))), (fn.map fun d => He5.fnA (frG g as) (d.at_ (frG g as))) ++ es.map fun d => fnSA (frG g as) (d.at_ (frG g as)))
def valXS (fn es : List He5.DefA) : He.AlD := (true, fn.map He5.DefA.val ++ es.map He5.DefA.val)
structure SaysXS (fa : List Fa) (fn es : List He5.DefA) (ex : Frag → Bool) (K : Frag) : Prop where
  old : SaysX fa fn ex K
  own : (es.map fun d => fnSA K (d.at_ K)) = es.map He5.DefA.val
  ok : ∀ d ∈ es, d.ok K = true
theorem saysXS_of {as : List Addr} {fa : List Fa} {fn es : List He5.DefA} {ex : Frag → Bool} {g : Addr → Option Obj} (h : obsXS as fa fn es ex g = valXS fn es) : SaysXS fa fn es ex (frG g as) := by
  have h1 : ((fa.all fun f => f.ok (frG g as)) && ((fn.all fun d => d.ok (frG g as)) && ((es.all fun d => d.ok (frG g as)) && ex (frG g as)))) = true := congrArg (fun z : He.AlD => z.1) h
  have h2 : (fn.map fun d => He5.fnA (frG g as) (d.at_ (frG g as))) ++ (es.map fun d => fnSA (frG g as) (d.at_ (frG g as))) = fn.map He5.DefA.val ++ es.map He5.DefA.val := congrArg (fun z : He.AlD => z.2) h
  obtain ⟨a1, a2⟩ := ba h1
  obtain ⟨a2, a3⟩ := ba a2
  obtain ⟨a3, a4⟩ := ba a3
  obtain ⟨b1, b2⟩ := List.append_inj h2 (by rw [List.length_map, List.length_map])
  refine ⟨?_, b2, fun d hd => List.all_eq_true.mp a3 d hd⟩
  unfold SaysX obsX valX
  rw [a1, a2, a4, b1]
  rfl
def hookXS (as : List Addr) (fa : List Fa) (fn es : List He5.DefA) (ex : Frag → Bool) : PySem.W.Hook where
  α := He.AlD
  obs := fun s => obsXS as fa fn es ex s.heap.get?
  val := fun _ => valXS fn es
  says := fun _ h => ∃ K : Frag, K.In h ∧ SaysXS fa fn es ex K
  of := fun _ _ e => ⟨_, frG_in, saysXS_of e⟩
  keeps := fun _ _ _ ⟨K, hK, c⟩ k => ⟨K, Frag.In.keeps hK k, c⟩
theorem obsXS_eq {as : List Addr} {fa : List Fa} {fn es : List He5.DefA} {ex : Frag → Bool} {g : Addr → Option Obj} {s : Shared} (h : ∀ a, g a = s.heap.get? a) : obsXS as fa fn es ex g = (hookXS as fa fn es ex).obs s := by
  have e : g = s.heap.get? := funext h
  rw [e] <;> rfl
theorem SaysXS.ini {fa : List Fa} {fn es : List He5.DefA} {ex : Frag → Bool} {K : Frag} {P : Program} {mg : Str → Option Value} {x file : Str} (c : SaysXS fa fn es ex K) (i : Nat) {d : He5.DefA} (h : es[i]? = some d) (hat : d.at_ K = ma K (ga K x) "__init__") (hb : supB x file K = true)
    (hf : ((P.main.file : Str) == file) = true) (hs : mg "super" = none) (ht : (P.main.scope.names.lookup ("super" : Str)).isSome = false) : ∃ fd cda cc, IniD K P mg x d.name d.qual d.params d.body d.scope fd cda cc := by
  have e2 : (es.map fun d => fnSA K (d.at_ K))[i]? = (es.map He5.DefA.val)[i]? := by rw [c.own]
  rw [List.getElem?_map, List.getElem?_map, h] at e2
  exact iniD_of hat (Option.some.inj e2) (c.ok d (List.mem_of_getElem? h)) hb hf hs ht
end Wk

set_option Elab.async false
set_option linter.all false
set_option maxRecDepth 100000
set_option maxHeartbeats 4000000
namespace Wk
open PySem L2 Evl PySem.Spec PyProof.Rows NdefX LamX
/-! ### the kinds of exceptions, by number -/
def exN : Nat → Str
  | 0 => "InvalidWeighting" | 1 => "InvalidPlaces" | 2 => "InvalidWeights" | 3 => "InvalidSums" | 4 => "InvalidNumber" | 5 => "InvalidPolynomial" | 6 => "TooFew" | 7 => "InvalidFraction" | 8 => "NoWeighting"
  | 9 => "DecodeError" | 10 => "InvalidReadings" | 11 => "UnknownPlace" | 12 => "Clash" | 13 => "InvalidText"
  | _ => ""
def exF : Nat → List Str
  | 0 => ["part", "index"] | 1 => ["index"] | 2 => ["index"] | 3 => ["index"] | 9 => ["offset"]
  | _ => []
/-- its fields, as they stand -/
def xfs (e : Er) : List (Str × V) := ((exF e.c).zip (e.fs.map V.int)).reverse
/-- an exception of the kind e: its class, its dict -/
def XD (K : PySem.W.Frag) (F : Hp) (cls : Value) (d : Option Addr) (e : Er) : Prop :=
  cls = .ref (He.ga K (exN e.c)) ∧ ((e.fs = [] ∧ d = none) ∨ ∃ dx, d = some dx ∧ F dx = some (.xd (xfs e)))
theorem XD.up {K : PySem.W.Frag} {F F' : Hp} {cls : Value} {d : Option Addr} {e : Er} (h : XD K F cls d e) (x : Ex F F') : XD K F' cls d e := by
  obtain ⟨h1, h2⟩ := h
  refine ⟨h1, ?_⟩
  rcases h2 with h2 | ⟨dx, h3, h4⟩
  · exact .inl h2
  · exact .inr ⟨dx, h3, x _ _ h4⟩
/-- what follows an exception -/
def RetX (M : List Addr) (K : PySem.W.Frag) (F H : Hp) (e : Er) (E : XK) : Prop := ∀ cls d F' H', Gm M F H F' H' → XD K F' cls d e → E cls d H'
theorem RetX.then_ {M : List Addr} {K : PySem.W.Frag} {F H F1 H1 : Hp} {e : Er} {E : XK} (k : RetX M K F H e E) (g : Gm M F H F1 H1) : RetX M K F1 H1 e E := fun cls d F' H' g' s => k cls d F' H' (g.trans g') s
/-! ### __init__ with one field, with two -/
def spI1 (C : Addr) (f : Str) : Sp := fun vs H Q _ => ∃ (a : Addr) (i : Int), vs = [.ref a, .int i] ∧ i.natAbs < 18446744073709551616 ∧ H a = some (exo a C none) ∧
  ∀ dx, H dx = none → dx ≠ a → Q .non (upd (upd H dx (exd dx [(f, .int i)])) a (exo a C (some dx)))
def spI2 (C : Addr) (f g : Str) : Sp := fun vs H Q _ => ∃ (a : Addr) (i j : Int), vs = [.ref a, .int i, .int j] ∧ i.natAbs < 18446744073709551616 ∧ j.natAbs < 18446744073709551616 ∧ H a = some (exo a C none) ∧
  ∀ dx, H dx = none → dx ≠ a → Q .non (upd (upd (upd H dx (exd dx [(f, .int i)])) a (exo a C (some dx))) dx (exd dx [(g, .int j), (f, .int i)]))
theorem log_small {i : Int} (h : i.natAbs < 18446744073709551616) : i.natAbs.log2 < 1920 := by
  by_cases z : i.natAbs = 0
  · rw [z]; decide
  · have := (Nat.log2_lt z (k := 64)).mpr (by rw [show (2 : Nat) ^ 64 = 18446744073709551616 by decide]; exact h)
    omega
theorem txt_small {i : Int} (h : i.natAbs < 18446744073709551616) : (PySem.Str.ofString (toString i)).length ≤ 1921 := PyProof.Rows.int_text_len_1921 (log_small h)
theorem del_upd {H : Hp} {a d : Addr} {o1 o2 : HO} {x : HO} (ha : H a = none) (hd : d ≠ a) : upd (del (upd (upd H d o1) a o2) a) d x = upd H d x := by
  funext b
  by_cases q : b = d
  · rw [q, upd_same, upd_same]
  · rw [upd_ne q, upd_ne q]
    by_cases r : b = a
    · rw [r, del_same, ha]
    · rw [del_ne r, upd_ne r, upd_ne q]
theorem del_upd2 {H : Hp} {a d : Addr} {o1 o2 o3 : HO} {x : HO} (ha : H a = none) (hd : d ≠ a) : upd (del (upd (upd (upd H d o1) a o2) d o3) a) d x = upd H d x := by
  funext b
  by_cases q : b = d
  · rw [q, upd_same, upd_same]
  · rw [upd_ne q, upd_ne q]
    by_cases r : b = a
    · rw [r, del_same, ha]
    · rw [del_ne r, upd_ne q, upd_ne r, upd_ne q]
theorem mk1 {C : Addr} {f : Str} {H : Hp} {i : Int} {Q : XK} (hi : i.natAbs < 18446744073709551616) (q : ∀ d, H d = none → Q (.ref C) (some d) (upd H d (.xd [(f, .int i)]))) :
    [V.int i].length ≤ 1000 ∧ ∀ a, H a = none → spI1 C f (.ref a :: ([V.int i] ++ [])) (upd H a (exo a C none))
      (fun v H2 => v = .non ∧ ∃ (d : Addr) (fs : List (Str × V)), H2 a = some (exo a C (some d)) ∧ H2 d = some (exd d fs) ∧ H d = none ∧ Q (.ref C) (some d) (upd (del H2 a) d (.xd fs))) (fun _ _ _ => False) := by
  refine ⟨by show 1 ≤ 1000; decide, fun a ha => ⟨a, i, rfl, hi, upd_same, fun dx hdx hne => ⟨rfl, dx, [(f, .int i)], upd_same, ?_, ?_, ?_⟩⟩⟩
  · rw [upd_ne hne, upd_same]
  · rw [upd_ne hne] at hdx
    exact hdx
  · rw [upd_ne hne] at hdx
    have e : upd (del (upd (upd (upd H a (exo a C none)) dx (exd dx [(f, .int i)])) a (exo a C (some dx))) a) dx (.xd [(f, .int i)]) = upd H dx (.xd [(f, .int i)]) := by
      funext b
      by_cases z : b = dx
      · rw [z, upd_same, upd_same]
      · rw [upd_ne z, upd_ne z]
        by_cases r : b = a
        · rw [r, del_same, ha]
        · rw [del_ne r, upd_ne r, upd_ne z, upd_ne r]
    rw [e]
    exact q dx hdx
theorem mk2 {C : Addr} {f g : Str} {H : Hp} {i j : Int} {Q : XK} (hi : i.natAbs < 18446744073709551616) (hj : j.natAbs < 18446744073709551616) (q : ∀ d, H d = none → Q (.ref C) (some d) (upd H d (.xd [(g, .int j), (f, .int i)]))) :
    [V.int i, V.int j].length ≤ 1000 ∧ ∀ a, H a = none → spI2 C f g (.ref a :: ([V.int i, V.int j] ++ [])) (upd H a (exo a C none))
      (fun v H2 => v = .non ∧ ∃ (d : Addr) (fs : List (Str × V)), H2 a = some (exo a C (some d)) ∧ H2 d = some (exd d fs) ∧ H d = none ∧ Q (.ref C) (some d) (upd (del H2 a) d (.xd fs))) (fun _ _ _ => False) := by
  refine ⟨by show 2 ≤ 1000; decide, fun a ha => ⟨a, i, j, rfl, hi, hj, upd_same, fun dx hdx hne => ⟨rfl, dx, [(g, .int j), (f, .int i)], ?_, upd_same, ?_, ?_⟩⟩⟩
  · rw [upd_ne (Ne.symm hne), upd_same]
  · rw [upd_ne hne] at hdx
    exact hdx
  · rw [upd_ne hne] at hdx
    have e : upd (del (upd (upd (upd (upd H a (exo a C none)) dx (exd dx [(f, .int i)])) a (exo a C (some dx))) dx (exd dx [(g, .int j), (f, .int i)])) a) dx (.xd [(g, .int j), (f, .int i)]) = upd H dx (.xd [(g, .int j), (f, .int i)]) := by
      funext b
      by_cases z : b = dx
      · rw [z, upd_same, upd_same]
      · rw [upd_ne z, upd_ne z]
        by_cases r : b = a
        · rw [r, del_same, ha]
        · rw [del_ne r, upd_ne z, upd_ne r, upd_ne z, upd_ne r]
    rw [e]
    exact q dx hdx
/-! ### a class that is known, raised -/
structure KnX (P : Program) (w : World) (K : PySem.W.Frag) (mg : Str → Option Value) (base : Heap) (x : Str) (k : Nat) (ps : List Str) (sp : Sp) : Prop where
  ex : ∃ fd, FnOk P w K mg base CX0 k (He.ma K (He.ga K x) "__init__") fd ps sp ∧ Binds K fd ps []
  oex : OexC K (He.ga K x)
  ini : PySem.W.findIn K (.ref (He.ga K x)) "__init__" = some (some (.ref (He.ma K (He.ga K x) "__init__")))
  typ : PySem.W.typeIn K (.ref (He.ma K (He.ga K x) "__init__")) = some (.type "function")
  glo : mg x = some (.ref (He.ga K x))
section
variable {X : Cx} {W : WX} {x : Str} {k : Nat} {ps : List Str} {sp : Sp} {e : Expr} {es : List Expr} {ta : TA} {p pos pos' : Pos}
theorem ps_raiseX (G : KnX X.prog X.w X.K X.mg X.base x k ps sp) (hr : Room (k + 1) X.A) (tk : Takes X W) (ha : PA X (e :: es) ta) (hc : X.calm = true := by rfl) (hg : Gl X x := by rfl) (hdb : (x == ("__debug__" : Str)) = false := by decide)
    (he : starEach (e :: es) X.env = (false, eval e X.env) :: starEach es X.env := by rfl) (hpl : (backTo pos (starEach es X.env)).any (·.1) = false := by rfl) :
    PS X (.Raise (some (.Call (.Name x p) (e :: es) [] pos)) none pos') (fun _ σ H => tMkO (He.ga X.K x) sp [] ta σ H fun cls d H' => W cls d σ H') := by
  obtain ⟨fd, F, hb⟩ := G.ex
  exact ps_raise hc tk (pmk_oex G.oex G.ini G.typ F hr hb .nil pass0 hg G.glo ha hdb he hpl)
end
/-- a def that may raise -/
structure Kx (P : Program) (w : World) (K : PySem.W.Frag) (mg : Str → Option Value) (base : Heap) (x : Str) (k : Nat) (ps : List Str) (sp : Sp) : Prop where
  ex : ∃ f fd, FnOk P w K mg base (L2.CX P w) k f fd ps sp ∧ mg x = some (.ref f) ∧ PySem.W.keepIn K (.ref f) = true ∧ Binds K fd ps []
section
variable {X : Cx} {W : WX} {x : Str} {k : Nat} {ps : List Str} {sp : Sp} {e : Expr} {es : List Expr} {t : TA} {p pos : Pos}
theorem pe_kx (G : Kx X.prog X.w X.K X.mg X.base x k ps sp) (hr : Room k X.A) (tk : Takes X W) (ha : PA X (e :: es) t) (hg : Gl X x := by rfl) (hdb : (x == ("__debug__" : Str)) = false := by decide)
    (he : starEach (e :: es) X.env = (false, eval e X.env) :: starEach es X.env := by rfl) (hpl : (backTo pos (starEach es X.env)).any (·.1) = false := by rfl) : PE X (.Call (.Name x p) (e :: es) [] pos) (tCallS sp (WE W) t) := by
  obtain ⟨f, fd, F, hm, hk, hb⟩ := G.ex
  exact pe_callS F hr hg hm hk hb (passAt tk) ha hdb he hpl
end
theorem Kn.x {P : Program} {w : World} {K : PySem.W.Frag} {mg : Str → Option Value} {base : Heap} {x : Str} {k : Nat} {ps : List Str} {sp : Sp} (G : Kx P w K mg base x k ps sp) : True := trivial
/-! ### words of one raising def -/
theorem post_noEx' {α β : Type} {m : Mm α} {f : α → Mm β} {ok : β → Prop} {ex : Er → Prop} (h : Post ((noEx m).bd f) ok ex) : Post (m.bd Mm.ok) (fun r => Post (f r) ok ex) (fun _ => False) := by
  cases m with
  | ok a => exact ⟨⟨h.h⟩⟩
  | ex e => exact h.h.elim
  | bad => exact h.h.elim
/-! ### try -/
/-- an exception of the body is met: what follows by the kind -/
def Mm.tr {α β : Type} (m : Mm α) (h : Er → Mm β) (k : α → Mm β) : Mm β := match m with
  | .ok a => k a
  | .ex e => h e
  | .bad => .bad
theorem post_tr {α β : Type} {m : Mm α} {h : Er → Mm β} {k : α → Mm β} {p : β → Prop} {q : Er → Prop} (x : Post (m.tr h k) p q) : Post m (fun a => Post (k a) p q) (fun e => Post (h e) p q) := by
  cases m with
  | ok a => exact ⟨⟨x.h⟩⟩
  | ex e => exact ⟨⟨x.h⟩⟩
  | bad => exact ⟨x.h⟩
end Wk

set_option Elab.async false
set_option linter.all false
set_option maxRecDepth 100000
set_option maxHeartbeats 4000000
namespace Wk
open PySem L2 Evl PySem.Spec PyProof.Rows
/-! ### several except clauses, each with a name -/
abbrev SuiteR := Addr → Value → Option Addr → TS
/-- the ends of a suite whose clause's name has slot i -/
def endsAs (D : Ends) (i : Nat) : Ends := { nx := fun τ G => D.nx (τ.set i none) G, rt := D.rt, bk := fun τ G => D.bk (τ.set i none) G, ct := fun τ G => D.ct (τ.set i none) G }
def wManyA (K : PySem.W.Frag) (n : Nat) (Wout : WX) (D : Ends) : List (Value × Nat × SuiteR) → WX
  | [] => Wout
  | (c, i, ts) :: r => fun cls d σ H => ∃ b, PySem.W.exmOne K cls c = some b ∧ (b = true → ∀ a, H a = none → σ.length = n → ts a cls d (endsAs D i) (σ.set i (some (.ref a))) H) ∧ (b = false → wManyA K n Wout D r cls d σ H)
inductive HdsA (X : Cx) : List ExceptHandler → List (Value × Nat × SuiteR) → Prop
  | nil : HdsA X [] []
  | cons {x n : Str} {c : Value} {i : Nat} {ts : SuiteR} {b₀ : Stmt} {suite : List Stmt} {np q : Pos} {hs : List ExceptHandler} {l : List (Value × Nat × SuiteR)} (hc : Names X x c) (hi : X.N[i]? = some n) (hk : X.env.kindOf n = some .local)
      (hsu : ∀ a oe cls d pn, Zc cls d oe → (∃ vs, oe.data = .fields vs) → PSs (X.suite a ((a, oe) :: pn)) (b₀ :: suite) (ts a cls d)) (r : HdsA X hs l) :
      HdsA X (.ExceptHandler (some (.Name x np)) (some n) (b₀ :: suite) q :: hs) ((c, i, ts) :: l)
/-- an exception at a, noted by the running frame, its flight ended: what is known then -/
structure Met (X : Cx) (pins : List (Addr × Obj)) (σ : L2.St) (H : Hp) (a : Addr) (cls : Value) (d : Option Addr) (s : Shared) : Prop where
  base : ∃ (B : Heap) (sI : Shared), Inv X pins σ H sI ∧ (∀ b o, sI.heap.get? b = some o → b ∉ frs X.stack → B.get? b = some o) ∧ sI.heap.UpToSlots s.heap ∧ s.os = sI.os ∧ AllBare s.gens ∧ PySem.HandSPX.FlyingZ B (X.env :: X.outer) a (Zc cls d) s.heap
  free : H a = none
section
variable {X : Cx} {pins : List (Addr × Obj)} {σ : L2.St} {H : Hp} {a : Addr} {cls : Value} {d : Option Addr} {s : Shared}
theorem Met.inv (m : Met X pins σ H a cls d s) : Inv X pins σ H s := by
  obtain ⟨⟨B, sI, J, nb, up, os, ag, fl⟩, _⟩ := m
  exact J.landed nb fl.1 up os ag
/-- it is an exception's record, and no frame -/
theorem Met.obj (m : Met X pins σ H a cls d s) (hf : X.env.frame = some X.env.locals) : ∃ oe vs, s.heap.get? a = some oe ∧ Zc cls d oe ∧ oe.data = .fields vs ∧ a ≠ X.env.locals ∧ a ∉ X.fs := by
  obtain ⟨⟨B, sI, J, nb, up, os, ag, fl⟩, _⟩ := m
  obtain ⟨oe, vs, h1, h2, h3⟩ := fl.there
  have out : a ∉ frs (X.env :: X.outer) := by
    intro hm
    obtain ⟨_, o, h, hn⟩ := fl.2.2.1.mem hm
    cases h1.symm.trans h
    exact hn _ h3
  refine ⟨oe, vs, h1, h2, h3, fun z => out ?_, fun hm => out ?_⟩
  · exact List.mem_filterMap.mpr ⟨X.env, by simp, by rw [hf, z]⟩
  · obtain ⟨e, he, q⟩ := List.mem_filterMap.mp hm
    exact List.mem_filterMap.mpr ⟨e, by simp [he], q⟩
/-- the heap's slots may change under it -/
theorem Met.on (m : Met X pins σ H a cls d s) {h : Heap} (fl : ∀ B, PySem.HandSPX.FlyingZ B (X.env :: X.outer) a (Zc cls d) s.heap → PySem.HandSPX.FlyingZ B (X.env :: X.outer) a (Zc cls d) h) (u : s.heap.UpToSlots h) : Met X pins σ H a cls d { s with heap := h } := by
  obtain ⟨⟨B, sI, J, nb, up, os, ag, f⟩, n⟩ := m
  exact ⟨⟨B, sI, J, nb, up.trans u, os, ag, fl B f⟩, n⟩
/-- the class that a clause names, asked of it -/
theorem Met.asks (m : Met X pins σ H a cls d s) (hf : X.env.frame = some X.env.locals) {x : Str} {np : Pos} {c : Value} (hc : Names X x c) {Q : Value → Shared → Prop} {E : Value → Shared → Prop} (q : Q c s) : wpAny (model X.prog X.w) (X.A.mark (some (.ref a))) (eval (.Name x np) X.env) Q E s := by
  obtain ⟨oe, vs, h1, h2, h3, h4, h5⟩ := m.obj hf
  have S := m.inv.suite h1 h3 m.free h4 h5
  obtain ⟨g, db, k⟩ := hc
  rcases k with k | ⟨k, kv, kn⟩
  · exact ld_glob (X := X.suite a ((a, oe) :: (X.pn ++ pins))) S g k q db
  · exact ld_blt (X := X.suite a ((a, oe) :: (X.pn ++ pins))) S g k kv q kn db
/-- no clause is left -/
theorem Met.none_ (m : Met X pins σ H a cls d s) (hs : X.stack = X.env :: X.outer) (hf : X.env.frame = some X.env.locals) {W : WX} (tk : Takes X W) (w : W cls d σ H) {D : Ends} : wpAny (model X.prog X.w) X.A (handleBy (.ref a) X.env []) (SP X pins D) X.xe s := by
  have na := m.free
  obtain ⟨⟨B, sI, J, nb, up, os, ag, fl⟩, _⟩ := m
  obtain ⟨_, _, _, oe, vs, T, _, _, he, _, hd, h1, _⟩ := id fl
  have out : wpAny (model X.prog X.w) X.A (setFlight (.ref a) X.env.frame) (fun _ t => wpAny (model X.prog X.w) X.A (throw (.ref a) : Sem Flow) (SP X pins D) X.xe t) X.xe s := by
    rw [hf]
    exact PySem.HandSPX.setFlight_upZ fl fun h hh u => wpAny_throw (tk _ _ ⟨a, B, sI, pins, σ, H, cls, d, rfl, J, nb, up.trans u, .inr (.inr (by rw [hs]; exact hh)), na, os, ag, w⟩)
  refine wpAny_handleBy_nil ?_
  unfold PySem.passOn
  refine wpAny_bind (wpAny_field he hd h1 ?_)
  rw [if_neg (show ¬ ((Value.ref T == Value.none) = true) from by simp)]
  first | exact wpAny_bind (wpAny_pure (wpAny_bind out)) | exact wpAny_bind out
/-- the clauses, one behind the other -/
theorem Met.goes (hs : X.stack = X.env :: X.outer) (hf : X.env.frame = some X.env.locals) (hN : X.N.Nodup) {W : WX} (tk : Takes X W) {D : Ends} : ∀ {hds : List ExceptHandler} {l : List (Value × Nat × SuiteR)}, HdsA X hds l → Met X pins σ H a cls d s → wManyA X.K X.N.length W D l cls d σ H →
    wpAny (model X.prog X.w) X.A (handleBy (.ref a) X.env hds) (SP X pins D) X.xe s
  | _, _, .nil, m, w => m.none_ hs hf tk w
  | _, _, .cons (i := i) (n := n) (q := q) hc hi hk hsu r, m, w => by
    obtain ⟨b, hb, yes, no⟩ := w
    obtain ⟨oe, vs, o1, o2, o3, o4, o5⟩ := m.obj hf
    have I0 := m.inv
    have ask := PySem.W.exm_one (M := model X.prog X.w) I0.kIn (fun A Q E s k q => wpAny_typeOf_ref (k _ _ o1) (by rw [o2.1]; exact q)) hb
    refine wpAny_handleBy_cons (codeAny_handlers_test (m.asks hf hc (ask.here ?_))) (fun z => nomatch z)
    cases b with
    | false => exact Met.goes hs hf hN tk r m (no rfl)
    | true =>
      obtain ⟨⟨B, sI, J, nb, up, os, ag, fl⟩, fr⟩ := id m
      refine codeAny_handlers_suite_as (HandSPX.lands_againZ fl fun h4 f4 u4 => ?_)
      have m4 : Met X pins σ H a cls d { s with heap := h4 } := ⟨⟨B, sI, J, nb, up.trans u4, os, ag, f4⟩, fr⟩
      obtain ⟨o, vs, p1, p2, p3, p4, p5⟩ := m4.obj hf
      have ok := I0.ok
      refine store_ok (X := X.suite a ((a, o) :: (X.pn ++ pins))) (v := .ref a) (m4.inv.suite p1 p3 fr p4 p5) hN hi (.inl hk) rfl (fun t St => ?_) (.inr hk)
      refine wpAny_mono ((hsu a o cls d (X.pn ++ pins) p2 ⟨_, p3⟩).run [] t _ H _ St (yes rfl a fr J.len)) (fun fl2 u end2 => ?_) (fun _ _ z => z.elim)
      have leave : ∀ {τ : L2.St} {G : Hp} {Q : Shared → Prop}, Inv (X.suite a ((a, o) :: (X.pn ++ pins))) [] τ G u → (∀ u', Inv X pins (τ.set i none) G u' → Q u') → wpAny (model X.prog X.w) X.A (do bindName X.env n .none; unbindBehindTheSuite X.env n q) (fun _ u' => Q u') X.xe u :=
        fun I6 k => gone_ok (I6.unsuite ok) hN hi hk k
      cases fl2 <;> (first
        | (obtain ⟨τ, G, I6, k⟩ := end2; exact leave I6 fun u' J6 => ⟨_, _, J6, k⟩)
        | (obtain ⟨v, τ, G, I6, r6, k⟩ := end2; exact leave I6 fun u' J6 => ⟨_, _, _, J6, r6, k⟩))
end
/-- what the flow of the body was, out of the try -/
theorem sp_out {X : Cx} {pins pn : List (Addr × Obj)} {xe : Value → Shared → Prop} {D : Ends} {f : Flow} {s : Shared} (ok : X.Ok) (h : SP (X.tr (X.pn ++ pins) xe) pn D f s) : SP X pins D f s := by
  cases f <;> (first
    | (obtain ⟨τ, G, I, k⟩ := h; exact ⟨τ, G, I.ofTry ok, k⟩)
    | (obtain ⟨v, τ, G, I, r, k⟩ := h; exact ⟨v, τ, G, I.ofTry ok, r, k⟩))
theorem ps_try_manyA {X : Cx} {body : List Stmt} {h₀ : ExceptHandler} {hds : List ExceptHandler} {l : List (Value × Nat × SuiteR)} {pos : Pos} {tb : WX → TS} {Wout : WX} (hs : X.stack = X.env :: X.outer) (hf : X.env.frame = some X.env.locals) (hN : X.N.Nodup) (tk : Takes X Wout)
    (hb : ∀ W pn xe, Takes (X.tr pn xe) W → PassesOwn (model X.prog X.w) X.A X.env xe → PSs (X.tr pn xe) body (tb W)) (hh : HdsA X (h₀ :: hds) l) : PS X (.Try body (h₀ :: hds) [] [] pos) (fun D σ H => tb (wManyA X.K X.N.length Wout D l) D σ H) := by
  constructor
  intro pins s σ H D I h
  have ok := I.ok
  have fr : X.A.frames = some (X.env :: X.outer) := ok.frames.trans (by rw [hs])
  have B := hb (wManyA X.K X.N.length Wout D l) (X.pn ++ pins) (fun e t => wpAny (model X.prog X.w) X.A (noteFrame e X.env) (fun _ t => wpAny (model X.prog X.w) X.A (setFlight e none) (fun _ t => wpAny (model X.prog X.w) X.A (handleBy e X.env (h₀ :: hds)) (SP X pins D) X.xe t) X.xe t) X.xe t) ?_ PassesOwn.looking
  · refine wpAny_Try_except (wpAny_mono (B.run [] s σ H D (I.toTry _) h) (fun f t e => ?_) fun _ _ z => z)
    have e' := sp_out ok e
    cases f with
    | next => exact wpAny_execs_nil e'
    | _ => exact e'
  · rintro u t ⟨a, G, sI, pins', τ, H', cls, d, rfl, J', nb, up, sky, na, os, ag, w⟩
    have J : Inv X pins τ H' sI := J'.ofTry ok
    have sky2 : Sky G (X.env :: X.outer) a (Zc cls d) X.env.locals t.heap := hs ▸ sky
    exact Sky.land Zc.steady fr hf sky2 fun h3 fl u3 => Met.goes hs hf hN tk hh ⟨⟨G, sI, J, nb, up.trans u3, os, ag, fl⟩, na⟩ w
end Wk

set_option Elab.async false
set_option linter.all false
set_option maxRecDepth 100000
set_option maxHeartbeats 4000000
namespace Wk
open PySem L2 Evl
/-! ### a weighting that is made where an exception may leave -/
def spWX (chk : Ms → Ss → Mm Wt) (K : PySem.W.Frag) (C : Addr) : Sp := fun vs H Q E => ∃ (F : Hp) (x dx : Addr) (vm vs' : V) (m : Ms) (s : Ss), vs = [.ref x, vm, vs'] ∧ Ex F H ∧ H x = some (.ins C dx []) ∧ F x = none ∧
  Dq K F vm (eM m) ∧ Dq K F vs' (eS s) ∧ Post (chk m s) (fun w => ∀ F' H' a b, Gm [x] F H F' H' → H' x = some (.ins C dx (wf a b)) → F' x = none → Dq K F' a (eM w.1) → Dq K F' b (eS w.2) → Q .non H') (fun e_ => RetX [x] K F H e_ E)
theorem make_WX {chk : Ms → Ss → Mm Wt} {K : PySem.W.Frag} {C : Addr} {F H : Hp} {vm vs : V} {m : Ms} {s : Ss} {Q : VK} {E : XK} (e : Ex F H) (hm : Dq K F vm (eM m)) (hs : Dq K F vs (eS s))
    (k : Post (chk m s) (fun w => Ret [] F H (fun F' _ v => IsW K C F' v w) Q) (fun e_ => RetX [] K F H e_ E)) :
    ∀ x dx, H x = none → H dx = none → dx ≠ x → spWX chk K C (.ref x :: ([vm, vs] ++ [])) (upd (upd H dx (.own x)) x (.ins C dx [])) (fun v H2 => v = .non ∧ Q (.ref x) H2) E := by
  intro x dx hx hdx hne
  have g1 : Gm [] F H (upd F dx (.own x)) (upd H dx (.own x)) := Gm.new e hdx
  have hx1 : (upd H dx (.own x)) x = none := by rw [upd_ne hne.symm]; exact hx
  have g2 : Gm [] (upd F dx (.own x)) (upd H dx (.own x)) (upd F dx (.own x)) (upd (upd H dx (.own x)) x (.ins C dx [])) := Gm.newM g1.s hx1
  have fx : (upd F dx (.own x)) x = none := by
    cases q : (upd F dx (.own x)) x with
    | none => rfl
    | some u => rw [g1.s _ _ q] at hx1; cases hx1
  refine ⟨_, x, dx, vm, vs, m, s, rfl, g2.s, upd_same, fx, hm.up g1.f, hs.up g1.f, k.mono (fun w k F' H' a b g h1 h2 ha hb => ⟨rfl, ?_⟩) (fun e_ z cls d F' H' g y => z cls d F' H' (Gm.young (g1.trans g2) hx g) y)⟩
  have gg : Gm [] F H F' H' := Gm.young (g1.trans g2) hx g
  have g3 := gg.fix h1 h2 hx
  have up : Ex F' (upd F' x (.ins C dx (wf a b))) := Ex.new h2
  exact k _ _ _ g3 ⟨x, dx, a, b, rfl, upd_same, ha.up up, hb.up up⟩
/-! ### values of unlike kinds -/
def asI (d : PyData) : Mm Int := match d with
  | .int i => .ok i
  | _ => .bad
theorem post_asI {β : Type} {d : PyData} {f : Int → Mm β} {ok : β → Prop} {ex : Er → Prop} (h : Post ((asI d).bd f) ok ex) : ∃ i, d = .int i ∧ Post (f i) ok ex := by
  cases d with
  | int i => exact ⟨i, rfl, ⟨h.h⟩⟩
  | _ => exact h.h.elim
section
variable {K : PySem.W.Frag} {F : Hp} {v : V} {xs : List V} {l : List Int}
theorem map_intD (l : List Int) : List.map id (List.map PyData.int l) = List.map PyData.int l := by simp
theorem dq_LI (h : Dq K F v (eL PyData.int l)) : Dq K F v (eL id (l.map PyData.int)) := by
  show Dq K F v (.list ((l.map PyData.int).map id))
  rw [map_intD]
  exact h
theorem all_LI (h : DqAll K F xs (List.map PyData.int l)) : DqAll K F xs (List.map id (l.map PyData.int)) := by
  rw [map_intD]
  exact h
end
section
variable {X : Cx}
theorem call_isiB : CallR X (.builtin "isinstance") (fun xs H Q => ∃ (b : Bool) (n : String), xs = [.bl b, .ty n] ∧ (n = "int" ∨ n = "bool") ∧ Q (.bl true) H) := by
  intro pins s σ H vs us Q I r h
  obtain ⟨i, n, rfl, hn, q⟩ := h
  rcases hn with rfl | rfl
  · exact call_isi pins s σ H _ us Q I r ⟨_, _, _, _, true, rfl, .ty _, .base (.bl i), kit_ty (by decide +kernel), q⟩
  · exact call_isi pins s σ H _ us Q I r ⟨_, _, _, _, true, rfl, .ty _, .base (.bl i), kit_ty (by decide +kernel), q⟩
end
/-! ### answers of unlike kinds: None, an int, a tuple of a text and ints -/
inductive Kw where
  | weighting | places | weights | sums | number | polynomial | few | fraction | none_ | other | readings | place | clash | text
deriving DecidableEq
def Kw.w : Kw → Str
  | .weighting => "weighting" | .places => "places" | .weights => "weights" | .sums => "sums" | .number => "number" | .polynomial => "polynomial" | .few => "few" | .fraction => "fraction" | .none_ => "none" | .other => "other"
  | .readings => "readings" | .place => "place" | .clash => "clash" | .text => "text"
theorem Kw.inj : ∀ a b : Kw, (a.w == b.w) = decide (a = b) := by
  intro a b
  cases a <;> cases b <;> rfl
inductive Xr where
  | non
  | int (i : Int)
  | tup (s : Kw) (is : List Int)
deriving DecidableEq
def eX : Xr → PyData
  | .non => .none
  | .int i => .int i
  | .tup s is => .tuple (.str s.w :: is.map PyData.int)
theorem eqv_ints : ∀ l r : List Int, PyData.eqvAll (l.map PyData.int) (r.map PyData.int) = decide (l = r) := fun l r => eqv_map sh_int l r
theorem sh_X : Sh eX 2 := ⟨fun x => by
    cases x with
    | non => simp [eX, PyData.canLay0]
    | int i => simp [eX, PyData.canLay0]
    | tup s is =>
      have z : PyData.strOk s.w = true := by cases s <;> decide +kernel
      simp [eX, PyData.canLay0, PyData.canLayAll0, lay_map sh_int is, z], fun x => by
    cases x with
    | non => simp [eX, PyData.depth]
    | int i => simp [eX, PyData.depth]
    | tup s is =>
      have := dep_map sh_int is
      simp [eX, PyData.depth, PyData.depthAll]
      omega, fun x y => by
    cases x with
    | non => cases y <;> simp [eX, PyData.eqv]
    | int i =>
      cases y with
      | int j =>
        simp only [eX, PyData.eqv]
        exact Bool.eq_iff_iff.mpr (by simp)
      | _ => simp [eX, PyData.eqv]
    | tup s is =>
      cases y with
      | non => simp [eX, PyData.eqv]
      | int i => simp [eX, PyData.eqv]
      | tup s' is' =>
        simp only [eX, PyData.eqv, PyData.eqvAll, eqv_ints, Kw.inj]
        exact Bool.eq_iff_iff.mpr (by simp)⟩
theorem none_X {K : PySem.W.Frag} {F : Hp} {v : V} {x : Xr} (h : Dq K F v (eX x)) : decide (v = V.non) = decide (x = Xr.non) := by
  cases x with
  | non =>
    cases h
    rfl
  | int i =>
    cases h
    rfl
  | tup s is =>
    cases h
    rfl
/-! ### words of defs that may raise -/
theorem post_noE {α β : Type} {m : Mm α} {f : α → Mm β} {ok : β → Prop} {ex : Er → Prop} (h : Post ((noEx m).bd f) ok ex) : Post m (fun a => Post (f a) ok ex) (fun _ => False) := by
  cases m with
  | ok a => exact ⟨⟨h.h⟩⟩
  | ex e => exact h.h.elim
  | bad => exact h.h.elim
@[simp] theorem noEx_ok {α : Type} (a : α) : noEx (Mm.ok a) = Mm.ok a := rfl
def Er.f1 (e : Er) : Mm Int := match e.fs with
  | [i] => .ok i
  | _ => .bad
def Er.f2 (e : Er) : Mm (Int × Int) := match e.fs with
  | [i, j] => .ok (i, j)
  | _ => .bad
theorem post_f1 {β : Type} {e : Er} {f : Int → Mm β} {ok : β → Prop} {ex : Er → Prop} (h : Post ((e.f1).bd f) ok ex) : ∃ i, e.fs = [i] ∧ Post (f i) ok ex := by
  unfold Er.f1 at h
  split at h
  · rename_i i he
    exact ⟨i, he, ⟨h.h⟩⟩
  · exact h.h.elim
theorem post_f2 {β : Type} {e : Er} {f : Int × Int → Mm β} {ok : β → Prop} {ex : Er → Prop} (h : Post ((e.f2).bd f) ok ex) : ∃ i j, e.fs = [i, j] ∧ Post (f (i, j)) ok ex := by
  unfold Er.f2 at h
  split at h
  · rename_i i j he
    exact ⟨i, j, he, ⟨h.h⟩⟩
  · exact h.h.elim
theorem xd1 {K : PySem.W.Frag} {F : Hp} {cls : Value} {d : Option Addr} {e : Er} {c : Nat} {i : Int} (h : XD K F cls d e) (hc : e.c = c) (hf : e.fs = [i]) : cls = .ref (He.ga K (exN c)) ∧ ∃ dx, d = some dx ∧ F dx = some (.xd ((exF c).zip [V.int i]).reverse) := by
  obtain ⟨h1, h2⟩ := h
  obtain ⟨ec, efs⟩ := e
  dsimp only at hc hf
  subst hc
  subst hf
  refine ⟨h1, ?_⟩
  rcases h2 with ⟨z, _⟩ | h2
  · cases z
  · exact h2
theorem xd2 {K : PySem.W.Frag} {F : Hp} {cls : Value} {d : Option Addr} {e : Er} {c : Nat} {i j : Int} (h : XD K F cls d e) (hc : e.c = c) (hf : e.fs = [i, j]) : cls = .ref (He.ga K (exN c)) ∧ ∃ dx, d = some dx ∧ F dx = some (.xd ((exF c).zip [V.int i, V.int j]).reverse) := by
  obtain ⟨h1, h2⟩ := h
  obtain ⟨ec, efs⟩ := e
  dsimp only at hc hf
  subst hc
  subst hf
  refine ⟨h1, ?_⟩
  rcases h2 with ⟨z, _⟩ | h2
  · cases z
  · exact h2
end Wk
namespace Wk
open PySem L2 Evl
theorem post_cond {α : Type} {c : Bool} {X Y : Mm α} {p : α → Prop} {q : Er → Prop} (k : Post (cond c X Y) p q) : (c = true ∧ Post X p q) ∨ (c = false ∧ Post Y p q) := by
  cases c with
  | true => exact .inl ⟨rfl, ⟨k.h⟩⟩
  | false => exact .inr ⟨rfl, ⟨k.h⟩⟩
end Wk
namespace Wk
open PySem L2 Evl
def Er.g2 {β : Type} (e : Er) (f : Int → Int → Mm β) : Mm β := match e.fs with
  | [i, j] => f i j
  | _ => .bad
theorem post_g2 {β : Type} {e : Er} {f : Int → Int → Mm β} {ok : β → Prop} {ex : Er → Prop} (h : Post (Er.g2 e f) ok ex) : ∃ i j, e.fs = [i, j] ∧ Post (f i j) ok ex := by
  unfold Er.g2 at h
  split at h
  · rename_i i j he
    exact ⟨i, j, he, ⟨h.h⟩⟩
  · exact h.h.elim
end Wk

set_option Elab.async false
set_option linter.all false
set_option maxRecDepth 100000
set_option maxHeartbeats 4000000
namespace Wk
open PySem L2 Evl
theorem txt_app {a : Str} {i : Int} {n : Nat} (ha : a.length ≤ n) (hi : i.natAbs < 18446744073709551616) : (a ++ (PySem.Str.ofString (toString i))).length ≤ n + 1921 := by
  have := txt_small hi
  rw [PySem.Str.length_append]
  omega
theorem txt_app2 {a b : Str} {n m : Nat} (ha : a.length ≤ n) (hb : b.length ≤ m) : (a ++ b).length ≤ n + m := by
  rw [PySem.Str.length_append]
  omega
theorem txt_fit {a : Str} {n : Nat} (h : a.length ≤ n) (hn : n ≤ 10000) : a.length ≤ sizeLine := by
  rw [sizeLine_eq]
  omega
/-- the reading of f'..{i}' -/
theorem js1 {w1 : Str} {te : TE} {σ : L2.St} {H : Hp} {Q : Str → Hp → Prop} {i : Int} (h1 : w1.length ≤ 100) (hi : i.natAbs < 18446744073709551616) (ht : ∀ Q : VK, Q (.int i) H → te σ H Q) (q : ∀ y : Str, Q y H) :
    tJs [tC (.str w1), tFmt te] Str.empty σ H Q := by
  have e0 : (Str.empty ++ w1).length ≤ 100 := by rw [PySem.Str.length_append, show Str.empty.length = 0 from rfl]; omega
  exact ⟨w1, rfl, txt_fit e0 (by decide), ht _ (.inr ⟨i, rfl, log_small hi, _, rfl, txt_fit (txt_app e0 hi) (by decide), q _⟩)⟩
/-- the reading of f'..{i}..{j}' -/
theorem js2 {w1 w2 : Str} {te te' : TE} {σ : L2.St} {H : Hp} {Q : Str → Hp → Prop} {i j : Int} (h1 : w1.length ≤ 100) (h2 : w2.length ≤ 100) (hi : i.natAbs < 18446744073709551616) (hj : j.natAbs < 18446744073709551616)
    (ht : ∀ Q : VK, Q (.int i) H → te σ H Q) (ht' : ∀ Q : VK, Q (.int j) H → te' σ H Q) (q : ∀ y : Str, Q y H) : tJs [tC (.str w1), tFmt te, tC (.str w2), tFmt te'] Str.empty σ H Q := by
  have e0 : (Str.empty ++ w1).length ≤ 100 := by rw [PySem.Str.length_append, show Str.empty.length = 0 from rfl]; omega
  have e1 := txt_app e0 hi
  have e2 := txt_app2 e1 h2
  exact ⟨w1, rfl, txt_fit e0 (by decide), ht _ (.inr ⟨i, rfl, log_small hi, _, rfl, txt_fit e1 (by decide), w2, rfl, txt_fit e2 (by decide), ht' _ (.inr ⟨j, rfl, log_small hj, _, rfl, txt_fit (txt_app e2 hj) (by decide), q _⟩)⟩)⟩
end Wk
namespace Wk
open PySem L2 Evl
theorem IniD.binds {K : PySem.W.Frag} {P : Program} {mg : Str → Option Value} {x name qual : Str} {params : Arguments} {body : List Stmt} {scope : Scope} {fd : FuncData} {cda cc : Addr} {ps : List Str} (I : IniD K P mg x name qual params body scope fd cda cc) (hd : params.defaults = [])
    (h : ∀ (kV doc pm ct : Value) (an : Option Addr) (cdv : Value) (cc : Addr) (us : List Value), us.length = ps.length → bindArgs (PySem.W.ksFn name qual params body scope .none kV doc pm an cdv ct cc) ⟨us, []⟩ = pure (ps.zip us)) : Binds K fd ps [] := by
  obtain ⟨oc, od, kV, doc, pm, ct, an, osl, rfl, lk⟩ := I.lk
  exact .all (h kV doc pm ct an (.ref cda) cc)
end Wk

set_option Elab.async false
set_option linter.all false
set_option maxRecDepth 100000
set_option maxHeartbeats 4000000
namespace Wk
open PySem L2 Evl PySem.Spec PyProof.Rows
/-! ### xs.count(y), flat items -/
section
variable {X : Cx}
def rCount (K : PySem.W.Frag) : V → List V → Hp → VK → Prop := fun x xs H Q => ∃ (a : Addr) (ys : List V) (y : V), x = V.ref a ∧ xs = [y] ∧ SqL K H a ys ∧ flatV y = true ∧ ys.all flatV = true ∧ Q (.int ((ys.countP fun z => eqV z y : Nat) : Int)) H
theorem countP_vals {y : V} {ys : List V} {us : List Value} (r : Vals ys us) (f : ys.all flatV = true) : us.countP (eqU y) = ys.countP fun z => eqV z y := by
  induction r with
  | nil => rfl
  | cons h _ ih =>
    obtain ⟨f1, f2⟩ := Bool.and_eq_true_iff.mp (List.all_cons ▸ f)
    simp only [List.countP_cons, eqU_of h f1, ih f2]
theorem mt_count : MtR X "list.count" (rCount X.K) := by
  rintro pins s σ H x zs v us Q I rx rz ⟨a, ys, y, rfl, rfl, hs, fy, fys, q⟩
  obtain rfl : v = Value.ref a := rx
  obtain ⟨u, rfl, ru⟩ : ∃ u, us = [u] ∧ RelV y u := by
    cases rz with
    | cons h t =>
      cases t
      exact ⟨_, rfl, h⟩
  obtain ⟨its, rv, pl, _⟩ := I.list hs
  obtain ⟨⟨oc, od, dt, sl⟩, n, ho, k1, _, k2⟩ := pl
  dsimp only at k1 k2
  subst k1 k2
  have each : ∀ w ∈ its.toArray, SeqAt.EqAt X.A.in1 s w u (eqU y w) := fun w hw => mem_eqAt ru fy rv fys w (by simpa using hw)
  have c : its.toArray.toList.countP (eqU y) = ys.countP fun z => eqV z y := countP_vals rv fys
  refine call_meets F.slot_list_count ⟨_, ho, rfl⟩ F.entry_list_count (F.args_list_count_2 _ _) (SeqAt.list_countAt a _ n od sl u (eqU y)) ⟨ho, each, ?_⟩
  rw [c]
  exact ⟨.int _, H, I.tok _, ⟨_, rfl⟩, q⟩
end
/-! ### isinstance of a caught exception, with or without fields -/
/-- what the class D must say -/
structure ExcI (K : PySem.W.Frag) (D : Addr) : Prop where
  cl : (PySem.W.clsIn K D).isSome = true
  hg : PySem.W.findIn K (.ref D) "__getattribute__" = some (some (.builtin "BaseException.__getattribute__"))
  hk : PySem.W.findIn K (.ref D) "__getattr__" = some none
  hs : PySem.W.subIn K (.ref D) (.type "BaseException") = some true
  ha : PySem.W.findIn K (.ref D) "__class__" = some (some (.builtin "object.__class__"))
  hn : PySem.W.specialIn K (.builtin "object.__class__") "__get__" = some (some (.builtin "getset_descriptor.__get__"))
  ht : PySem.W.takesIn K (.builtin "object.__class__") = some true
  hm : PySem.W.mroIn K D (.type "object") = some true
def excIB (K : PySem.W.Frag) (D : Addr) : Bool := (PySem.W.clsIn K D).isSome && (He.eqO (PySem.W.findIn K (.ref D) "__getattribute__") (some (some (.builtin "BaseException.__getattribute__"))) && (He.eqO (PySem.W.findIn K (.ref D) "__getattr__") (some none) && (decide (PySem.W.subIn K (.ref D) (.type "BaseException") = some true) &&
  (He.eqO (PySem.W.findIn K (.ref D) "__class__") (some (some (.builtin "object.__class__"))) && (He.eqO (PySem.W.specialIn K (.builtin "object.__class__") "__get__") (some (some (.builtin "getset_descriptor.__get__"))) && (decide (PySem.W.takesIn K (.builtin "object.__class__") = some true) && decide (PySem.W.mroIn K D (.type "object") = some true)))))))
theorem excIB_ok {K : PySem.W.Frag} {D : Addr} (h : excIB K D = true) : ExcI K D := by
  obtain ⟨h1, h⟩ := He.ba h
  obtain ⟨h2, h⟩ := He.ba h
  obtain ⟨h3, h⟩ := He.ba h
  obtain ⟨h4, h⟩ := He.ba h
  obtain ⟨h5, h⟩ := He.ba h
  obtain ⟨h6, h⟩ := He.ba h
  obtain ⟨h7, h8⟩ := He.ba h
  exact ⟨h1, He.eqO_ok h2, He.eqO_ok h3, of_decide_eq_true h4, He.eqO_ok h5, He.eqO_ok h6, of_decide_eq_true h7, of_decide_eq_true h8⟩
/-- isinstance(e, c): e the exception that the suite holds, of the class cls, its dict d -/
def rIsX (K : PySem.W.Frag) (a : Addr) (cls : Value) (d : Option Addr) : List V → Hp → VK → Prop := fun xs H Q => ∃ (D : Addr) (c : V) (cv : Value) (b : Bool), cls = .ref D ∧ ExcI K D ∧ xs = [.ref a, c] ∧ (∀ u, RelV c u → u = cv) ∧
  (d = none ∨ ∃ (dx : Addr) (fs : List (Str × V)), d = some dx ∧ H dx = some (.xd fs)) ∧ PySem.W.kitOne K (.ref D) cv = some b ∧ Q (.bl b) H
theorem call_isX {X : Cx} {a : Addr} {cls : Value} {oe : Obj} {d : Option Addr} {pn : List (Addr × Obj)} (hz : Zc cls d oe) (hf : ∃ vs, oe.data = .fields vs) : CallR (X.suite a ((a, oe) :: pn)) (.builtin "isinstance") (rIsX X.K a cls d) := by
  rintro pins s σ H xs us Q I r ⟨D, c, cv, b, rfl, C, rfl, hcv, hd, e, q⟩
  obtain ⟨ve, vc, rfl, re, rc⟩ : ∃ ve vc, us = [ve, vc] ∧ RelV (V.ref a) ve ∧ RelV c vc := by
    cases r with
    | cons h1 t =>
      cases t with
      | cons h2 t =>
        cases t
        exact ⟨_, _, rfl, h1, h2⟩
  obtain rfl : ve = Value.ref a := re
  rw [hcv _ rc]
  have stands : s.heap.get? a = some oe := (I.pin (a, oe) (List.mem_append_left _ List.mem_cons_self)).1
  obtain ⟨vs, hv⟩ := hf
  have nc : PySem.W.notCls oe = true := by unfold PySem.W.notCls; rw [hv] <;> rfl
  have inst : ∃ od, PySem.W.InstAt s.heap a oe D od := by
    rcases hd with rfl | ⟨dx, fs, rfl, hx⟩
    · exact ⟨none, stands, hz.1, nc, by rw [hz.2]; trivial⟩
    · have z : ObjOk X.prog X.w H s.heap dx (.xd fs) := I.hok dx _ hx
      obtain ⟨m, hm, _⟩ := z
      obtain ⟨od, h1, _⟩ := lookIn_ns hm
      exact ⟨some od, stands, hz.1, nc, by rw [hz.2]; exact h1⟩
  obtain ⟨od, J⟩ := inst
  exact PySem.W.kia_one (PySem.W.kitx_exc C.cl C.hg C.hk C.hs C.ha C.hn C.ht C.hm) I.kIn J e (fun z => nomatch z) fun tk => ⟨.bl b, H, I.kept (t' := tk) fun _ _ z => z, rfl, q⟩
/-- e.f, whatever the class is -/
def tXfG (K : PySem.W.Frag) (a : Addr) (cls : Value) (d : Option Addr) (f : Str) (te : TE) : TE := fun σ H Q => te σ H fun x H1 => x = .ref a ∧ ∃ C : Addr, cls = .ref C ∧ XfC K C ∧ PySem.W.findIn K (.ref C) f = some none ∧
  ∃ (dd : Addr) (fs : List (Str × V)) (v : V), d = some dd ∧ H1 dd = some (.xd fs) ∧ fs.lookup f = some v ∧ Q v H1
theorem pe_xfG {X : Cx} {a : Addr} {oe : Obj} {cls : Value} {d : Option Addr} {pn : List (Addr × Obj)} {e : Expr} {te : TE} {pos : Pos} {n : Str} (hz : Zc cls d oe) (hf : ∃ vs, oe.data = .fields vs) (he : PE (X.suite a ((a, oe) :: pn)) e te)
    (hb : attributeBase e n X.env (eval e X.env) = eval e X.env := by rfl) : PE (X.suite a ((a, oe) :: pn)) (.Attribute e n pos) (tXfG X.K a cls d n te) := by
  constructor
  intro pins s σ H Q I h
  refine attr_of hb (thn (he.run pins s σ H _ I h) fun u t => ?_)
  rintro ⟨x, G, I1, rx, rfl, C, rfl, T, no, dd, fs, v, rfl, ea, l, q⟩
  obtain rfl : u = Value.ref a := rx
  have at_ : t.heap.get? a = some oe := (I1.pin (a, oe) (List.mem_append_left _ List.mem_cons_self)).1
  obtain ⟨vs, hv⟩ := hf
  have z : ObjOk X.prog X.w G t.heap dd (.xd fs) := I1.hok dd _ ea
  obtain ⟨m, hm, hr⟩ := z
  obtain ⟨od, k1, k2⟩ := lookIn_ns hm
  obtain ⟨y, k3, k4⟩ := RelO.some_of (v := v) (o := m n) (by rw [← l]; exact hr n)
  have J : PySem.W.InstAt t.heap a oe C (some od) := ⟨at_, hz.1, by unfold PySem.W.notCls; rw [hv] <;> rfl, by rw [hz.2]; exact k1⟩
  exact HandSPX.exc_get I1.kIn J T.ga T.gg T.exC (PySem.W.findObj_own T.hdC no rfl (by rw [k2, k3])) (handed_of k4) ⟨v, G, I1.tok _, k4, q⟩
/-! ### a class without own __init__, called with what you will -/
section
variable {X : Cx} {C : Addr} {bmB : List Value} {B newId initId : String}
theorem pmk_own1 {x : Str} {e : Expr} {es : List Expr} {ta : TA} {p pos : Pos} (F : ExcBaseFacts B newId initId bmB) (q : PySem.W.excIn X.K C bmB newId = true) (gC : X.mg x = some (.ref C)) (kC : PySem.W.keepIn X.K (.ref C) = true) (r : Raises X (.ref C)) (ha : PA X (e :: es) ta) (hg : Gl X x)
    (hdb : (x == ("__debug__" : Str)) = false := by decide) (he : starEach (e :: es) X.env = (false, eval e X.env) :: starEach es X.env := by rfl) (hpl : (backTo pos (starEach es X.env)).any (·.1) = false := by rfl) :
    PMk X (.Call (.Name x p) (e :: es) [] pos) (fun σ H Q => ta σ H fun vs H1 => vs.length ≤ 1000 ∧ Q (.ref C) none H1) := by
  intro pins s σ H Q I h
  refine wpAny_Call_Name_kw (ld_glob I hg gC ?_ hdb)
  refine PySem.W.callWith_K (h₀ := X.base) I.ok.mod.kin kC (thn (ha.run pos pins s σ H _ I h) fun us s1 hh => ?_) he hpl
  obtain ⟨vs, H1, I1, r1, hz, q1⟩ := hh
  refine ⟨I1.kIn, ?_⟩
  have hus : us.length ≤ sizeLine := by
    rw [← Paired.length r1, sizeLine_eq]
    omega
  show wpAny _ _ (call (.ref C) us) _ _ _
  obtain ⟨bm, N, nm, qn, bs, hdct, sn, sub, ab, col, dd, k0, k1, k2, k3, k5, mN, hC, hN, hni, T⟩ := exc_obj I1.kIn q
  refine wpAny_call_exc_subT F T hC hN hni (fun h' e hm => ?_) hus
  exact mk_of I1 hm r q1 (I1.hok.gone hm.new)
/-- a class without own __init__ that is known -/
structure KnP0 (K : PySem.W.Frag) (mg : Str → Option Value) (x : Str) : Prop where
  ex : PySem.W.excIn K (He.ga K x) He.veBase "ValueError.__new__" = true
  kp : PySem.W.keepIn K (.ref (He.ga K x)) = true
  sub : PySem.W.subIn K (.ref (He.ga K x)) (.type "BaseException") = some true
  typ : PySem.W.typeIn K (.ref (He.ga K x)) = some (.type "type")
  glo : mg x = some (.ref (He.ga K x))
theorem ps_raise0 {W : WX} {x : Str} {e : Expr} {es : List Expr} {ta : TA} {p pos pos' : Pos} (G : KnP0 X.K X.mg x) (tk : Takes X W) (ha : PA X (e :: es) ta) (hc : X.calm = true := by rfl) (hg : Gl X x := by rfl) (hdb : (x == ("__debug__" : Str)) = false := by decide)
    (he : starEach (e :: es) X.env = (false, eval e X.env) :: starEach es X.env := by rfl) (hpl : (backTo pos (starEach es X.env)).any (·.1) = false := by rfl) :
    PS X (.Raise (some (.Call (.Name x p) (e :: es) [] pos)) none pos') (fun _ σ H => ta σ H fun vs H1 => vs.length ≤ 1000 ∧ W (.ref (He.ga X.K x)) none σ H1) :=
  ps_raise hc tk (pmk_own1 F.excBase_ValueError G.ex G.glo G.kp (raises_own G.sub G.typ) ha hg hdb he hpl)
end
/-- a method of a list with arguments; the reading names the table of classes, not the suite -/
theorem pe_bmK {X : Cx} {K : PySem.W.Frag} {o e : Expr} {es : List Expr} {to : TE} {t : TA} {name : Str} {apos cpos : Pos} {T id : String} {rr : PySem.W.Frag → V → List V → Hp → VK → Prop} (hK : X.K = K) (pa : PlainAttrs T) (slot : Slot T name id) (hty : typeOf (.builtin id) = pure (.type "method_descriptor"))
    (hm : ∀ Y : Cx, MtR Y id (rr Y.K)) (ho : PE X o to) (ha : PA X (e :: es) t) (hbase : attributeBase o name X.env (eval o X.env) = eval o X.env := by rfl)
    (hfew : ((backTo cpos (starEach (e :: es) X.env)).all (fun x => !x.1) && (backToKw cpos (keywordEach [] X.env)).all (fun x => x.1.isSome) && decide ((e :: es).length + ([] : List Keyword).length + (if ([] : List Keyword).isEmpty then 0 else 1) < 30)) = true := by rfl)
    (hline : (apos.endLine == cpos.line) = true := by rfl) (hs : starEach (e :: es) X.env = (false, eval e X.env) :: starEach es X.env := by rfl) (hplain : (backTo cpos (starEach es X.env)).any (·.1) = false := by rfl) : PE X (.Call (.Attribute o name apos) (e :: es) [] cpos) (tBM K T (rr K) to t) := by
  subst hK
  exact pe_bm pa slot hty (hm X) ho ha hbase hfew hline hs hplain
end Wk

set_option Elab.async false
set_option linter.all false
set_option maxRecDepth 100000
set_option maxHeartbeats 4000000
namespace Wk
open PySem L2 Evl LamX
/-! ### laws that make lambdas: the tables of code objects -/
/-- the fixed part without tables -/
def noTab (F : Hp) : Hp := fun b => match F b with
  | some (.tbl _) => none
  | o => o
theorem noTab_at {F : Hp} {b : Addr} {o : HO} (h : F b = some o) (n : ∀ ps, o ≠ .tbl ps) : noTab F b = some o := by
  unfold noTab
  rw [h]
  cases o <;> first | rfl | exact absurd rfl (n _)
theorem noTab_of {F : Hp} {b : Addr} {o : HO} (h : noTab F b = some o) : F b = some o ∧ ∀ ps, o ≠ .tbl ps := by
  unfold noTab at h
  split at h
  · cases h
  · rename_i hn
    refine ⟨h, fun ps z => ?_⟩
    subst z
    exact hn _ h
/-- over the making of a lambda it is kept -/
theorem noTab_ext {F H H1 : Hp} (e : Ex F H) (x : ExtN H H1) : Ex (noTab F) H1 := fun b o h => by
  obtain ⟨h1, h2⟩ := noTab_of h
  exact x b o (e b o h1) h2
/-- two heaps that differ by tables only -/
def ExN (F F' : Hp) : Prop := ∀ b o, F b = some o → (∀ ps, o ≠ .tbl ps) → F' b = some o
theorem exN_noTab (F : Hp) : ExN F (noTab F) := fun _ _ h n => noTab_at h n
section
variable {K : PySem.W.Frag} {F F' : Hp}
theorem exN_sq {a : Addr} {xs : List V} (e : ExN F F') (h : SqT K F a xs) : SqT K F' a xs := by
  rcases h with (h | ⟨o, h⟩) | h
  · exact .inl (.inl (e _ _ h fun ps z => by cases z))
  · exact .inl (.inr ⟨o, e _ _ h fun ps z => by cases z⟩)
  · exact .inr h
mutual
theorem dqN (e : ExN F F') : ∀ (d : PyData) (v : V), Dq K F v d → Dq K F' v d
  | .none, _, .non => .non
  | .bool _, _, .bl b => .bl b
  | .int _, _, .int i => .int i
  | .str _, _, .str x => .str x
  | .list ds, _, .lst h a => .lst (e _ _ h fun ps z => by cases z) (dqAllN e ds _ a)
  | .tuple ds, _, .tup h a => .tup (exN_sq e h) (dqAllN e ds _ a)
  | .dict _, _, h => by cases h
theorem dqAllN (e : ExN F F') : ∀ (ds : List PyData) (vs : List V), DqAll K F vs ds → DqAll K F' vs ds
  | [], _, .nil => .nil
  | d :: ds, _, .cons h a => .cons (dqN e d _ h) (dqAllN e ds _ a)
end
theorem isWN {C : Addr} {v : V} {w : Wt} (e : ExN F F') (h : IsW K C F v w) : IsW K C F' v w := by
  obtain ⟨a, dx, m, s, rfl, h1, h2, h3⟩ := h.ex
  exact ⟨a, dx, m, s, rfl, e _ _ h1 (fun ps z => nomatch z), dqN e _ _ h2, dqN e _ _ h3⟩
end
/-! ### the asker of errors: what it makes of a call that may raise -/
/-- rX: what is answered to an exception, by its kind -/
def TTr (K : PySem.W.Frag) (rX : Er → Mm Xr) : (XK → Hp → VK → Prop) → Hp → VK → Prop := fun tl H Q =>
  tl (fun cls d H' => ∃ (e : Er) (F' : Hp), Ex F' H' ∧ XD K F' cls d e ∧ Post (rX e) (fun r => Ret [] F' H' (fun F2 _ v => Dq K F2 v (eX r)) Q) (fun _ => False)) H (fun _ H' => Q .non H')
/-- a list of so many -/
theorem len_succ {α : Type} {l : List α} {n : Nat} (h : l.length = n + 1) : ∃ a t, l = a :: t ∧ t.length = n := by
  cases l with
  | nil => cases h
  | cons a t => exact ⟨a, t, rfl, by simpa using h⟩
/-- the reading of f'..{i}..' -/
theorem js3 {w1 w2 : Str} {te : TE} {σ : L2.St} {H : Hp} {Q : Str → Hp → Prop} {i : Int} (h1 : w1.length ≤ 100) (h2 : w2.length ≤ 100) (hi : i.natAbs < 18446744073709551616) (ht : ∀ Q : VK, Q (.int i) H → te σ H Q) (q : ∀ y : Str, Q y H) : tJs [tC (.str w1), tFmt te, tC (.str w2)] Str.empty σ H Q := by
  have e0 : (Str.empty ++ w1).length ≤ 100 := by rw [PySem.Str.length_append, show Str.empty.length = 0 from rfl]; omega
  have e1 := txt_app e0 hi
  exact ⟨w1, rfl, txt_fit e0 (by decide), ht _ (.inr ⟨i, rfl, log_small hi, _, rfl, txt_fit e1 (by decide), w2, rfl, txt_fit (txt_app2 e1 h2) (by decide), q _⟩)⟩
end Wk

set_option Elab.async false
set_option linter.all false
set_option maxRecDepth 100000
set_option maxHeartbeats 4000000
namespace Wk
open PySem L2 Evl
/-! ### the asker of errors -/
/-- what it answers to an exception -/
def raisedX (e : Er) : Mm Xr := match e.c, e.fs with
  | 0, [p, i] => .ok (.tup .weighting [p, i])
  | 1, [i] => .ok (.tup .places [i])
  | 2, [i] => .ok (.tup .weights [i])
  | 3, [i] => .ok (.tup .sums [i])
  | 4, [] => .ok (.tup .number [])
  | 5, [] => .ok (.tup .polynomial [])
  | 6, [] => .ok (.tup .few [])
  | 7, [] => .ok (.tup .fraction [])
  | 8, [] => .ok (.tup .none_ [])
  | _, _ => .bad
/-- what is known of the classes -/
structure RaisedK (K : PySem.W.Frag) : Prop where
  one : ∀ c ∈ List.range 9, PySem.W.exmOne K (.ref (He.ga K (exN c))) (.ref (He.ga K "ReadingError")) = some true
  is : ∀ c ∈ List.range 9, ∀ j ∈ List.range 9, PySem.W.kitOne K (.ref (He.ga K (exN c))) (.ref (He.ga K (exN j))) = some (c == j)
  ve : ∀ c ∈ List.range 9, PySem.W.kitOne K (.ref (He.ga K (exN c))) (.type "ValueError") = some true
  ec : ∀ c ∈ List.range 9, ExcI K (He.ga K (exN c))
  xf : ∀ c ∈ List.range 4, XfC K (He.ga K (exN c))
  nf : ∀ c ∈ List.range 4, ∀ f ∈ exF c, PySem.W.findIn K (.ref (He.ga K (exN c))) f = some none
def raisedB (K : PySem.W.Frag) : Bool :=
  ((List.range 9).all fun c => decide (PySem.W.exmOne K (.ref (He.ga K (exN c))) (.ref (He.ga K "ReadingError")) = some true)) && (((List.range 9).all fun c => (List.range 9).all fun j => decide (PySem.W.kitOne K (.ref (He.ga K (exN c))) (.ref (He.ga K (exN j))) = some (c == j))) &&
  (((List.range 9).all fun c => decide (PySem.W.kitOne K (.ref (He.ga K (exN c))) (.type "ValueError") = some true)) && (((List.range 9).all fun c => excIB K (He.ga K (exN c))) && (((List.range 4).all fun c => xfB K (He.ga K (exN c))) &&
  ((List.range 4).all fun c => (exF c).all fun f => He.eqO (PySem.W.findIn K (.ref (He.ga K (exN c))) f) (some none))))))
theorem raisedB_ok {K : PySem.W.Frag} (h : raisedB K = true) : RaisedK K := by
  obtain ⟨h1, h⟩ := He.ba h
  obtain ⟨h2, h⟩ := He.ba h
  obtain ⟨h3, h⟩ := He.ba h
  obtain ⟨h4, h⟩ := He.ba h
  obtain ⟨h5, h6⟩ := He.ba h
  exact ⟨fun c m => of_decide_eq_true (List.all_eq_true.mp h1 c m), fun c m j n => of_decide_eq_true (List.all_eq_true.mp (List.all_eq_true.mp h2 c m) j n), fun c m => of_decide_eq_true (List.all_eq_true.mp h3 c m), fun c m => excIB_ok (List.all_eq_true.mp h4 c m),
    fun c m => xfB_ok (List.all_eq_true.mp h5 c m), fun c m f n => He.eqO_ok (List.all_eq_true.mp (List.all_eq_true.mp h6 c m) f n)⟩
section
variable {K : PySem.W.Frag} {a : Addr} {cls : Value} {d : Option Addr}
def rdIs (K : PySem.W.Frag) (a : Addr) (cls : Value) (d : Option Addr) (v : V) : TE := tCB (rIsX K a cls d) (tCons (tVar 1) (tCons (tC v) tNil))
def rdKind (K : PySem.W.Frag) (a : Addr) (cls : Value) (d : Option Addr) (x : Str) : TE := rdIs K a cls d (V.ref (He.ga K x))
def rd3 (K : PySem.W.Frag) (a : Addr) (cls : Value) (d : Option Addr) (x y z : Str) : TE := tQ (tLst (tCons (rdKind K a cls d x) (tCons (rdKind K a cls d y) (tCons (rdKind K a cls d z) tNil))))
/-- the suite's words -/
def rdRaised (K : PySem.W.Frag) (a : Addr) (cls : Value) (d : Option Addr) : TS :=
  tSeq (tAsg (rd3 K a cls d "InvalidWeighting" "InvalidPlaces" "InvalidWeights") (gName 2)) (tSeq (tAsg (tQ (tOp rCat (tVar 2) (rd3 K a cls d "InvalidSums" "InvalidNumber" "InvalidPolynomial"))) (gName 2)) (tSeq (tAsg (tQ (tOp rCat (tVar 2) (rd3 K a cls d "TooFew" "InvalidFraction" "NoWeighting"))) (gName 2))
    (tSeq (tIfS (tOr (tTest (tOp rNe (tBM K "list" (rCount K) (tVar 2) (tCons (tC (V.bl true)) tNil)) (tC (V.int 1)))) (tNot (tB (rdIs K a cls d (V.ty "ValueError"))))) (tRet (tQ (tTup (tCons (tC (V.str "other")) tNil)))) tNext)
    (tSeq (tAsg (tBM K "list" (rIndex K) (tVar 2) (tCons (tC (V.bl true)) tNil)) (gName 3)) (tSeq (tIfS (tTest (tOp rEq (tVar 3) (tC (V.int 0)))) (tRet (tQ (tTup (tCons (tC (V.str "weighting")) (tCons (tXfG K a cls d "part" (tVar 1)) (tCons (tXfG K a cls d "index" (tVar 1)) tNil)))))) tNext)
    (tSeq (tAsg (tQ (tLst (tCons (tC (V.str "")) (tCons (tC (V.str "places")) (tCons (tC (V.str "weights")) (tCons (tC (V.str "sums")) (tCons (tC (V.str "number")) (tCons (tC (V.str "polynomial")) (tCons (tC (V.str "few")) (tCons (tC (V.str "fraction")) (tCons (tC (V.str "none")) tNil))))))))))) (gName 4))
    (tRet (tIf (tTest (tOp (rI0 fun i j => V.bl (decide (i < j))) (tVar 3) (tC (V.int 4)))) (tQ (tTup (tCons (tOp (rIxL K) (tVar 4) (tVar 3)) (tCons (tXfG K a cls d "index" (tVar 1)) tNil)))) (tQ (tTup (tCons (tOp (rIxL K) (tVar 4) (tVar 3)) tNil)))))))))))
/-- the exception is there -/
structure Held (K : PySem.W.Frag) (a : Addr) (cls : Value) (d : Option Addr) (F : Hp) (c : Nat) (vs : List V) : Prop where
  cl : cls = .ref (He.ga K (exN c))
  dd : (d = none ∧ vs = []) ∨ ∃ dx, d = some dx ∧ F dx = some (.xd ((exF c).zip vs).reverse)
theorem Held.up {F H : Hp} {c : Nat} {vs : List V} (h : Held K a cls d F c vs) (e : Ex F H) : Held K a cls d H c vs := by
  refine ⟨h.cl, ?_⟩
  rcases h.dd with z | ⟨dx, z, w⟩
  · exact .inl z
  · exact .inr ⟨dx, z, e _ _ w⟩
variable (R : RaisedK K) {c : Nat} (hc : c ∈ List.range 9) {vs : List V} {σ : L2.St} (h1 : σ[1]? = some (some (.ref a))) {H : Hp} (X : Held K a cls d H c vs) {Q : VK}
include R hc h1 X
theorem rdIs_ok {v : V} {cv : Value} {b : Bool} (hcv : ∀ u, RelV v u → u = cv) (k : PySem.W.kitOne K (.ref (He.ga K (exN c))) cv = some b) (q : Q (.bl b) H) : rdIs K a cls d v σ H Q := by
  refine ⟨.ref a, h1, ⟨_, v, cv, b, X.cl, R.ec c hc, rfl, hcv, ?_, k, q⟩⟩
  rcases X.dd with z | ⟨dx, z, w⟩
  · exact .inl z.1
  · exact .inr ⟨dx, _, z, w⟩
theorem rdKind_ok {j : Nat} (hj : j ∈ List.range 9) {x : Str} (hx : x = exN j) (q : Q (.bl (c == j)) H) : rdKind K a cls d x σ H Q := by
  subst hx
  exact rdIs_ok R hc h1 X (fun u r => r) (R.is c hc j hj) q
theorem rd3_ok {i j k : Nat} (hi : i ∈ List.range 9) (hj : j ∈ List.range 9) (hk : k ∈ List.range 9) {x y z : Str} (hx : x = exN i) (hy : y = exN j) (hz : z = exN k) (q : ∀ p, H p = none → Q (.ref p) (upd H p (.lst [.bl (c == i), .bl (c == j), .bl (c == k)]))) : rd3 K a cls d x y z σ H Q :=
  rdKind_ok R hc h1 X hi hx (rdKind_ok R hc h1 X hj hy (rdKind_ok R hc h1 X hk hz ⟨by show 3 ≤ sizeLine; decide +kernel, q⟩))
end
/-- which kind it is -/
def kinds (c : Nat) : List V := [.bl (c == 0), .bl (c == 1), .bl (c == 2), .bl (c == 3), .bl (c == 4), .bl (c == 5), .bl (c == 6), .bl (c == 7), .bl (c == 8)]
section
variable {K : PySem.W.Frag} {a : Addr} {cls : Value} {d : Option Addr} (R : RaisedK K)
def rdLate (K : PySem.W.Frag) (a : Addr) (cls : Value) (d : Option Addr) : TS :=
    (tSeq (tIfS (tOr (tTest (tOp rNe (tBM K "list" (rCount K) (tVar 2) (tCons (tC (V.bl true)) tNil)) (tC (V.int 1)))) (tNot (tB (rdIs K a cls d (V.ty "ValueError"))))) (tRet (tQ (tTup (tCons (tC (V.str "other")) tNil)))) tNext)
    (tSeq (tAsg (tBM K "list" (rIndex K) (tVar 2) (tCons (tC (V.bl true)) tNil)) (gName 3)) (tSeq (tIfS (tTest (tOp rEq (tVar 3) (tC (V.int 0)))) (tRet (tQ (tTup (tCons (tC (V.str "weighting")) (tCons (tXfG K a cls d "part" (tVar 1)) (tCons (tXfG K a cls d "index" (tVar 1)) tNil)))))) tNext)
    (tSeq (tAsg (tQ (tLst (tCons (tC (V.str "")) (tCons (tC (V.str "places")) (tCons (tC (V.str "weights")) (tCons (tC (V.str "sums")) (tCons (tC (V.str "number")) (tCons (tC (V.str "polynomial")) (tCons (tC (V.str "few")) (tCons (tC (V.str "fraction")) (tCons (tC (V.str "none")) tNil))))))))))) (gName 4))
    (tRet (tIf (tTest (tOp (rI0 fun i j => V.bl (decide (i < j))) (tVar 3) (tC (V.int 4)))) (tQ (tTup (tCons (tOp (rIxL K) (tVar 4) (tVar 3)) (tCons (tXfG K a cls d "index" (tVar 1)) tNil)))) (tQ (tTup (tCons (tOp (rIxL K) (tVar 4) (tVar 3)) tNil)))))))))
theorem sz_few {n : Nat} (h : n ≤ 100) : n ≤ sizeLine := by rw [sizeLine_eq]; omega
include R in
theorem rdEarly_ok {c : Nat} (hc : c ∈ List.range 9) {vs : List V} {x0 x2 x3 x4 : Option V} {F H : Hp} (e : Ex F H) (X : Held K a cls d F c vs) {D : Ends} (k : ∀ p H', Gm [] F H F H' → H' p = some (.lst (kinds c)) → rdLate K a cls d D [x0, some (.ref a), some (.ref p), x3, x4] H') : rdRaised K a cls d D [x0, some (.ref a), x2, x3, x4] H := by
  refine rd3_ok R hc rfl (X.up e) (i := 0) (j := 1) (k := 2) (by decide) (by decide) (by decide) rfl rfl rfl fun p1 n1 => ?_
  have g1 := Gm.newM (M := []) e (o := .lst [.bl (c == 0), .bl (c == 1), .bl (c == 2)]) n1
  refine ⟨.ref p1, rfl, ?_⟩
  refine rd3_ok R hc rfl (X.up g1.s) (i := 3) (j := 4) (k := 5) (by decide) (by decide) (by decide) rfl rfl rfl fun p2 n2 => ?_
  have g2 := g1.trans (Gm.newM g1.s (o := .lst [.bl (c == 3), .bl (c == 4), .bl (c == 5)]) n2)
  have at1 := ne_of_none upd_same n2
  refine ⟨p1, p2, _, _, rfl, rfl, by rw [upd_ne at1, upd_same], upd_same, sz_few (by show 6 ≤ 100; decide), fun p3 n3 => ?_⟩
  have g3 := g2.trans (Gm.newM g2.s (o := .lst [.bl (c == 0), .bl (c == 1), .bl (c == 2), .bl (c == 3), .bl (c == 4), .bl (c == 5)]) n3)
  refine ⟨.ref p3, rfl, ?_⟩
  refine rd3_ok R hc rfl (X.up g3.s) (i := 6) (j := 7) (k := 8) (by decide) (by decide) (by decide) rfl rfl rfl fun p4 n4 => ?_
  have g4 := g3.trans (Gm.newM g3.s (o := .lst [.bl (c == 6), .bl (c == 7), .bl (c == 8)]) n4)
  have at3 := ne_of_none upd_same n4
  refine ⟨p3, p4, _, _, rfl, rfl, (by rw [upd_ne at3]; exact upd_same), upd_same, sz_few (by show 9 ≤ 100; decide), fun p5 n5 => ?_⟩
  have g5 := g4.trans (Gm.newM g4.s (o := .lst (kinds c)) n5)
  exact k p5 _ g5 upd_same
theorem iteF {b : Bool} {A B : Prop} (h : b = false) (q : B) : if b = true then A else B := by rw [h, if_neg Bool.false_ne_true]; exact q
theorem iteT {b : Bool} {A B : Prop} (h : b = true) (q : A) : if b = true then A else B := by rw [if_pos h]; exact q
theorem r9 {P : Nat → Prop} (h0 : P 0) (h1 : P 1) (h2 : P 2) (h3 : P 3) (h4 : P 4) (h5 : P 5) (h6 : P 6) (h7 : P 7) (h8 : P 8) : ∀ c ∈ List.range 9, P c := fun c h => by
  have hc : c < 9 := List.mem_range.mp h
  match c, hc with
  | 0, _ => exact h0
  | 1, _ => exact h1
  | 2, _ => exact h2
  | 3, _ => exact h3
  | 4, _ => exact h4
  | 5, _ => exact h5
  | 6, _ => exact h6
  | 7, _ => exact h7
  | 8, _ => exact h8
theorem kinds_count : ∀ c ∈ List.range 9, (kinds c).countP (fun z => eqV z (V.bl true)) = 1 := r9 rfl rfl rfl rfl rfl rfl rfl rfl rfl
theorem kinds_flat : ∀ c ∈ List.range 9, (kinds c).all flatV = true := r9 rfl rfl rfl rfl rfl rfl rfl rfl rfl
theorem kinds_at : ∀ c ∈ List.range 9, (kinds c)[c]? = some (V.bl true) := r9 rfl rfl rfl rfl rfl rfl rfl rfl rfl
theorem kinds_before : ∀ c ∈ List.range 9, ∀ (m : Nat) (z : V), m < c → (kinds c)[m]? = some z → eqV z (V.bl true) = false := fun c hc m z h hz => by
  have e : ∀ c ∈ List.range 9, (List.range c).all (fun m => match (kinds c)[m]? with | some z => !eqV z (V.bl true) | none => true) = true := r9 rfl rfl rfl rfl rfl rfl rfl rfl rfl
  have := List.all_eq_true.mp (e c hc) m (List.mem_range.mpr h)
  rw [hz] at this
  simpa using this
/-- the words -/
def words : List V := [.str "", .str "places", .str "weights", .str "sums", .str "number", .str "polynomial", .str "few", .str "fraction", .str "none"]
include R in
theorem xfG_ok {c : Nat} (hc : c ∈ List.range 4) {vs : List V} {σ : L2.St} (h1 : σ[1]? = some (some (.ref a))) {H : Hp} (hcl : cls = .ref (He.ga K (exN c))) {dx : Addr} {fs : List (Str × V)} (hd : d = some dx) (hx : H dx = some (.xd fs)) {f : Str} (hf : f ∈ exF c) {v : V} (hl : fs.lookup f = some v) {Q : VK} (q : Q v H) : tXfG K a cls d f (tVar 1) σ H Q :=
  ⟨.ref a, h1, rfl, _, hcl, R.xf c hc, R.nf c hc f hf, dx, fs, v, hd, hx, hl, q⟩
include R in
theorem rdLate_ok {c : Nat} (hc : c ∈ List.range 9) {vs : List V} {x0 x3 x4 : Option V} {p : Addr} {F H : Hp} (e : Ex F H) (X : Held K a cls d F c vs) (hp : H p = some (.lst (kinds c))) {D : Ends}
    (k0 : c = 0 → ∃ i j, vs = [.int i, .int j] ∧ Ret [] F H (fun F2 _ v => Dq K F2 v (eX (.tup .weighting [i, j]))) D.rt)
    (k1 : c ≠ 0 → c < 4 → ∃ i w, vs = [.int i] ∧ words[c]? = some (.str (Kw.w w)) ∧ Ret [] F H (fun F2 _ v => Dq K F2 v (eX (.tup w [i]))) D.rt)
    (k2 : ¬ c < 4 → ∃ w, words[c]? = some (.str (Kw.w w)) ∧ Ret [] F H (fun F2 _ v => Dq K F2 v (eX (.tup w []))) D.rt) : rdLate K a cls d D [x0, some (.ref a), some (.ref p), x3, x4] H := by
  refine ⟨.ref p, rfl, .inl ⟨rfl, _, sq_of hp⟩, p, _, _, rfl, rfl, sq_of hp, rfl, kinds_flat c hc, ?_⟩
  rw [kinds_count c hc]
  refine ⟨rfl, false, rfl, ?_⟩
  refine iteF rfl ?_
  refine rdIs_ok R hc rfl (X.up e) (cv := .type "ValueError") (fun u r => r) (R.ve c hc) ⟨true, rfl, ?_⟩
  refine iteF rfl ?_
  refine ⟨.ref p, rfl, .inl ⟨rfl, _, sq_of hp⟩, p, _, _, c, _, rfl, rfl, sq_of hp, rfl, kinds_flat c hc, kinds_at c hc, rfl, kinds_before c hc, ?_⟩
  refine ⟨.int c, rfl, rfl, _, rfl, ?_⟩
  by_cases c0 : c = 0
  · obtain ⟨i, j, hv, k⟩ := k0 c0
    have Xu := X.up e
    subst c0 hv
    refine iteT rfl ?_
    rcases Xu.dd with ⟨_, z⟩ | ⟨dx, hd, hx⟩
    · cases z
    dsimp only [tRet, tQ, tTup, tCons, tC]
    refine xfG_ok R (c := 0) (vs := [.int i, .int j]) (by decide) rfl Xu.cl hd hx (f := "part") (by decide) (v := .int i) rfl ?_
    refine xfG_ok R (c := 0) (vs := [.int i, .int j]) (by decide) rfl Xu.cl hd hx (f := "index") (by decide) (v := .int j) rfl ?_
    exact new_tup e (.cons (Dq.str _) (.cons (Dq.int i) (.cons (Dq.int j) .nil))) (by show 3 ≤ 100000; decide) k
  · refine iteF (by simpa using c0) ?_
    refine ⟨sz_few (by show 9 ≤ 100; decide), fun p2 n2 => ?_⟩
    have g := Gm.newM (M := []) e (o := .lst words) n2
    have hw : upd H p2 (.lst words) p2 = some (.lst words) := upd_same
    refine ⟨.int c, rfl, _, _, rfl, rfl, _, rfl, ?_⟩
    by_cases c4 : c < 4
    · obtain ⟨i, w, hv, hcw, k⟩ := k1 c0 c4
      refine iteT (decide_eq_true (Int.ofNat_lt.mpr c4)) ?_
      refine ⟨.ref p2, rfl, .int c, rfl, p2, _, c, _, rfl, rfl, sq_of hw, atI_nat hcw, ?_⟩
      have Xu := X.up g.s
      subst hv
      rcases Xu.dd with ⟨_, z⟩ | ⟨dx, hd, hx⟩
      · cases z
      have hF : exF c = [("index" : Str)] := by
        match c, c0, c4 with
        | 1, _, _ => rfl
        | 2, _, _ => rfl
        | 3, _, _ => rfl
      refine xfG_ok R (vs := [.int i]) (List.mem_range.mpr c4) rfl Xu.cl hd hx (f := "index") (by rw [hF]; decide) (v := .int i) (by rw [hF]; rfl) ?_
      exact new_tup g.s (.cons (Dq.str _) (.cons (Dq.int i) .nil)) (by show 2 ≤ 100000; decide) (k.then_ g)
    · obtain ⟨w, hcw, k⟩ := k2 c4
      refine iteF (decide_eq_false fun z => c4 (Int.ofNat_lt.mp z)) ?_
      refine ⟨.ref p2, rfl, .int c, rfl, p2, _, c, _, rfl, rfl, sq_of hw, atI_nat hcw, ?_⟩
      exact new_tup g.s (.cons (Dq.str _) .nil) (by show 1 ≤ 100000; decide) (k.then_ g)
end
section
variable {K : PySem.W.Frag} {a : Addr} {cls : Value} {d : Option Addr} (R : RaisedK K)
include R
theorem raised_suite {e : Er} {F H : Hp} (x : Ex F H) (h : XD K F cls d e) {D : Ends} (k : Post (raisedX e) (fun r => Ret [] F H (fun F2 _ v => Dq K F2 v (eX r)) D.rt) (fun _ => False)) {σ : L2.St} (hl : σ.length = 5) : rdRaised K a cls d D (σ.set 1 (some (.ref a))) H := by
  obtain ⟨x0, σ1, rfl, hl1⟩ := len_succ hl
  obtain ⟨x1, σ2, rfl, hl2⟩ := len_succ hl1
  obtain ⟨x2, σ3, rfl, hl3⟩ := len_succ hl2
  obtain ⟨x3, σ4, rfl, hl4⟩ := len_succ hl3
  obtain ⟨x4, σ5, rfl, hl5⟩ := len_succ hl4
  obtain rfl := List.length_eq_zero_iff.mp hl5
  obtain ⟨c, fs⟩ := e
  have held : Held K a cls d F c (fs.map V.int) := by
    obtain ⟨h1, h2⟩ := h
    refine ⟨h1, ?_⟩
    rcases h2 with ⟨z1, z2⟩ | z
    · exact .inl ⟨z2, by simp [show fs = [] from z1]⟩
    · exact .inr z
  have fin : ∀ (hc : c ∈ List.range 9) (k0 : ∀ H', Gm [] F H F H' → c = 0 → ∃ i j, fs.map V.int = [.int i, .int j] ∧ Ret [] F H' (fun F2 _ v => Dq K F2 v (eX (.tup .weighting [i, j]))) D.rt)
    (k1 : ∀ H', Gm [] F H F H' → c ≠ 0 → c < 4 → ∃ i w, fs.map V.int = [.int i] ∧ words[c]? = some (.str (Kw.w w)) ∧ Ret [] F H' (fun F2 _ v => Dq K F2 v (eX (.tup w [i]))) D.rt)
    (k2 : ∀ H', Gm [] F H F H' → ¬ c < 4 → ∃ w, words[c]? = some (.str (Kw.w w)) ∧ Ret [] F H' (fun F2 _ v => Dq K F2 v (eX (.tup w []))) D.rt), rdRaised K a cls d D [x0, some (.ref a), x2, x3, x4] H :=
    fun hc k0 k1 k2 => rdEarly_ok R hc x held fun p H' g hp => rdLate_ok R hc g.s held hp (k0 H' g) (k1 H' g) (k2 H' g)
  unfold raisedX at k
  split at k <;> dsimp only at * <;> first
    | exact k.h.elim
    | (subst_vars; exact fin (by decide) (fun H' g _ => ⟨_, _, rfl, (post_ok k).then_ g⟩) (fun _ _ z => absurd rfl z) (fun _ _ z => absurd (by decide) z))
    | (subst_vars; exact fin (by decide) (fun _ _ z => by cases z) (fun H' g _ _ => ⟨_, _, rfl, rfl, (post_ok k).then_ g⟩) (fun _ _ z => absurd (by decide) z))
    | (subst_vars; exact fin (by decide) (fun _ _ z => by cases z) (fun _ _ _ z => absurd z (by decide)) (fun H' g _ => ⟨_, rfl, (post_ok k).then_ g⟩))
theorem raised_c {e : Er} {p : Xr → Prop} {q : Er → Prop} (k : Post (raisedX e) p q) : e.c ∈ List.range 9 := by
  obtain ⟨c, fs⟩ := e
  unfold raisedX at k
  split at k <;> dsimp only at * <;> first
    | exact k.h.elim
    | (subst_vars; decide)
theorem raised_many {e : Er} {F H : Hp} (x : Ex F H) (h : XD K F cls d e) {Q : VK} {nx : L2.St → Hp → Prop} (k : Post (raisedX e) (fun r => Ret [] F H (fun F2 _ v => Dq K F2 v (eX r)) Q) (fun _ => False)) {σ : L2.St} :
    wManyA K 5 (fun _ _ _ _ => False) { nx := nx, rt := Q } [(Value.ref (He.ga K "ReadingError"), 1, fun a cls d => rdRaised K a cls d)] cls d σ H := by
  refine ⟨true, by rw [h.1]; exact R.one _ (raised_c R k), fun _ a _ hl => ?_, fun z => by cases z⟩
  exact raised_suite R (D := endsAs { nx := nx, rt := Q } 1) x h k hl
end
end Wk

set_option Elab.async false
set_option linter.all false
set_option maxRecDepth 100000
set_option maxHeartbeats 4000000
namespace Wk
open PySem L2 Evl LamX PyProof.Rows
/-! ### a lambda handed to the asker -/
structure Ask (K : PySem.W.Frag) (mg : Str → Option Value) (x a : Str) (pg : Arguments) (bg : List Stmt) (sg : Scope) : Prop where
  ex : ∃ (g : Addr) (oc : Value) (od : Option Addr) (dV kV doc pm : Value) (an : Option Addr) (cdv ct : Value) (osl : Array (Option Value)), mg x = some (.ref g) ∧ PySem.W.keepIn K (.ref g) = true ∧
    K.lookup g = some ⟨oc, od, .func (PySem.W.fnOf x x pg bg sg dV kV doc pm an cdv ct), osl⟩ ∧ PySem.W.codeIn K cdv x = true ∧ Binds K (PySem.W.fnOf x x pg bg sg dV kV doc pm an cdv ct) [a] []
theorem ask_of {K : PySem.W.Frag} {mg : Str → Option Value} {x a : Str} {pg : Arguments} {bg : List Stmt} {sg : Scope} {g : Addr} {fd : FuncData} (F : FunD K x x pg bg sg [] [] g fd) (hm : mg x = some (.ref g)) (hb : Binds K fd [a] []) : Ask K mg x a pg bg sg := by
  obtain ⟨oc, od, dV, kV, doc, pm, an, cdv, ct, osl, rfl, lk, hcd, _, _⟩ := F.ex
  exact ⟨g, oc, od, dV, kV, doc, pm, an, cdv, ct, osl, hm, F.kp, lk, hcd, hb⟩
theorem pe_ask {X : Cx} {TT : (XK → Hp → VK → Prop) → Hp → VK → Prop} {x a : Str} {c P : Addr} {k : Nat} {pg : Arguments} {bg : List Stmt} {sg : Scope} {Ng : List Str} {body : Expr} {scope : Scope} {t : XK → TE} {p lpos pos : Pos} {params : Arguments} {sc : Scope} (G : Ask X.K X.mg x a pg bg sg)
    (give : ∀ g cdv, GivesTo X Ng x sg g cdv bg a (X.env.qual ++ "<lambda>") TT) (TB : TabB X.base X.mg c P) (hr : Room (k + 2) X.A) (Sg : FnScope Ng [a] sg) (hcode : X.env.code = .ref c) (hg : Gl X x) (hNg : Ng[0]? = some a) (hva : Vis sg a) (hsc : X.env.scope = sc) (L : lamSB sc scope = true) (hdef : defaultsOf params X.env = ([], []))
    (hbind : ∀ (q : Str) (cl : List (Str × Addr)) (pm cv ctv : Value), bindArgs (PySem.W.kla_fn "<lambda>" q params body scope cl pm cv ctv) ⟨[], []⟩ = pure [])
    (hbody : ∀ (A : Around) (outer : List Env) (s : Shared) (H : Hp) (E : XK) (f c' : Addr), Room k (A.deeper (lamEnv X scope s.heap.objs.size f c')) → PE (lamCx X A outer s H E scope f c') body (t E))
    (hdb : (x == ("__debug__" : Str)) = false := by decide) (hd : (a == ("__debug__" : Str)) = false := by decide) (hcd : (a == ("__classdict__" : Str)) = false := by decide) :
    PE X (.Call (.Name x p) [.Lambda params body scope lpos] [] pos) (tLam [(P, X.env.qual ++ "<lambda>")] TT t) := by
  obtain ⟨g, oc, od, dV, kV, doc, pm, an, cdv, ct, osl, hm, kp, lk, hcg, hb⟩ := G.ex
  exact pe_lamcall hg hm kp lk hcg hb Sg hNg hva (give g cdv) TB hcode (List.mem_singleton.mpr rfl) (fun q hq _ => by rw [List.mem_singleton.mp hq]) hr (lamS_by (hsc ▸ L)) hdef hbind hbody hdb hd hcd
theorem pe_castT {X : Cx} {e : Expr} {t t' : TE} (h : PE X e t') (q : t' = t) : PE X e t := q ▸ h
/-! ### tables while other things change -/
def NoTbl (H : Hp) (a : Addr) : Prop := H a = none ∨ ∃ xs, H a = some (.lst xs)
theorem nt_nil {H : Hp} : ∀ m ∈ ([] : List Addr), NoTbl H m := fun _ h => by cases h
theorem nt_cons {H : Hp} {a : Addr} {M : List Addr} {xs : List V} (h : H a = some (.lst xs)) (r : ∀ m ∈ M, NoTbl H m) : ∀ m ∈ a :: M, NoTbl H m := fun m hm => by
  rcases List.mem_cons.mp hm with rfl | hm
  · exact .inr ⟨_, h⟩
  · exact r m hm
theorem tabs_gm {T : List (Addr × Str)} {M : List Addr} {F H F' H' : Hp} (t : Tabs T H) (n : ∀ m ∈ M, NoTbl H m) (g : Gm M F H F' H') : Tabs T H' := fun p hp => by
  obtain ⟨ps, h1, h2, h3⟩ := t p hp
  have out : ∀ b o, H b = some o → (∀ xs, o ≠ .lst xs) → H' b = some o := fun b o e z => g.h b o (fun hm => by
    rcases n b hm with q | ⟨xs, q⟩
    · rw [e] at q; cases q
    · rw [e] at q; exact z xs (Option.some.inj q)) e
  refine ⟨ps, out _ _ h1 (fun xs z => by cases z), h2, fun pos cv hc => ?_⟩
  obtain ⟨c, e1, e2⟩ := h3 pos cv hc
  exact ⟨c, e1, out _ _ e2 fun xs z => by unfold CodeO at z; cases z⟩
theorem tabs_start {P : Addr} {q : Str} {H H0 : Hp} (h : H P = some (.tbl #[])) (e : Ex H H0) : Tabs [(P, q)] H0 := fun p hp => by
  rw [List.mem_singleton.mp hp]
  exact TabS.nil (e _ _ h)
section
variable {K : PySem.W.Frag} {F F' H H1 : Hp}
theorem exN_l {a : Addr} {xs : List V} (e : ExN F F') (h : SqL K F a xs) : SqL K F' a xs := by
  rcases h with (h | ⟨o, h⟩) | h
  · exact .inl (.inl (e _ _ h fun ps z => by cases z))
  · exact .inl (.inr ⟨o, e _ _ h fun ps z => by cases z⟩)
  · exact .inr h
theorem noTab_none {b : Addr} (h : F b = none) : noTab F b = none := by
  unfold noTab
  rw [h]
theorem row_noTab {sc ra : Addr} {scr : List Int} {st : Rw} (w : RowAt K sc ra scr F H st) (x : ExtN H H1) : RowAt K sc ra scr (noTab F) H1 st :=
  ⟨x _ _ w.1 (fun ps z => by cases z), noTab_none w.2.1, exN_l (exN_noTab F) w.2.2⟩
theorem own_noTab {p : Addr} {xs : List V} (o : H p = some (.lst xs) ∧ F p = none) (x : ExtN H H1) : H1 p = some (.lst xs) ∧ noTab F p = none := ⟨x _ _ o.1 (fun ps z => by cases z), noTab_none o.2⟩
theorem noTab_sub (F : Hp) : Ex (noTab F) F := fun b o h => (noTab_of h).1
theorem new_rowT {sc : Addr} {scr : List Int} {Q : VK} (hs : SqL K H sc (scr.map V.int)) (k : ∀ ra H', Ex H H' → Ex (noTab H) H' → RowAt K sc ra scr (noTab H) H' ⟨0, 0, 0⟩ → Q (.ref ra) H') :
    [V.ref sc, V.int 0, V.int 0, V.int 0].length ≤ sizeLine ∧ ∀ p, H p = none → Q (.ref p) (upd H p (.lst [V.ref sc, V.int 0, V.int 0, V.int 0])) :=
  ⟨sz_of (by show 4 ≤ 100000; decide), fun p hp => k p _ (Ex.new hp) (fun b o h => Ex.new hp _ _ (noTab_sub H b o h)) ⟨upd_same, noTab_none hp, exN_l (exN_noTab H) hs⟩⟩
end
/-! ### the walk over the asker's call -/
theorem raised_noex {e : Er} {p : Xr → Prop} {q : Er → Prop} (k : Post (raisedX e) p q) : Post (raisedX e) p (fun _ => False) := by
  unfold raisedX at *
  split at k <;> exact ⟨k.h⟩
theorem lam_jM {α β : Type} {K : PySem.W.Frag} {F H : Hp} {Q : VK} {t : XK → Hp → VK → Prop} {m : Mm β} {rest : Xr → Mm α} {ok : α → Prop} {ex : Er → Prop} (k : Post ((m.tr raisedX fun _ => Mm.ok Xr.non).bd rest) ok ex)
    (hb : ∀ (Q' : VK) (E' : XK), Post m (fun _ => ∀ v F' H', Gm [] F H F' H' → Q' v H') (fun e => RetX [] K F H e E') → t E' H Q')
    (kk : ∀ x v F' H', Gm [] F H F' H' → Dq K F' v (eX x) → Post (rest x) ok ex → Q v H') : TTr K raisedX t H Q := by
  refine hb _ _ ((post_tr (post_bd k)).mono (fun a h v F' H' g => kk .non .non F' H' g Dq.non h.h) fun e h cls d F' H' g xd => ?_)
  exact ⟨e, F', g.s, xd, (raised_noex h).mono (fun r p v F2 H2 g2 dq => kk r v F2 H2 (g.trans g2) dq p) fun _ z => z⟩
/-! ### a def whose code object is known -/
theorem fn_code {CX : CXT} {P : Program} {w : World} {K : PySem.W.Frag} {mg : Str → Option Value} {base : Heap} {x qual : Str} {params : Arguments} {body : List Stmt} {scope : Scope} {fd : FuncData} {N ps : List Str} {k : Nat} {sp : Sp} (F : FunD K x qual params body scope [] [] (He.ga K x) fd) (S : FnScope N ps scope)
    (len : ∀ vs H Q E, sp vs H Q E → vs.length = ps.length)
    (hbody : ∀ (A : Around) (outer : List Env) (s : Shared) (H : Hp) (vs : List V) (Q : VK) (E : XK), Room k (A.deeper (envOfC qual scope s.heap.objs.size (He.ga K x) (.ref (He.codeOf K (x, none))))) → sp vs H Q E →
      ∃ t, PSs (cxOf CX P w K mg base N qual scope (He.ga K x) (.ref (He.codeOf K (x, none))) A outer s H E) body t ∧ t { nx := fun _ H' => Q .non H', rt := Q } (L2.start N vs) H) : FnOk P w K mg base CX (k + 1) (He.ga K x) fd ps sp := by
  obtain ⟨oc, od, dV, kV, doc, pm, an, cdv, ct, osl, rfl, lk, hcd, _, _⟩ := F.ex
  obtain ⟨c, rfl⟩ := He.codeIn_ref hcd
  have e : He.codeOf K (x, none) = c := He.codeOf_eq (p := (x, none)) lk rfl
  rw [e] at hbody
  exact fn_of lk hcd S len hbody
/-! ### the Hook with tables -/
open PySem.W He in
def tabOk (g : Addr → Option Obj) (K : Frag) (p : Defn) : Bool := codeHdIn K (cT K p).1 (cT K p).2 && ((K.lookup (cT K p).2).isNone && (g (cT K p).2).any emptyTab)
structure TabK (K : PySem.W.Frag) (h : Heap) (p : He.Defn) : Prop where
  hd : PySem.W.codeHdIn K (He.cT K p).1 (He.cT K p).2 = true
  out : K.lookup (He.cT K p).2 = none
  empty : h.get? (He.cT K p).2 = some { cls := .none, data := .fields #[] }
theorem tabOk_ok {K : PySem.W.Frag} {h : Heap} {p : He.Defn} (e : tabOk h.get? K p = true) : TabK K h p := by
  obtain ⟨h1, e⟩ := He.ba e
  obtain ⟨h2, h3⟩ := He.ba e
  refine ⟨h1, by simpa using h2, ?_⟩
  cases q : h.get? (He.cT K p).2 with
  | none => rw [q] at h3; cases h3
  | some o => rw [q] at h3; rw [He.emptyTab_eq h3]
open PySem.W He in
def obsXT (as : List Addr) (fa : List Fa) (fn es : List He5.DefA) (ts : List Defn) (ex : Frag → Bool) (g : Addr → Option Obj) : He.AlD := ((obsXS as fa fn es ex g).1 && ts.all fun p => tabOk g (frG g as) p, (obsXS as fa fn es ex g).2)
open PySem.W He in
def hookXT (as : List Addr) (fa : List Fa) (fn es : List He5.DefA) (ts : List Defn) (ex : Frag → Bool) : PySem.W.Hook where
  α := He.AlD
  obs := fun s => obsXT as fa fn es ts ex s.heap.get?
  val := fun _ => valXS fn es
  says := fun _ h => ∃ K : Frag, K.In h ∧ SaysXS fa fn es ex K ∧ ∀ p ∈ ts, TabK K h p
  of := fun _ s e => by
    have e1 : (obsXT as fa fn es ts ex s.heap.get?).1 = true := congrArg Prod.fst e
    have e2 : (obsXT as fa fn es ts ex s.heap.get?).2 = _ := congrArg Prod.snd e
    obtain ⟨a1, a2⟩ := ba e1
    exact ⟨_, frG_in, saysXS_of (Prod.ext a1 e2), fun p hp => tabOk_ok (List.all_eq_true.mp a2 p hp)⟩
  keeps := fun _ _ _ ⟨K, hK, c, t⟩ k => ⟨K, Frag.In.keeps hK k, c, fun p hp => ⟨(t p hp).hd, (t p hp).out, k _ _ (t p hp).empty⟩⟩
open PySem.W He in
theorem obsXT_eq {as : List Addr} {fa : List Fa} {fn es : List He5.DefA} {ts : List Defn} {ex : Frag → Bool} {g : Addr → Option Obj} {s : Shared} (h : ∀ a, g a = s.heap.get? a) : obsXT as fa fn es ts ex g = (hookXT as fa fn es ts ex).obs s := by
  have e : g = s.heap.get? := funext h
  rw [e] <;> rfl
end Wk

set_option Elab.async false
set_option linter.all false
set_option maxRecDepth 100000
set_option maxHeartbeats 4000000
namespace Wk
open PySem L2 Evl
/-! ### a mirror without exceptions, and the same with them -/
/-- where m answers, m' answers the same -/
structure Le {α : Type} (m m' : Mm α) : Prop where
  h : ∀ a, m = .ok a → m' = .ok a
namespace Le
variable {α β γ S R : Type}
theorem refl (m : Mm α) : Le m m := ⟨fun _ h => h⟩
theorem bad (m : Mm α) : Le .bad m := ⟨fun _ h => by cases h⟩
theorem bd {m m' : Mm α} {f f' : α → Mm β} (h : Le m m') (k : ∀ a, Le (f a) (f' a)) : Le (m.bd f) (m'.bd f') := ⟨fun b e => by
  cases m with
  | ok a => rw [h.h a rfl]; exact (k a).h b e
  | ex _ => cases e
  | bad => cases e⟩
theorem noEx {m m' : Mm α} (h : Le m m') : Le m (Wk.noEx m') := ⟨fun a e => by rw [h.h a e] <;> rfl⟩
theorem noE (m : Mm α) : Le m (Wk.noEx m) := noEx (refl m)
theorem cond {c : Bool} {m n m' n' : Mm α} (h : Le m m') (k : Le n n') : Le (_root_.cond c m n) (_root_.cond c m' n') := by cases c <;> assumption
theorem foldM {f f' : S → α → Mm S} (h : ∀ s x, Le (f s x) (f' s x)) : ∀ (s : S) (l : List α), Le (Wk.foldM f s l) (Wk.foldM f' s l)
  | s, [] => refl _
  | s, x :: l => bd (h s x) fun s' => foldM h s' l
theorem foldL {f f' : S → α → Mm (Fl R S)} (h : ∀ s x, Le (f s x) (f' s x)) : ∀ (s : S) (l : List α), Le (Wk.foldL f s l) (Wk.foldL f' s l)
  | s, [] => refl _
  | s, x :: l => bd (h s x) fun o => by cases o <;> first | exact foldL h _ l | exact refl _
theorem el {o : Fl R S} {g g' : S → Mm β} {r r' : R → Mm β} (h : ∀ s, Le (g s) (g' s)) (k : ∀ x, Le (r x) (r' x)) : Le (o.el g r) (o.el g' r') := by
  cases o with
  | go s => exact h s
  | brk s => exact h s
  | ret x => exact k x
theorem foldW {c c' : S → Mm Bool} {f f' : S → Mm S} (h : ∀ s, Le (c s) (c' s)) (k : ∀ s, Le (f s) (f' s)) : ∀ (n : Nat) (s : S), Le (Wk.foldW c f n s) (Wk.foldW c' f' n s)
  | 0, s => bad _
  | n + 1, s => bd (h s) fun b => by cases b <;> first | exact bd (k s) fun s' => foldW h k n s' | exact refl _
theorem mapMm {f f' : α → Mm γ} (h : ∀ x, Le (f x) (f' x)) : ∀ l : List α, Le (Wk.mapMm f l) (Wk.mapMm f' l)
  | [] => refl _
  | x :: l => bd (h x) fun y => bd (mapMm h l) fun ys => refl _
theorem filMm {f f' : α → Mm (Option γ)} (h : ∀ x, Le (f x) (f' x)) : ∀ l : List α, Le (Wk.filMm f l) (Wk.filMm f' l)
  | [] => refl _
  | x :: l => bd (h x) fun y => bd (filMm h l) fun ys => refl _
end Le
theorem post_le {α β : Type} {m m' : Mm α} {f : α → Mm β} {ok : β → Prop} (l : Le m m') (h : Post (m.bd f) ok fun _ => False) : Post m' (fun a => Post (f a) ok fun _ => False) (fun _ => False) := by
  cases m with
  | ok a => rw [l.h a rfl]; exact ⟨⟨h.h⟩⟩
  | ex e => exact h.h.elim
  | bad => exact h.h.elim
end Wk

set_option Elab.async false
set_option linter.all false
set_option maxRecDepth 100000
set_option maxHeartbeats 4000000
namespace Wk
open PySem L2 Evl PySem.Spec PyProof.Rows
/-! ### a tuple, repeated not at all -/
theorem tuple_mulW0 (l : Addr) (items : Array Value) (n : Nat) (dd : Option Addr) (sl : Array (Option Value)) (x : Int) (u : Tok) (c0 : (decide (x < -(2 ^ 63)) || decide (x ≥ 2 ^ 63)) = false) (c1 : (items.isEmpty || x == 1) = false) (c2 : (decide (x ≤ 0) || items.isEmpty) = true) :
    Meets (Builtin.«tuple.__mul__» ⟨[.ref l, .int x u], []⟩) (fun _ R s => s.heap.get? l = some { cls := .type "tuple", dict := dd, data := .seq items n, slots := sl } ∧
      R (.ok (.ret (Value.ref s.heap.objs.size))) { s with heap := s.heap.push { cls := Value.type "tuple", data := Data.seq #[] }, toks := s.toks }) :=
  .of_wp fun prog w A R s h => by
    obtain ⟨hp, g, d, tk, os⟩ := s
    obtain ⟨hl, h⟩ := h
    have f1 := AutoSeq1.idx_int
    wp_walk using wpAny_loadPart' hl
    repeat (first
      | (refine wpAny_ite_false (decide_eq_false (by rw [c0]; exact Bool.false_ne_true)) ?_; wp_walk using wpAny_loadPart' hl)
      | (refine wpAny_ite_false (decide_eq_false (by rw [c1]; exact Bool.false_ne_true)) ?_; wp_walk using wpAny_loadPart' hl)
      | (refine wpAny_ite_true (decide_eq_true (by rw [c2])) ?_; wp_walk using wpAny_loadPart' hl))
    exact ⟨_, rfl, h⟩
def rRepZ (K : PySem.W.Frag) : R2 := fun x y H Q => ∃ l k xs, x = .ref l ∧ y = .int k ∧ SqT K H l xs ∧ xs ≠ [] ∧ -(2 ^ 62) ≤ k ∧ k ≤ 1000 ∧ xs.length ≤ 1000 ∧ (k = 1 → Q (.ref l) H) ∧ (k ≠ 1 → ∀ p, H p = none → Q (.ref p) (upd H p (.tup (List.replicate k.toNat xs).flatten)))
theorem op_repZ {X : Cx} : OpR X (binaryOp .Mult) (rRepZ X.K) := by
  intro pins s σ H x y v u Q I rx ry h
  obtain ⟨l, k, xs, rfl, rfl, hT, hne, h1, h2, hz, q1, q2⟩ := h
  by_cases e : 1 ≤ k
  · exact op_repTM pins s σ H _ _ v u Q I rx ry ⟨l, k, xs, rfl, rfl, hT, hne, e, h2, hz, q1, fun z => q2 (by omega)⟩
  · cases rx
    obtain ⟨t, rfl⟩ := ry
    obtain ⟨its, r, ⟨⟨cls, dd, data, sl⟩, ho, hc, n, hd⟩, hs⟩ := I.tuple hT
    simp only at hc hd
    subst hc hd
    have hle : its.length = xs.length := r.length.symm
    have hi : its.toArray.isEmpty = false := by
      cases its with
      | nil => exact absurd (List.eq_nil_of_length_eq_zero hle.symm) hne
      | cons a b => rfl
    have c0 : (decide (k < -(2 ^ 63)) || decide (k ≥ 2 ^ 63)) = false := by rw [decide_eq_false (by omega), decide_eq_false (by omega)] <;> rfl
    have c1 : (its.toArray.isEmpty || k == 1) = false := by rw [hi, Bool.false_or]; exact beq_eq_false_iff_ne.mpr (by omega)
    have c2 : (decide (k ≤ 0) || its.toArray.isEmpty) = true := by rw [decide_eq_true (by omega)]; rfl
    have q3 := q2 (by omega)
    have e0 : (List.replicate k.toNat xs).flatten = [] := by
      rw [show k.toNat = 0 by omega]
      rfl
    rw [e0] at q3
    refine wpAny_binaryOp_repeat_ref (T := "tuple") (U := "int") (by decide) ⟨_, ho, rfl⟩ (fun s' => typeIs_int s' k t) noFill_tuple_mul F.fills_int_mul F.slot_int_rmul repeat_tuple F.slot_int_index.lookup
      (call_meets F.slot_int_rmul (typeIs_int s k t) F.entry_int_rmul (F.args_int_rmul_2 _ _) (int_rmul_tuple k t l its.toArray n dd sl)
        ⟨ho, rfl, ⟨_, ho, rfl⟩, call_meets F.slot_tuple_mul ⟨_, ho, rfl⟩ F.entry_tuple_mul (F.args_tuple_mul_2 _ _) (tuple_mulW0 l its.toArray n dd sl k t c0 c1 c2) ⟨ho, ?_⟩⟩)
    refine ⟨.ref s.heap.objs.size, _, I.laid (t' := s.toks) (o := .tup []) (fun b ob q => Heap.get?_push_of_some _ q) (Nat.le_refl _) ?_, rfl, q3 _ (I.hok.fresh (Nat.le_refl _))⟩
    exact ⟨by rw [sizeLine_eq]; exact Nat.zero_le _, _, .nil, IsTup.new _ _⟩
section
variable {K : PySem.W.Frag} {M : List Addr} {F H : Hp} {Q : VK} {α : Type} {en : α → PyData} {l : List α} {xs : List V} {a : Addr} {j : Int}
/-- a tuple, repeated, perhaps not at all -/
theorem rep_tupZ (e : Ex F H) (s : SqT K F a xs) (d : DqAll K F xs (l.map en)) (h : 1 ≤ l.length ∧ l.length ≤ 1000 ∧ -4611686018427387904 ≤ j ∧ j ≤ 1000) (k : Ret M F H (fun F' _ v => Dq K F' v (eV en (List.replicate j.toNat l).flatten)) Q) : rRepZ K (.ref a) (.int j) H Q := by
  have hl : xs.length = l.length := by rw [d.len, List.length_map]
  refine ⟨a, j, xs, rfl, rfl, ex_t e s, fun z => ?_, by have := h.2.2.1; omega, h.2.2.2, by omega, fun z => ?_, fun _ p hp => ?_⟩
  · rw [z] at hl
    simp only [List.length_nil] at hl
    omega
  · have e1 : (List.replicate j.toNat l).flatten = l := by
      rw [z]
      simp
    rw [e1] at k
    exact k _ _ _ (Gm.refl e) (.tup s d)
  · have g : Gm M F H (upd F p (.tup (List.replicate j.toNat xs).flatten)) (upd H p (.tup (List.replicate j.toNat xs).flatten)) := Gm.new e hp
    exact k _ _ _ g (.tup (st_of upd_same) ((all_rep d _).up g.f))
end
end Wk
namespace Wk
open PySem L2 Evl
section
variable {K : PySem.W.Frag} {M : List Addr} {F H : Hp} {Q : VK} {α : Type} {en : α → PyData} {l : List α} {xs : List V} {a : Addr}
/-- a cut of an own list -/
theorem cut_lstO {lo hi : Option Int} (e : Ex F H) (s : H a = some (.lst xs)) (h : DqAll K F xs (l.map en)) (k : Ret M F H (fun F' _ v => Dq K F' v (eL en (cutL l lo hi))) Q) : rSlL K (.ref a) lo hi H Q :=
  ⟨a, xs, rfl, sq_of s, fun p hp => by
    have g : Gm M F H (upd F p (.lst (cutV xs lo hi))) (upd H p (.lst (cutV xs lo hi))) := Gm.new e hp
    exact k _ _ _ g (.lst upd_same ((cut_all h).up g.f))⟩
end
end Wk

set_option Elab.async false
set_option linter.all false
set_option maxRecDepth 100000
set_option maxHeartbeats 4000000
namespace Wk
open PySem L2 Evl LamX PyProof.Rows
/-! ### ways on which lambdas are made -/
theorem ExN.refl (F : Hp) : ExN F F := fun _ _ h _ => h
theorem ExN.trans {F G H : Hp} (a : ExN F G) (b : ExN G H) : ExN F H := fun c o h n => b c o (a c o h n) n
theorem ExN.of {F G : Hp} (e : Ex F G) : ExN F G := fun c o h _ => e c o h
/-- what stands behind such a way: tables apart, what was fixed is fixed -/
structure GN (T : List (Addr × Str)) (F F' H' : Hp) : Prop where
  f : ExN F F'
  s : Ex F' H'
  t : Tabs T H'
theorem GN.refl {T : List (Addr × Str)} {F H : Hp} (e : Ex F H) (t : Tabs T H) : GN T F F H := ⟨ExN.refl _, e, t⟩
theorem GN.trans {T : List (Addr × Str)} {F F1 H1 F2 H2 : Hp} (a : GN T F F1 H1) (b : GN T F1 F2 H2) : GN T F F2 H2 := ⟨a.f.trans b.f, b.s, b.t⟩
section
variable {T : List (Addr × Str)} {F H : Hp} {σ : L2.St} {α S β : Type} {a : Bool} {Y : Mm (Bool × S)} {rest : Bool × S → Mm α} {st : S} {ok : α → Prop} {ex : Er → Prop} {Q : Bool → Hp → Prop} {u : TT}
theorem and_jN (W : S → Hp → Hp → Prop) (g0 : GN T F F H) (h0 : W st F H) (k : Post ((cond a Y (.ok (false, st))).bd rest) ok ex)
    (hu : a = true → ∀ Q' : Bool → Hp → Prop, Post Y (fun b => ∀ F' H', GN T F F' H' → W b.2 F' H' → Q' b.1 H') ex → u σ H Q')
    (kk : ∀ b F' H', GN T F F' H' → W b.2 F' H' → Post (rest b) ok ex → Q b.1 H') : if a = true then u σ H Q else Q false H := by
  cases a with
  | false => rw [if_neg Bool.false_ne_true]; exact kk (false, st) F H g0 h0 ⟨k.h⟩
  | true => rw [if_pos rfl]; exact hu rfl Q ((post_bd k).mono (fun b q F' H' g s => kk b F' H' g s q) fun _ z => z)
theorem or_jN (W : S → Hp → Hp → Prop) (g0 : GN T F F H) (h0 : W st F H) (k : Post ((cond a (.ok (true, st)) Y).bd rest) ok ex)
    (hu : a = false → ∀ Q' : Bool → Hp → Prop, Post Y (fun b => ∀ F' H', GN T F F' H' → W b.2 F' H' → Q' b.1 H') ex → u σ H Q')
    (kk : ∀ b F' H', GN T F F' H' → W b.2 F' H' → Post (rest b) ok ex → Q b.1 H') : if a = true then Q true H else u σ H Q := by
  cases a with
  | true => rw [if_pos rfl]; exact kk (true, st) F H g0 h0 ⟨k.h⟩
  | false => rw [if_neg Bool.false_ne_true]; exact hu rfl Q ((post_bd k).mono (fun b q F' H' g s => kk b F' H' g s q) fun _ z => z)
end
section
variable {T : List (Addr × Str)} {F H : Hp} {σ : L2.St} {D : Ends} {g : TG} {tb : TS} {α β S : Type} {step : S → Int → Mm S} {rest : S → Mm β} {ok : β → Prop} {ex : Er → Prop} {s0 : S} {lo : Int} {n : Nat}
theorem for_mN (I : S → Hp → Hp → L2.St → Prop) (k : Post ((foldM step s0 (rangeL lo n)).bd rest) ok ex) (g0 : GN T F F H) (h0 : I s0 F H σ)
    (hb : ∀ s x σ' F' H', GN T F F' H' → I s F' H' σ' → ∀ nx : L2.St → Hp → Prop,
      Post (step s x) (fun s' => ∀ σ2 F2 H2, GN T F F2 H2 → I s' F2 H2 σ2 → nx σ2 H2) ex → g (V.int x) σ' H' fun σ2 H2 => tb { D with nx := nx, ct := nx, bk := D.nx } σ2 H2)
    (kk : ∀ s σ' F' H', GN T F F' H' → I s F' H' σ' → Post (rest s) ok ex → D.nx σ' H') :
    ∃ W : Nat → Nat → L2.St → Hp → Prop, (∃ m, W 0 m σ H) ∧ ∀ i m σ H, W i m σ H →
      ((Itr lo n).stop i H ∧ D.nx σ H) ∨ ((Itr lo n).go i H ∧ ∃ N : L2.St → Hp → Prop, (∀ σ' H', N σ' H' → ∃ m', m' < m ∧ W (i + 1) m' σ' H') ∧ ∀ x H', (Itr lo n).yld i H x H' → g x σ H' fun σ2 H2 => tb { D with nx := N, ct := N, bk := D.nx } σ2 H2) := by
  refine for_it (walk_range (lo := lo) (n := n)) (fun i σ' H' => ∃ s F', GN T F F' H' ∧ I s F' H' σ' ∧ Post ((foldM step s ((rangeL lo n).drop i)).bd rest) ok ex) ⟨s0, F, g0, h0, k⟩ (fun _ _ _ _ _ => trivial) ?_ ?_
  · rintro i v σ' H' H'' hi ⟨s, F', g', i', k'⟩ y
    have hl : i < (rangeL lo n).length := by simpa [rangeL] using hi
    have e1 : (rangeL lo n).drop i = (rangeL lo n)[i] :: (rangeL lo n).drop (i + 1) := List.drop_eq_getElem_cons hl
    rw [e1] at k'
    have k2 := post_bd (post_assoc k')
    obtain ⟨rfl, hv⟩ := y
    have ex_ := rangeL_at (List.getElem?_eq_getElem hl)
    rw [hv.trans (show _ = V.int (rangeL lo n)[i] by rw [ex_])]
    exact hb s (rangeL lo n)[i] σ' F' _ g' i' _ (k2.mono (fun s' q σ2 F2 H2 g2 i2 => ⟨s', F2, g2, i2, q⟩) fun _ z => z)
  · rintro σ' H' ⟨s, F', g', i', k'⟩
    have hn : (rangeL lo n).length = n := by simp [rangeL]
    rw [← hn, hn, List.drop_eq_nil_of_le (by omega)] at k'
    exact kk s σ' F' H' g' i' ⟨k'.h⟩
theorem for_mLN {R : Type} {stepL : S → Int → Mm (Fl R S)} {ret : R → Mm β} (I : S → Hp → Hp → L2.St → Prop) (k : Post ((foldL stepL s0 (rangeL lo n)).bd fun o => o.el rest ret) ok ex) (g0 : GN T F F H) (h0 : I s0 F H σ)
    (hb : ∀ s x σ' F' H', GN T F F' H' → I s F' H' σ' → ∀ nx : L2.St → Hp → Prop,
      Post (stepL s x) (fun o => match o with
        | .go s' => ∀ σ2 F2 H2, GN T F F2 H2 → I s' F2 H2 σ2 → nx σ2 H2
        | .brk s' => ∀ σ2 F2 H2, GN T F F2 H2 → I s' F2 H2 σ2 → D.nx σ2 H2
        | .ret r => Post (ret r) ok ex) ex → g (V.int x) σ' H' fun σ2 H2 => tb { D with nx := nx, ct := nx, bk := D.nx } σ2 H2)
    (kk : ∀ s σ' F' H', GN T F F' H' → I s F' H' σ' → Post (rest s) ok ex → D.nx σ' H') :
    ∃ W : Nat → Nat → L2.St → Hp → Prop, (∃ m, W 0 m σ H) ∧ ∀ i m σ H, W i m σ H →
      ((Itr lo n).stop i H ∧ D.nx σ H) ∨ ((Itr lo n).go i H ∧ ∃ N : L2.St → Hp → Prop, (∀ σ' H', N σ' H' → ∃ m', m' < m ∧ W (i + 1) m' σ' H') ∧ ∀ x H', (Itr lo n).yld i H x H' → g x σ H' fun σ2 H2 => tb { D with nx := N, ct := N, bk := D.nx } σ2 H2) := by
  refine for_it (walk_range (lo := lo) (n := n)) (fun i σ' H' => ∃ s F', GN T F F' H' ∧ I s F' H' σ' ∧ Post ((foldL stepL s ((rangeL lo n).drop i)).bd fun o => o.el rest ret) ok ex) ⟨s0, F, g0, h0, k⟩ (fun _ _ _ _ _ => trivial) ?_ ?_
  · rintro i v σ' H' H'' hi ⟨s, F', g', i', k'⟩ y
    have hl : i < (rangeL lo n).length := by simpa [rangeL] using hi
    have e1 : (rangeL lo n).drop i = (rangeL lo n)[i] :: (rangeL lo n).drop (i + 1) := List.drop_eq_getElem_cons hl
    rw [e1] at k'
    have k2 := post_bd (post_assoc k')
    obtain ⟨rfl, hv⟩ := y
    have ex_ := rangeL_at (List.getElem?_eq_getElem hl)
    rw [hv.trans (show _ = V.int (rangeL lo n)[i] by rw [ex_])]
    refine hb s (rangeL lo n)[i] σ' F' _ g' i' _ (k2.mono (fun o q => ?_) fun _ z => z)
    cases o with
    | go s' => exact fun σ2 F2 H2 g2 i2 => ⟨s', F2, g2, i2, ⟨q.h⟩⟩
    | brk s' => exact fun σ2 F2 H2 g2 i2 => kk s' σ2 F2 H2 g2 i2 ⟨q.h⟩
    | ret r => exact ⟨q.h⟩
  · rintro σ' H' ⟨s, F', g', i', k'⟩
    have hn : (rangeL lo n).length = n := by simp [rangeL]
    rw [List.drop_eq_nil_of_le (by omega)] at k'
    exact kk s σ' F' H' g' i' ⟨k'.h⟩
end
end Wk

set_option Elab.async false
set_option linter.all false
set_option maxRecDepth 100000
set_option maxHeartbeats 4000000
namespace Wk
open PySem L2 Evl
/-! ### the least of a list -/
def minM (l : List Int) : Mm Int := match l with
  | [] => .bad
  | x :: l => .ok (l.foldl minI x)
theorem post_minM {β : Type} {l : List Int} {f : Int → Mm β} {ok : β → Prop} {ex : Er → Prop} (k : Post ((minM l).bd f) ok ex) : ∃ m, minM l = .ok m ∧ Post (f m) ok ex := by
  cases l with
  | nil => exact k.h.elim
  | cons x l => exact ⟨_, rfl, ⟨k.h⟩⟩
theorem minM_pos {l : List Int} {m : Int} (h : minM l = .ok m) : 0 < l.length := by
  cases l with
  | nil => cases h
  | cons x l => simp
theorem min_fold : ∀ (l : List Int) (x : Int), (l.foldl minI x ∈ x :: l) ∧ ∀ y ∈ x :: l, l.foldl minI x ≤ y
  | [], x => ⟨List.mem_cons_self .., fun y hy => by rw [List.mem_singleton.mp hy]; exact Int.le_refl _⟩
  | z :: l, x => by
    obtain ⟨h1, h2⟩ := min_fold l (minI x z)
    rw [List.foldl_cons]
    have e : minI x z = x ∨ minI x z = z := by
      unfold minI
      split <;> simp
    have e2 : minI x z ≤ x ∧ minI x z ≤ z := by
      unfold minI
      split <;> omega
    have h3 := h2 _ (List.mem_cons_self ..)
    refine ⟨?_, fun y hy => ?_⟩
    · rcases List.mem_cons.mp h1 with q | q
      · rw [q]
        rcases e with e | e <;> rw [e] <;> simp
      · exact List.mem_cons_of_mem _ (List.mem_cons_of_mem _ q)
    · rcases List.mem_cons.mp hy with rfl | hy
      · omega
      · rcases List.mem_cons.mp hy with rfl | hy
        · omega
        · exact h2 y (List.mem_cons_of_mem _ hy)
theorem minM_eq {l : List Int} {m m' : Int} (h : minM l = .ok m) (h1 : m' ∈ l) (h2 : ∀ y ∈ l, m' ≤ y) : m' = m := by
  cases l with
  | nil => cases h
  | cons x l =>
    obtain ⟨a, b⟩ := min_fold l x
    cases h
    have := h2 _ a
    have := b _ h1
    omega
theorem all_bls {K : PySem.W.Frag} {F : Hp} : ∀ {xs : List V} {l : List Bool}, DqAll K F xs (l.map PyData.bool) → xs = l.map V.bl
  | [], [], _ => rfl
  | _ :: _, b :: l, h => by
    cases h with
    | cons h1 h2 =>
      obtain rfl := dp_bl h1
      rw [all_bls h2]
      rfl
end Wk

set_option Elab.async false
set_option linter.all false
set_option maxRecDepth 100000
set_option maxHeartbeats 1000000
set_option exponentiation.threshold 100
namespace Wk
open PySem L2
theorem bdo {α β : Type} {a : α} {f : α → Mm β} : (Mm.ok a).bd f = f a := rfl
theorem cF {α : Type} {c : Bool} {x y : α} (h : c = false) : cond c x y = y := by subst h; rfl
theorem cT {α : Type} {c : Bool} {x y : α} (h : c = true) : cond c x y = x := by subst h; rfl
theorem guard_ok {c : Prop} [Decidable c] (h : c) : guardM c = .ok () := if_pos h
theorem intc_ne {n : Int} (h : n ≠ 0) : ((n : Int) : Rat) ≠ 0 := fun z => h (Rat.intCast_inj.mp (show ((n : Int) : Rat) = ((0 : Int) : Rat) from z))
theorem fr_zero : fr 0 = (0, 1) := by decide
theorem fr_one : fr 1 = (1, 1) := by decide
theorem fr_of_int (n : Int) : fr ((n : Int) : Rat) = (n, 1) := by
  unfold fr
  rw [Rat.num_intCast, Rat.den_intCast]
  rfl
theorem sq_int {n : Int} {a : Nat} (h : n.natAbs < 2 ^ a) (h0 : 0 < a) : Sq a ((n : Int) : Rat) := by
  unfold Sq
  rw [Rat.num_intCast, Rat.den_intCast]
  exact ⟨h, Nat.one_lt_two_pow (by omega)⟩
theorem zero_sq : Sq 1 0 := by unfold Sq; decide
theorem one_sq : Sq 1 1 := by unfold Sq; decide
theorem zero_sqn {a : Nat} (h : 0 < a) : Sq a 0 := zero_sq.up h
/-- a fraction by any terms -/
theorem fr_flip (a b : Int) : (a : Rat) / (b : Rat) = (((-a : Int) : Rat) / ((-b : Int) : Rat)) := by
  push_cast
  grind
theorem fdiv_neg_dvd {g a : Int} (h : 0 < g) (d : g ∣ a) : a.fdiv (-g) = (-a) / g := by
  obtain ⟨c, rfl⟩ := d
  have e : g * c = (-g) * (-c) := by rw [Int.neg_mul_neg]
  have e2 : -(g * c) = g * (-c) := by rw [Int.mul_neg]
  rw [e2, Int.mul_ediv_cancel_left _ (by omega), e, Int.mul_fdiv_cancel_left _ (by omega)]
theorem gcd_posZ {a b : Int} (h : b ≠ 0) : 0 < ((Nat.gcd a.natAbs b.natAbs : Nat) : Int) := by
  have : 0 < Nat.gcd a.natAbs b.natAbs := Nat.gcd_pos_of_pos_right _ (by omega)
  omega
theorem gcd_leZ {a b : Int} (h : b ≠ 0) : ((Nat.gcd a.natAbs b.natAbs : Nat) : Int).natAbs ≤ b.natAbs := by
  rw [Int.natAbs_natCast]
  exact Nat.gcd_le_right _ (by omega)
theorem fr_pos {a b : Int} (h : 0 < b) : fr ((a : Rat) / (b : Rat)) = (a.fdiv ((Nat.gcd a.natAbs b.natAbs : Nat) : Int), b.fdiv ((Nat.gcd a.natAbs b.natAbs : Nat) : Int)) := by
  have g0 := gcd_posZ (a := a) (b := b) (by omega)
  rw [Int.fdiv_eq_ediv_of_nonneg _ (Int.le_of_lt g0), Int.fdiv_eq_ediv_of_nonneg _ (Int.le_of_lt g0)]
  exact fr_int a h
theorem fr_neg {a b : Int} (h : b < 0) : fr ((a : Rat) / (b : Rat)) = (a.fdiv (-((Nat.gcd a.natAbs b.natAbs : Nat) : Int)), b.fdiv (-((Nat.gcd a.natAbs b.natAbs : Nat) : Int))) := by
  have g0 := gcd_posZ (a := a) (b := b) (by omega)
  rw [fdiv_neg_dvd g0 (Int.ofNat_dvd_left.mpr (Nat.gcd_dvd_left _ _)), fdiv_neg_dvd g0 (Int.ofNat_dvd_left.mpr (Nat.gcd_dvd_right _ _)), fr_flip, fr_int (-a) (show 0 < -b by omega), Int.natAbs_neg, Int.natAbs_neg]
theorem sq_any {n : Nat} {a b : Int} (h : b ≠ 0) (ha : a.natAbs < 2 ^ n) (hb : b.natAbs < 2 ^ n) : Sq n ((a : Rat) / (b : Rat)) := by
  by_cases q : 0 < b
  · exact sq_div q ha hb
  · rw [fr_flip]
    exact sq_div (by omega) (by omega) (by omega)
/-- x stands for q, in any terms -/
structure Rx (n : Nat) (x : Int × Int) (q : Rat) : Prop where
  nz : x.2 ≠ 0
  t : x.1.natAbs < 2 ^ n
  b : x.2.natAbs < 2 ^ n
  v : (x.1 : Rat) / (x.2 : Rat) = q
theorem Rx.sq {n : Nat} {x : Int × Int} {q : Rat} (h : Rx n x q) : Sq n q := by
  rw [← h.v]
  exact sq_any h.nz h.t h.b
theorem Rx.up {n m : Nat} {x : Int × Int} {q : Rat} (h : Rx n x q) (l : n ≤ m) : Rx m x q := ⟨h.nz, up_lt h.t l, up_lt h.b l, h.v⟩
theorem rx_fr {n : Nat} {q : Rat} (h : Sq n q) : Rx n (fr q) q := ⟨by have := den_posI q; show ((q.den : Nat) : Int) ≠ 0; omega, h.1, h.d, fr_val q⟩
theorem rx_int {n : Nat} {i : Int} (h : i.natAbs < 2 ^ n) (h0 : 0 < n) : Rx n (i, 1) (i : Rat) := by
  rw [← fr_of_int]
  exact rx_fr (sq_int h h0)
theorem mul_nz {a b : Int} (h : a ≠ 0) (h2 : b ≠ 0) : a * b ≠ 0 := Int.mul_ne_zero h h2
theorem rx_add {x y : Int × Int} {p q : Rat} {a b : Nat} (hx : Rx a x p) (hy : Rx b y q) : ((x.1 * y.2 + y.1 * x.2 : Int) : Rat) / ((x.2 * y.2 : Int) : Rat) = p + q := by
  rw [← hx.v, ← hy.v]
  have h1 := intc_ne hx.nz
  have h2 := intc_ne hy.nz
  push_cast
  grind
theorem rx_sub {x y : Int × Int} {p q : Rat} {a b : Nat} (hx : Rx a x p) (hy : Rx b y q) : ((x.1 * y.2 - y.1 * x.2 : Int) : Rat) / ((x.2 * y.2 : Int) : Rat) = p - q := by
  rw [← hx.v, ← hy.v]
  have h1 := intc_ne hx.nz
  have h2 := intc_ne hy.nz
  push_cast
  grind
theorem rx_mul {x y : Int × Int} {p q : Rat} {a b : Nat} (hx : Rx a x p) (hy : Rx b y q) : ((x.1 * y.1 : Int) : Rat) / ((x.2 * y.2 : Int) : Rat) = p * q := by
  rw [← hx.v, ← hy.v]
  have h1 := intc_ne hx.nz
  have h2 := intc_ne hy.nz
  push_cast
  grind
theorem Rx.top {x : Int × Int} {q : Rat} {n : Nat} (h : Rx n x q) (hq : q ≠ 0) : x.1 ≠ 0 := fun z => by
  have := h.v
  rw [z] at this
  have e : ((0 : Int) : Rat) / (x.2 : Rat) = 0 := by
    push_cast
    grind
  exact hq (by rw [← this, e])
theorem rx_div {x y : Int × Int} {p q : Rat} {a b : Nat} (hx : Rx a x p) (hy : Rx b y q) (hq : q ≠ 0) : ((x.1 * y.2 : Int) : Rat) / ((x.2 * y.1 : Int) : Rat) = p / q := by
  have h0 := intc_ne (hy.top hq)
  have h1 := intc_ne hx.nz
  have h2 := intc_ne hy.nz
  rw [← hx.v, ← hy.v]
  push_cast
  grind
theorem sq_subB {p q : Rat} {a b n : Nat} (ha : Sq a p) (hb : Sq b q) (h : a + b < n) : Sq n (p - q) := by
  rw [← rx_sub (rx_fr ha) (rx_fr hb)]
  refine sq_div (Int.mul_pos (den_posI p) (den_posI q)) ?_ (mul_lt ha.d hb.d (by omega))
  exact sub_lt (mul_lt ha.1 hb.d (Nat.le_refl _)) (mul_lt hb.1 ha.d (Nat.le_refl _)) (by omega) (by omega)
theorem sq_negB {q : Rat} {a : Nat} (h : Sq a q) : Sq a (-q) := by
  unfold Sq
  rw [Rat.neg_num, Rat.neg_den, Int.natAbs_neg]
  exact h
theorem sq_divB {p q : Rat} {a b n : Nat} (ha : Sq a p) (hb : Sq b q) (hq : q ≠ 0) (h : a + b ≤ n) : Sq n (p / q) := by
  rw [← rx_div (rx_fr ha) (rx_fr hb) hq]
  exact sq_any (mul_nz (rx_fr ha).nz ((rx_fr hb).top hq)) (mul_lt ha.1 hb.d h) (mul_lt ha.d hb.1 h)
theorem fr_negv (q : Rat) : ((0 : Int) - (fr q).1, (fr q).2) = fr (-q) := by
  unfold fr
  rw [Rat.neg_num, Rat.neg_den, Int.zero_sub]
def Sqs (a : Nat) (l : List Rat) : Prop := ∀ q ∈ l, Sq a q
theorem Sqs.up {a b : Nat} {l : List Rat} (h : Sqs a l) (k : a ≤ b) : Sqs b l := fun q hq => (h q hq).up k
/-! ### folds -/
theorem foldM_map {α β S : Type} {f : S → β → Mm S} {g : α → β} : ∀ (l : List α) (s : S), foldM f s (l.map g) = foldM (fun s x => f s (g x)) s l
  | [], s => rfl
  | x :: l, s => by
    rw [List.map_cons]
    show (f s (g x)).bd _ = (f s (g x)).bd _
    congr 1
    funext s'
    exact foldM_map l s'
theorem mapMm_map {α β γ : Type} {f : β → Mm γ} {g : α → β} : ∀ l : List α, mapMm f (l.map g) = mapMm (fun x => f (g x)) l
  | [] => rfl
  | x :: l => by
    rw [List.map_cons]
    unfold mapMm
    rw [mapMm_map l]
theorem zero_add' (q : Rat) : 0 + q = q := by grind
theorem fold_fr {α : Type} {f : Int × Int → α → Mm (Int × Int)} {v : α → Rat} {c : Nat} : ∀ (l : List α), (∀ x ∈ l, Sq c (v x) ∧ ∀ p a, Sq a p → a + c < 8999 → f (fr p) x = .ok (fr (p + v x))) → ∀ (p : Rat) (a : Nat), Sq a p → a + (c + 1) * l.length < 8998 →
    foldM f (fr p) l = .ok (fr (p + (l.map v).sum)) ∧ Sq (a + (c + 1) * l.length) (p + (l.map v).sum)
  | [], _, p, a, ha, _ => by
    have e : p + ([].map v).sum = p := by
      show p + 0 = p
      grind
    rw [e]
    exact ⟨rfl, ha⟩
  | x :: l, h, p, a, ha, hl => by
    have e1 : (c + 1) * (x :: l).length = (c + 1) * l.length + (c + 1) := by rw [List.length_cons, Nat.mul_succ]
    obtain ⟨sx, hx⟩ := h x (List.mem_cons_self ..)
    obtain ⟨h1, h2⟩ := fold_fr l (fun y hy => h y (List.mem_cons_of_mem _ hy)) (p + v x) (a + c + 1) (sq_add ha sx (by omega)) (by omega)
    have e2 : p + ((x :: l).map v).sum = p + v x + (l.map v).sum := by
      rw [List.map_cons, List.sum_cons]
      grind
    rw [e2]
    refine ⟨?_, h2.up (by omega)⟩
    unfold foldM
    rw [hx p a ha (by omega)]
    exact h1
/-- a sum that begins with 0 -/
theorem fold_fr0 {α : Type} {f : Int × Int → α → Mm (Int × Int)} {v : α → Rat} {c : Nat} (l : List α) (h : ∀ x ∈ l, Sq c (v x) ∧ ∀ p a, Sq a p → a + c < 8999 → f (fr p) x = .ok (fr (p + v x))) (hl : (c + 1) * l.length < 8996) :
    foldM f ((0, 1) : Int × Int) l = .ok (fr (l.map v).sum) ∧ Sq (1 + (c + 1) * l.length) (l.map v).sum := by
  have := fold_fr l h 0 1 zero_sq (by omega)
  rw [zero_add', fr_zero] at this
  exact this
/-! ### polynomials -/
def ev : List Rat → Rat → Rat
  | [], _ => 0
  | c :: l, x => c + x * ev l x
theorem ev_sq {p : Rat} {b c : Nat} (hp : Sq b p) : ∀ l : List Rat, Sqs c l → Sq ((b + c + 1) * l.length + 1) (ev l p)
  | [], _ => zero_sqn (by omega)
  | x :: l, h => by
    have ih := ev_sq hp l fun q hq => h q (List.mem_cons_of_mem _ hq)
    have e : (b + c + 1) * (x :: l).length = (b + c + 1) * l.length + (b + c + 1) := by rw [List.length_cons, Nat.mul_succ]
    exact sq_add (h x (List.mem_cons_self ..)) (sq_mul hp ih (Nat.le_refl _)) (by omega)
theorem foldM_app {α S : Type} {f : S → α → Mm S} : ∀ (l r : List α) (s : S), foldM f s (l ++ r) = (foldM f s l).bd fun s' => foldM f s' r
  | [], r, s => rfl
  | x :: l, r, s => by
    show (f s x).bd (fun s' => foldM f s' (l ++ r)) = ((f s x).bd fun s' => foldM f s' l).bd fun s' => foldM f s' r
    rw [bd_assoc]
    congr 1
    funext s'
    exact foldM_app l r s'
/-- Horner's way -/
theorem horner {f : Int × Int → Rat → Mm (Int × Int)} {p : Rat} {b c : Nat} (hp : Sq b p) (N : Nat) (hf : ∀ x, Sq c x → ∀ q a, Sq a q → a + b + c + 1 ≤ N → f (fr q) x = .ok (fr (q * p + x))) : ∀ (l : List Rat), Sqs c l → (b + c + 1) * l.length + 1 ≤ N → foldM f ((0, 1) : Int × Int) l.reverse = .ok (fr (ev l p))
  | [], _, _ => by
    show Mm.ok _ = _
    rw [← fr_zero]
    rfl
  | x :: l, h, hN => by
    have e : (b + c + 1) * (x :: l).length = (b + c + 1) * l.length + (b + c + 1) := by rw [List.length_cons, Nat.mul_succ]
    have hl : Sqs c l := fun q hq => h q (List.mem_cons_of_mem _ hq)
    rw [List.reverse_cons, foldM_app, horner hp N hf l hl (by omega)]
    show (f _ x).bd _ = _
    rw [hf x (h x (List.mem_cons_self ..)) _ _ (ev_sq hp l hl) (by omega)]
    show Mm.ok _ = _
    congr 2
    show _ = x + p * ev l p
    grind
/-! ### numbered lists, items -/
def numL {α : Type} : Int → List α → List (Int × α)
  | _, [] => []
  | k, x :: l => (k, x) :: numL (k + 1) l
theorem rangeL_succ (k : Int) (n : Nat) : rangeL k (n + 1) = k :: rangeL (k + 1) n := by
  unfold rangeL
  rw [List.range_succ_eq_map, List.map_cons, List.map_map]
  congr 1
  · omega
  · refine List.map_congr_left fun i _ => ?_
    show k + ((i + 1 : Nat) : Int) = k + 1 + (i : Int)
    omega
theorem rangeL_len (k : Int) (n : Nat) : (rangeL k n).length = n := by simp [rangeL]
theorem enum_num {α : Type} : ∀ (l : List α) (k : Int), (rangeL k l.length).zip l = numL k l
  | [], k => rfl
  | x :: l, k => by
    rw [List.length_cons, rangeL_succ, List.zip_cons_cons, enum_num l]
    rfl
theorem enumL_eq {α : Type} (l : List α) : enumL l = numL 0 l := enum_num l 0
theorem numL_len {α : Type} : ∀ (l : List α) (k : Int), (numL k l).length = l.length
  | [], k => rfl
  | x :: l, k => by
    unfold numL
    rw [List.length_cons, numL_len l, List.length_cons]
theorem numL_mem {α : Type} : ∀ (l : List α) (k : Int) (x : Int × α), x ∈ numL k l → k ≤ x.1 ∧ x.1 < k + l.length ∧ x.2 ∈ l
  | [], k, x, h => by cases h
  | y :: l, k, x, h => by
    rcases List.mem_cons.mp h with rfl | h
    · refine ⟨Int.le_refl _, ?_, List.mem_cons_self ..⟩
      show k < k + ((l.length + 1 : Nat) : Int)
      omega
    · obtain ⟨a, b, c⟩ := numL_mem l (k + 1) x h
      refine ⟨by omega, ?_, List.mem_cons_of_mem _ c⟩
      show x.1 < k + ((l.length + 1 : Nat) : Int)
      omega
theorem numL_map {α β : Type} (f : α → β) : ∀ (l : List α) (k : Int), numL k (l.map f) = (numL k l).map fun x => (x.1, f x.2)
  | [], k => rfl
  | x :: l, k => by
    rw [List.map_cons]
    unfold numL
    rw [numL_map f l, List.map_cons]
theorem getM_mid {α : Type} (l r : List α) (x : α) : getM (l ++ x :: r) (l.length : Int) = .ok x := by
  unfold getM
  rw [atI_nat (j := l.length) (v := x) (by simp)]
theorem getM_nat {α : Type} {l : List α} {i : Nat} {x : α} (h : l[i]? = some x) : getM l (i : Int) = .ok x := by
  unfold getM
  rw [atI_nat (j := i) (v := x) h]
theorem getM_last {α : Type} (l : List α) (x : α) : getM (l ++ [x]) (-(1 : Int)) = .ok x := by
  unfold getM
  rw [atI_last]
theorem getM_ok {α : Type} {l : List α} {i : Int} (h : 0 ≤ i) (h2 : i < l.length) : ∃ x, x ∈ l ∧ getM l i = .ok x := by
  have e : i = ((i.toNat : Nat) : Int) := by omega
  have lt : i.toNat < l.length := by omega
  have q := getM_nat (List.getElem?_eq_getElem lt)
  rw [← e] at q
  exact ⟨l[i.toNat], List.getElem_mem lt, q⟩
theorem rangeM_ok {n : Nat} (h : n < 1000000) : rangeM (n : Int) = .ok (rangeL 0 n) := by
  have := range_ok (j := (n : Int)) (by omega) (by omega)
  rw [this, Int.toNat_natCast]
theorem rangeDn_rev (n : Nat) : rangeDn ((n : Int) - 1) n = (rangeL 0 n).reverse := by
  unfold rangeDn rangeL
  rw [← List.map_reverse]
  apply List.ext_getElem
  · simp
  · intro i h1 h2
    simp only [List.length_map, List.length_range] at h1
    simp only [List.getElem_map, List.getElem_range, List.getElem_reverse, List.length_range]
    omega
theorem fold_getR {α S : Type} {h : S → α → Mm S} (L : List α) : ∀ (n : Nat) (l post : List α) (s : S), l.length = n → L = l ++ post → foldM (fun s i => (getM L i).bd fun v => h s v) s (rangeL 0 l.length).reverse = foldM h s l.reverse
  | 0, l, post, s, hn, e => by
    have : l = [] := List.length_eq_zero_iff.mp hn
    subst this
    rfl
  | n + 1, l, post, s, hn, e => by
    rcases List.eq_nil_or_concat l with q | ⟨l', x, q⟩
    · rw [q] at hn
      cases hn
    · rw [List.concat_eq_append] at q
      subst q
      have e1 : rangeL 0 (l' ++ [x]).length = rangeL 0 l'.length ++ [(l'.length : Int)] := by
        unfold rangeL
        rw [List.length_append, List.length_singleton, List.range_succ, List.map_append, List.map_cons, List.map_nil, Int.zero_add]
      have e2 : L = l' ++ x :: post := by rw [e]; simp
      rw [e1, List.reverse_append, List.reverse_append, foldM_app, foldM_app]
      show Mm.bd (Mm.bd (Mm.bd (getM L (l'.length : Int)) _) _) _ = Mm.bd (Mm.bd (h s x) _) _
      have g : getM L (l'.length : Int) = .ok x := by rw [e2]; exact getM_mid _ _ _
      rw [g]
      show Mm.bd (Mm.bd (h s x) _) _ = _
      congr 1
      funext s'
      exact fold_getR L n l' (x :: post) s' (by simpa using hn) e2
theorem fold_get {α S : Type} {h : S → Int → α → Mm S} (L : List α) : ∀ (l pre : List α) (s : S), L = pre ++ l → foldM (fun s i => (getM L i).bd fun v => h s i v) s (rangeL (pre.length : Int) l.length) = foldM (fun s (x : Int × α) => h s x.1 x.2) s (numL (pre.length : Int) l)
  | [], pre, s, _ => rfl
  | x :: l, pre, s, e => by
    rw [List.length_cons, rangeL_succ]
    unfold foldM numL
    rw [e, getM_mid, ← e]
    show (h s _ x).bd _ = (h s _ x).bd _
    congr 1
    funext s'
    have := fold_get (h := h) L l (pre ++ [x]) s' (by rw [e]; simp)
    rw [List.length_append, List.length_singleton] at this
    have e2 : ((pre.length + 1 : Nat) : Int) = (pre.length : Int) + 1 := by omega
    rw [e2] at this
    exact this
/-! ### draws -/
def Rk (N : Nat) (st : Rw) : Prop := 0 ≤ st.seed ∧ st.seed < 2147483647 ∧ 0 ≤ st.pos ∧ st.pos ≤ N
theorem Rk.up {N M : Nat} {st : Rw} (h : Rk N st) (k : N ≤ M) : Rk M st := ⟨h.1, h.2.1, h.2.2.1, by have := h.2.2.2; omega⟩
theorem seedN_ok (s c : Int) : 0 ≤ seedN s c ∧ seedN s c < 2147483647 := by
  unfold seedN
  omega
theorem takenA_ok {scr : List Int} {st : Rw} {many : Int} {N : Nat} (r : Rk N st) (h0 : 0 < many) (h1 : many < 1073741824) (hN : N < 999999) : Yes (takenA scr st many) fun r => (0 ≤ r.1 ∧ r.1 < many) ∧ Rk (N + 1) r.2 := by
  obtain ⟨r1, r2, r3, r4⟩ := r
  unfold takenA
  rw [if_pos ⟨h0, h1, r1, r2, r3, by omega⟩]
  split
  · refine ⟨_, rfl, ⟨Int.emod_nonneg _ (by omega), Int.emod_lt_of_pos _ h0⟩, r1, r2, r3, ?_⟩
    show st.pos ≤ _
    omega
  · split
    · obtain ⟨s1, s2⟩ := seedN_ok st.seed 0
      exact ⟨_, rfl, ⟨Int.emod_nonneg _ (by omega), Int.emod_lt_of_pos _ h0⟩, s1, s2, by show 0 ≤ st.pos + 1; omega, by show st.pos + 1 ≤ _; omega⟩
    · rename_i c _
      obtain ⟨s1, s2⟩ := seedN_ok st.seed c
      exact ⟨_, rfl, ⟨Int.emod_nonneg _ (by omega), Int.emod_lt_of_pos _ h0⟩, s1, s2, by show 0 ≤ st.pos + 1; omega, by show st.pos + 1 ≤ _; omega⟩
theorem takenB_ok {scr : List Int} {st : Rw} {many : Int} {N : Nat} (r : Rk N st) (h0 : 0 < many) (h1 : many < 1073741824) (hN : N < 999999) : Yes (takenB scr st many) fun r => (0 ≤ r.1 ∧ r.1 < many) ∧ Rk (N + 1) r.2 := by
  obtain ⟨r1, r2, r3, r4⟩ := r
  unfold takenB
  rw [if_pos ⟨h0, h1, r1, r2, r3, by omega⟩]
  split
  · refine ⟨_, rfl, ⟨Int.emod_nonneg _ (by omega), Int.emod_lt_of_pos _ h0⟩, r1, r2, r3, ?_⟩
    show st.pos ≤ _
    omega
  · split
    · obtain ⟨s1, s2⟩ := seedN_ok st.seed 0
      exact ⟨_, rfl, ⟨Int.emod_nonneg _ (by omega), Int.emod_lt_of_pos _ h0⟩, s1, s2, by show 0 ≤ st.pos + 1; omega, by show st.pos + 1 ≤ _; omega⟩
    · rename_i c _
      obtain ⟨s1, s2⟩ := seedN_ok st.seed c
      exact ⟨_, rfl, ⟨Int.emod_nonneg _ (by omega), Int.emod_lt_of_pos _ h0⟩, s1, s2, by show 0 ≤ st.pos + 1; omega, by show st.pos + 1 ≤ _; omega⟩
theorem yes_mapS {α γ S : Type} {f : S → α → Mm (γ × S)} (I : S → Nat → Prop) (p : α → γ → Prop) : ∀ (l : List α) (s : S), I s l.length → (∀ s x n, x ∈ l → I s (n + 1) → Yes (f s x) fun y => p x y.1 ∧ I y.2 n) → Yes (mapSt f s l) fun r => All2 p l r.1 ∧ I r.2 0
  | [], s, h, _ => ⟨_, rfl, .nil, h⟩
  | x :: l, s, h, k => by
    obtain ⟨y, e, h1, h2⟩ := k s x l.length (List.mem_cons_self ..) h
    obtain ⟨r, e2, h3, h4⟩ := yes_mapS I p l y.2 h2 fun s z n hz => k s z n (List.mem_cons_of_mem _ hz)
    unfold mapSt
    rw [e]
    show Yes ((mapSt f y.2 l).bd _) _
    rw [e2]
    exact ⟨_, rfl, .cons h1 h3, h4⟩
/-- draws of a row of things: cost each -/
theorem yes_draws {α γ : Type} {f : Rw → α → Mm (γ × Rw)} (c : Nat) (p : γ → Prop) (l : List α) (s : Rw) (N : Nat) (h : Rk N s) (hN : N + c * l.length < 900000) (k : ∀ s x M, x ∈ l → Rk M s → M < 900000 → Yes (f s x) fun y => p y.1 ∧ Rk (M + c) y.2) : Yes (mapSt f s l) fun r => (r.1.length = l.length ∧ ∀ y ∈ r.1, p y) ∧ Rk (N + c * l.length) r.2 := by
  refine (yes_mapS (fun s n => ∃ k, Rk k s ∧ k + c * n ≤ N + c * l.length) (fun _ y => p y) l s ⟨N, h, Nat.le_refl _⟩ fun s x n hx hs => ?_).mono fun r hr => ⟨⟨hr.1.len, hr.1.right fun _ _ h => h⟩, ?_⟩
  · obtain ⟨M, rk, hM⟩ := hs
    have e : c * (n + 1) = c * n + c := Nat.mul_succ ..
    exact (k s x M hx rk (by omega)).mono fun y hy => ⟨hy.1, M + c, hy.2, by omega⟩
  · obtain ⟨M, rk, hM⟩ := hr.2
    exact rk.up (by omega)
theorem All2.app {α γ : Type} {p : α → γ → Prop} {x : α} {y : γ} : ∀ {l : List α} {r : List γ}, All2 p l r → p x y → All2 p (l ++ [x]) (r ++ [y])
  | _, _, .nil, h => .cons h .nil
  | _, _, .cons a b, h => .cons a (All2.app b h)
theorem All2.map_eq {α β γ : Type} {p : α → γ → Prop} {f : γ → Mm β} {g : α → β} {l : List α} {r : List γ} (h : All2 p l r) (k : ∀ x y, x ∈ l → p x y → f y = .ok (g x)) : mapMm f r = .ok (l.map g) := by
  induction h with
  | nil => rfl
  | cons a _ ih =>
    unfold mapMm
    rw [k _ _ (List.mem_cons_self ..) a, bdo, ih fun x y hx => k x y (List.mem_cons_of_mem _ hx), bdo]
    rfl
theorem All2.left {α γ : Type} {p : α → γ → Prop} {q : α → Prop} {l : List α} {r : List γ} (h : All2 p l r) (k : ∀ x y, p x y → q x) : ∀ x ∈ l, q x := by
  induction h with
  | nil => simp
  | cons a _ ih =>
    intro y hy
    rcases List.mem_cons.mp hy with rfl | hy
    · exact k _ _ a
    · exact ih y hy
theorem All2.self {α γ : Type} {p : α → γ → Prop} {g : α → γ} : ∀ l : List α, (∀ x ∈ l, p x (g x)) → All2 p l (l.map g)
  | [], _ => .nil
  | x :: l, h => .cons (h x (List.mem_cons_self ..)) (All2.self l fun y hy => h y (List.mem_cons_of_mem _ hy))
theorem All2.mono {α γ : Type} {p q : α → γ → Prop} {l : List α} {r : List γ} (h : All2 p l r) (k : ∀ x y, p x y → q x y) : All2 q l r := by
  induction h with
  | nil => exact .nil
  | cons a _ ih => exact .cons (k _ _ a) ih
/-- loops that may be left, but are not -/
theorem yes_foldL {α R S : Type} {f : S → α → Mm (Fl R S)} (I : S → Nat → Prop) : ∀ (l : List α) (s : S), I s l.length → (∀ s x n, x ∈ l → I s (n + 1) → Yes (f s x) fun o => ∃ s', o = .go s' ∧ I s' n) → Yes (foldL f s l) fun o => ∃ s', o = .go s' ∧ I s' 0
  | [], s, h, _ => ⟨_, rfl, s, rfl, h⟩
  | x :: l, s, h, k => by
    obtain ⟨o, e, s', rfl, h2⟩ := k s x l.length (List.mem_cons_self ..) h
    obtain ⟨o2, e2, s2, rfl, h3⟩ := yes_foldL I l s' h2 fun s z n hz => k s z n (List.mem_cons_of_mem _ hz)
    unfold foldL
    rw [e]
    show Yes (foldL f s' l) _
    rw [e2]
    exact ⟨_, rfl, s2, rfl, h3⟩
end Wk
namespace Wk
open PySem L2
/-- Euclid's way -/
theorem euclid : ∀ (n : Nat) (x y : Int), 0 ≤ x → 0 ≤ y → y.toNat < n → foldW (fun (b6 : (Int × Int)) => Mm.ok (decide (b6.2 > (0 : Int)))) (fun (b7 : (Int × Int)) => (modM b7.1 b7.2).bd fun m24 => Mm.ok (b7.2, m24)) n (x, y) = .ok (((Nat.gcd x.natAbs y.natAbs : Nat) : Int), 0)
  | 0, _, _, _, _, h => absurd h (by omega)
  | n + 1, x, y, hx, hy, h => by
    unfold foldW
    by_cases q : y > 0
    · show (match decide (y > 0) with | true => _ | false => _) = _
      rw [decide_eq_true q]
      show ((modM x y).bd _).bd _ = _
      rw [mod_ok q]
      show foldW _ _ n (y, x % y) = _
      have h1 := Int.emod_nonneg x (b := y) (by omega)
      have h2 := Int.emod_lt_of_pos x q
      rw [euclid n y (x % y) hy h1 (by omega)]
      congr 3
      rw [Int.natAbs_emod_of_nonneg hx, Nat.gcd_comm, ← Nat.gcd_rec, Nat.gcd_comm]
    · show (match decide (y > 0) with | true => _ | false => _) = _
      rw [decide_eq_false q]
      have : y = 0 := by omega
      subst this
      show Mm.ok (x, (0 : Int)) = _
      rw [Int.natAbs_zero, Nat.gcd_zero_right]
      congr 2
      omega
theorem abs_nn (x : Int) : 0 ≤ absI x := by unfold absI; split <;> omega
theorem abs_na (x : Int) : (absI x).natAbs = x.natAbs := by unfold absI; split <;> omega
end Wk
namespace Wk
open PySem L2
/-! ### loops over indexes -/
theorem fold_ixR {α S : Type} {f : S → Int → Mm S} {h : S → α → Mm S} (L : List α) (hf : ∀ s (i : Nat) v, L[i]? = some v → f s (i : Int) = h s v) : ∀ s, foldM f s (rangeL 0 L.length).reverse = foldM h s L.reverse := by
  have k : ∀ (n : Nat) (l post : List α) (s : S), l.length = n → L = l ++ post → foldM f s (rangeL 0 l.length).reverse = foldM h s l.reverse := by
    intro n
    induction n with
    | zero =>
      intro l post s hn e
      have : l = [] := List.length_eq_zero_iff.mp hn
      subst this
      rfl
    | succ n ih =>
      intro l post s hn e
      rcases List.eq_nil_or_concat l with q | ⟨l', x, q⟩
      · rw [q] at hn
        cases hn
      · rw [List.concat_eq_append] at q
        subst q
        have e1 : rangeL 0 (l' ++ [x]).length = rangeL 0 l'.length ++ [(l'.length : Int)] := by
          unfold rangeL
          rw [List.length_append, List.length_singleton, List.range_succ, List.map_append, List.map_cons, List.map_nil, Int.zero_add]
        have e2 : L = l' ++ x :: post := by rw [e]; simp
        rw [e1, List.reverse_append, List.reverse_append, foldM_app, foldM_app]
        show Mm.bd (Mm.bd (f s (l'.length : Int)) _) _ = Mm.bd (Mm.bd (h s x) _) _
        rw [hf s l'.length x (by rw [e2]; simp)]
        show Mm.bd (Mm.bd (h s x) _) _ = _
        congr 1
        funext s'
        exact ih l' (x :: post) s' (by simpa using hn) e2
  intro s
  exact k L.length L [] s rfl (by simp)
theorem fold_ixN {α S : Type} {f : S → Int → Mm S} {h : S → Nat → α → Mm S} (L : List α) (hf : ∀ s (i : Nat) v, L[i]? = some v → f s (i : Int) = h s i v) : ∀ (l pre : List α) (s : S), L = pre ++ l → foldM f s (rangeL (pre.length : Int) l.length) = foldM (fun s (x : Int × α) => h s x.1.toNat x.2) s (numL (pre.length : Int) l)
  | [], pre, s, _ => rfl
  | x :: l, pre, s, e => by
    rw [List.length_cons, rangeL_succ]
    unfold foldM numL
    rw [hf s pre.length x (by rw [e]; simp)]
    show (h s _ x).bd _ = (h s _ x).bd _
    rw [Int.toNat_natCast]
    congr 1
    funext s'
    have := fold_ixN L hf l (pre ++ [x]) s' (by rw [e]; simp)
    rw [List.length_append, List.length_singleton] at this
    have e2 : ((pre.length + 1 : Nat) : Int) = (pre.length : Int) + 1 := by omega
    rw [e2] at this
    exact this
theorem fold_num {α S : Type} {h : S → α → Mm S} : ∀ (l : List α) (k : Int) (s : S), foldM (fun s (x : Int × α) => h s x.2) s (numL k l) = foldM h s l
  | [], _, _ => rfl
  | x :: l, k, s => by
    unfold numL foldM
    show (h s x).bd _ = (h s x).bd _
    congr 1
    funext s'
    exact fold_num l (k + 1) s'
theorem fold_ix {α S : Type} {f : S → Int → Mm S} {h : S → α → Mm S} (L : List α) (hf : ∀ s (i : Nat) v, L[i]? = some v → f s (i : Int) = h s v) (s : S) : foldM f s (rangeL 0 L.length) = foldM h s L := by
  have := fold_ixN (h := fun s _ v => h s v) L hf L [] s rfl
  rw [show ((([] : List α).length : Nat) : Int) = 0 from rfl] at this
  rw [this, fold_num]
theorem map_ix {α γ : Type} {f : Int → Mm γ} {h : α → Mm γ} (L : List α) (hf : ∀ (i : Nat) v, L[i]? = some v → f (i : Int) = h v) : mapMm f (rangeL 0 L.length) = mapMm h L := by
  have k : ∀ (l pre : List α), L = pre ++ l → mapMm f (rangeL (pre.length : Int) l.length) = mapMm h l := by
    intro l
    induction l with
    | nil => intro pre _; rfl
    | cons x l ih =>
      intro pre e
      rw [List.length_cons, rangeL_succ]
      unfold mapMm
      rw [hf pre.length x (by rw [e]; simp)]
      have := ih (pre ++ [x]) (by rw [e]; simp)
      rw [List.length_append, List.length_singleton] at this
      have e2 : ((pre.length + 1 : Nat) : Int) = (pre.length : Int) + 1 := by omega
      rw [e2] at this
      rw [this]
  exact k L [] rfl
theorem zip_at {α β : Type} {l : List α} {r : List β} {i : Nat} {v : α × β} (h : (l.zip r)[i]? = some v) : l[i]? = some v.1 ∧ r[i]? = some v.2 := by
  rw [List.getElem?_zip_eq_some] at h
  exact h
theorem getM_map {α β : Type} {l : List α} {f : α → β} {i : Nat} {x : α} (h : l[i]? = some x) : getM (l.map f) (i : Int) = .ok (f x) := getM_nat (by rw [List.getElem?_map, h]; rfl)
theorem All2.at {α γ : Type} {p : α → γ → Prop} {l : List α} {r : List γ} (h : All2 p l r) : ∀ {i : Nat} {x : α}, l[i]? = some x → ∃ y, r[i]? = some y ∧ p x y := by
  induction h with
  | nil => intro i x e; cases i <;> cases e
  | cons a _ ih =>
    intro i x e
    cases i with
    | zero => cases e; exact ⟨_, rfl, a⟩
    | succ i => exact ih e
end Wk
namespace Wk
open PySem L2
def rv (x : Int × Int) : Rat := (x.1 : Rat) / (x.2 : Rat)
theorem all2_rv {n : Nat} {ps : List Rat} {pl : List (Int × Int)} (h : All2 (fun p x => Rx n x p) ps pl) : ps = pl.map rv := by
  induction h with
  | nil => rfl
  | cons a _ ih => rw [List.map_cons, ← ih, ← a.v]; rfl
theorem all2_at {n : Nat} {ps : List Rat} {pl : List (Int × Int)} (h : All2 (fun p x => Rx n x p) ps pl) {i : Nat} {x : Int × Int} (hx : pl[i]? = some x) : Rx n x (rv x) := by
  have := h.right (q := fun x => Rx n x (rv x)) (fun p x r => by have e := r.v; unfold rv; rw [e]; exact r) x (List.mem_of_getElem? hx)
  exact this
/-- sums with something that goes along -/
theorem fold_frP {α R : Type} {f : (Int × Int) × R → α → Mm ((Int × Int) × R)} {v : α → Rat} {c : Nat} : ∀ (l : List α), (∀ x ∈ l, Sq c (v x) ∧ ∀ p a r, Sq a p → a + c < 8999 → f (fr p, r) x = .ok (fr (p + v x), r)) → ∀ (p : Rat) (a : Nat) (r : R), Sq a p → a + (c + 1) * l.length < 8998 →
    foldM f (fr p, r) l = .ok (fr (p + (l.map v).sum), r) ∧ Sq (a + (c + 1) * l.length) (p + (l.map v).sum)
  | [], _, p, a, r, ha, _ => by
    have e : p + ([].map v).sum = p := by
      show p + 0 = p
      grind
    rw [e]
    exact ⟨rfl, ha⟩
  | x :: l, h, p, a, r, ha, hl => by
    have e1 : (c + 1) * (x :: l).length = (c + 1) * l.length + (c + 1) := by rw [List.length_cons, Nat.mul_succ]
    obtain ⟨sx, hx⟩ := h x (List.mem_cons_self ..)
    obtain ⟨h1, h2⟩ := fold_frP l (fun y hy => h y (List.mem_cons_of_mem _ hy)) (p + v x) (a + c + 1) r (sq_add ha sx (by omega)) (by omega)
    have e2 : p + ((x :: l).map v).sum = p + v x + (l.map v).sum := by
      rw [List.map_cons, List.sum_cons]
      grind
    rw [e2]
    refine ⟨?_, h2.up (by omega)⟩
    unfold foldM
    rw [hx p a r ha (by omega)]
    exact h1
/-- the same over the indexes of a list -/
theorem fold_frI {α R : Type} {f : (Int × Int) × R → Int → Mm ((Int × Int) × R)} {v : α → Rat} {c : Nat} (L : List α) (h : ∀ (i : Nat) x, L[i]? = some x → Sq c (v x) ∧ ∀ p a r, Sq a p → a + c < 8999 → f (fr p, r) (i : Int) = .ok (fr (p + v x), r)) (p : Rat) (a : Nat) (r : R) (ha : Sq a p) (hl : a + (c + 1) * L.length < 8998) :
    foldM f (fr p, r) (rangeL 0 L.length) = .ok (fr (p + (L.map v).sum), r) ∧ Sq (a + (c + 1) * L.length) (p + (L.map v).sum) := by
  have k : ∀ (l pre : List α) (p : Rat) (a : Nat), L = pre ++ l → Sq a p → a + (c + 1) * l.length < 8998 → foldM f (fr p, r) (rangeL (pre.length : Int) l.length) = .ok (fr (p + (l.map v).sum), r) ∧ Sq (a + (c + 1) * l.length) (p + (l.map v).sum) := by
    intro l
    induction l with
    | nil =>
      intro pre p a _ ha _
      have e : p + ([].map v).sum = p := by
        show p + 0 = p
        grind
      rw [e]
      exact ⟨rfl, ha⟩
    | cons x l ih =>
      intro pre p a e ha hl
      have e1 : (c + 1) * (x :: l).length = (c + 1) * l.length + (c + 1) := by rw [List.length_cons, Nat.mul_succ]
      obtain ⟨sx, hx⟩ := h pre.length x (by rw [e]; simp)
      have q := ih (pre ++ [x]) (p + v x) (a + c + 1) (by rw [e]; simp) (sq_add ha sx (by omega)) (by omega)
      rw [List.length_append, List.length_singleton] at q
      have e2 : ((pre.length + 1 : Nat) : Int) = (pre.length : Int) + 1 := by omega
      rw [e2] at q
      have e3 : p + ((x :: l).map v).sum = p + v x + (l.map v).sum := by
        rw [List.map_cons, List.sum_cons]
        grind
      rw [e3, List.length_cons, rangeL_succ]
      refine ⟨?_, q.2.up (by rw [Nat.mul_succ]; omega)⟩
      unfold foldM
      rw [hx p a r ha (by omega)]
      exact q.1
  exact k L [] p a (by simp) ha hl
/-- the same with nothing that goes along -/
theorem fold_frJ {α : Type} {f : Int × Int → Int → Mm (Int × Int)} {v : α → Rat} {c : Nat} (L : List α) (h : ∀ (i : Nat) x, L[i]? = some x → Sq c (v x) ∧ ∀ p a, Sq a p → a + c < 8999 → f (fr p) (i : Int) = .ok (fr (p + v x))) (p : Rat) (a : Nat) (ha : Sq a p) (hl : a + (c + 1) * L.length < 8998) :
    foldM f (fr p) (rangeL 0 L.length) = .ok (fr (p + (L.map v).sum)) ∧ Sq (a + (c + 1) * L.length) (p + (L.map v).sum) := by
  have k : ∀ (l pre : List α) (p : Rat) (a : Nat), L = pre ++ l → Sq a p → a + (c + 1) * l.length < 8998 → foldM f (fr p) (rangeL (pre.length : Int) l.length) = .ok (fr (p + (l.map v).sum)) ∧ Sq (a + (c + 1) * l.length) (p + (l.map v).sum) := by
    intro l
    induction l with
    | nil =>
      intro pre p a _ ha _
      have e : p + ([].map v).sum = p := by
        show p + 0 = p
        grind
      rw [e]
      exact ⟨rfl, ha⟩
    | cons x l ih =>
      intro pre p a e ha hl
      have e1 : (c + 1) * (x :: l).length = (c + 1) * l.length + (c + 1) := by rw [List.length_cons, Nat.mul_succ]
      obtain ⟨sx, hx⟩ := h pre.length x (by rw [e]; simp)
      have q := ih (pre ++ [x]) (p + v x) (a + c + 1) (by rw [e]; simp) (sq_add ha sx (by omega)) (by omega)
      rw [List.length_append, List.length_singleton] at q
      have e2 : ((pre.length + 1 : Nat) : Int) = (pre.length : Int) + 1 := by omega
      rw [e2] at q
      have e3 : p + ((x :: l).map v).sum = p + v x + (l.map v).sum := by
        rw [List.map_cons, List.sum_cons]
        grind
      rw [e3, List.length_cons, rangeL_succ]
      refine ⟨?_, q.2.up (by rw [Nat.mul_succ]; omega)⟩
      unfold foldM
      rw [hx p a ha (by omega)]
      exact q.1
  exact k L [] p a (by simp) ha hl
end Wk

set_option Elab.async false
set_option linter.all false
set_option maxRecDepth 100000
set_option maxHeartbeats 4000000
namespace L
/-- thirteen weights above 0 and places from 0 to 1: a rule that is exact to the power 12 -/
def QN : List (Rat × Rat) := [(47719618433/4266648514128, 0), (412093597/10139016888, 1/30), (15096609475/365258877984, 1/15), (34472681/410288736, 2/15), (43199494175/362155842048, 7/30), (1714329755/12291447168, 11/30), (98694539947/770306304768, 1/2), (1714329755/12291447168, 19/30), (43199494175/362155842048, 23/30), (34472681/410288736, 13/15), (15096609475/365258877984, 14/15), (412093597/10139016888, 29/30), (47719618433/4266648514128, 1)]
theorem quad_0 (a d : Rat) : (QN.map fun q => d * q.1 * (a + d * q.2) ^ 0).sum * (1 : Rat) = (a + d) ^ 1 - a ^ 1 := by
  simp only [QN, List.map_cons, List.map_nil, List.sum_cons, List.sum_nil]
  grind
theorem quad_1 (a d : Rat) : (QN.map fun q => d * q.1 * (a + d * q.2) ^ 1).sum * (2 : Rat) = (a + d) ^ 2 - a ^ 2 := by
  simp only [QN, List.map_cons, List.map_nil, List.sum_cons, List.sum_nil]
  grind
theorem quad_2 (a d : Rat) : (QN.map fun q => d * q.1 * (a + d * q.2) ^ 2).sum * (3 : Rat) = (a + d) ^ 3 - a ^ 3 := by
  simp only [QN, List.map_cons, List.map_nil, List.sum_cons, List.sum_nil]
  grind
theorem quad_3 (a d : Rat) : (QN.map fun q => d * q.1 * (a + d * q.2) ^ 3).sum * (4 : Rat) = (a + d) ^ 4 - a ^ 4 := by
  simp only [QN, List.map_cons, List.map_nil, List.sum_cons, List.sum_nil]
  grind
theorem quad_4 (a d : Rat) : (QN.map fun q => d * q.1 * (a + d * q.2) ^ 4).sum * (5 : Rat) = (a + d) ^ 5 - a ^ 5 := by
  simp only [QN, List.map_cons, List.map_nil, List.sum_cons, List.sum_nil]
  grind
theorem quad_5 (a d : Rat) : (QN.map fun q => d * q.1 * (a + d * q.2) ^ 5).sum * (6 : Rat) = (a + d) ^ 6 - a ^ 6 := by
  simp only [QN, List.map_cons, List.map_nil, List.sum_cons, List.sum_nil]
  grind
theorem quad_6 (a d : Rat) : (QN.map fun q => d * q.1 * (a + d * q.2) ^ 6).sum * (7 : Rat) = (a + d) ^ 7 - a ^ 7 := by
  simp only [QN, List.map_cons, List.map_nil, List.sum_cons, List.sum_nil]
  grind
theorem quad_7 (a d : Rat) : (QN.map fun q => d * q.1 * (a + d * q.2) ^ 7).sum * (8 : Rat) = (a + d) ^ 8 - a ^ 8 := by
  simp only [QN, List.map_cons, List.map_nil, List.sum_cons, List.sum_nil]
  grind
theorem quad_8 (a d : Rat) : (QN.map fun q => d * q.1 * (a + d * q.2) ^ 8).sum * (9 : Rat) = (a + d) ^ 9 - a ^ 9 := by
  simp only [QN, List.map_cons, List.map_nil, List.sum_cons, List.sum_nil]
  grind
theorem quad_9 (a d : Rat) : (QN.map fun q => d * q.1 * (a + d * q.2) ^ 9).sum * (10 : Rat) = (a + d) ^ 10 - a ^ 10 := by
  simp only [QN, List.map_cons, List.map_nil, List.sum_cons, List.sum_nil]
  grind
theorem quad_10 (a d : Rat) : (QN.map fun q => d * q.1 * (a + d * q.2) ^ 10).sum * (11 : Rat) = (a + d) ^ 11 - a ^ 11 := by
  simp only [QN, List.map_cons, List.map_nil, List.sum_cons, List.sum_nil]
  grind
theorem quad_11 (a d : Rat) : (QN.map fun q => d * q.1 * (a + d * q.2) ^ 11).sum * (12 : Rat) = (a + d) ^ 12 - a ^ 12 := by
  simp only [QN, List.map_cons, List.map_nil, List.sum_cons, List.sum_nil]
  grind
theorem quad_12 (a d : Rat) : (QN.map fun q => d * q.1 * (a + d * q.2) ^ 12).sum * (13 : Rat) = (a + d) ^ 13 - a ^ 13 := by
  simp only [QN, List.map_cons, List.map_nil, List.sum_cons, List.sum_nil]
  grind
theorem quad (a d : Rat) : ∀ k : Nat, k ≤ 12 → (QN.map fun q => d * q.1 * (a + d * q.2) ^ k).sum * ((((k : Nat) : Int) + 1 : Int) : Rat) = (a + d) ^ (k + 1) - a ^ (k + 1)
  | 0, _ => by
    have e : ((((0 : Nat) : Int) + 1 : Int) : Rat) = (1 : Rat) := by decide
    rw [e]
    exact quad_0 a d
  | 1, _ => by
    have e : ((((1 : Nat) : Int) + 1 : Int) : Rat) = (2 : Rat) := by decide
    rw [e]
    exact quad_1 a d
  | 2, _ => by
    have e : ((((2 : Nat) : Int) + 1 : Int) : Rat) = (3 : Rat) := by decide
    rw [e]
    exact quad_2 a d
  | 3, _ => by
    have e : ((((3 : Nat) : Int) + 1 : Int) : Rat) = (4 : Rat) := by decide
    rw [e]
    exact quad_3 a d
  | 4, _ => by
    have e : ((((4 : Nat) : Int) + 1 : Int) : Rat) = (5 : Rat) := by decide
    rw [e]
    exact quad_4 a d
  | 5, _ => by
    have e : ((((5 : Nat) : Int) + 1 : Int) : Rat) = (6 : Rat) := by decide
    rw [e]
    exact quad_5 a d
  | 6, _ => by
    have e : ((((6 : Nat) : Int) + 1 : Int) : Rat) = (7 : Rat) := by decide
    rw [e]
    exact quad_6 a d
  | 7, _ => by
    have e : ((((7 : Nat) : Int) + 1 : Int) : Rat) = (8 : Rat) := by decide
    rw [e]
    exact quad_7 a d
  | 8, _ => by
    have e : ((((8 : Nat) : Int) + 1 : Int) : Rat) = (9 : Rat) := by decide
    rw [e]
    exact quad_8 a d
  | 9, _ => by
    have e : ((((9 : Nat) : Int) + 1 : Int) : Rat) = (10 : Rat) := by decide
    rw [e]
    exact quad_9 a d
  | 10, _ => by
    have e : ((((10 : Nat) : Int) + 1 : Int) : Rat) = (11 : Rat) := by decide
    rw [e]
    exact quad_10 a d
  | 11, _ => by
    have e : ((((11 : Nat) : Int) + 1 : Int) : Rat) = (12 : Rat) := by decide
    rw [e]
    exact quad_11 a d
  | 12, _ => by
    have e : ((((12 : Nat) : Int) + 1 : Int) : Rat) = (13 : Rat) := by decide
    rw [e]
    exact quad_12 a d
  | n + 13, h => absurd h (by omega)
theorem QN_pos : ∀ q ∈ QN, 0 < q.1 := by decide +kernel
theorem QN_nodup : (QN.map (·.2)).Nodup := by decide +kernel
end L

set_option Elab.async false
set_option linter.all false
set_option maxRecDepth 100000
set_option maxHeartbeats 4000000
namespace L
open PySem L2 Evl Wk StX
def top (i : Nat) : Stmt := PySem.Challenge.pw_fewreadings_k12_true_weightings_have_goo.main.body.getD i (.Pass ⟨0, 0, 0, 0⟩)
/-! ### whole_within -/
abbrev s_whole_within : Stmt := top 15
theorem sc_whole_within : FnScope ["number", "low", "high"] ["number", "low", "high"] (defScope s_whole_within) := ⟨rfl, rfl, rfl, by decide +kernel, rfl, by decide +kernel, by decide +kernel⟩
def whole_within (number : Int) (low : Int) (high : Int) : Mm Bool := Mm.ok (true && ((!false) && ((decide (low ≤ number)) && (decide (number ≤ high)))))
def sp_whole_within (K : PySem.W.Frag) : Sp := fun vs H Q E => ∃ (F : Hp) (number : Int) (low : Int) (high : Int), vs = [(V.int number), (V.int low), (V.int high)] ∧ Ex F H ∧ Post (whole_within number low high) (fun r => Ret [] F H (fun F' _ v => v = V.bl r) Q) (fun _ => False)
theorem ok_whole_within {P : Program} {w : World} {K : PySem.W.Frag} {mg : Str → Option Value} {base : Heap} {C f : Addr} {fd : FuncData} (B : Bi mg) (FF : FunD K "whole_within" "whole_within" (defArgs s_whole_within) (defBody s_whole_within) (defScope s_whole_within) [] [] f fd) : FnOk P w K mg base CX0 1 f fd ["number", "low", "high"] (sp_whole_within K) := by
  refine FF.ok sc_whole_within (fun vs H Q E h => ?_) (fun cdv A outer s H vs Q E hr h => ?_)
  · obtain ⟨F, number, low, high, rfl, _⟩ := h; rfl
  · obtain ⟨F, number, low, high, rfl, e, k⟩ := h
    unfold whole_within at k
    have g_ := Gm.refl (M := []) e
    refine ⟨_, PSs.nox (pss_one (ps_ret (pe_and (pe_callB call_isiI (by rfl) B.isinstance (by decide +kernel) (pa_cons (pv 0) (pa_cons (pe_bltn (v := .ty "int") (u := .type "int") (by rfl) B.int (by decide +kernel) rfl) pa_nil))) (pe_and (pe_not (pe_callB call_isiI (by rfl) B.isinstance (by decide +kernel) (pa_cons (pv 0) (pa_cons (pe_bltn (v := .ty "bool") (u := .type "bool") (by rfl) B.bool (by decide +kernel) rfl) pa_nil)))) (pe_one (pe_chain op_le op_le (pv 1) (pv 0) (pv 2))))))), ?_⟩
    refine ⟨_, rfl, _, _, true, rfl, .inl ⟨rfl, rfl⟩, _, rfl, ?_⟩
    refine andV_j (b := ((!false) && ((decide (low ≤ number)) && (decide (number ≤ high))))) (fun _ Q' q => ?_) ?_
    · refine ⟨_, rfl, _, _, false, rfl, .inr ⟨rfl, rfl⟩, _, rfl, _, rfl, ?_⟩
      refine andV_j (b := ((decide (low ≤ number)) && (decide (number ≤ high)))) (fun _ Q' q => ?_) ?_
      · refine ⟨_, rfl, _, rfl, _, _, rfl, rfl, _, rfl, ?_⟩
        refine chain_j (b := (decide (number ≤ high))) (fun _ Q' q => ?_) ?_
        · refine ⟨_, rfl, _, _, rfl, rfl, ?_⟩
          exact q
        exact q
      exact q
    exact k.h _ _ _ g_ rfl
/-! ### check_within -/
abbrev s_check_within : Stmt := top 16
theorem sc_check_within : FnScope ["number", "low", "high"] ["number", "low", "high"] (defScope s_check_within) := ⟨rfl, rfl, rfl, by decide +kernel, rfl, by decide +kernel, by decide +kernel⟩
def check_within (number : Int) (low : Int) (high : Int) : Mm Unit := (whole_within (number) (low) (high)).bd fun b1 => cond (!b1) (Mm.bad) (Mm.ok ())
def sp_check_within (K : PySem.W.Frag) : Sp := fun vs H Q E => ∃ (F : Hp) (number : Int) (low : Int) (high : Int), vs = [(V.int number), (V.int low), (V.int high)] ∧ Ex F H ∧ Post (check_within number low high) (fun r => Ret [] F H (fun F' _ v => v = V.non) Q) (fun _ => False)
theorem ok_check_within {P : Program} {w : World} {K : PySem.W.Frag} {mg : Str → Option Value} {base : Heap} {C f : Addr} {fd : FuncData} (B : Bi mg) (FF : FunD K "check_within" "check_within" (defArgs s_check_within) (defBody s_check_within) (defScope s_check_within) [] [] f fd) (G_whole_within : Kn P w K mg base "whole_within" 1 ["number", "low", "high"] (sp_whole_within K)) : FnOk P w K mg base CX0 2 f fd ["number", "low", "high"] (sp_check_within K) := by
  refine FF.ok sc_check_within (fun vs H Q E h => ?_) (fun cdv A outer s H vs Q E hr h => ?_)
  · obtain ⟨F, number, low, high, rfl, _⟩ := h; rfl
  · obtain ⟨F, number, low, high, rfl, e, k⟩ := h
    unfold check_within at k
    have g_ := Gm.refl (M := []) e
    refine ⟨_, PSs.nox (pss_one (ps_if (pt_not (pt_val (pe_kn G_whole_within (hr.mono (by decide)) (pa_cons (pv 0) (pa_cons (pv 1) (pa_cons (pv 2) (pa_nil))))))) (pss_one ps_never) pss_nil)), ?_⟩
    refine ⟨_, rfl, _, rfl, _, rfl, ?_⟩
    refine ⟨F, number, low, high, rfl, e, (post_bd k).mono (fun b1 k v6 F2 H3 g4 r5 => ?_) (fun _ z => z)⟩
    have eF2 := g4.s
    have gF2 := g_.trans (g4.weak (by simp))
    subst r5
    refine ⟨_, rfl, ?_⟩
    refine cs k (fun _ k => ?_) (fun _ k => ?_)
    · exact k.elim
    · exact k.h _ _ _ gF2 rfl
/-! ### power_of -/
abbrev s_power_of : Stmt := top 17
theorem sc_power_of : FnScope ["base", "power", "result", "_"] ["base", "power"] (defScope s_power_of) := ⟨rfl, rfl, rfl, by decide +kernel, rfl, by decide +kernel, by decide +kernel⟩
def power_of (base : Int) (power : Int) : Mm Int := (rangeM power).bd fun l2 => (foldM (fun (b3 : Int) (x4 : Int) => (mulM b3 base).bd fun m22 => Mm.ok m22) (1 : Int) (rangeL 0 power.toNat)).bd fun b20 => Mm.ok b20
def sp_power_of (K : PySem.W.Frag) : Sp := fun vs H Q E => ∃ (F : Hp) (base : Int) (power : Int), vs = [(V.int base), (V.int power)] ∧ Ex F H ∧ Post (power_of base power) (fun r => Ret [] F H (fun F' _ v => v = V.int r) Q) (fun _ => False)
theorem ok_power_of {P : Program} {w : World} {K : PySem.W.Frag} {mg : Str → Option Value} {base : Heap} {C f : Addr} {fd : FuncData} (B : Bi mg) (FF : FunD K "power_of" "power_of" (defArgs s_power_of) (defBody s_power_of) (defScope s_power_of) [] [] f fd) : FnOk P w K mg base CX0 1 f fd ["base", "power"] (sp_power_of K) := by
  refine FF.ok sc_power_of (fun vs H Q E h => ?_) (fun cdv A outer s H vs Q E hr h => ?_)
  · obtain ⟨F, base, power, rfl, _⟩ := h; rfl
  · obtain ⟨F, base, power, rfl, e, k⟩ := h
    unfold power_of at k
    have g_ := Gm.refl (M := []) e
    refine ⟨_, PSs.nox (pss_cons (ps_set (i := 2) sc_power_of.nd rfl (Or.inl rfl) (pe_int)) (pss_cons (ps_for PassesOwn.never rfl (pi_range1 rfl B.range (pa_cons (pv 1) (pa_nil))) (pg_name (i := 3) sc_power_of.nd rfl (Or.inl rfl)) (pss_one (ps_set (i := 2) sc_power_of.nd rfl (Or.inl rfl) (pe_op op_mulM (pv 2) (pv 0))))) (pss_one (ps_ret (pv 2))))), ?_⟩
    refine ⟨_, rfl, ?_⟩
    obtain ⟨h1, k⟩ := post_range k
    refine ⟨_, rfl, h1.1, h1.2, ?_⟩
    refine for_m (M := []) (F := F) wlk_range (fun b3 F' H' σ' => ∃ (u3 : Option V), σ' = [some (V.int base), some (V.int power), some (V.int b3), u3]) k e ⟨_, rfl⟩ (fun b3 x4 v12 σ14 F5 H6 F7 H8 g9 i13 g10 r11 nx kfb3 => ?_) (fun b20 σ19 F15 H16 g17 i18 k => ?_)
    · obtain ⟨u21, rfl⟩ := i13
      have eF7 := g10.s
      have gF7 := g9.trans (g10.weak (by simp))
      subst r11
      refine ⟨_, rfl, _, rfl, ?_⟩
      obtain ⟨m22, c23, q24, kfb3⟩ := post_mul kfb3
      refine ⟨_, _, _, rfl, rfl, c23, q24, ?_⟩
      exact kfb3.h _ _ _ gF7 ⟨_, rfl⟩
    have g25 := g_.trans (g17.weak (by simp))
    have eF15 := g17.s
    obtain ⟨u26, rfl⟩ := i18
    refine ⟨_, rfl, ?_⟩
    exact k.h _ _ _ g25 rfl
/-! ### lowest -/
abbrev s_lowest : Stmt := top 18
theorem sc_lowest : FnScope ["top", "bottom", "shared"] ["top", "bottom"] (defScope s_lowest) := ⟨rfl, rfl, rfl, by decide +kernel, rfl, by decide +kernel, by decide +kernel⟩
def lowest (top : Int) (bottom : Int) : Mm (Int × Int) := (cond (decide (bottom < (0 : Int))) (Mm.ok (-((Nat.gcd top.natAbs bottom.natAbs : Nat) : Int))) (Mm.ok ((Nat.gcd top.natAbs bottom.natAbs : Nat) : Int))).bd fun b1 => (divM top b1).bd fun m8 => (divM bottom b1).bd fun m11 => Mm.ok (m8, m11)
def sp_lowest (K : PySem.W.Frag) : Sp := fun vs H Q E => ∃ (F : Hp) (top : Int) (bottom : Int), vs = [(V.int top), (V.int bottom)] ∧ Ex F H ∧ Post (lowest top bottom) (fun r => Ret [] F H (fun F' _ v => Dq K F' v ((e2 PyData.int PyData.int) r)) Q) (fun _ => False)
theorem ok_lowest {P : Program} {w : World} {K : PySem.W.Frag} {mg : Str → Option Value} {base : Heap} {C f : Addr} {fd : FuncData} (B : Bi mg) (FF : FunD K "lowest" "lowest" (defArgs s_lowest) (defBody s_lowest) (defScope s_lowest) [] [] f fd) (c_gcd : mg "gcd" = some (.builtin "math.gcd")) : FnOk P w K mg base CX0 1 f fd ["top", "bottom"] (sp_lowest K) := by
  refine FF.ok sc_lowest (fun vs H Q E h => ?_) (fun cdv A outer s H vs Q E hr h => ?_)
  · obtain ⟨F, top, bottom, rfl, _⟩ := h; rfl
  · obtain ⟨F, top, bottom, rfl, e, k⟩ := h
    unfold lowest at k
    have g_ := Gm.refl (M := []) e
    refine ⟨_, PSs.nox (pss_cons (ps_set (i := 2) sc_lowest.nd rfl (Or.inl rfl) (pe_callBfun cr_gcd (by rfl) c_gcd (pa_cons (pv 0) (pa_cons (pv 1) (pa_nil))))) (pss_cons (ps_if (pt_cmpR op_lt (pv 1) (pe_int) (nomark _)) (pss_one (ps_set (i := 2) sc_lowest.nd rfl (Or.inl rfl) (pe_un un_neg (pv 2)))) (pss_nil)) (pss_one (ps_ret (pe_q (pe_tup (pa_cons (pe_op op_divM (pv 0) (pv 2)) (pa_cons (pe_op op_divM (pv 1) (pv 2)) (pa_nil))))))))), ?_⟩
    refine ⟨_, rfl, _, rfl, _, _, rfl, ?_⟩
    refine ⟨_, rfl, _, _, rfl, rfl, _, rfl, ?_⟩
    refine ifs_jM (M := []) (F := F) (fun b1 F' H' σ' => σ' = [some (V.int top), some (V.int bottom), some (V.int b1)]) k (fun _ nx kjb1 => ?_) (fun _ nx kjb1 => ?_) (fun b1 σ5 F2 H3 g4 i6 k => ?_)
    · have gF_ := Gm.refl (M := []) e
      refine ⟨_, rfl, _, rfl, ?_⟩
      exact kjb1.h _ _ _ gF_ rfl
    · have gF_ := Gm.refl (M := []) e
      exact kjb1.h _ _ _ gF_ rfl
    have g7 := g_.trans (g4.weak (by simp))
    have eF2 := g4.s
    obtain rfl := i6
    refine ⟨_, rfl, _, rfl, ?_⟩
    obtain ⟨m8, c9, q10, k⟩ := post_div k
    refine ⟨_, _, _, rfl, rfl, c9, q10, _, rfl, _, rfl, ?_⟩
    obtain ⟨m11, c12, q13, k⟩ := post_div k
    refine ⟨_, _, _, rfl, rfl, c12, q13, ?_⟩
    show _ ∧ _
    refine new_tup (K := K) (M := []) eF2 (.cons (Dq.int m8) (.cons (Dq.int m11) .nil)) (by show 2 ≤ 100000; decide) fun v18 F14 H15 g16 r17 => ?_
    have eF14 := g16.s
    have gF14 := g7.trans (g16.weak (by simp))
    replace r17 : Dq K F14 v18 ((e2 PyData.int PyData.int) (m8, m11)) := r17
    exact k.h _ _ _ gF14 r17
/-! ### plus -/
abbrev s_plus : Stmt := top 19
theorem sc_plus : FnScope ["one", "other"] ["one", "other"] (defScope s_plus) := ⟨rfl, rfl, rfl, by decide +kernel, rfl, by decide +kernel, by decide +kernel⟩
def plus (one : (Int × Int)) (other : (Int × Int)) : Mm (Int × Int) := (mulM one.1 other.2).bd fun m13 => (mulM other.1 one.2).bd fun m16 => (mulM one.2 other.2).bd fun m19 => (lowest ((m13 + m16)) (m19)).bd fun b22 => Mm.ok b22
def sp_plus (K : PySem.W.Frag) : Sp := fun vs H Q E => ∃ (F : Hp) (v_one : V) (one : (Int × Int)) (v_other : V) (other : (Int × Int)), vs = [v_one, v_other] ∧ Ex F H ∧ Dq K F v_one ((e2 PyData.int PyData.int) one) ∧ Dq K F v_other ((e2 PyData.int PyData.int) other) ∧ Post (plus one other) (fun r => Ret [] F H (fun F' _ v => Dq K F' v ((e2 PyData.int PyData.int) r)) Q) (fun _ => False)
theorem ok_plus {P : Program} {w : World} {K : PySem.W.Frag} {mg : Str → Option Value} {base : Heap} {C f : Addr} {fd : FuncData} (B : Bi mg) (FF : FunD K "plus" "plus" (defArgs s_plus) (defBody s_plus) (defScope s_plus) [] [] f fd) (G_lowest : Kn P w K mg base "lowest" 1 ["top", "bottom"] (sp_lowest K)) : FnOk P w K mg base CX0 2 f fd ["one", "other"] (sp_plus K) := by
  refine FF.ok sc_plus (fun vs H Q E h => ?_) (fun cdv A outer s H vs Q E hr h => ?_)
  · obtain ⟨F, v_one, one, v_other, other, rfl, _⟩ := h; rfl
  · obtain ⟨F, v_one, one, v_other, other, rfl, e, r_one, r_other, k⟩ := h
    unfold plus at k
    have g_ := Gm.refl (M := []) e
    refine ⟨_, PSs.nox (pss_one (ps_ret (pe_kn G_lowest (hr.mono (by decide)) (pa_cons (pe_op op_add (pe_op op_mulM (pe_ix (r := rIxT K) ix_tup (pv 0) (pe_int) (fun _ _ => rfl)) (pe_ix (r := rIxT K) ix_tup (pv 1) (pe_int) (fun _ _ => rfl))) (pe_op op_mulM (pe_ix (r := rIxT K) ix_tup (pv 1) (pe_int) (fun _ _ => rfl)) (pe_ix (r := rIxT K) ix_tup (pv 0) (pe_int) (fun _ _ => rfl)))) (pa_cons (pe_op op_mulM (pe_ix (r := rIxT K) ix_tup (pv 0) (pe_int) (fun _ _ => rfl)) (pe_ix (r := rIxT K) ix_tup (pv 1) (pe_int) (fun _ _ => rfl))) (pa_nil)))))), ?_⟩
    refine ⟨_, rfl, ?_⟩
    obtain ⟨p1, x2, x3, rfl, s4, d5, d6⟩ := dp_tup2 r_one
    obtain rfl := dp_int d5
    obtain rfl := dp_int d6
    refine ⟨_, _, _, _, rfl, rfl, ex_t e s4, rfl, _, rfl, ?_⟩
    obtain ⟨p7, x8, x9, rfl, s10, d11, d12⟩ := dp_tup2 r_other
    obtain rfl := dp_int d11
    obtain rfl := dp_int d12
    refine ⟨_, _, _, _, rfl, rfl, ex_t e s10, rfl, ?_⟩
    obtain ⟨m13, c14, q15, k⟩ := post_mul k
    refine ⟨_, _, _, rfl, rfl, c14, q15, _, rfl, ?_⟩
    refine ⟨_, _, _, _, rfl, rfl, ex_t e s10, rfl, _, rfl, ?_⟩
    refine ⟨_, _, _, _, rfl, rfl, ex_t e s4, rfl, ?_⟩
    obtain ⟨m16, c17, q18, k⟩ := post_mul k
    refine ⟨_, _, _, rfl, rfl, c17, q18, _, _, rfl, rfl, _, rfl, ?_⟩
    refine ⟨_, _, _, _, rfl, rfl, ex_t e s4, rfl, _, rfl, ?_⟩
    refine ⟨_, _, _, _, rfl, rfl, ex_t e s10, rfl, ?_⟩
    obtain ⟨m19, c20, q21, k⟩ := post_mul k
    refine ⟨_, _, _, rfl, rfl, c20, q21, ?_⟩
    refine ⟨F, (m13 + m16), m19, rfl, e, (post_bd k).mono (fun b22 k v27 F23 H24 g25 r26 => ?_) (fun _ z => z)⟩
    have eF23 := g25.s
    have gF23 := g_.trans (g25.weak (by simp))
    replace r_one := r_one.up g25.f
    replace r_other := r_other.up g25.f
    replace s4 := ex_t g25.f s4
    replace s10 := ex_t g25.f s10
    exact k.h _ _ _ gF23 r26
/-! ### minus -/
abbrev s_minus : Stmt := top 20
theorem sc_minus : FnScope ["one", "other"] ["one", "other"] (defScope s_minus) := ⟨rfl, rfl, rfl, by decide +kernel, rfl, by decide +kernel, by decide +kernel⟩
def minus (one : (Int × Int)) (other : (Int × Int)) : Mm (Int × Int) := (mulM one.1 other.2).bd fun m13 => (mulM other.1 one.2).bd fun m16 => (mulM one.2 other.2).bd fun m19 => (lowest ((m13 - m16)) (m19)).bd fun b22 => Mm.ok b22
def sp_minus (K : PySem.W.Frag) : Sp := fun vs H Q E => ∃ (F : Hp) (v_one : V) (one : (Int × Int)) (v_other : V) (other : (Int × Int)), vs = [v_one, v_other] ∧ Ex F H ∧ Dq K F v_one ((e2 PyData.int PyData.int) one) ∧ Dq K F v_other ((e2 PyData.int PyData.int) other) ∧ Post (minus one other) (fun r => Ret [] F H (fun F' _ v => Dq K F' v ((e2 PyData.int PyData.int) r)) Q) (fun _ => False)
theorem ok_minus {P : Program} {w : World} {K : PySem.W.Frag} {mg : Str → Option Value} {base : Heap} {C f : Addr} {fd : FuncData} (B : Bi mg) (FF : FunD K "minus" "minus" (defArgs s_minus) (defBody s_minus) (defScope s_minus) [] [] f fd) (G_lowest : Kn P w K mg base "lowest" 1 ["top", "bottom"] (sp_lowest K)) : FnOk P w K mg base CX0 2 f fd ["one", "other"] (sp_minus K) := by
  refine FF.ok sc_minus (fun vs H Q E h => ?_) (fun cdv A outer s H vs Q E hr h => ?_)
  · obtain ⟨F, v_one, one, v_other, other, rfl, _⟩ := h; rfl
  · obtain ⟨F, v_one, one, v_other, other, rfl, e, r_one, r_other, k⟩ := h
    unfold minus at k
    have g_ := Gm.refl (M := []) e
    refine ⟨_, PSs.nox (pss_one (ps_ret (pe_kn G_lowest (hr.mono (by decide)) (pa_cons (pe_op op_sub (pe_op op_mulM (pe_ix (r := rIxT K) ix_tup (pv 0) (pe_int) (fun _ _ => rfl)) (pe_ix (r := rIxT K) ix_tup (pv 1) (pe_int) (fun _ _ => rfl))) (pe_op op_mulM (pe_ix (r := rIxT K) ix_tup (pv 1) (pe_int) (fun _ _ => rfl)) (pe_ix (r := rIxT K) ix_tup (pv 0) (pe_int) (fun _ _ => rfl)))) (pa_cons (pe_op op_mulM (pe_ix (r := rIxT K) ix_tup (pv 0) (pe_int) (fun _ _ => rfl)) (pe_ix (r := rIxT K) ix_tup (pv 1) (pe_int) (fun _ _ => rfl))) (pa_nil)))))), ?_⟩
    refine ⟨_, rfl, ?_⟩
    obtain ⟨p1, x2, x3, rfl, s4, d5, d6⟩ := dp_tup2 r_one
    obtain rfl := dp_int d5
    obtain rfl := dp_int d6
    refine ⟨_, _, _, _, rfl, rfl, ex_t e s4, rfl, _, rfl, ?_⟩
    obtain ⟨p7, x8, x9, rfl, s10, d11, d12⟩ := dp_tup2 r_other
    obtain rfl := dp_int d11
    obtain rfl := dp_int d12
    refine ⟨_, _, _, _, rfl, rfl, ex_t e s10, rfl, ?_⟩
    obtain ⟨m13, c14, q15, k⟩ := post_mul k
    refine ⟨_, _, _, rfl, rfl, c14, q15, _, rfl, ?_⟩
    refine ⟨_, _, _, _, rfl, rfl, ex_t e s10, rfl, _, rfl, ?_⟩
    refine ⟨_, _, _, _, rfl, rfl, ex_t e s4, rfl, ?_⟩
    obtain ⟨m16, c17, q18, k⟩ := post_mul k
    refine ⟨_, _, _, rfl, rfl, c17, q18, _, _, rfl, rfl, _, rfl, ?_⟩
    refine ⟨_, _, _, _, rfl, rfl, ex_t e s4, rfl, _, rfl, ?_⟩
    refine ⟨_, _, _, _, rfl, rfl, ex_t e s10, rfl, ?_⟩
    obtain ⟨m19, c20, q21, k⟩ := post_mul k
    refine ⟨_, _, _, rfl, rfl, c20, q21, ?_⟩
    refine ⟨F, (m13 - m16), m19, rfl, e, (post_bd k).mono (fun b22 k v27 F23 H24 g25 r26 => ?_) (fun _ z => z)⟩
    have eF23 := g25.s
    have gF23 := g_.trans (g25.weak (by simp))
    replace r_one := r_one.up g25.f
    replace r_other := r_other.up g25.f
    replace s4 := ex_t g25.f s4
    replace s10 := ex_t g25.f s10
    exact k.h _ _ _ gF23 r26
/-! ### times -/
abbrev s_times : Stmt := top 21
theorem sc_times : FnScope ["one", "other"] ["one", "other"] (defScope s_times) := ⟨rfl, rfl, rfl, by decide +kernel, rfl, by decide +kernel, by decide +kernel⟩
def times (one : (Int × Int)) (other : (Int × Int)) : Mm (Int × Int) := (mulM one.1 other.1).bd fun m13 => (mulM one.2 other.2).bd fun m16 => (lowest (m13) (m16)).bd fun b19 => Mm.ok b19
def sp_times (K : PySem.W.Frag) : Sp := fun vs H Q E => ∃ (F : Hp) (v_one : V) (one : (Int × Int)) (v_other : V) (other : (Int × Int)), vs = [v_one, v_other] ∧ Ex F H ∧ Dq K F v_one ((e2 PyData.int PyData.int) one) ∧ Dq K F v_other ((e2 PyData.int PyData.int) other) ∧ Post (times one other) (fun r => Ret [] F H (fun F' _ v => Dq K F' v ((e2 PyData.int PyData.int) r)) Q) (fun _ => False)
theorem ok_times {P : Program} {w : World} {K : PySem.W.Frag} {mg : Str → Option Value} {base : Heap} {C f : Addr} {fd : FuncData} (B : Bi mg) (FF : FunD K "times" "times" (defArgs s_times) (defBody s_times) (defScope s_times) [] [] f fd) (G_lowest : Kn P w K mg base "lowest" 1 ["top", "bottom"] (sp_lowest K)) : FnOk P w K mg base CX0 2 f fd ["one", "other"] (sp_times K) := by
  refine FF.ok sc_times (fun vs H Q E h => ?_) (fun cdv A outer s H vs Q E hr h => ?_)
  · obtain ⟨F, v_one, one, v_other, other, rfl, _⟩ := h; rfl
  · obtain ⟨F, v_one, one, v_other, other, rfl, e, r_one, r_other, k⟩ := h
    unfold times at k
    have g_ := Gm.refl (M := []) e
    refine ⟨_, PSs.nox (pss_one (ps_ret (pe_kn G_lowest (hr.mono (by decide)) (pa_cons (pe_op op_mulM (pe_ix (r := rIxT K) ix_tup (pv 0) (pe_int) (fun _ _ => rfl)) (pe_ix (r := rIxT K) ix_tup (pv 1) (pe_int) (fun _ _ => rfl))) (pa_cons (pe_op op_mulM (pe_ix (r := rIxT K) ix_tup (pv 0) (pe_int) (fun _ _ => rfl)) (pe_ix (r := rIxT K) ix_tup (pv 1) (pe_int) (fun _ _ => rfl))) (pa_nil)))))), ?_⟩
    refine ⟨_, rfl, ?_⟩
    obtain ⟨p1, x2, x3, rfl, s4, d5, d6⟩ := dp_tup2 r_one
    obtain rfl := dp_int d5
    obtain rfl := dp_int d6
    refine ⟨_, _, _, _, rfl, rfl, ex_t e s4, rfl, _, rfl, ?_⟩
    obtain ⟨p7, x8, x9, rfl, s10, d11, d12⟩ := dp_tup2 r_other
    obtain rfl := dp_int d11
    obtain rfl := dp_int d12
    refine ⟨_, _, _, _, rfl, rfl, ex_t e s10, rfl, ?_⟩
    obtain ⟨m13, c14, q15, k⟩ := post_mul k
    refine ⟨_, _, _, rfl, rfl, c14, q15, _, rfl, ?_⟩
    refine ⟨_, _, _, _, rfl, rfl, ex_t e s4, rfl, _, rfl, ?_⟩
    refine ⟨_, _, _, _, rfl, rfl, ex_t e s10, rfl, ?_⟩
    obtain ⟨m16, c17, q18, k⟩ := post_mul k
    refine ⟨_, _, _, rfl, rfl, c17, q18, ?_⟩
    refine ⟨F, m13, m16, rfl, e, (post_bd k).mono (fun b19 k v24 F20 H21 g22 r23 => ?_) (fun _ z => z)⟩
    have eF20 := g22.s
    have gF20 := g_.trans (g22.weak (by simp))
    replace r_one := r_one.up g22.f
    replace r_other := r_other.up g22.f
    replace s4 := ex_t g22.f s4
    replace s10 := ex_t g22.f s10
    exact k.h _ _ _ gF20 r23
/-! ### over -/
abbrev s_over : Stmt := top 22
theorem sc_over : FnScope ["one", "other"] ["one", "other"] (defScope s_over) := ⟨rfl, rfl, rfl, by decide +kernel, rfl, by decide +kernel, by decide +kernel⟩
def over (one : (Int × Int)) (other : (Int × Int)) : Mm (Int × Int) := (mulM one.1 other.2).bd fun m13 => (mulM one.2 other.1).bd fun m16 => (lowest (m13) (m16)).bd fun b19 => Mm.ok b19
def sp_over (K : PySem.W.Frag) : Sp := fun vs H Q E => ∃ (F : Hp) (v_one : V) (one : (Int × Int)) (v_other : V) (other : (Int × Int)), vs = [v_one, v_other] ∧ Ex F H ∧ Dq K F v_one ((e2 PyData.int PyData.int) one) ∧ Dq K F v_other ((e2 PyData.int PyData.int) other) ∧ Post (over one other) (fun r => Ret [] F H (fun F' _ v => Dq K F' v ((e2 PyData.int PyData.int) r)) Q) (fun _ => False)
theorem ok_over {P : Program} {w : World} {K : PySem.W.Frag} {mg : Str → Option Value} {base : Heap} {C f : Addr} {fd : FuncData} (B : Bi mg) (FF : FunD K "over" "over" (defArgs s_over) (defBody s_over) (defScope s_over) [] [] f fd) (G_lowest : Kn P w K mg base "lowest" 1 ["top", "bottom"] (sp_lowest K)) : FnOk P w K mg base CX0 2 f fd ["one", "other"] (sp_over K) := by
  refine FF.ok sc_over (fun vs H Q E h => ?_) (fun cdv A outer s H vs Q E hr h => ?_)
  · obtain ⟨F, v_one, one, v_other, other, rfl, _⟩ := h; rfl
  · obtain ⟨F, v_one, one, v_other, other, rfl, e, r_one, r_other, k⟩ := h
    unfold over at k
    have g_ := Gm.refl (M := []) e
    refine ⟨_, PSs.nox (pss_one (ps_ret (pe_kn G_lowest (hr.mono (by decide)) (pa_cons (pe_op op_mulM (pe_ix (r := rIxT K) ix_tup (pv 0) (pe_int) (fun _ _ => rfl)) (pe_ix (r := rIxT K) ix_tup (pv 1) (pe_int) (fun _ _ => rfl))) (pa_cons (pe_op op_mulM (pe_ix (r := rIxT K) ix_tup (pv 0) (pe_int) (fun _ _ => rfl)) (pe_ix (r := rIxT K) ix_tup (pv 1) (pe_int) (fun _ _ => rfl))) (pa_nil)))))), ?_⟩
    refine ⟨_, rfl, ?_⟩
    obtain ⟨p1, x2, x3, rfl, s4, d5, d6⟩ := dp_tup2 r_one
    obtain rfl := dp_int d5
    obtain rfl := dp_int d6
    refine ⟨_, _, _, _, rfl, rfl, ex_t e s4, rfl, _, rfl, ?_⟩
    obtain ⟨p7, x8, x9, rfl, s10, d11, d12⟩ := dp_tup2 r_other
    obtain rfl := dp_int d11
    obtain rfl := dp_int d12
    refine ⟨_, _, _, _, rfl, rfl, ex_t e s10, rfl, ?_⟩
    obtain ⟨m13, c14, q15, k⟩ := post_mul k
    refine ⟨_, _, _, rfl, rfl, c14, q15, _, rfl, ?_⟩
    refine ⟨_, _, _, _, rfl, rfl, ex_t e s4, rfl, _, rfl, ?_⟩
    refine ⟨_, _, _, _, rfl, rfl, ex_t e s10, rfl, ?_⟩
    obtain ⟨m16, c17, q18, k⟩ := post_mul k
    refine ⟨_, _, _, rfl, rfl, c17, q18, ?_⟩
    refine ⟨F, m13, m16, rfl, e, (post_bd k).mono (fun b19 k v24 F20 H21 g22 r23 => ?_) (fun _ z => z)⟩
    have eF20 := g22.s
    have gF20 := g_.trans (g22.weak (by simp))
    replace r_one := r_one.up g22.f
    replace r_other := r_other.up g22.f
    replace s4 := ex_t g22.f s4
    replace s10 := ex_t g22.f s10
    exact k.h _ _ _ gF20 r23
/-! ### is_less -/
abbrev s_is_less : Stmt := top 23
theorem sc_is_less : FnScope ["one", "other"] ["one", "other"] (defScope s_is_less) := ⟨rfl, rfl, rfl, by decide +kernel, rfl, by decide +kernel, by decide +kernel⟩
def is_less (one : (Int × Int)) (other : (Int × Int)) : Mm Bool := (mulM one.1 other.2).bd fun m13 => (mulM other.1 one.2).bd fun m16 => Mm.ok (decide (m13 < m16))
def sp_is_less (K : PySem.W.Frag) : Sp := fun vs H Q E => ∃ (F : Hp) (v_one : V) (one : (Int × Int)) (v_other : V) (other : (Int × Int)), vs = [v_one, v_other] ∧ Ex F H ∧ Dq K F v_one ((e2 PyData.int PyData.int) one) ∧ Dq K F v_other ((e2 PyData.int PyData.int) other) ∧ Post (is_less one other) (fun r => Ret [] F H (fun F' _ v => v = V.bl r) Q) (fun _ => False)
theorem ok_is_less {P : Program} {w : World} {K : PySem.W.Frag} {mg : Str → Option Value} {base : Heap} {C f : Addr} {fd : FuncData} (B : Bi mg) (FF : FunD K "is_less" "is_less" (defArgs s_is_less) (defBody s_is_less) (defScope s_is_less) [] [] f fd) : FnOk P w K mg base CX0 1 f fd ["one", "other"] (sp_is_less K) := by
  refine FF.ok sc_is_less (fun vs H Q E h => ?_) (fun cdv A outer s H vs Q E hr h => ?_)
  · obtain ⟨F, v_one, one, v_other, other, rfl, _⟩ := h; rfl
  · obtain ⟨F, v_one, one, v_other, other, rfl, e, r_one, r_other, k⟩ := h
    unfold is_less at k
    have g_ := Gm.refl (M := []) e
    refine ⟨_, PSs.nox (pss_one (ps_ret (pe_cmpR op_lt (pe_op op_mulM (pe_ix (r := rIxT K) ix_tup (pv 0) (pe_int) (fun _ _ => rfl)) (pe_ix (r := rIxT K) ix_tup (pv 1) (pe_int) (fun _ _ => rfl))) (pe_op op_mulM (pe_ix (r := rIxT K) ix_tup (pv 1) (pe_int) (fun _ _ => rfl)) (pe_ix (r := rIxT K) ix_tup (pv 0) (pe_int) (fun _ _ => rfl))) (nomark _)))), ?_⟩
    refine ⟨_, rfl, ?_⟩
    obtain ⟨p1, x2, x3, rfl, s4, d5, d6⟩ := dp_tup2 r_one
    obtain rfl := dp_int d5
    obtain rfl := dp_int d6
    refine ⟨_, _, _, _, rfl, rfl, ex_t e s4, rfl, _, rfl, ?_⟩
    obtain ⟨p7, x8, x9, rfl, s10, d11, d12⟩ := dp_tup2 r_other
    obtain rfl := dp_int d11
    obtain rfl := dp_int d12
    refine ⟨_, _, _, _, rfl, rfl, ex_t e s10, rfl, ?_⟩
    obtain ⟨m13, c14, q15, k⟩ := post_mul k
    refine ⟨_, _, _, rfl, rfl, c14, q15, _, rfl, ?_⟩
    refine ⟨_, _, _, _, rfl, rfl, ex_t e s10, rfl, _, rfl, ?_⟩
    refine ⟨_, _, _, _, rfl, rfl, ex_t e s4, rfl, ?_⟩
    obtain ⟨m16, c17, q18, k⟩ := post_mul k
    refine ⟨_, _, _, rfl, rfl, c17, q18, _, _, rfl, rfl, ?_⟩
    exact k.h _ _ _ g_ rfl
/-! ### added_up -/
abbrev s_added_up : Stmt := top 24
theorem sc_added_up : FnScope ["fractions", "result", "fraction"] ["fractions"] (defScope s_added_up) := ⟨rfl, rfl, rfl, by decide +kernel, rfl, by decide +kernel, by decide +kernel⟩
def added_up (fractions : (List (Int × Int))) : Mm (Int × Int) := (foldM (fun (b5 : (Int × Int)) (x6 : (Int × Int)) => (plus (b5) (x6)).bd fun b26 => Mm.ok b26) ((0, 1) : (Int × Int)) fractions).bd fun b22 => Mm.ok b22
def sp_added_up (K : PySem.W.Frag) : Sp := fun vs H Q E => ∃ (F : Hp) (v_fractions : V) (fractions : (List (Int × Int))), vs = [v_fractions] ∧ Ex F H ∧ Dq K F v_fractions ((eL (e2 PyData.int PyData.int)) fractions) ∧ Post (added_up fractions) (fun r => Ret [] F H (fun F' _ v => Dq K F' v ((e2 PyData.int PyData.int) r)) Q) (fun _ => False)
theorem ok_added_up {P : Program} {w : World} {K : PySem.W.Frag} {mg : Str → Option Value} {base : Heap} {C f : Addr} {fd : FuncData} (B : Bi mg) (FF : FunD K "added_up" "added_up" (defArgs s_added_up) (defBody s_added_up) (defScope s_added_up) [] [] f fd) (G_plus : Kn P w K mg base "plus" 2 ["one", "other"] (sp_plus K)) {a_NOUGHT : Addr} (c_NOUGHT : mg "NOUGHT" = some (.ref a_NOUGHT)) (d_NOUGHT : ∀ F, Dq K F (.ref a_NOUGHT) ((e2 PyData.int PyData.int) (0, 1))) : FnOk P w K mg base CX0 3 f fd ["fractions"] (sp_added_up K) := by
  refine FF.ok sc_added_up (fun vs H Q E h => ?_) (fun cdv A outer s H vs Q E hr h => ?_)
  · obtain ⟨F, v_fractions, fractions, rfl, _⟩ := h; rfl
  · obtain ⟨F, v_fractions, fractions, rfl, e, r_fractions, k⟩ := h
    unfold added_up at k
    have g_ := Gm.refl (M := []) e
    refine ⟨_, PSs.nox (pss_cons (ps_set (i := 1) sc_added_up.nd rfl (Or.inl rfl) (pe_gref c_NOUGHT)) (pss_cons (ps_for PassesOwn.never rfl (pi_list (pv 0)) (pg_name (i := 2) sc_added_up.nd rfl (Or.inl rfl)) (pss_one (ps_set (i := 1) sc_added_up.nd rfl (Or.inl rfl) (pe_kn G_plus (hr.mono (by decide)) (pa_cons (pv 1) (pa_cons (pv 2) (pa_nil))))))) (pss_one (ps_ret (pv 1))))), ?_⟩
    refine ⟨_, rfl, ?_⟩
    obtain ⟨p1, xs2, rfl, s3, a4⟩ := dp_lst r_fractions
    refine ⟨_, rfl, ⟨_, (sq_of (e _ _ s3))⟩, ?_⟩
    refine for_m (M := []) (F := F) (wlk_list e s3 a4) (fun b5 F' H' σ' => ∃ (c1 : V) (u2 : Option V), σ' = [some (V.ref p1), some c1, u2] ∧ Dq K F' c1 ((e2 PyData.int PyData.int) b5)) k e ⟨_, _, rfl, (d_NOUGHT F)⟩ (fun b5 x6 v14 σ16 F7 H8 F9 H10 g11 i15 g12 r13 nx kfb5 => ?_) (fun b22 σ21 F17 H18 g19 i20 k => ?_)
    · replace r_fractions := r_fractions.up g11.f
      replace s3 := g11.f _ _ s3
      replace a4 := a4.up g11.f
      obtain ⟨c23, u24, rfl, r25⟩ := i15
      replace r_fractions := r_fractions.up g12.f
      replace s3 := g12.f _ _ s3
      replace a4 := a4.up g12.f
      replace r25 := r25.up g12.f
      have eF9 := g12.s
      have gF9 := g11.trans (g12.weak (by simp))
      refine ⟨_, rfl, _, rfl, ?_⟩
      refine ⟨F9, _, b5, _, x6, rfl, eF9, r25, r13, (post_bd kfb5).mono (fun b26 kfb5 v31 F27 H28 g29 r30 => ?_) (fun _ z => z)⟩
      have eF27 := g29.s
      have gF27 := gF9.trans (g29.weak (by simp))
      replace r_fractions := r_fractions.up g29.f
      replace s3 := g29.f _ _ s3
      replace a4 := a4.up g29.f
      replace r25 := r25.up g29.f
      replace r13 := r13.up g29.f
      exact kfb5.h _ _ _ gF27 ⟨_, _, rfl, r30⟩
    have g33 := g_.trans (g19.weak (by simp))
    replace r_fractions := r_fractions.up g19.f
    replace s3 := g19.f _ _ s3
    replace a4 := a4.up g19.f
    have eF17 := g19.s
    obtain ⟨c34, u35, rfl, r36⟩ := i20
    refine ⟨_, rfl, ?_⟩
    exact k.h _ _ _ g33 r36
/-! ### with_root -/
abbrev s_with_root : Stmt := top 25
theorem sc_with_root : FnScope ["polynomial", "place", "raised", "shrunk", "one", "other", "coefficient"] ["polynomial", "place"] (defScope s_with_root) := ⟨rfl, rfl, rfl, by decide +kernel, rfl, by decide +kernel, by decide +kernel⟩
def with_root (polynomial : (List (Int × Int))) (place : (Int × Int)) : Mm (List (Int × Int)) := (guardM ([((0, 1) : (Int × Int))].length + polynomial.length ≤ 100000)).bd fun _ => (guardM (polynomial.length ≤ 50000)).bd fun _ => (mapMm (fun (x13 : (Int × Int)) => (times (x13) (place)).bd fun b32 => Mm.ok b32) polynomial).bd fun b12 => (guardM (b12.length + [((0, 1) : (Int × Int))].length ≤ 100000)).bd fun _ => (guardM ((([((0, 1) : (Int × Int))] ++ polynomial).zip (b12 ++ [((0, 1) : (Int × Int))])).length ≤ 50000)).bd fun _ => (mapMm (fun (x70 : ((Int × Int) × (Int × Int))) => (minus (x70.1) (x70.2)).bd fun b95 => Mm.ok b95) (([((0, 1) : (Int × Int))] ++ polynomial).zip (b12 ++ [((0, 1) : (Int × Int))]))).bd fun b69 => Mm.ok b69
def sp_with_root (K : PySem.W.Frag) : Sp := fun vs H Q E => ∃ (F : Hp) (v_polynomial : V) (polynomial : (List (Int × Int))) (v_place : V) (place : (Int × Int)), vs = [v_polynomial, v_place] ∧ Ex F H ∧ Dq K F v_polynomial ((eL (e2 PyData.int PyData.int)) polynomial) ∧ Dq K F v_place ((e2 PyData.int PyData.int) place) ∧ Post (with_root polynomial place) (fun r => Ret [] F H (fun F' _ v => Dq K F' v ((eL (e2 PyData.int PyData.int)) r)) Q) (fun _ => False)
theorem ok_with_root {P : Program} {w : World} {K : PySem.W.Frag} {mg : Str → Option Value} {base : Heap} {C f : Addr} {fd : FuncData} (B : Bi mg) (FF : FunD K "with_root" "with_root" (defArgs s_with_root) (defBody s_with_root) (defScope s_with_root) [] [] f fd) (G_times : Kn P w K mg base "times" 2 ["one", "other"] (sp_times K)) (G_minus : Kn P w K mg base "minus" 2 ["one", "other"] (sp_minus K)) {a_NOUGHT : Addr} (c_NOUGHT : mg "NOUGHT" = some (.ref a_NOUGHT)) (d_NOUGHT : ∀ F, Dq K F (.ref a_NOUGHT) ((e2 PyData.int PyData.int) (0, 1))) : FnOk P w K mg base CX0 3 f fd ["polynomial", "place"] (sp_with_root K) := by
  refine FF.ok sc_with_root (fun vs H Q E h => ?_) (fun cdv A outer s H vs Q E hr h => ?_)
  · obtain ⟨F, v_polynomial, polynomial, v_place, place, rfl, _⟩ := h; rfl
  · obtain ⟨F, v_polynomial, polynomial, v_place, place, rfl, e, r_polynomial, r_place, k⟩ := h
    unfold with_root at k
    have g_ := Gm.refl (M := []) e
    refine ⟨_, PSs.nox (pss_cons (ps_set (i := 2) sc_with_root.nd rfl (Or.inl rfl) (pe_q (pe_lst (pa_cons (pe_gref c_NOUGHT) (pa_star (pv 0) pa_nil))))) (pss_cons (ps_set (i := 3) sc_with_root.nd rfl (Or.inl rfl) (pe_q (pe_op op_cat (pe_q (pe_lc (own := [("coefficient", 6)]) (g := gName 6) rfl sc_with_root.nd (pi_list (pv 0)) (blkOk_by (N := ["polynomial", "place", "raised", "shrunk", "one", "other", "coefficient"]) (sc := defScope s_with_root) (by decide +kernel)) (fun _ _ _ _ _ => pg_name (i := 6) sc_with_root.nd rfl (Or.inl rfl)) (fun _ _ _ _ _ => pts_nil) (fun _ _ _ _ _ => pe_kn G_times (hr.mono (by decide)) (pa_cons (pv 6) (pa_cons (pv 1) (pa_nil)))))) (pe_q (pe_lst (pa_cons (pe_gref c_NOUGHT) (pa_nil))))))) (pss_one (ps_ret (pe_q (pe_lc (own := [("one", 4), ("other", 5)]) (g := gTup K 2 (gCons (gName 4) (gCons (gName 5) gNil))) rfl sc_with_root.nd (pi_zip rfl B.zip (pa_cons (pv 2) (pa_cons (pv 3) (pa_nil)))) (blkOk_by (N := ["polynomial", "place", "raised", "shrunk", "one", "other", "coefficient"]) (sc := defScope s_with_root) (by decide +kernel)) (fun _ _ _ _ _ => pg_tup (by rfl) (pgs_cons (pg_name (i := 4) sc_with_root.nd rfl (Or.inl rfl)) (pgs_cons (pg_name (i := 5) sc_with_root.nd rfl (Or.inl rfl)) (pgs_nil)))) (fun _ _ _ _ _ => pts_nil) (fun _ _ _ _ _ => pe_kn G_minus (hr.mono (by decide)) (pa_cons (pv 4) (pa_cons (pv 5) (pa_nil)))))))))), ?_⟩
    refine ⟨_, rfl, ?_⟩
    obtain ⟨p1, xs2, rfl, s3, a4⟩ := dp_lst r_polynomial
    refine ⟨_, _, rfl, .inr (sq_of (e _ _ s3)), ?_⟩
    obtain ⟨h5, k⟩ := post_guard k
    show _ ∧ _
    refine new_star (K := K) (M := []) (en := (e2 PyData.int PyData.int)) (pre := [(V.ref a_NOUGHT)]) (pm := [((0, 1) : (Int × Int))]) (xs := xs2) (l := polynomial) e (.cons (d_NOUGHT F) .nil) a4 h5 fun v10 F6 H7 g8 r9 => ?_
    have eF6 := g8.s
    have gF6 := g_.trans (g8.weak (by simp))
    replace r_polynomial := r_polynomial.up g8.f
    replace r_place := r_place.up g8.f
    replace s3 := g8.f _ _ s3
    replace a4 := a4.up g8.f
    refine ⟨_, rfl, ?_⟩
    refine ⟨_, rfl, ⟨_, (sq_of (eF6 _ _ s3))⟩, ?_⟩
    obtain ⟨h30, k⟩ := post_guard k
    refine lc_map (K := K) (M := []) (wlk_list eF6 s3 a4) (e2 PyData.int PyData.int) k eF6 h30 (fun _ _ => by simp) (fun x13 v28 F21 H22 F23 H24 g25 g26 r27 Q' k11 => ?_) (fun _ z => z) (fun b12 v14 F15 H16 g17 r18 k => ?_) gm_name
    · have g31 := Gm.refl (M := []) g25.s
      replace r_polynomial := r_polynomial.up g25.f
      replace r_place := r_place.up g25.f
      replace s3 := g25.f _ _ s3
      replace a4 := a4.up g25.f
      replace r9 := r9.up g25.f
      replace r_polynomial := r_polynomial.up g26.f
      replace r_place := r_place.up g26.f
      replace s3 := g26.f _ _ s3
      replace a4 := a4.up g26.f
      replace r9 := r9.up g26.f
      have eF23 := g26.s
      have gF23 := g31.trans (g26.weak (by simp))
      refine ⟨rfl, _, rfl, _, rfl, ?_⟩
      refine ⟨F23, _, x13, _, place, rfl, eF23, r27, r_place, (post_bd k11).mono (fun b32 k11 v37 F33 H34 g35 r36 => ?_) (fun _ z => z)⟩
      have eF33 := g35.s
      have gF33 := gF23.trans (g35.weak (by simp))
      replace r_polynomial := r_polynomial.up g35.f
      replace r_place := r_place.up g35.f
      replace s3 := g35.f _ _ s3
      replace a4 := a4.up g35.f
      replace r9 := r9.up g35.f
      replace r27 := r27.up g35.f
      exact k11.h _ _ _ gF33 r36
    have eF15 := g17.s
    have gF15 := gF6.trans (g17.weak (by simp))
    replace r_polynomial := r_polynomial.up g17.f
    replace r_place := r_place.up g17.f
    replace s3 := g17.f _ _ s3
    replace a4 := a4.up g17.f
    replace r9 := r9.up g17.f
    show _ ∧ _
    refine new_lst (K := K) (M := []) eF15 (.cons (d_NOUGHT F15) .nil) (by show 1 ≤ 100000; decide) fun v44 F40 H41 g42 r43 => ?_
    have eF40 := g42.s
    have gF40 := gF15.trans (g42.weak (by simp))
    replace r_polynomial := r_polynomial.up g42.f
    replace r_place := r_place.up g42.f
    replace s3 := g42.f _ _ s3
    replace a4 := a4.up g42.f
    replace r9 := r9.up g42.f
    replace r18 := r18.up g42.f
    replace r43 : Dq K F40 v44 ((eL (e2 PyData.int PyData.int)) [((0, 1) : (Int × Int))]) := r43
    obtain ⟨p45, xs46, rfl, s47, a48⟩ := dp_lst r18
    obtain ⟨p49, xs50, rfl, s51, a52⟩ := dp_lst r43
    obtain ⟨h54, k⟩ := post_guard k
    refine ⟨_, _, _, _, rfl, rfl, eF40 _ _ s47, eF40 _ _ s51, cat_len a48 a52 h54, new_lstC (K := K) (M := []) (en := (e2 PyData.int PyData.int)) (l := b12) (l' := [((0, 1) : (Int × Int))]) eF40 a48 a52 fun v59 F55 H56 g57 r58 => ?_⟩
    have eF55 := g57.s
    have gF55 := gF40.trans (g57.weak (by simp))
    replace r_polynomial := r_polynomial.up g57.f
    replace r_place := r_place.up g57.f
    replace s3 := g57.f _ _ s3
    replace a4 := a4.up g57.f
    replace r9 := r9.up g57.f
    replace r18 := r18.up g57.f
    replace r43 := r43.up g57.f
    replace s47 := g57.f _ _ s47
    replace a48 := a48.up g57.f
    replace s51 := g57.f _ _ s51
    replace a52 := a52.up g57.f
    refine ⟨_, rfl, _, rfl, ?_⟩
    obtain ⟨p60, xs61, rfl, s62, a63⟩ := dp_lst r9
    obtain ⟨p64, xs65, rfl, s66, a67⟩ := dp_lst r58
    refine ⟨_, _, _, _, rfl, (sq_of (eF55 _ _ s62)), (sq_of (eF55 _ _ s66)), ?_⟩
    obtain ⟨h87, k⟩ := post_guard k
    refine lc_map (K := K) (M := []) (wlk_zip eF55 s62 a63 s66 a67) (e2 PyData.int PyData.int) k eF55 h87 (fun _ _ => by simp) (fun x70 v85 F78 H79 F80 H81 g82 g83 r84 Q' k68 => ?_) (fun _ z => z) (fun b69 v71 F72 H73 g74 r75 k => ?_) (gm_tup (gms_cons gm_name (gms_cons gm_name gms_nil)))
    · have g88 := Gm.refl (M := []) g82.s
      replace r_polynomial := r_polynomial.up g82.f
      replace r_place := r_place.up g82.f
      replace s3 := g82.f _ _ s3
      replace a4 := a4.up g82.f
      replace r9 := r9.up g82.f
      replace r18 := r18.up g82.f
      replace r43 := r43.up g82.f
      replace s47 := g82.f _ _ s47
      replace a48 := a48.up g82.f
      replace s51 := g82.f _ _ s51
      replace a52 := a52.up g82.f
      replace r58 := r58.up g82.f
      replace s62 := g82.f _ _ s62
      replace a63 := a63.up g82.f
      replace s66 := g82.f _ _ s66
      replace a67 := a67.up g82.f
      replace r_polynomial := r_polynomial.up g83.f
      replace r_place := r_place.up g83.f
      replace s3 := g83.f _ _ s3
      replace a4 := a4.up g83.f
      replace r9 := r9.up g83.f
      replace r18 := r18.up g83.f
      replace r43 := r43.up g83.f
      replace s47 := g83.f _ _ s47
      replace a48 := a48.up g83.f
      replace s51 := g83.f _ _ s51
      replace a52 := a52.up g83.f
      replace r58 := r58.up g83.f
      replace s62 := g83.f _ _ s62
      replace a63 := a63.up g83.f
      replace s66 := g83.f _ _ s66
      replace a67 := a67.up g83.f
      have eF80 := g83.s
      have gF80 := g88.trans (g83.weak (by simp))
      obtain ⟨p89, x90, x91, rfl, s92, d93, d94⟩ := dp_tup2 r84
      refine ⟨_, _, rfl, ex_t eF80 s92, rfl, _, _, rfl, _, _, rfl, rfl, rfl, _, rfl, _, rfl, ?_⟩
      refine ⟨F80, _, x70.1, _, x70.2, rfl, eF80, d93, d94, (post_bd k68).mono (fun b95 k68 v100 F96 H97 g98 r99 => ?_) (fun _ z => z)⟩
      have eF96 := g98.s
      have gF96 := gF80.trans (g98.weak (by simp))
      replace r_polynomial := r_polynomial.up g98.f
      replace r_place := r_place.up g98.f
      replace s3 := g98.f _ _ s3
      replace a4 := a4.up g98.f
      replace r9 := r9.up g98.f
      replace r18 := r18.up g98.f
      replace r43 := r43.up g98.f
      replace s47 := g98.f _ _ s47
      replace a48 := a48.up g98.f
      replace s51 := g98.f _ _ s51
      replace a52 := a52.up g98.f
      replace r58 := r58.up g98.f
      replace s62 := g98.f _ _ s62
      replace a63 := a63.up g98.f
      replace s66 := g98.f _ _ s66
      replace a67 := a67.up g98.f
      replace r84 := r84.up g98.f
      replace s92 := ex_t g98.f s92
      replace d93 := d93.up g98.f
      replace d94 := d94.up g98.f
      exact k68.h _ _ _ gF96 r99
    have eF72 := g74.s
    have gF72 := gF55.trans (g74.weak (by simp))
    replace r_polynomial := r_polynomial.up g74.f
    replace r_place := r_place.up g74.f
    replace s3 := g74.f _ _ s3
    replace a4 := a4.up g74.f
    replace r9 := r9.up g74.f
    replace r18 := r18.up g74.f
    replace r43 := r43.up g74.f
    replace s47 := g74.f _ _ s47
    replace a48 := a48.up g74.f
    replace s51 := g74.f _ _ s51
    replace a52 := a52.up g74.f
    replace r58 := r58.up g74.f
    replace s62 := g74.f _ _ s62
    replace a63 := a63.up g74.f
    replace s66 := g74.f _ _ s66
    replace a67 := a67.up g74.f
    exact k.h _ _ _ gF72 r75
/-! ### multiplied -/
abbrev s_multiplied : Stmt := top 26
theorem sc_multiplied : FnScope ["one", "other", "result", "low", "left", "high", "right"] ["one", "other"] (defScope s_multiplied) := ⟨rfl, rfl, rfl, by decide +kernel, rfl, by decide +kernel, by decide +kernel⟩
def multiplied (one : (List (Int × Int))) (other : (List (Int × Int))) : Mm (List (Int × Int)) := (repM [((0, 1) : (Int × Int))] (((one.length : Int) + (other.length : Int)) - (1 : Int))).bd fun m18 => (foldM (fun (b27 : (List (Int × Int))) (x28 : (Int × (Int × Int))) => (foldM (fun (b58 : (List (Int × Int))) (x59 : (Int × (Int × Int))) => (getM b58 (x28.1 + x59.1)).bd fun i87 => (times (x28.2) (x59.2)).bd fun b92 => (plus (i87) (b92)).bd fun b99 => (setM b58 (x28.1 + x59.1) b99).bd fun m106 => Mm.ok m106) b27 (enumL other)).bd fun b75 => Mm.ok b75) m18 (enumL one)).bd fun b44 => Mm.ok b44
def sp_multiplied (K : PySem.W.Frag) : Sp := fun vs H Q E => ∃ (F : Hp) (v_one : V) (one : (List (Int × Int))) (v_other : V) (other : (List (Int × Int))), vs = [v_one, v_other] ∧ Ex F H ∧ Dq K F v_one ((eL (e2 PyData.int PyData.int)) one) ∧ Dq K F v_other ((eL (e2 PyData.int PyData.int)) other) ∧ Post (multiplied one other) (fun r => Ret [] F H (fun F' _ v => Dq K F' v ((eL (e2 PyData.int PyData.int)) r)) Q) (fun _ => False)
theorem ok_multiplied {P : Program} {w : World} {K : PySem.W.Frag} {mg : Str → Option Value} {base : Heap} {C f : Addr} {fd : FuncData} (B : Bi mg) (FF : FunD K "multiplied" "multiplied" (defArgs s_multiplied) (defBody s_multiplied) (defScope s_multiplied) [] [] f fd) (G_plus : Kn P w K mg base "plus" 2 ["one", "other"] (sp_plus K)) (G_times : Kn P w K mg base "times" 2 ["one", "other"] (sp_times K)) {a_NOUGHT : Addr} (c_NOUGHT : mg "NOUGHT" = some (.ref a_NOUGHT)) (d_NOUGHT : ∀ F, Dq K F (.ref a_NOUGHT) ((e2 PyData.int PyData.int) (0, 1))) : FnOk P w K mg base CX0 3 f fd ["one", "other"] (sp_multiplied K) := by
  refine FF.ok sc_multiplied (fun vs H Q E h => ?_) (fun cdv A outer s H vs Q E hr h => ?_)
  · obtain ⟨F, v_one, one, v_other, other, rfl, _⟩ := h; rfl
  · obtain ⟨F, v_one, one, v_other, other, rfl, e, r_one, r_other, k⟩ := h
    unfold multiplied at k
    have g_ := Gm.refl (M := []) e
    refine ⟨_, PSs.nox (pss_cons (ps_set (i := 2) sc_multiplied.nd rfl (Or.inl rfl) (pe_q (pe_op op_rep (pe_q (pe_lst (pa_cons (pe_gref c_NOUGHT) (pa_nil)))) (pe_op op_sub (pe_op op_add (pe_callB call_lenM (by rfl) B.len (by decide +kernel) (pa_cons (pv 0) pa_nil)) (pe_callB call_lenM (by rfl) B.len (by decide +kernel) (pa_cons (pv 1) pa_nil))) (pe_int))))) (pss_cons (ps_for PassesOwn.never rfl (pi_enum rfl B.enumerate (pa_cons (pv 0) pa_nil)) (pg_tup (by rfl) (pgs_cons (pg_name (i := 3) sc_multiplied.nd rfl (Or.inl rfl)) (pgs_cons (pg_name (i := 4) sc_multiplied.nd rfl (Or.inl rfl)) (pgs_nil)))) (pss_one (ps_for PassesOwn.never rfl (pi_enum rfl B.enumerate (pa_cons (pv 1) pa_nil)) (pg_tup (by rfl) (pgs_cons (pg_name (i := 5) sc_multiplied.nd rfl (Or.inl rfl)) (pgs_cons (pg_name (i := 6) sc_multiplied.nd rfl (Or.inl rfl)) (pgs_nil)))) (pss_one (ps_asg (pe_kn G_plus (hr.mono (by decide)) (pa_cons (pe_ix (r := rIxL K) ix_list (pv 2) (pe_op op_add (pv 3) (pv 5)) (fun _ _ => rfl)) (pa_cons (pe_kn G_times (hr.mono (by decide)) (pa_cons (pv 4) (pa_cons (pv 6) (pa_nil)))) (pa_nil)))) (pg_sub (pv 2) (pe_op op_add (pv 3) (pv 5)) set_list)))))) (pss_one (ps_ret (pv 2))))), ?_⟩
    show _ ∧ _
    refine new_lst (K := K) (M := []) e (.cons (d_NOUGHT F) .nil) (by show 1 ≤ 100000; decide) fun v5 F1 H2 g3 r4 => ?_
    have eF1 := g3.s
    have gF1 := g_.trans (g3.weak (by simp))
    replace r_one := r_one.up g3.f
    replace r_other := r_other.up g3.f
    replace r4 : Dq K F1 v5 ((eL (e2 PyData.int PyData.int)) [((0, 1) : (Int × Int))]) := r4
    refine ⟨_, rfl, ?_⟩
    obtain ⟨p6, xs7, rfl, s8, a9⟩ := dp_lst r_one
    refine ⟨_, _, _, rfl, .inl (sq_of (eF1 _ _ s8)), len_all a9, _, rfl, ?_⟩
    obtain ⟨p10, xs11, rfl, s12, a13⟩ := dp_lst r_other
    refine ⟨_, _, _, rfl, .inl (sq_of (eF1 _ _ s12)), len_all a13, _, _, rfl, rfl, _, _, rfl, rfl, ?_⟩
    obtain ⟨p14, xs15, rfl, s16, a17⟩ := dp_lst r4
    obtain ⟨m18, c19, q20, k⟩ := post_rep k
    refine rep_own (K := K) (en := (e2 PyData.int PyData.int)) eF1 (eF1 _ _ s16) a17 c19 fun p21 H22 g23 y24 o25 => ?_
    have a26 : DqAll K F1 (List.replicate ((((one.length : Int) + (other.length : Int)) - (1 : Int))).toNat xs15).flatten (List.map (e2 PyData.int PyData.int) m18) := all_repM a17 q20
    have zp21 := gF1.fresh y24
    have eH22 := g23.s
    have gH22 := gF1.trans (g23.weak (by simp))
    refine ⟨_, rfl, ?_⟩
    refine ⟨_, _, rfl, (sq_of (eH22 _ _ s8)), ?_⟩
    refine for_m (M := [p21]) (F := F1) (wlk_enum eH22 s8 a9) (fun b27 F' H' σ' => ∃ (u3 : Option V) (u4 : Option V) (u5 : Option V) (u6 : Option V) (xs2 : List V), σ' = [some (V.ref p6), some (V.ref p10), some (V.ref p21), u3, u4, u5, u6] ∧ (H' p21 = some (.lst xs2) ∧ F' p21 = none) ∧ DqAll K F' xs2 (List.map (e2 PyData.int PyData.int) b27)) k eH22 ⟨_, _, _, _, _, rfl, o25, a26⟩ (fun b27 x28 v36 σ38 F29 H30 F31 H32 g33 i37 g34 r35 nx kfb27 => ?_) (fun b44 σ43 F39 H40 g41 i42 k => ?_)
    · replace r_one := r_one.up g33.f
      replace r_other := r_other.up g33.f
      replace r4 := r4.up g33.f
      replace s8 := g33.f _ _ s8
      replace a9 := a9.up g33.f
      replace s12 := g33.f _ _ s12
      replace a13 := a13.up g33.f
      replace s16 := g33.f _ _ s16
      replace a17 := a17.up g33.f
      obtain ⟨u45, u46, u47, u48, xs49, rfl, o50, a51⟩ := i37
      replace r_one := r_one.up g34.f
      replace r_other := r_other.up g34.f
      replace r4 := r4.up g34.f
      replace s8 := g34.f _ _ s8
      replace a9 := a9.up g34.f
      replace s12 := g34.f _ _ s12
      replace a13 := a13.up g34.f
      replace s16 := g34.f _ _ s16
      replace a17 := a17.up g34.f
      replace o50 := g34.own (by first | exact List.not_mem_nil | (simp only [List.mem_cons, List.not_mem_nil, or_false, not_or]; (repeat' apply And.intro) <;> assumption)) o50.1 o50.2
      replace a51 := a51.up g34.f
      have eF31 := g34.s
      have gF31 := g33.trans (g34.weak (by simp))
      obtain ⟨p52, x53, x54, rfl, s55, d56, d57⟩ := dp_tup2 r35
      obtain rfl := dp_int d56
      refine ⟨_, _, rfl, ex_t eF31 s55, rfl, _, _, rfl, _, _, rfl, rfl, ?_⟩
      refine ⟨_, rfl, ?_⟩
      refine ⟨_, _, rfl, (sq_of (eF31 _ _ s12)), ?_⟩
      refine for_m (M := [p21]) (F := F31) (wlk_enum eF31 s12 a13) (fun b58 F' H' σ' => ∃ (u5 : Option V) (u6 : Option V) (xs2 : List V), σ' = [some (V.ref p6), some (V.ref p10), some (V.ref p21), some (V.int x28.1), some x54, u5, u6] ∧ (H' p21 = some (.lst xs2) ∧ F' p21 = none) ∧ DqAll K F' xs2 (List.map (e2 PyData.int PyData.int) b58)) kfb27 eF31 ⟨_, _, _, rfl, o50, a51⟩ (fun b58 x59 v67 σ69 F60 H61 F62 H63 g64 i68 g65 r66 nx kfb27fb58 => ?_) (fun b75 σ74 F70 H71 g72 i73 kfb27 => ?_)
      · replace r_one := r_one.up g64.f
        replace r_other := r_other.up g64.f
        replace r4 := r4.up g64.f
        replace s8 := g64.f _ _ s8
        replace a9 := a9.up g64.f
        replace s12 := g64.f _ _ s12
        replace a13 := a13.up g64.f
        replace s16 := g64.f _ _ s16
        replace a17 := a17.up g64.f
        replace r35 := r35.up g64.f
        replace s55 := ex_t g64.f s55
        replace d57 := d57.up g64.f
        obtain ⟨u76, u77, xs78, rfl, o79, a80⟩ := i68
        replace r_one := r_one.up g65.f
        replace r_other := r_other.up g65.f
        replace r4 := r4.up g65.f
        replace s8 := g65.f _ _ s8
        replace a9 := a9.up g65.f
        replace s12 := g65.f _ _ s12
        replace a13 := a13.up g65.f
        replace s16 := g65.f _ _ s16
        replace a17 := a17.up g65.f
        replace r35 := r35.up g65.f
        replace s55 := ex_t g65.f s55
        replace d57 := d57.up g65.f
        replace o79 := g65.own (by first | exact List.not_mem_nil | (simp only [List.mem_cons, List.not_mem_nil, or_false, not_or]; (repeat' apply And.intro) <;> assumption)) o79.1 o79.2
        replace a80 := a80.up g65.f
        have eF62 := g65.s
        have gF62 := g64.trans (g65.weak (by simp))
        obtain ⟨p81, x82, x83, rfl, s84, d85, d86⟩ := dp_tup2 r66
        obtain rfl := dp_int d85
        refine ⟨_, _, rfl, ex_t eF62 s84, rfl, _, _, rfl, _, _, rfl, rfl, ?_⟩
        refine ⟨_, rfl, _, rfl, _, rfl, _, _, rfl, rfl, ?_⟩
        obtain ⟨i87, h88, kfb27fb58⟩ := post_get kfb27fb58
        obtain ⟨v89, h90, r91⟩ := dq_at a80 h88
        refine ⟨_, _, _, _, rfl, rfl, (sq_of o79.1), h90, ?_⟩
        refine ⟨_, rfl, _, rfl, ?_⟩
        refine ⟨F62, _, x28.2, _, x59.2, rfl, eF62, d57, d86, (post_bd kfb27fb58).mono (fun b92 kfb27fb58 v97 F93 H94 g95 r96 => ?_) (fun _ z => z)⟩
        have eF93 := g95.s
        have gF93 := gF62.trans (g95.weak (by simp))
        replace r_one := r_one.up g95.f
        replace r_other := r_other.up g95.f
        replace r4 := r4.up g95.f
        replace s8 := g95.f _ _ s8
        replace a9 := a9.up g95.f
        replace s12 := g95.f _ _ s12
        replace a13 := a13.up g95.f
        replace s16 := g95.f _ _ s16
        replace a17 := a17.up g95.f
        replace r35 := r35.up g95.f
        replace s55 := ex_t g95.f s55
        replace d57 := d57.up g95.f
        replace o79 := g95.own (by first | exact List.not_mem_nil | (simp only [List.mem_cons, List.not_mem_nil, or_false, not_or]; (repeat' apply And.intro) <;> assumption)) o79.1 o79.2
        replace a80 := a80.up g95.f
        replace r66 := r66.up g95.f
        replace s84 := ex_t g95.f s84
        replace d86 := d86.up g95.f
        replace r91 := r91.up g95.f
        refine ⟨F93, _, i87, _, b92, rfl, eF93, r91, r96, (post_bd kfb27fb58).mono (fun b99 kfb27fb58 v104 F100 H101 g102 r103 => ?_) (fun _ z => z)⟩
        have eF100 := g102.s
        have gF100 := gF93.trans (g102.weak (by simp))
        replace r_one := r_one.up g102.f
        replace r_other := r_other.up g102.f
        replace r4 := r4.up g102.f
        replace s8 := g102.f _ _ s8
        replace a9 := a9.up g102.f
        replace s12 := g102.f _ _ s12
        replace a13 := a13.up g102.f
        replace s16 := g102.f _ _ s16
        replace a17 := a17.up g102.f
        replace r35 := r35.up g102.f
        replace s55 := ex_t g102.f s55
        replace d57 := d57.up g102.f
        replace o79 := g102.own (by first | exact List.not_mem_nil | (simp only [List.mem_cons, List.not_mem_nil, or_false, not_or]; (repeat' apply And.intro) <;> assumption)) o79.1 o79.2
        replace a80 := a80.up g102.f
        replace r66 := r66.up g102.f
        replace s84 := ex_t g102.f s84
        replace d86 := d86.up g102.f
        replace r91 := r91.up g102.f
        replace r96 := r96.up g102.f
        refine ⟨_, rfl, _, rfl, _, rfl, _, _, rfl, rfl, ?_⟩
        obtain ⟨m106, j107, h108, h109, kfb27fb58⟩ := post_set kfb27fb58
        refine ⟨_, _, _, _, rfl, rfl, o79.1, all_ix a80 h108, ?_⟩
        have g110 := gF100.putOr (o := (.lst (List.set xs78 j107 v104))) (.inl (by simp)) o79.1 o79.2
        replace o79 : (upd H101 p21 (.lst (List.set xs78 j107 v104))) p21 = some (.lst (List.set xs78 j107 v104)) ∧ F100 p21 = none := ⟨upd_same, o79.2⟩
        replace a80 : DqAll K F100 (List.set xs78 j107 v104) (List.map (e2 PyData.int PyData.int) m106) := all_set a80 r103 h109
        have e111 := g110.s
        exact kfb27fb58.h _ _ _ g110 ⟨_, _, _, rfl, o79, a80⟩
      have g112 := gF31.trans (g72.weak (by simp))
      replace r_one := r_one.up g72.f
      replace r_other := r_other.up g72.f
      replace r4 := r4.up g72.f
      replace s8 := g72.f _ _ s8
      replace a9 := a9.up g72.f
      replace s12 := g72.f _ _ s12
      replace a13 := a13.up g72.f
      replace s16 := g72.f _ _ s16
      replace a17 := a17.up g72.f
      replace r35 := r35.up g72.f
      replace s55 := ex_t g72.f s55
      replace d57 := d57.up g72.f
      have eF70 := g72.s
      obtain ⟨u113, u114, xs115, rfl, o116, a117⟩ := i73
      exact kfb27.h _ _ _ g112 ⟨_, _, _, _, _, rfl, o116, a117⟩
    have hy119 : ∀ q ∈ [p21], q ∈ [] ∨ H q = none := by intro q hq; simp only [List.mem_cons, List.not_mem_nil, or_false] at hq; rcases hq with rfl; exact (.inr zp21)
    have g118 := Gm.outs [p21] hy119 gH22 (g41.weak (by simp))
    replace r_one := r_one.up g41.f
    replace r_other := r_other.up g41.f
    replace r4 := r4.up g41.f
    replace s8 := g41.f _ _ s8
    replace a9 := a9.up g41.f
    replace s12 := g41.f _ _ s12
    replace a13 := a13.up g41.f
    replace s16 := g41.f _ _ s16
    replace a17 := a17.up g41.f
    have eF39 := g41.s
    obtain ⟨u120, u121, u122, u123, xs124, rfl, o125, a126⟩ := i42
    refine ⟨_, rfl, ?_⟩
    have g127 := g118.fix o125.1 o125.2 zp21
    have ur128 : Ex F39 (upd F39 p21 (.lst xs124)) := Ex.new o125.2
    have r128 : Dq K (upd F39 p21 (.lst xs124)) (.ref p21) (eL (e2 PyData.int PyData.int) b44) := .lst upd_same (a126.up ur128)
    have s130 : (upd F39 p21 (.lst xs124)) p21 = some (.lst xs124) := upd_same
    have a131 := a126.up ur128
    replace r_one := r_one.up ur128
    replace r_other := r_other.up ur128
    replace r4 := r4.up ur128
    replace s8 := ur128 _ _ s8
    replace a9 := a9.up ur128
    replace s12 := ur128 _ _ s12
    replace a13 := a13.up ur128
    replace s16 := ur128 _ _ s16
    replace a17 := a17.up ur128
    have e132 := g127.s
    exact k.h _ _ _ g127 r128
/-! ### is_place -/
abbrev s_is_place : Stmt := top 34
theorem sc_is_place : FnScope ["number"] ["number"] (defScope s_is_place) := ⟨rfl, rfl, rfl, by decide +kernel, rfl, by decide +kernel, by decide +kernel⟩
def is_place (number : Int) : Mm Bool := (whole_within (number) ((-(20 : Int))) ((20 : Int))).bd fun b1 => Mm.ok b1
def sp_is_place (K : PySem.W.Frag) : Sp := fun vs H Q E => ∃ (F : Hp) (number : Int), vs = [(V.int number)] ∧ Ex F H ∧ Post (is_place number) (fun r => Ret [] F H (fun F' _ v => v = V.bl r) Q) (fun _ => False)
theorem ok_is_place {P : Program} {w : World} {K : PySem.W.Frag} {mg : Str → Option Value} {base : Heap} {C f : Addr} {fd : FuncData} (B : Bi mg) (FF : FunD K "is_place" "is_place" (defArgs s_is_place) (defBody s_is_place) (defScope s_is_place) [] [] f fd) (G_whole_within : Kn P w K mg base "whole_within" 1 ["number", "low", "high"] (sp_whole_within K)) (c_FARTHEST : ∃ t, mg "FARTHEST" = some (.int 20 t)) : FnOk P w K mg base CX0 2 f fd ["number"] (sp_is_place K) := by
  refine FF.ok sc_is_place (fun vs H Q E h => ?_) (fun cdv A outer s H vs Q E hr h => ?_)
  · obtain ⟨F, number, rfl, _⟩ := h; rfl
  · obtain ⟨F, number, rfl, e, k⟩ := h
    unfold is_place at k
    have g_ := Gm.refl (M := []) e
    refine ⟨_, PSs.nox (pss_one (ps_ret (pe_kn G_whole_within (hr.mono (by decide)) (pa_cons (pv 0) (pa_cons (pe_un un_neg (pe_gint c_FARTHEST)) (pa_cons (pe_gint c_FARTHEST) (pa_nil))))))), ?_⟩
    refine ⟨_, rfl, _, rfl, ?_⟩
    refine ⟨F, number, (-(20 : Int)), (20 : Int), rfl, e, (post_bd k).mono (fun b1 k v6 F2 H3 g4 r5 => ?_) (fun _ z => z)⟩
    have eF2 := g4.s
    have gF2 := g_.trans (g4.weak (by simp))
    subst r5
    exact k.h _ _ _ gF2 rfl
/-! ### is_mass -/
abbrev s_is_mass : Stmt := top 35
theorem sc_is_mass : FnScope ["number"] ["number"] (defScope s_is_mass) := ⟨rfl, rfl, rfl, by decide +kernel, rfl, by decide +kernel, by decide +kernel⟩
def is_mass (number : Int) : Mm Bool := (whole_within (number) ((1 : Int)) ((20 : Int))).bd fun b1 => Mm.ok b1
def sp_is_mass (K : PySem.W.Frag) : Sp := fun vs H Q E => ∃ (F : Hp) (number : Int), vs = [(V.int number)] ∧ Ex F H ∧ Post (is_mass number) (fun r => Ret [] F H (fun F' _ v => v = V.bl r) Q) (fun _ => False)
theorem ok_is_mass {P : Program} {w : World} {K : PySem.W.Frag} {mg : Str → Option Value} {base : Heap} {C f : Addr} {fd : FuncData} (B : Bi mg) (FF : FunD K "is_mass" "is_mass" (defArgs s_is_mass) (defBody s_is_mass) (defScope s_is_mass) [] [] f fd) (G_whole_within : Kn P w K mg base "whole_within" 1 ["number", "low", "high"] (sp_whole_within K)) (c_HEAVIEST : ∃ t, mg "HEAVIEST" = some (.int 20 t)) : FnOk P w K mg base CX0 2 f fd ["number"] (sp_is_mass K) := by
  refine FF.ok sc_is_mass (fun vs H Q E h => ?_) (fun cdv A outer s H vs Q E hr h => ?_)
  · obtain ⟨F, number, rfl, _⟩ := h; rfl
  · obtain ⟨F, number, rfl, e, k⟩ := h
    unfold is_mass at k
    have g_ := Gm.refl (M := []) e
    refine ⟨_, PSs.nox (pss_one (ps_ret (pe_kn G_whole_within (hr.mono (by decide)) (pa_cons (pv 0) (pa_cons (pe_int) (pa_cons (pe_gint c_HEAVIEST) (pa_nil))))))), ?_⟩
    refine ⟨_, rfl, ?_⟩
    refine ⟨F, number, (1 : Int), (20 : Int), rfl, e, (post_bd k).mono (fun b1 k v6 F2 H3 g4 r5 => ?_) (fun _ z => z)⟩
    have eF2 := g4.s
    have gF2 := g_.trans (g4.weak (by simp))
    subst r5
    exact k.h _ _ _ gF2 rfl
/-! ### check_masses -/
abbrev s_check_masses : Stmt := top 36
theorem sc_check_masses : FnScope ["masses", "ahead", "index", "place", "mass"] ["masses"] (defScope s_check_masses) := ⟨rfl, rfl, rfl, by decide +kernel, rfl, by decide +kernel, by decide +kernel⟩
def check_masses (masses : (List (Int × Int))) : Mm Unit := (foldM (fun (b5 : Int) (x6 : (Int × (Int × Int))) => (cond (decide (x6.1 = (6 : Int))) (Mm.ok true) ((is_place (x6.2.1)).bd fun b42 => (cond (!b42) (Mm.ok true) ((is_mass (x6.2.2)).bd fun b53 => Mm.ok ((!b53) || (decide (x6.2.1 ≤ b5))))).bd fun b49 => Mm.ok b49)).bd fun b38 => cond b38 (Mm.bad) (Mm.ok x6.2.1)) ((-(20 : Int)) - (1 : Int)) (enumL masses)).bd fun b22 => Mm.ok ()
def sp_check_masses (K : PySem.W.Frag) : Sp := fun vs H Q E => ∃ (F : Hp) (v_masses : V) (masses : (List (Int × Int))), vs = [v_masses] ∧ Ex F H ∧ Dq K F v_masses ((eV (e2 PyData.int PyData.int)) masses) ∧ Post (check_masses masses) (fun r => Ret [] F H (fun F' _ v => v = V.non) Q) (fun _ => False)
theorem ok_check_masses {P : Program} {w : World} {K : PySem.W.Frag} {mg : Str → Option Value} {base : Heap} {C f : Addr} {fd : FuncData} (B : Bi mg) (FF : FunD K "check_masses" "check_masses" (defArgs s_check_masses) (defBody s_check_masses) (defScope s_check_masses) [] [] f fd) (G_is_place : Kn P w K mg base "is_place" 2 ["number"] (sp_is_place K)) (G_is_mass : Kn P w K mg base "is_mass" 2 ["number"] (sp_is_mass K)) (c_FARTHEST : ∃ t, mg "FARTHEST" = some (.int 20 t)) (c_MOST_MASSES : ∃ t, mg "MOST_MASSES" = some (.int 6 t)) : FnOk P w K mg base CX0 3 f fd ["masses"] (sp_check_masses K) := by
  refine FF.ok sc_check_masses (fun vs H Q E h => ?_) (fun cdv A outer s H vs Q E hr h => ?_)
  · obtain ⟨F, v_masses, masses, rfl, _⟩ := h; rfl
  · obtain ⟨F, v_masses, masses, rfl, e, r_masses, k⟩ := h
    unfold check_masses at k
    have g_ := Gm.refl (M := []) e
    refine ⟨_, PSs.nox (pss_cons (ps_set (i := 1) sc_check_masses.nd rfl (Or.inl rfl) (pe_op op_sub (pe_un un_neg (pe_gint c_FARTHEST)) (pe_int))) (pss_one (ps_for PassesOwn.never rfl (pi_enumT rfl B.enumerate (pa_cons (pv 0) pa_nil)) (pg_tup (by rfl) (pgs_cons (pg_name (i := 2) sc_check_masses.nd rfl (Or.inl rfl)) (pgs_cons (pg_tup (by rfl) (pgs_cons (pg_name (i := 3) sc_check_masses.nd rfl (Or.inl rfl)) (pgs_cons (pg_name (i := 4) sc_check_masses.nd rfl (Or.inl rfl)) (pgs_nil)))) (pgs_nil)))) (pss_cons (ps_if (PW.pt (pw_or (pt_cmpR op_eq (pv 2) (pe_gint c_MOST_MASSES) (nomark _)) (pw_or (pt_not (pt_val (pe_kn G_is_place (hr.mono (by decide)) (pa_cons (pv 3) (pa_nil))))) (pw_or (pt_not (pt_val (pe_kn G_is_mass (hr.mono (by decide)) (pa_cons (pv 4) (pa_nil))))) (pw_or1 (pt_cmpR op_le (pv 3) (pv 1) (nomark _))))))) (pss_one ps_never) pss_nil) (pss_one (ps_set (i := 1) sc_check_masses.nd rfl (Or.inl rfl) (pv 3))))))), ?_⟩
    refine ⟨_, rfl, _, _, rfl, rfl, ?_⟩
    refine ⟨_, rfl, ?_⟩
    obtain ⟨p1, xs2, rfl, s3, a4⟩ := dp_tup r_masses
    refine ⟨_, _, rfl, (ex_t e s3), ?_⟩
    refine for_m (M := []) (F := F) (wlk_enumT e s3 a4) (fun b5 F' H' σ' => ∃ (u2 : Option V) (u3 : Option V) (u4 : Option V), σ' = [some (V.ref p1), some (V.int b5), u2, u3, u4]) k e ⟨_, _, _, rfl⟩ (fun b5 x6 v14 σ16 F7 H8 F9 H10 g11 i15 g12 r13 nx kfb5 => ?_) (fun b22 σ21 F17 H18 g19 i20 k => ?_)
    · replace r_masses := r_masses.up g11.f
      replace s3 := ex_t g11.f s3
      replace a4 := a4.up g11.f
      obtain ⟨u23, u24, u25, rfl⟩ := i15
      replace r_masses := r_masses.up g12.f
      replace s3 := ex_t g12.f s3
      replace a4 := a4.up g12.f
      have eF9 := g12.s
      have gF9 := g11.trans (g12.weak (by simp))
      obtain ⟨p26, x27, x28, rfl, s29, d30, d31⟩ := dp_tup2 r13
      obtain rfl := dp_int d30
      refine ⟨_, _, rfl, ex_t eF9 s29, rfl, _, _, rfl, _, _, rfl, ?_⟩
      obtain ⟨p32, x33, x34, rfl, s35, d36, d37⟩ := dp_tup2 d31
      obtain rfl := dp_int d36
      obtain rfl := dp_int d37
      refine ⟨_, _, rfl, ex_t eF9 s35, rfl, _, _, rfl, _, _, rfl, rfl, rfl, ?_⟩
      refine ⟨_, rfl, rfl, ?_⟩
      rw [decV_int]
      refine ⟨_, rfl, ?_⟩
      refine or_jM (M := []) eF9 kfb5 (fun _ Q' kfb5tb38 => ?_) (fun b38 F39 H40 g41 kfb5 => ?_)
      · have gF9_ := Gm.refl (M := []) eF9
        refine ⟨_, rfl, ?_⟩
        refine ⟨F9, x6.2.1, rfl, eF9, (post_bd kfb5tb38).mono (fun b42 kfb5tb38 v47 F43 H44 g45 r46 => ?_) (fun _ z => z)⟩
        have eF43 := g45.s
        have gF43 := gF9_.trans (g45.weak (by simp))
        replace r_masses := r_masses.up g45.f
        replace s3 := ex_t g45.f s3
        replace a4 := a4.up g45.f
        replace r13 := r13.up g45.f
        replace s29 := ex_t g45.f s29
        replace d31 := d31.up g45.f
        replace s35 := ex_t g45.f s35
        subst r46
        refine ⟨_, rfl, ?_⟩
        refine or_jM (M := []) eF43 kfb5tb38 (fun _ Q' kfb5tb38tb49 => ?_) (fun b49 F50 H51 g52 kfb5tb38 => ?_)
        · have gF43_ := Gm.refl (M := []) eF43
          refine ⟨_, rfl, ?_⟩
          refine ⟨F43, x6.2.2, rfl, eF43, (post_bd kfb5tb38tb49).mono (fun b53 kfb5tb38tb49 v58 F54 H55 g56 r57 => ?_) (fun _ z => z)⟩
          have eF54 := g56.s
          have gF54 := gF43_.trans (g56.weak (by simp))
          replace r_masses := r_masses.up g56.f
          replace s3 := ex_t g56.f s3
          replace a4 := a4.up g56.f
          replace r13 := r13.up g56.f
          replace s29 := ex_t g56.f s29
          replace d31 := d31.up g56.f
          replace s35 := ex_t g56.f s35
          subst r57
          refine ⟨_, rfl, ?_⟩
          refine or_j (b := (decide (x6.2.1 ≤ b5))) (fun _ Q' q => ?_) ?_
          · refine ⟨_, rfl, _, rfl, _, _, rfl, rfl, _, rfl, ?_⟩
            exact q
          exact kfb5tb38tb49.h _ _ gF54
        have eF50 := g52.s
        have gF50 := gF43.trans (g52.weak (by simp))
        replace r_masses := r_masses.up g52.f
        replace s3 := ex_t g52.f s3
        replace a4 := a4.up g52.f
        replace r13 := r13.up g52.f
        replace s29 := ex_t g52.f s29
        replace d31 := d31.up g52.f
        replace s35 := ex_t g52.f s35
        exact kfb5tb38.h _ _ gF50
      have eF39 := g41.s
      have gF39 := gF9.trans (g41.weak (by simp))
      replace r_masses := r_masses.up g41.f
      replace s3 := ex_t g41.f s3
      replace a4 := a4.up g41.f
      replace r13 := r13.up g41.f
      replace s29 := ex_t g41.f s29
      replace d31 := d31.up g41.f
      replace s35 := ex_t g41.f s35
      refine cs kfb5 (fun _ kfb5 => ?_) (fun _ kfb5 => ?_)
      · exact kfb5.elim
      · refine ⟨_, rfl, ?_⟩
        exact kfb5.h _ _ _ gF39 ⟨_, _, _, rfl⟩
    have g60 := g_.trans (g19.weak (by simp))
    replace r_masses := r_masses.up g19.f
    replace s3 := ex_t g19.f s3
    replace a4 := a4.up g19.f
    have eF17 := g19.s
    obtain ⟨u61, u62, u63, rfl⟩ := i20
    exact k.h _ _ _ g60 rfl
/-! ### check_stretches -/
abbrev s_check_stretches : Stmt := top 37
theorem sc_check_stretches : FnScope ["stretches", "ahead", "index", "low", "high", "height"] ["stretches"] (defScope s_check_stretches) := ⟨rfl, rfl, rfl, by decide +kernel, rfl, by decide +kernel, by decide +kernel⟩
def check_stretches (stretches : (List (Int × Int × Int))) : Mm Unit := (foldM (fun (b5 : Int) (x6 : (Int × (Int × Int × Int))) => (cond (decide (x6.1 = (4 : Int))) (Mm.ok true) ((is_place (x6.2.1)).bd fun b45 => (cond (!b45) (Mm.ok true) ((is_place (x6.2.2.1)).bd fun b56 => (cond (!b56) (Mm.ok true) ((is_mass (x6.2.2.2)).bd fun b67 => Mm.ok (!b67))).bd fun b63 => Mm.ok b63)).bd fun b52 => Mm.ok b52)).bd fun b41 => cond b41 (Mm.bad) (cond ((decide (x6.2.1 < b5)) || (decide (x6.2.2.1 ≤ x6.2.1))) (Mm.bad) (Mm.ok x6.2.2.1))) (-(20 : Int)) (enumL stretches)).bd fun b22 => Mm.ok ()
def sp_check_stretches (K : PySem.W.Frag) : Sp := fun vs H Q E => ∃ (F : Hp) (v_stretches : V) (stretches : (List (Int × Int × Int))), vs = [v_stretches] ∧ Ex F H ∧ Dq K F v_stretches ((eV (e3 PyData.int PyData.int PyData.int)) stretches) ∧ Post (check_stretches stretches) (fun r => Ret [] F H (fun F' _ v => v = V.non) Q) (fun _ => False)
theorem ok_check_stretches {P : Program} {w : World} {K : PySem.W.Frag} {mg : Str → Option Value} {base : Heap} {C f : Addr} {fd : FuncData} (B : Bi mg) (FF : FunD K "check_stretches" "check_stretches" (defArgs s_check_stretches) (defBody s_check_stretches) (defScope s_check_stretches) [] [] f fd) (G_is_place : Kn P w K mg base "is_place" 2 ["number"] (sp_is_place K)) (G_is_mass : Kn P w K mg base "is_mass" 2 ["number"] (sp_is_mass K)) (c_FARTHEST : ∃ t, mg "FARTHEST" = some (.int 20 t)) (c_MOST_STRETCHES : ∃ t, mg "MOST_STRETCHES" = some (.int 4 t)) : FnOk P w K mg base CX0 3 f fd ["stretches"] (sp_check_stretches K) := by
  refine FF.ok sc_check_stretches (fun vs H Q E h => ?_) (fun cdv A outer s H vs Q E hr h => ?_)
  · obtain ⟨F, v_stretches, stretches, rfl, _⟩ := h; rfl
  · obtain ⟨F, v_stretches, stretches, rfl, e, r_stretches, k⟩ := h
    unfold check_stretches at k
    have g_ := Gm.refl (M := []) e
    refine ⟨_, PSs.nox (pss_cons (ps_set (i := 1) sc_check_stretches.nd rfl (Or.inl rfl) (pe_un un_neg (pe_gint c_FARTHEST))) (pss_one (ps_for PassesOwn.never rfl (pi_enumT rfl B.enumerate (pa_cons (pv 0) pa_nil)) (pg_tup (by rfl) (pgs_cons (pg_name (i := 2) sc_check_stretches.nd rfl (Or.inl rfl)) (pgs_cons (pg_tup (by rfl) (pgs_cons (pg_name (i := 3) sc_check_stretches.nd rfl (Or.inl rfl)) (pgs_cons (pg_name (i := 4) sc_check_stretches.nd rfl (Or.inl rfl)) (pgs_cons (pg_name (i := 5) sc_check_stretches.nd rfl (Or.inl rfl)) (pgs_nil))))) (pgs_nil)))) (pss_cons (ps_if (PW.pt (pw_or (pt_cmpR op_eq (pv 2) (pe_gint c_MOST_STRETCHES) (nomark _)) (pw_or (pt_not (pt_val (pe_kn G_is_place (hr.mono (by decide)) (pa_cons (pv 3) (pa_nil))))) (pw_or (pt_not (pt_val (pe_kn G_is_place (hr.mono (by decide)) (pa_cons (pv 4) (pa_nil))))) (pw_or1 (pt_not (pt_val (pe_kn G_is_mass (hr.mono (by decide)) (pa_cons (pv 5) (pa_nil)))))))))) (pss_one ps_never) pss_nil) (pss_cons (ps_if (PW.pt (pw_or (pt_cmpR op_lt (pv 3) (pv 1) (nomark _)) (pw_or1 (pt_cmpR op_le (pv 4) (pv 3) (nomark _))))) (pss_one ps_never) pss_nil) (pss_one (ps_set (i := 1) sc_check_stretches.nd rfl (Or.inl rfl) (pv 4)))))))), ?_⟩
    refine ⟨_, rfl, ?_⟩
    refine ⟨_, rfl, ?_⟩
    obtain ⟨p1, xs2, rfl, s3, a4⟩ := dp_tup r_stretches
    refine ⟨_, _, rfl, (ex_t e s3), ?_⟩
    refine for_m (M := []) (F := F) (wlk_enumT e s3 a4) (fun b5 F' H' σ' => ∃ (u2 : Option V) (u3 : Option V) (u4 : Option V) (u5 : Option V), σ' = [some (V.ref p1), some (V.int b5), u2, u3, u4, u5]) k e ⟨_, _, _, _, rfl⟩ (fun b5 x6 v14 σ16 F7 H8 F9 H10 g11 i15 g12 r13 nx kfb5 => ?_) (fun b22 σ21 F17 H18 g19 i20 k => ?_)
    · replace r_stretches := r_stretches.up g11.f
      replace s3 := ex_t g11.f s3
      replace a4 := a4.up g11.f
      obtain ⟨u23, u24, u25, u26, rfl⟩ := i15
      replace r_stretches := r_stretches.up g12.f
      replace s3 := ex_t g12.f s3
      replace a4 := a4.up g12.f
      have eF9 := g12.s
      have gF9 := g11.trans (g12.weak (by simp))
      obtain ⟨p27, x28, x29, rfl, s30, d31, d32⟩ := dp_tup2 r13
      obtain rfl := dp_int d31
      refine ⟨_, _, rfl, ex_t eF9 s30, rfl, _, _, rfl, _, _, rfl, ?_⟩
      obtain ⟨p33, x34, x35, x36, rfl, s37, d38, d39, d40⟩ := dp_tup3 d32
      obtain rfl := dp_int d38
      obtain rfl := dp_int d39
      obtain rfl := dp_int d40
      refine ⟨_, _, rfl, ex_t eF9 s37, rfl, _, _, rfl, _, _, rfl, _, _, rfl, rfl, rfl, ?_⟩
      refine ⟨_, rfl, rfl, ?_⟩
      rw [decV_int]
      refine ⟨_, rfl, ?_⟩
      refine or_jM (M := []) eF9 kfb5 (fun _ Q' kfb5tb41 => ?_) (fun b41 F42 H43 g44 kfb5 => ?_)
      · have gF9_ := Gm.refl (M := []) eF9
        refine ⟨_, rfl, ?_⟩
        refine ⟨F9, x6.2.1, rfl, eF9, (post_bd kfb5tb41).mono (fun b45 kfb5tb41 v50 F46 H47 g48 r49 => ?_) (fun _ z => z)⟩
        have eF46 := g48.s
        have gF46 := gF9_.trans (g48.weak (by simp))
        replace r_stretches := r_stretches.up g48.f
        replace s3 := ex_t g48.f s3
        replace a4 := a4.up g48.f
        replace r13 := r13.up g48.f
        replace s30 := ex_t g48.f s30
        replace d32 := d32.up g48.f
        replace s37 := ex_t g48.f s37
        subst r49
        refine ⟨_, rfl, ?_⟩
        refine or_jM (M := []) eF46 kfb5tb41 (fun _ Q' kfb5tb41tb52 => ?_) (fun b52 F53 H54 g55 kfb5tb41 => ?_)
        · have gF46_ := Gm.refl (M := []) eF46
          refine ⟨_, rfl, ?_⟩
          refine ⟨F46, x6.2.2.1, rfl, eF46, (post_bd kfb5tb41tb52).mono (fun b56 kfb5tb41tb52 v61 F57 H58 g59 r60 => ?_) (fun _ z => z)⟩
          have eF57 := g59.s
          have gF57 := gF46_.trans (g59.weak (by simp))
          replace r_stretches := r_stretches.up g59.f
          replace s3 := ex_t g59.f s3
          replace a4 := a4.up g59.f
          replace r13 := r13.up g59.f
          replace s30 := ex_t g59.f s30
          replace d32 := d32.up g59.f
          replace s37 := ex_t g59.f s37
          subst r60
          refine ⟨_, rfl, ?_⟩
          refine or_jM (M := []) eF57 kfb5tb41tb52 (fun _ Q' kfb5tb41tb52tb63 => ?_) (fun b63 F64 H65 g66 kfb5tb41tb52 => ?_)
          · have gF57_ := Gm.refl (M := []) eF57
            refine ⟨_, rfl, ?_⟩
            refine ⟨F57, x6.2.2.2, rfl, eF57, (post_bd kfb5tb41tb52tb63).mono (fun b67 kfb5tb41tb52tb63 v72 F68 H69 g70 r71 => ?_) (fun _ z => z)⟩
            have eF68 := g70.s
            have gF68 := gF57_.trans (g70.weak (by simp))
            replace r_stretches := r_stretches.up g70.f
            replace s3 := ex_t g70.f s3
            replace a4 := a4.up g70.f
            replace r13 := r13.up g70.f
            replace s30 := ex_t g70.f s30
            replace d32 := d32.up g70.f
            replace s37 := ex_t g70.f s37
            subst r71
            refine ⟨_, rfl, ?_⟩
            exact kfb5tb41tb52tb63.h _ _ gF68
          have eF64 := g66.s
          have gF64 := gF57.trans (g66.weak (by simp))
          replace r_stretches := r_stretches.up g66.f
          replace s3 := ex_t g66.f s3
          replace a4 := a4.up g66.f
          replace r13 := r13.up g66.f
          replace s30 := ex_t g66.f s30
          replace d32 := d32.up g66.f
          replace s37 := ex_t g66.f s37
          exact kfb5tb41tb52.h _ _ gF64
        have eF53 := g55.s
        have gF53 := gF46.trans (g55.weak (by simp))
        replace r_stretches := r_stretches.up g55.f
        replace s3 := ex_t g55.f s3
        replace a4 := a4.up g55.f
        replace r13 := r13.up g55.f
        replace s30 := ex_t g55.f s30
        replace d32 := d32.up g55.f
        replace s37 := ex_t g55.f s37
        exact kfb5tb41.h _ _ gF53
      have eF42 := g44.s
      have gF42 := gF9.trans (g44.weak (by simp))
      replace r_stretches := r_stretches.up g44.f
      replace s3 := ex_t g44.f s3
      replace a4 := a4.up g44.f
      replace r13 := r13.up g44.f
      replace s30 := ex_t g44.f s30
      replace d32 := d32.up g44.f
      replace s37 := ex_t g44.f s37
      refine cs kfb5 (fun _ kfb5 => ?_) (fun _ kfb5 => ?_)
      · exact kfb5.elim
      · refine ⟨_, rfl, _, rfl, _, _, rfl, rfl, _, rfl, ?_⟩
        refine or_j (b := (decide (x6.2.2.1 ≤ x6.2.1))) (fun _ Q' q => ?_) ?_
        · refine ⟨_, rfl, _, rfl, _, _, rfl, rfl, _, rfl, ?_⟩
          exact q
        refine cs kfb5 (fun _ kfb5 => ?_) (fun _ kfb5 => ?_)
        · exact kfb5.elim
        · refine ⟨_, rfl, ?_⟩
          exact kfb5.h _ _ _ gF42 ⟨_, _, _, _, rfl⟩
    have g74 := g_.trans (g19.weak (by simp))
    replace r_stretches := r_stretches.up g19.f
    replace s3 := ex_t g19.f s3
    replace a4 := a4.up g19.f
    have eF17 := g19.s
    obtain ⟨u75, u76, u77, u78, rfl⟩ := i20
    exact k.h _ _ _ g74 rfl
/-! ### Weighting.__init__ -/
abbrev s_Weighting_init : Stmt := inClass (top 33) 0
theorem sc_Weighting_init : FnScope ["self", "masses", "stretches", "place", "mass", "low", "high", "height"] ["self", "masses", "stretches"] (defScope s_Weighting_init) := ⟨rfl, rfl, rfl, by decide +kernel, rfl, by decide +kernel, by decide +kernel⟩
def Weighting_init (masses : Ms) (stretches : Ss) : Mm Wt := (check_masses (masses)).bd fun b1 => (check_stretches (stretches)).bd fun b8 => (cond (decide ((masses.length : Int) = (0 : Int))) (Mm.ok (decide ((stretches.length : Int) = (0 : Int)))) (Mm.ok false)).bd fun b19 => cond b19 (Mm.bad) ((guardM (masses.length ≤ 50000)).bd fun _ => (mapMm (fun (x29 : (Int × Int)) => Mm.ok (x29.1, x29.2)) masses).bd fun b28 => (guardM (stretches.length ≤ 50000)).bd fun _ => (mapMm (fun (x77 : (Int × Int × Int)) => Mm.ok (x77.1, x77.2.1, x77.2.2)) stretches).bd fun b76 => Mm.ok (b28, b76))
theorem ok_Weighting_init {P : Program} {w : World} {K : PySem.W.Frag} {mg : Str → Option Value} {base : Heap} {C f : Addr} {fd : FuncData} (B : Bi mg) (cl : Cls K C) (n_masses : NoAttr K C "_masses") (n_stretches : NoAttr K C "_stretches") (FF : FunD K "__init__" "Weighting.__init__" (defArgs s_Weighting_init) (defBody s_Weighting_init) (defScope s_Weighting_init) [] [] f fd) (G_check_masses : Kn P w K mg base "check_masses" 3 ["masses"] (sp_check_masses K)) (G_check_stretches : Kn P w K mg base "check_stretches" 3 ["stretches"] (sp_check_stretches K)) : FnOk P w K mg base CX0 4 f fd ["self", "masses", "stretches"] (spW0 Weighting_init K C) := by
  refine FF.ok sc_Weighting_init (fun vs H Q E h => ?_) (fun cdv A outer s H vs Q E hr h => ?_)
  · obtain ⟨F, x, dx, v_masses, v_stretches, masses, stretches, rfl, _⟩ := h; rfl
  · obtain ⟨F, x, dx, v_masses, v_stretches, masses, stretches, rfl, e, hx, fx, r_masses, r_stretches, k⟩ := h
    have o : H x = some (.ins C dx []) ∧ F x = none := ⟨hx, fx⟩
    unfold Weighting_init at k
    have g_ := Gm.refl (M := [x]) e
    refine ⟨_, PSs.nox (pss_cons (ps_expr (pe_kn G_check_masses (hr.mono (by decide)) (pa_cons (pv 1) (pa_nil)))) (pss_cons (ps_expr (pe_kn G_check_stretches (hr.mono (by decide)) (pa_cons (pv 2) (pa_nil)))) (pss_cons (ps_if (PW.pt (pw_and (pt_cmpR op_eq (pe_callB call_lenM (by rfl) B.len (by decide +kernel) (pa_cons (pv 1) pa_nil)) (pe_int) (nomark _)) (pw_and1 (pt_cmpR op_eq (pe_callB call_lenM (by rfl) B.len (by decide +kernel) (pa_cons (pv 2) pa_nil)) (pe_int) (nomark _))))) (pss_one ps_never) pss_nil) (pss_cons (ps_fld (pv 0) (pe_q (pe_callTy call_tuple_of (by rfl) B.tuple (by decide +kernel) (pa_cons (pe_q (pe_lc (own := [("place", 3), ("mass", 4)]) (g := gTup K 2 (gCons (gName 3) (gCons (gName 4) gNil))) rfl sc_Weighting_init.nd (pi_tup (pv 1)) (blkOk_by (N := ["self", "masses", "stretches", "place", "mass", "low", "high", "height"]) (sc := defScope s_Weighting_init) (by decide +kernel)) (fun _ _ _ _ _ => pg_tup (by rfl) (pgs_cons (pg_name (i := 3) sc_Weighting_init.nd rfl (Or.inl rfl)) (pgs_cons (pg_name (i := 4) sc_Weighting_init.nd rfl (Or.inl rfl)) (pgs_nil)))) (fun _ _ _ _ _ => pts_nil) (fun _ _ _ _ _ => pe_q (pe_tup (pa_cons (pv 3) (pa_cons (pv 4) (pa_nil))))))) pa_nil))) rfl) (pss_one (ps_fld (pv 0) (pe_q (pe_callTy call_tuple_of (by rfl) B.tuple (by decide +kernel) (pa_cons (pe_q (pe_lc (own := [("low", 5), ("high", 6), ("height", 7)]) (g := gTup K 3 (gCons (gName 5) (gCons (gName 6) (gCons (gName 7) gNil)))) rfl sc_Weighting_init.nd (pi_tup (pv 2)) (blkOk_by (N := ["self", "masses", "stretches", "place", "mass", "low", "high", "height"]) (sc := defScope s_Weighting_init) (by decide +kernel)) (fun _ _ _ _ _ => pg_tup (by rfl) (pgs_cons (pg_name (i := 5) sc_Weighting_init.nd rfl (Or.inl rfl)) (pgs_cons (pg_name (i := 6) sc_Weighting_init.nd rfl (Or.inl rfl)) (pgs_cons (pg_name (i := 7) sc_Weighting_init.nd rfl (Or.inl rfl)) (pgs_nil))))) (fun _ _ _ _ _ => pts_nil) (fun _ _ _ _ _ => pe_q (pe_tup (pa_cons (pv 5) (pa_cons (pv 6) (pa_cons (pv 7) (pa_nil)))))))) pa_nil))) rfl)))))), ?_⟩
    refine ⟨_, rfl, ?_⟩
    refine ⟨F, _, masses, rfl, e, r_masses, (post_bd k).mono (fun b1 k v6 F2 H3 g4 r5 => ?_) (fun _ z => z)⟩
    have eF2 := g4.s
    have gF2 := g_.trans (g4.weak (by simp))
    replace o := g4.own (by first | exact List.not_mem_nil | (simp only [List.mem_cons, List.not_mem_nil, or_false, not_or]; (repeat' apply And.intro) <;> assumption)) o.1 o.2
    replace r_masses := r_masses.up g4.f
    replace r_stretches := r_stretches.up g4.f
    subst r5
    refine ⟨_, rfl, ?_⟩
    refine ⟨F2, _, stretches, rfl, eF2, r_stretches, (post_bd k).mono (fun b8 k v13 F9 H10 g11 r12 => ?_) (fun _ z => z)⟩
    have eF9 := g11.s
    have gF9 := gF2.trans (g11.weak (by simp))
    replace o := g11.own (by first | exact List.not_mem_nil | (simp only [List.mem_cons, List.not_mem_nil, or_false, not_or]; (repeat' apply And.intro) <;> assumption)) o.1 o.2
    replace r_masses := r_masses.up g11.f
    replace r_stretches := r_stretches.up g11.f
    subst r12
    refine ⟨_, rfl, ?_⟩
    obtain ⟨p15, xs16, rfl, s17, a18⟩ := dp_tup r_masses
    refine ⟨_, _, _, rfl, .inr (ex_t eF9 s17), len_all a18, rfl, ?_⟩
    rw [decV_int]
    refine ⟨_, rfl, ?_⟩
    refine and_jM (M := []) eF9 k (fun _ Q' ktb19 => ?_) (fun b19 F20 H21 g22 k => ?_)
    · have gF9_ := Gm.refl (M := []) eF9
      refine ⟨_, rfl, ?_⟩
      obtain ⟨p23, xs24, rfl, s25, a26⟩ := dp_tup r_stretches
      refine ⟨_, _, _, rfl, .inr (ex_t eF9 s25), len_all a26, rfl, ?_⟩
      rw [decV_int]
      refine ⟨_, rfl, ?_⟩
      exact ktb19.h _ _ gF9_
    have eF20 := g22.s
    have gF20 := gF9.trans (g22.weak (by simp))
    replace o := g22.own (by first | exact List.not_mem_nil | (simp only [List.mem_cons, List.not_mem_nil, or_false, not_or]; (repeat' apply And.intro) <;> assumption)) o.1 o.2
    replace r_masses := r_masses.up g22.f
    replace r_stretches := r_stretches.up g22.f
    replace s17 := ex_t g22.f s17
    replace a18 := a18.up g22.f
    refine cs k (fun _ k => ?_) (fun _ k => ?_)
    · exact k.elim
    · refine ⟨_, rfl, ?_⟩
      refine ⟨_, rfl, ⟨_, (ex_t eF20 s17)⟩, ?_⟩
      obtain ⟨h46, k⟩ := post_guard k
      refine lc_map (K := K) (M := []) (wlk_tup eF20 s17 a18) (e2 PyData.int PyData.int) k eF20 h46 (fun _ _ => by simp) (fun x29 v44 F37 H38 F39 H40 g41 g42 r43 Q' k27 => ?_) (fun _ z => z) (fun b28 v30 F31 H32 g33 r34 k => ?_) (gm_tup (gms_cons gm_name (gms_cons gm_name gms_nil)))
      · have g47 := Gm.refl (M := []) g41.s
        replace o := g41.own (by first | exact List.not_mem_nil | (simp only [List.mem_cons, List.not_mem_nil, or_false, not_or]; (repeat' apply And.intro) <;> assumption)) o.1 o.2
        replace r_masses := r_masses.up g41.f
        replace r_stretches := r_stretches.up g41.f
        replace s17 := ex_t g41.f s17
        replace a18 := a18.up g41.f
        replace o := g42.own (by first | exact List.not_mem_nil | (simp only [List.mem_cons, List.not_mem_nil, or_false, not_or]; (repeat' apply And.intro) <;> assumption)) o.1 o.2
        replace r_masses := r_masses.up g42.f
        replace r_stretches := r_stretches.up g42.f
        replace s17 := ex_t g42.f s17
        replace a18 := a18.up g42.f
        have eF39 := g42.s
        have gF39 := g47.trans (g42.weak (by simp))
        obtain ⟨p48, x49, x50, rfl, s51, d52, d53⟩ := dp_tup2 r43
        obtain rfl := dp_int d52
        obtain rfl := dp_int d53
        refine ⟨_, _, rfl, ex_t eF39 s51, rfl, _, _, rfl, _, _, rfl, rfl, rfl, _, rfl, _, rfl, ?_⟩
        show _ ∧ _
        refine new_tup (K := K) (M := []) eF39 (.cons (Dq.int x29.1) (.cons (Dq.int x29.2) .nil)) (by show 2 ≤ 100000; decide) fun v58 F54 H55 g56 r57 => ?_
        have eF54 := g56.s
        have gF54 := gF39.trans (g56.weak (by simp))
        replace o := g56.own (by first | exact List.not_mem_nil | (simp only [List.mem_cons, List.not_mem_nil, or_false, not_or]; (repeat' apply And.intro) <;> assumption)) o.1 o.2
        replace r_masses := r_masses.up g56.f
        replace r_stretches := r_stretches.up g56.f
        replace s17 := ex_t g56.f s17
        replace a18 := a18.up g56.f
        replace r43 := r43.up g56.f
        replace s51 := ex_t g56.f s51
        replace r57 : Dq K F54 v58 ((e2 PyData.int PyData.int) (x29.1, x29.2)) := r57
        exact k27.h _ _ _ gF54 r57
      have eF31 := g33.s
      have gF31 := gF20.trans (g33.weak (by simp))
      replace o := g33.own (by first | exact List.not_mem_nil | (simp only [List.mem_cons, List.not_mem_nil, or_false, not_or]; (repeat' apply And.intro) <;> assumption)) o.1 o.2
      replace r_masses := r_masses.up g33.f
      replace r_stretches := r_stretches.up g33.f
      replace s17 := ex_t g33.f s17
      replace a18 := a18.up g33.f
      obtain ⟨p60, xs61, rfl, s62, a63⟩ := dp_lst r34
      refine to_VL (K := K) (M := []) eF31 s62 a63 (en := (e2 PyData.int PyData.int)) (l := b28) fun v68 F64 H65 g66 r67 => ?_
      have eF64 := g66.s
      have gF64 := gF31.trans (g66.weak (by simp))
      replace o := g66.own (by first | exact List.not_mem_nil | (simp only [List.mem_cons, List.not_mem_nil, or_false, not_or]; (repeat' apply And.intro) <;> assumption)) o.1 o.2
      replace r_masses := r_masses.up g66.f
      replace r_stretches := r_stretches.up g66.f
      replace s17 := ex_t g66.f s17
      replace a18 := a18.up g66.f
      replace r34 := r34.up g66.f
      replace s62 := g66.f _ _ s62
      replace a63 := a63.up g66.f
      refine ⟨_, rfl, x, C, dx, _, rfl, o.1, cl, n_masses, (by show 0 < 1000; decide), ?_⟩
      have g69 := gF64.putIn (o := .ins C dx (putF "_masses" v68 [])) (by simp) o.1 o.2
      replace o : (upd H65 x (.ins C dx (putF "_masses" v68 []))) x = some (.ins C dx (putF "_masses" v68 [])) ∧ F64 x = none := ⟨upd_same, o.2⟩
      have e70 := g69.s
      refine ⟨_, rfl, ?_⟩
      obtain ⟨p71, xs72, rfl, s73, a74⟩ := dp_tup r_stretches
      refine ⟨_, rfl, ⟨_, (ex_t e70 s73)⟩, ?_⟩
      obtain ⟨h94, k⟩ := post_guard k
      refine lc_map (K := K) (M := []) (wlk_tup e70 s73 a74) (e3 PyData.int PyData.int PyData.int) k e70 h94 (fun _ _ => by simp) (fun x77 v92 F85 H86 F87 H88 g89 g90 r91 Q' k75 => ?_) (fun _ z => z) (fun b76 v78 F79 H80 g81 r82 k => ?_) (gm_tup (gms_cons gm_name (gms_cons gm_name (gms_cons gm_name gms_nil))))
      · have g95 := Gm.refl (M := []) g89.s
        replace o := g89.own (by first | exact List.not_mem_nil | (simp only [List.mem_cons, List.not_mem_nil, or_false, not_or]; (repeat' apply And.intro) <;> assumption)) o.1 o.2
        replace r_masses := r_masses.up g89.f
        replace r_stretches := r_stretches.up g89.f
        replace s17 := ex_t g89.f s17
        replace a18 := a18.up g89.f
        replace r34 := r34.up g89.f
        replace s62 := g89.f _ _ s62
        replace a63 := a63.up g89.f
        replace r67 := r67.up g89.f
        replace s73 := ex_t g89.f s73
        replace a74 := a74.up g89.f
        replace o := g90.own (by first | exact List.not_mem_nil | (simp only [List.mem_cons, List.not_mem_nil, or_false, not_or]; (repeat' apply And.intro) <;> assumption)) o.1 o.2
        replace r_masses := r_masses.up g90.f
        replace r_stretches := r_stretches.up g90.f
        replace s17 := ex_t g90.f s17
        replace a18 := a18.up g90.f
        replace r34 := r34.up g90.f
        replace s62 := g90.f _ _ s62
        replace a63 := a63.up g90.f
        replace r67 := r67.up g90.f
        replace s73 := ex_t g90.f s73
        replace a74 := a74.up g90.f
        have eF87 := g90.s
        have gF87 := g95.trans (g90.weak (by simp))
        obtain ⟨p96, x97, x98, x99, rfl, s100, d101, d102, d103⟩ := dp_tup3 r91
        obtain rfl := dp_int d101
        obtain rfl := dp_int d102
        obtain rfl := dp_int d103
        refine ⟨_, _, rfl, ex_t eF87 s100, rfl, _, _, rfl, _, _, rfl, _, _, rfl, rfl, rfl, _, rfl, _, rfl, _, rfl, ?_⟩
        show _ ∧ _
        refine new_tup (K := K) (M := []) eF87 (.cons (Dq.int x77.1) (.cons (Dq.int x77.2.1) (.cons (Dq.int x77.2.2) .nil))) (by show 3 ≤ 100000; decide) fun v108 F104 H105 g106 r107 => ?_
        have eF104 := g106.s
        have gF104 := gF87.trans (g106.weak (by simp))
        replace o := g106.own (by first | exact List.not_mem_nil | (simp only [List.mem_cons, List.not_mem_nil, or_false, not_or]; (repeat' apply And.intro) <;> assumption)) o.1 o.2
        replace r_masses := r_masses.up g106.f
        replace r_stretches := r_stretches.up g106.f
        replace s17 := ex_t g106.f s17
        replace a18 := a18.up g106.f
        replace r34 := r34.up g106.f
        replace s62 := g106.f _ _ s62
        replace a63 := a63.up g106.f
        replace r67 := r67.up g106.f
        replace s73 := ex_t g106.f s73
        replace a74 := a74.up g106.f
        replace r91 := r91.up g106.f
        replace s100 := ex_t g106.f s100
        replace r107 : Dq K F104 v108 ((e3 PyData.int PyData.int PyData.int) (x77.1, x77.2.1, x77.2.2)) := r107
        exact k75.h _ _ _ gF104 r107
      have eF79 := g81.s
      have gF79 := g69.trans (g81.weak (by simp))
      replace o := g81.own (by first | exact List.not_mem_nil | (simp only [List.mem_cons, List.not_mem_nil, or_false, not_or]; (repeat' apply And.intro) <;> assumption)) o.1 o.2
      replace r_masses := r_masses.up g81.f
      replace r_stretches := r_stretches.up g81.f
      replace s17 := ex_t g81.f s17
      replace a18 := a18.up g81.f
      replace r34 := r34.up g81.f
      replace s62 := g81.f _ _ s62
      replace a63 := a63.up g81.f
      replace r67 := r67.up g81.f
      replace s73 := ex_t g81.f s73
      replace a74 := a74.up g81.f
      obtain ⟨p110, xs111, rfl, s112, a113⟩ := dp_lst r82
      refine to_VL (K := K) (M := []) eF79 s112 a113 (en := (e3 PyData.int PyData.int PyData.int)) (l := b76) fun v118 F114 H115 g116 r117 => ?_
      have eF114 := g116.s
      have gF114 := gF79.trans (g116.weak (by simp))
      replace o := g116.own (by first | exact List.not_mem_nil | (simp only [List.mem_cons, List.not_mem_nil, or_false, not_or]; (repeat' apply And.intro) <;> assumption)) o.1 o.2
      replace r_masses := r_masses.up g116.f
      replace r_stretches := r_stretches.up g116.f
      replace s17 := ex_t g116.f s17
      replace a18 := a18.up g116.f
      replace r34 := r34.up g116.f
      replace s62 := g116.f _ _ s62
      replace a63 := a63.up g116.f
      replace r67 := r67.up g116.f
      replace s73 := ex_t g116.f s73
      replace a74 := a74.up g116.f
      replace r82 := r82.up g116.f
      replace s112 := g116.f _ _ s112
      replace a113 := a113.up g116.f
      refine ⟨_, rfl, x, C, dx, _, rfl, o.1, cl, n_stretches, (by show 1 < 1000; decide), ?_⟩
      have g119 := gF114.putIn (o := .ins C dx (putF "_stretches" v118 (putF "_masses" v68 []))) (by simp) o.1 o.2
      replace o : (upd H115 x (.ins C dx (putF "_stretches" v118 (putF "_masses" v68 [])))) x = some (.ins C dx (putF "_stretches" v118 (putF "_masses" v68 []))) ∧ F114 x = none := ⟨upd_same, o.2⟩
      have e120 := g119.s
      exact k.h _ _ _ _ g119 o.1 o.2 r67 r117
/-! ### power_sum -/
abbrev s_power_sum : Stmt := top 38
theorem sc_power_sum : FnScope ["weighting", "power", "up", "masses", "areas", "place", "mass", "low", "high", "height"] ["weighting", "power"] (defScope s_power_sum) := ⟨rfl, rfl, rfl, by decide +kernel, rfl, by decide +kernel, by decide +kernel⟩
def power_sum (weighting : Wt) (power : Int) : Mm (Int × Int) := (check_within (power) ((0 : Int)) ((60 : Int))).bd fun b1 => (guardM (weighting.1.length ≤ 50000)).bd fun _ => (mapMm (fun (x21 : (Int × Int)) => (power_of (x21.1) (power)).bd fun b46 => (mulM x21.2 b46).bd fun m53 => Mm.ok m53) weighting.1).bd fun b20 => (guardM (weighting.2.length ≤ 50000)).bd fun _ => (mapMm (fun (x67 : (Int × Int × Int)) => (power_of (x67.2.1) ((power + (1 : Int)))).bd fun b94 => (power_of (x67.1) ((power + (1 : Int)))).bd fun b101 => (mulM x67.2.2 (b94 - b101)).bd fun m108 => Mm.ok m108) weighting.2).bd fun b66 => (mulM (List.sum b20) (power + (1 : Int))).bd fun m116 => (lowest ((m116 + (List.sum b66))) ((power + (1 : Int)))).bd fun b119 => Mm.ok b119
def sp_power_sum (K : PySem.W.Frag) (C : Addr) : Sp := fun vs H Q E => ∃ (F : Hp) (v_weighting : V) (weighting : Wt) (power : Int), vs = [v_weighting, (V.int power)] ∧ Ex F H ∧ IsW K C F v_weighting weighting ∧ Post (power_sum weighting power) (fun r => Ret [] F H (fun F' _ v => Dq K F' v ((e2 PyData.int PyData.int) r)) Q) (fun _ => False)
theorem ok_power_sum {P : Program} {w : World} {K : PySem.W.Frag} {mg : Str → Option Value} {base : Heap} {C f : Addr} {fd : FuncData} (B : Bi mg) (FF : FunD K "power_sum" "power_sum" (defArgs s_power_sum) (defBody s_power_sum) (defScope s_power_sum) [] [] f fd) (G_check_within : Kn P w K mg base "check_within" 2 ["number", "low", "high"] (sp_check_within K)) (G_power_of : Kn P w K mg base "power_of" 1 ["base", "power"] (sp_power_of K)) (G_lowest : Kn P w K mg base "lowest" 1 ["top", "bottom"] (sp_lowest K)) (c_MOST_POWER : ∃ t, mg "MOST_POWER" = some (.int 60 t)) (GP_masses : KnP P w K mg base C "masses" "_masses") (GP_stretches : KnP P w K mg base C "stretches" "_stretches") : FnOk P w K mg base CX0 3 f fd ["weighting", "power"] (sp_power_sum K C) := by
  refine FF.ok sc_power_sum (fun vs H Q E h => ?_) (fun cdv A outer s H vs Q E hr h => ?_)
  · obtain ⟨F, v_weighting, weighting, power, rfl, _⟩ := h; rfl
  · obtain ⟨F, v_weighting, weighting, power, rfl, e, r_weighting, k⟩ := h
    unfold power_sum at k
    have g_ := Gm.refl (M := []) e
    refine ⟨_, PSs.nox (pss_cons (ps_expr (pe_kn G_check_within (hr.mono (by decide)) (pa_cons (pv 1) (pa_cons (pe_int) (pa_cons (pe_gint c_MOST_POWER) (pa_nil)))))) (pss_cons (ps_set (i := 2) sc_power_sum.nd rfl (Or.inr rfl) (pe_op op_add (pv 1) (pe_int))) (pss_cons (ps_set (i := 3) sc_power_sum.nd rfl (Or.inl rfl) (pe_callB (cr_sum rfl) (by rfl) B.sum (by decide +kernel) (pa_cons (pe_q (pe_lc (own := [("place", 5), ("mass", 6)]) (g := gTup K 2 (gCons (gName 5) (gCons (gName 6) gNil))) rfl sc_power_sum.nd (pi_tup (pe_propK GP_masses (hr.mono (by decide)) (pv 0))) (blkOk_by (N := ["weighting", "power", "up", "masses", "areas", "place", "mass", "low", "high", "height"]) (sc := defScope s_power_sum) (by decide +kernel)) (fun _ _ _ _ _ => pg_tup (by rfl) (pgs_cons (pg_name (i := 5) sc_power_sum.nd rfl (Or.inl rfl)) (pgs_cons (pg_name (i := 6) sc_power_sum.nd rfl (Or.inl rfl)) (pgs_nil)))) (fun _ _ _ _ _ => pts_nil) (fun _ _ _ _ _ => pe_op op_mulM (pv 6) (pe_kn G_power_of (hr.mono (by decide)) (pa_cons (pv 5) (pa_cons (pv 1) (pa_nil))))))) pa_nil))) (pss_cons (ps_set (i := 4) sc_power_sum.nd rfl (Or.inl rfl) (pe_callB (cr_sum rfl) (by rfl) B.sum (by decide +kernel) (pa_cons (pe_q (pe_lc (own := [("low", 7), ("high", 8), ("height", 9)]) (g := gTup K 3 (gCons (gName 7) (gCons (gName 8) (gCons (gName 9) gNil)))) rfl sc_power_sum.nd (pi_tup (pe_propK GP_stretches (hr.mono (by decide)) (pv 0))) (blkOk_by (N := ["weighting", "power", "up", "masses", "areas", "place", "mass", "low", "high", "height"]) (sc := defScope s_power_sum) (by decide +kernel)) (fun _ _ _ _ _ => pg_tup (by rfl) (pgs_cons (pg_name (i := 7) sc_power_sum.nd rfl (Or.inl rfl)) (pgs_cons (pg_name (i := 8) sc_power_sum.nd rfl (Or.inl rfl)) (pgs_cons (pg_name (i := 9) sc_power_sum.nd rfl (Or.inl rfl)) (pgs_nil))))) (fun _ _ _ _ _ => pts_nil) (fun _ _ _ _ _ => pe_op op_mulM (pv 9) (pe_op op_sub (pe_kn G_power_of (hr.mono (by decide)) (pa_cons (pv 8) (pa_cons (pv 2) (pa_nil)))) (pe_kn G_power_of (hr.mono (by decide)) (pa_cons (pv 7) (pa_cons (pv 2) (pa_nil)))))))) pa_nil))) (pss_one (ps_ret (pe_kn G_lowest (hr.mono (by decide)) (pa_cons (pe_op op_add (pe_op op_mulM (pv 3) (pv 2)) (pv 4)) (pa_cons (pv 2) (pa_nil)))))))))), ?_⟩
    refine ⟨_, rfl, ?_⟩
    refine ⟨F, power, (0 : Int), (60 : Int), rfl, e, (post_bd k).mono (fun b1 k v6 F2 H3 g4 r5 => ?_) (fun _ z => z)⟩
    have eF2 := g4.s
    have gF2 := g_.trans (g4.weak (by simp))
    replace r_weighting := r_weighting.up g4.f
    subst r5
    refine ⟨_, rfl, _, _, rfl, rfl, ?_⟩
    refine ⟨_, rfl, ?_⟩
    obtain ⟨a8, dx9, m10, t11, rfl, h12, r13, r14⟩ := r_weighting.ex
    refine ⟨_, _, _, rfl, eF2 _ _ h12, _, _, _, _, rfl, eF2 _ _ h12, wf_m _ _, ?_⟩
    obtain ⟨p15, xs16, rfl, s17, a18⟩ := dp_tup r13
    refine ⟨_, rfl, ⟨_, (ex_t eF2 s17)⟩, ?_⟩
    obtain ⟨h38, k⟩ := post_guard k
    refine lc_map (K := K) (M := []) (wlk_tup eF2 s17 a18) PyData.int k eF2 h38 (fun _ _ => by simp) (fun x21 v36 F29 H30 F31 H32 g33 g34 r35 Q' k19 => ?_) (fun _ z => z) (fun b20 v22 F23 H24 g25 r26 k => ?_) (gm_tup (gms_cons gm_name (gms_cons gm_name gms_nil)))
    · have g39 := Gm.refl (M := []) g33.s
      replace r_weighting := r_weighting.up g33.f
      replace h12 := g33.f _ _ h12
      replace r13 := r13.up g33.f
      replace r14 := r14.up g33.f
      replace s17 := ex_t g33.f s17
      replace a18 := a18.up g33.f
      replace r_weighting := r_weighting.up g34.f
      replace h12 := g34.f _ _ h12
      replace r13 := r13.up g34.f
      replace r14 := r14.up g34.f
      replace s17 := ex_t g34.f s17
      replace a18 := a18.up g34.f
      have eF31 := g34.s
      have gF31 := g39.trans (g34.weak (by simp))
      obtain ⟨p40, x41, x42, rfl, s43, d44, d45⟩ := dp_tup2 r35
      obtain rfl := dp_int d44
      obtain rfl := dp_int d45
      refine ⟨_, _, rfl, ex_t eF31 s43, rfl, _, _, rfl, _, _, rfl, rfl, rfl, _, rfl, _, rfl, _, rfl, ?_⟩
      refine ⟨F31, x21.1, power, rfl, eF31, (post_bd k19).mono (fun b46 k19 v51 F47 H48 g49 r50 => ?_) (fun _ z => z)⟩
      have eF47 := g49.s
      have gF47 := gF31.trans (g49.weak (by simp))
      replace r_weighting := r_weighting.up g49.f
      replace h12 := g49.f _ _ h12
      replace r13 := r13.up g49.f
      replace r14 := r14.up g49.f
      replace s17 := ex_t g49.f s17
      replace a18 := a18.up g49.f
      replace r35 := r35.up g49.f
      replace s43 := ex_t g49.f s43
      subst r50
      obtain ⟨m53, c54, q55, k19⟩ := post_mul k19
      refine ⟨_, _, _, rfl, rfl, c54, q55, ?_⟩
      exact k19.h _ _ _ gF47 (Dq.int m53)
    have eF23 := g25.s
    have gF23 := gF2.trans (g25.weak (by simp))
    replace r_weighting := r_weighting.up g25.f
    replace h12 := g25.f _ _ h12
    replace r13 := r13.up g25.f
    replace r14 := r14.up g25.f
    replace s17 := ex_t g25.f s17
    replace a18 := a18.up g25.f
    obtain ⟨p57, xs58, rfl, s59, a60⟩ := dp_lst r26
    obtain rfl := all_ints a60
    refine ⟨_, _, rfl, (sq_of (eF23 _ _ s59)), ?_⟩
    refine ⟨_, rfl, ?_⟩
    refine ⟨_, _, _, rfl, eF23 _ _ h12, _, _, _, _, rfl, eF23 _ _ h12, wf_s _ _, ?_⟩
    obtain ⟨p61, xs62, rfl, s63, a64⟩ := dp_tup r14
    refine ⟨_, rfl, ⟨_, (ex_t eF23 s63)⟩, ?_⟩
    obtain ⟨h84, k⟩ := post_guard k
    refine lc_map (K := K) (M := []) (wlk_tup eF23 s63 a64) PyData.int k eF23 h84 (fun _ _ => by simp) (fun x67 v82 F75 H76 F77 H78 g79 g80 r81 Q' k65 => ?_) (fun _ z => z) (fun b66 v68 F69 H70 g71 r72 k => ?_) (gm_tup (gms_cons gm_name (gms_cons gm_name (gms_cons gm_name gms_nil))))
    · have g85 := Gm.refl (M := []) g79.s
      replace r_weighting := r_weighting.up g79.f
      replace h12 := g79.f _ _ h12
      replace r13 := r13.up g79.f
      replace r14 := r14.up g79.f
      replace s17 := ex_t g79.f s17
      replace a18 := a18.up g79.f
      replace r26 := r26.up g79.f
      replace s59 := g79.f _ _ s59
      replace a60 := a60.up g79.f
      replace s63 := ex_t g79.f s63
      replace a64 := a64.up g79.f
      replace r_weighting := r_weighting.up g80.f
      replace h12 := g80.f _ _ h12
      replace r13 := r13.up g80.f
      replace r14 := r14.up g80.f
      replace s17 := ex_t g80.f s17
      replace a18 := a18.up g80.f
      replace r26 := r26.up g80.f
      replace s59 := g80.f _ _ s59
      replace a60 := a60.up g80.f
      replace s63 := ex_t g80.f s63
      replace a64 := a64.up g80.f
      have eF77 := g80.s
      have gF77 := g85.trans (g80.weak (by simp))
      obtain ⟨p86, x87, x88, x89, rfl, s90, d91, d92, d93⟩ := dp_tup3 r81
      obtain rfl := dp_int d91
      obtain rfl := dp_int d92
      obtain rfl := dp_int d93
      refine ⟨_, _, rfl, ex_t eF77 s90, rfl, _, _, rfl, _, _, rfl, _, _, rfl, rfl, rfl, _, rfl, _, rfl, _, rfl, ?_⟩
      refine ⟨F77, x67.2.1, (power + (1 : Int)), rfl, eF77, (post_bd k65).mono (fun b94 k65 v99 F95 H96 g97 r98 => ?_) (fun _ z => z)⟩
      have eF95 := g97.s
      have gF95 := gF77.trans (g97.weak (by simp))
      replace r_weighting := r_weighting.up g97.f
      replace h12 := g97.f _ _ h12
      replace r13 := r13.up g97.f
      replace r14 := r14.up g97.f
      replace s17 := ex_t g97.f s17
      replace a18 := a18.up g97.f
      replace r26 := r26.up g97.f
      replace s59 := g97.f _ _ s59
      replace a60 := a60.up g97.f
      replace s63 := ex_t g97.f s63
      replace a64 := a64.up g97.f
      replace r81 := r81.up g97.f
      replace s90 := ex_t g97.f s90
      subst r98
      refine ⟨_, rfl, _, rfl, ?_⟩
      refine ⟨F95, x67.1, (power + (1 : Int)), rfl, eF95, (post_bd k65).mono (fun b101 k65 v106 F102 H103 g104 r105 => ?_) (fun _ z => z)⟩
      have eF102 := g104.s
      have gF102 := gF95.trans (g104.weak (by simp))
      replace r_weighting := r_weighting.up g104.f
      replace h12 := g104.f _ _ h12
      replace r13 := r13.up g104.f
      replace r14 := r14.up g104.f
      replace s17 := ex_t g104.f s17
      replace a18 := a18.up g104.f
      replace r26 := r26.up g104.f
      replace s59 := g104.f _ _ s59
      replace a60 := a60.up g104.f
      replace s63 := ex_t g104.f s63
      replace a64 := a64.up g104.f
      replace r81 := r81.up g104.f
      replace s90 := ex_t g104.f s90
      subst r105
      refine ⟨_, _, rfl, rfl, ?_⟩
      obtain ⟨m108, c109, q110, k65⟩ := post_mul k65
      refine ⟨_, _, _, rfl, rfl, c109, q110, ?_⟩
      exact k65.h _ _ _ gF102 (Dq.int m108)
    have eF69 := g71.s
    have gF69 := gF23.trans (g71.weak (by simp))
    replace r_weighting := r_weighting.up g71.f
    replace h12 := g71.f _ _ h12
    replace r13 := r13.up g71.f
    replace r14 := r14.up g71.f
    replace s17 := ex_t g71.f s17
    replace a18 := a18.up g71.f
    replace r26 := r26.up g71.f
    replace s59 := g71.f _ _ s59
    replace a60 := a60.up g71.f
    replace s63 := ex_t g71.f s63
    replace a64 := a64.up g71.f
    obtain ⟨p112, xs113, rfl, s114, a115⟩ := dp_lst r72
    obtain rfl := all_ints a115
    refine ⟨_, _, rfl, (sq_of (eF69 _ _ s114)), ?_⟩
    refine ⟨_, rfl, _, rfl, ?_⟩
    obtain ⟨m116, c117, q118, k⟩ := post_mul k
    refine ⟨_, _, _, rfl, rfl, c117, q118, _, rfl, _, _, rfl, rfl, _, rfl, ?_⟩
    refine ⟨F69, (m116 + (List.sum b66)), (power + (1 : Int)), rfl, eF69, (post_bd k).mono (fun b119 k v124 F120 H121 g122 r123 => ?_) (fun _ z => z)⟩
    have eF120 := g122.s
    have gF120 := gF69.trans (g122.weak (by simp))
    replace r_weighting := r_weighting.up g122.f
    replace h12 := g122.f _ _ h12
    replace r13 := r13.up g122.f
    replace r14 := r14.up g122.f
    replace s17 := ex_t g122.f s17
    replace a18 := a18.up g122.f
    replace r26 := r26.up g122.f
    replace s59 := g122.f _ _ s59
    replace a60 := a60.up g122.f
    replace s63 := ex_t g122.f s63
    replace a64 := a64.up g122.f
    replace r72 := r72.up g122.f
    replace s114 := g122.f _ _ s114
    replace a115 := a115.up g122.f
    exact k.h _ _ _ gF120 r123
/-! ### power_sums -/
abbrev s_power_sums : Stmt := top 39
theorem sc_power_sums : FnScope ["weighting", "count", "power"] ["weighting", "count"] (defScope s_power_sums) := ⟨rfl, rfl, rfl, by decide +kernel, rfl, by decide +kernel, by decide +kernel⟩
def power_sums (weighting : Wt) (count : Int) : Mm (List (Int × Int)) := (check_within (count) ((0 : Int)) (((60 : Int) + (1 : Int)))).bd fun b1 => (rangeM count).bd fun l9 => (guardM ((rangeL 0 count.toNat).length ≤ 50000)).bd fun _ => (mapMm (fun (x12 : Int) => (power_sum (weighting) (x12)).bd fun b31 => Mm.ok b31) (rangeL 0 count.toNat)).bd fun b11 => Mm.ok b11
def sp_power_sums (K : PySem.W.Frag) (C : Addr) : Sp := fun vs H Q E => ∃ (F : Hp) (v_weighting : V) (weighting : Wt) (count : Int), vs = [v_weighting, (V.int count)] ∧ Ex F H ∧ IsW K C F v_weighting weighting ∧ Post (power_sums weighting count) (fun r => Ret [] F H (fun F' _ v => Dq K F' v ((eL (e2 PyData.int PyData.int)) r)) Q) (fun _ => False)
theorem ok_power_sums {P : Program} {w : World} {K : PySem.W.Frag} {mg : Str → Option Value} {base : Heap} {C f : Addr} {fd : FuncData} (B : Bi mg) (FF : FunD K "power_sums" "power_sums" (defArgs s_power_sums) (defBody s_power_sums) (defScope s_power_sums) [] [] f fd) (G_check_within : Kn P w K mg base "check_within" 2 ["number", "low", "high"] (sp_check_within K)) (G_power_sum : Kn P w K mg base "power_sum" 3 ["weighting", "power"] (sp_power_sum K C)) (c_MOST_POWER : ∃ t, mg "MOST_POWER" = some (.int 60 t)) : FnOk P w K mg base CX0 4 f fd ["weighting", "count"] (sp_power_sums K C) := by
  refine FF.ok sc_power_sums (fun vs H Q E h => ?_) (fun cdv A outer s H vs Q E hr h => ?_)
  · obtain ⟨F, v_weighting, weighting, count, rfl, _⟩ := h; rfl
  · obtain ⟨F, v_weighting, weighting, count, rfl, e, r_weighting, k⟩ := h
    unfold power_sums at k
    have g_ := Gm.refl (M := []) e
    refine ⟨_, PSs.nox (pss_cons (ps_expr (pe_kn G_check_within (hr.mono (by decide)) (pa_cons (pv 1) (pa_cons (pe_int) (pa_cons (pe_op op_add (pe_gint c_MOST_POWER) (pe_int)) (pa_nil)))))) (pss_one (ps_ret (pe_q (pe_lc (own := [("power", 2)]) (g := gName 2) rfl sc_power_sums.nd (pi_range1 rfl B.range (pa_cons (pv 1) (pa_nil))) (blkOk_by (N := ["weighting", "count", "power"]) (sc := defScope s_power_sums) (by decide +kernel)) (fun _ _ _ _ _ => pg_name (i := 2) sc_power_sums.nd rfl (Or.inl rfl)) (fun _ _ _ _ _ => pts_nil) (fun _ _ _ _ _ => pe_kn G_power_sum (hr.mono (by decide)) (pa_cons (pv 0) (pa_cons (pv 2) (pa_nil))))))))), ?_⟩
    refine ⟨_, rfl, _, _, rfl, rfl, ?_⟩
    refine ⟨F, count, (0 : Int), ((60 : Int) + (1 : Int)), rfl, e, (post_bd k).mono (fun b1 k v6 F2 H3 g4 r5 => ?_) (fun _ z => z)⟩
    have eF2 := g4.s
    have gF2 := g_.trans (g4.weak (by simp))
    replace r_weighting := r_weighting.up g4.f
    subst r5
    refine ⟨_, rfl, ?_⟩
    obtain ⟨h8, k⟩ := post_range k
    refine ⟨_, rfl, h8.1, h8.2, ?_⟩
    obtain ⟨h29, k⟩ := post_guard k
    refine lc_map (K := K) (M := []) wlk_range (e2 PyData.int PyData.int) k eF2 h29 (fun _ _ => by simp) (fun x12 v27 F20 H21 F22 H23 g24 g25 r26 Q' k10 => ?_) (fun _ z => z) (fun b11 v13 F14 H15 g16 r17 k => ?_) gm_name
    · have g30 := Gm.refl (M := []) g24.s
      replace r_weighting := r_weighting.up g24.f
      replace r_weighting := r_weighting.up g25.f
      have eF22 := g25.s
      have gF22 := g30.trans (g25.weak (by simp))
      subst r26
      refine ⟨rfl, _, rfl, _, rfl, ?_⟩
      refine ⟨F22, _, weighting, x12, rfl, eF22, r_weighting, (post_bd k10).mono (fun b31 k10 v36 F32 H33 g34 r35 => ?_) (fun _ z => z)⟩
      have eF32 := g34.s
      have gF32 := gF22.trans (g34.weak (by simp))
      replace r_weighting := r_weighting.up g34.f
      exact k10.h _ _ _ gF32 r35
    have eF14 := g16.s
    have gF14 := gF2.trans (g16.weak (by simp))
    replace r_weighting := r_weighting.up g16.f
    exact k.h _ _ _ gF14 r17
/-! ### weighed -/
abbrev s_weighed : Stmt := top 40
theorem sc_weighed : FnScope ["weighting", "coefficients", "power", "coefficient"] ["weighting", "coefficients"] (defScope s_weighed) := ⟨rfl, rfl, rfl, by decide +kernel, rfl, by decide +kernel, by decide +kernel⟩
def weighed (weighting : Wt) (coefficients : (List (Int × Int))) : Mm (Int × Int) := (guardM ((enumL coefficients).length ≤ 50000)).bd fun _ => (mapMm (fun (x7 : (Int × (Int × Int))) => (power_sum (weighting) (x7.1)).bd fun b32 => (times (x7.2) (b32)).bd fun b39 => Mm.ok b39) (enumL coefficients)).bd fun b6 => (added_up (b6)).bd fun b47 => Mm.ok b47
def sp_weighed (K : PySem.W.Frag) (C : Addr) : Sp := fun vs H Q E => ∃ (F : Hp) (v_weighting : V) (weighting : Wt) (v_coefficients : V) (coefficients : (List (Int × Int))), vs = [v_weighting, v_coefficients] ∧ Ex F H ∧ IsW K C F v_weighting weighting ∧ Dq K F v_coefficients ((eL (e2 PyData.int PyData.int)) coefficients) ∧ Post (weighed weighting coefficients) (fun r => Ret [] F H (fun F' _ v => Dq K F' v ((e2 PyData.int PyData.int) r)) Q) (fun _ => False)
theorem ok_weighed {P : Program} {w : World} {K : PySem.W.Frag} {mg : Str → Option Value} {base : Heap} {C f : Addr} {fd : FuncData} (B : Bi mg) (FF : FunD K "weighed" "weighed" (defArgs s_weighed) (defBody s_weighed) (defScope s_weighed) [] [] f fd) (G_added_up : Kn P w K mg base "added_up" 3 ["fractions"] (sp_added_up K)) (G_times : Kn P w K mg base "times" 2 ["one", "other"] (sp_times K)) (G_power_sum : Kn P w K mg base "power_sum" 3 ["weighting", "power"] (sp_power_sum K C)) : FnOk P w K mg base CX0 4 f fd ["weighting", "coefficients"] (sp_weighed K C) := by
  refine FF.ok sc_weighed (fun vs H Q E h => ?_) (fun cdv A outer s H vs Q E hr h => ?_)
  · obtain ⟨F, v_weighting, weighting, v_coefficients, coefficients, rfl, _⟩ := h; rfl
  · obtain ⟨F, v_weighting, weighting, v_coefficients, coefficients, rfl, e, r_weighting, r_coefficients, k⟩ := h
    unfold weighed at k
    have g_ := Gm.refl (M := []) e
    refine ⟨_, PSs.nox (pss_one (ps_ret (pe_kn G_added_up (hr.mono (by decide)) (pa_cons (pe_q (pe_lc (own := [("power", 2), ("coefficient", 3)]) (g := gTup K 2 (gCons (gName 2) (gCons (gName 3) gNil))) rfl sc_weighed.nd (pi_enum rfl B.enumerate (pa_cons (pv 1) pa_nil)) (blkOk_by (N := ["weighting", "coefficients", "power", "coefficient"]) (sc := defScope s_weighed) (by decide +kernel)) (fun _ _ _ _ _ => pg_tup (by rfl) (pgs_cons (pg_name (i := 2) sc_weighed.nd rfl (Or.inl rfl)) (pgs_cons (pg_name (i := 3) sc_weighed.nd rfl (Or.inl rfl)) (pgs_nil)))) (fun _ _ _ _ _ => pts_nil) (fun _ _ _ _ _ => pe_kn G_times (hr.mono (by decide)) (pa_cons (pv 3) (pa_cons (pe_kn G_power_sum (hr.mono (by decide)) (pa_cons (pv 0) (pa_cons (pv 2) (pa_nil)))) (pa_nil)))))) (pa_nil))))), ?_⟩
    refine ⟨_, rfl, ?_⟩
    obtain ⟨p1, xs2, rfl, s3, a4⟩ := dp_lst r_coefficients
    refine ⟨_, _, rfl, (sq_of (e _ _ s3)), ?_⟩
    obtain ⟨h24, k⟩ := post_guard k
    refine lc_map (K := K) (M := []) (wlk_enum e s3 a4) (e2 PyData.int PyData.int) k e h24 (fun _ _ => by simp) (fun x7 v22 F15 H16 F17 H18 g19 g20 r21 Q' k5 => ?_) (fun _ z => z) (fun b6 v8 F9 H10 g11 r12 k => ?_) (gm_tup (gms_cons gm_name (gms_cons gm_name gms_nil)))
    · have g25 := Gm.refl (M := []) g19.s
      replace r_weighting := r_weighting.up g19.f
      replace r_coefficients := r_coefficients.up g19.f
      replace s3 := g19.f _ _ s3
      replace a4 := a4.up g19.f
      replace r_weighting := r_weighting.up g20.f
      replace r_coefficients := r_coefficients.up g20.f
      replace s3 := g20.f _ _ s3
      replace a4 := a4.up g20.f
      have eF17 := g20.s
      have gF17 := g25.trans (g20.weak (by simp))
      obtain ⟨p26, x27, x28, rfl, s29, d30, d31⟩ := dp_tup2 r21
      obtain rfl := dp_int d30
      refine ⟨_, _, rfl, ex_t eF17 s29, rfl, _, _, rfl, _, _, rfl, rfl, rfl, _, rfl, _, rfl, _, rfl, ?_⟩
      refine ⟨F17, _, weighting, x7.1, rfl, eF17, r_weighting, (post_bd k5).mono (fun b32 k5 v37 F33 H34 g35 r36 => ?_) (fun _ z => z)⟩
      have eF33 := g35.s
      have gF33 := gF17.trans (g35.weak (by simp))
      replace r_weighting := r_weighting.up g35.f
      replace r_coefficients := r_coefficients.up g35.f
      replace s3 := g35.f _ _ s3
      replace a4 := a4.up g35.f
      replace r21 := r21.up g35.f
      replace s29 := ex_t g35.f s29
      replace d31 := d31.up g35.f
      refine ⟨F33, _, x7.2, _, b32, rfl, eF33, d31, r36, (post_bd k5).mono (fun b39 k5 v44 F40 H41 g42 r43 => ?_) (fun _ z => z)⟩
      have eF40 := g42.s
      have gF40 := gF33.trans (g42.weak (by simp))
      replace r_weighting := r_weighting.up g42.f
      replace r_coefficients := r_coefficients.up g42.f
      replace s3 := g42.f _ _ s3
      replace a4 := a4.up g42.f
      replace r21 := r21.up g42.f
      replace s29 := ex_t g42.f s29
      replace d31 := d31.up g42.f
      replace r36 := r36.up g42.f
      exact k5.h _ _ _ gF40 r43
    have eF9 := g11.s
    have gF9 := g_.trans (g11.weak (by simp))
    replace r_weighting := r_weighting.up g11.f
    replace r_coefficients := r_coefficients.up g11.f
    replace s3 := g11.f _ _ s3
    replace a4 := a4.up g11.f
    refine ⟨F9, _, b6, rfl, eF9, r12, (post_bd k).mono (fun b47 k v52 F48 H49 g50 r51 => ?_) (fun _ z => z)⟩
    have eF48 := g50.s
    have gF48 := gF9.trans (g50.weak (by simp))
    replace r_weighting := r_weighting.up g50.f
    replace r_coefficients := r_coefficients.up g50.f
    replace s3 := g50.f _ _ s3
    replace a4 := a4.up g50.f
    replace r12 := r12.up g50.f
    exact k.h _ _ _ gF48 r51
/-! ### square_of_sums -/
abbrev s_square_of_sums : Stmt := top 42
theorem sc_square_of_sums : FnScope ["sums", "size", "row"] ["sums", "size"] (defScope s_square_of_sums) := ⟨rfl, rfl, rfl, by decide +kernel, rfl, by decide +kernel, by decide +kernel⟩
def square_of_sums (sums : (List (Int × Int))) (size : Int) : Mm (List (List (Int × Int))) := (rangeM size).bd fun l2 => (guardM ((rangeL 0 size.toNat).length ≤ 50000)).bd fun _ => (mapMm (fun (x5 : Int) => Mm.ok (cutL sums (some x5) (some (x5 + size)))) (rangeL 0 size.toNat)).bd fun b4 => Mm.ok b4
def sp_square_of_sums (K : PySem.W.Frag) : Sp := fun vs H Q E => ∃ (F : Hp) (v_sums : V) (sums : (List (Int × Int))) (size : Int), vs = [v_sums, (V.int size)] ∧ Ex F H ∧ Dq K F v_sums ((eL (e2 PyData.int PyData.int)) sums) ∧ Post (square_of_sums sums size) (fun r => Ret [] F H (fun F' _ v => Dq K F' v ((eL (eL (e2 PyData.int PyData.int))) r)) Q) (fun _ => False)
theorem ok_square_of_sums {P : Program} {w : World} {K : PySem.W.Frag} {mg : Str → Option Value} {base : Heap} {C f : Addr} {fd : FuncData} (B : Bi mg) (FF : FunD K "square_of_sums" "square_of_sums" (defArgs s_square_of_sums) (defBody s_square_of_sums) (defScope s_square_of_sums) [] [] f fd) : FnOk P w K mg base CX0 1 f fd ["sums", "size"] (sp_square_of_sums K) := by
  refine FF.ok sc_square_of_sums (fun vs H Q E h => ?_) (fun cdv A outer s H vs Q E hr h => ?_)
  · obtain ⟨F, v_sums, sums, size, rfl, _⟩ := h; rfl
  · obtain ⟨F, v_sums, sums, size, rfl, e, r_sums, k⟩ := h
    unfold square_of_sums at k
    have g_ := Gm.refl (M := []) e
    refine ⟨_, PSs.nox (pss_one (ps_ret (pe_q (pe_lc (own := [("row", 2)]) (g := gName 2) rfl sc_square_of_sums.nd (pi_range1 rfl B.range (pa_cons (pv 1) (pa_nil))) (blkOk_by (N := ["sums", "size", "row"]) (sc := defScope s_square_of_sums) (by decide +kernel)) (fun _ _ _ _ _ => pg_name (i := 2) sc_square_of_sums.nd rfl (Or.inl rfl)) (fun _ _ _ _ _ => pts_nil) (fun _ _ _ _ _ => pe_q (pe_slice (r := rSlL K) sl_list (pv 0) (po_some (pv 2)) (po_some (pe_op op_add (pv 2) (pv 1))))))))), ?_⟩
    refine ⟨_, rfl, ?_⟩
    obtain ⟨h1, k⟩ := post_range k
    refine ⟨_, rfl, h1.1, h1.2, ?_⟩
    obtain ⟨h22, k⟩ := post_guard k
    refine lc_map (K := K) (M := []) wlk_range (eL (e2 PyData.int PyData.int)) k e h22 (fun _ _ => by simp) (fun x5 v20 F13 H14 F15 H16 g17 g18 r19 Q' k3 => ?_) (fun _ z => z) (fun b4 v6 F7 H8 g9 r10 k => ?_) gm_name
    · have g23 := Gm.refl (M := []) g17.s
      replace r_sums := r_sums.up g17.f
      replace r_sums := r_sums.up g18.f
      have eF15 := g18.s
      have gF15 := g23.trans (g18.weak (by simp))
      subst r19
      refine ⟨rfl, _, rfl, _, rfl, _, rfl, _, rfl, _, rfl, _, _, rfl, rfl, _, rfl, ?_⟩
      obtain ⟨p24, xs25, rfl, s26, a27⟩ := dp_lst r_sums
      refine cut_lst (K := K) (M := []) eF15 s26 a27 fun v32 F28 H29 g30 r31 => ?_
      have eF28 := g30.s
      have gF28 := gF15.trans (g30.weak (by simp))
      replace r_sums := r_sums.up g30.f
      replace s26 := g30.f _ _ s26
      replace a27 := a27.up g30.f
      exact k3.h _ _ _ gF28 r31
    have eF7 := g9.s
    have gF7 := g_.trans (g9.weak (by simp))
    replace r_sums := r_sums.up g9.f
    exact k.h _ _ _ gF7 r10
/-! ### determinant -/
abbrev s_determinant : Stmt := top 43
theorem sc_determinant : FnScope ["square", "result", "column", "head", "smaller", "part", "row"] ["square"] (defScope s_determinant) := ⟨rfl, rfl, rfl, by decide +kernel, rfl, by decide +kernel, by decide +kernel⟩
def determinant : Nat → (List (List (Int × Int))) → Mm (Int × Int)
  | 0, _ => Mm.bad
  | n_ + 1, square => cond (decide ((square.length : Int) = (0 : Int))) (Mm.ok ((1, 1) : (Int × Int))) ((getM square (0 : Int)).bd fun i5 => (foldM (fun (b14 : (Int × Int)) (x15 : (Int × (Int × Int))) => (guardM ((cutL square (some (1 : Int)) none).length ≤ 50000)).bd fun _ => (mapMm (fun (x56 : (List (Int × Int))) => (guardM ((cutL x56 none (some x15.1)).length + (cutL x56 (some (x15.1 + (1 : Int))) none).length ≤ 100000)).bd fun _ => Mm.ok ((cutL x56 none (some x15.1)) ++ (cutL x56 (some (x15.1 + (1 : Int))) none))) (cutL square (some (1 : Int)) none)).bd fun b55 => (determinant n_ (b55)).bd fun b105 => (times (x15.2) (b105)).bd fun b112 => (modM x15.1 (2 : Int)).bd fun m119 => cond (decide (m119 = (0 : Int))) ((plus (b14) (b112)).bd fun b122 => Mm.ok b122) ((minus (b14) (b112)).bd fun b129 => Mm.ok b129)) ((0, 1) : (Int × Int)) (enumL i5)).bd fun b31 => Mm.ok b31)
def sp_determinant (K : PySem.W.Frag) (n_ : Nat) : Sp := fun vs H Q E => ∃ (F : Hp) (v_square : V) (square : (List (List (Int × Int)))), vs = [v_square] ∧ Ex F H ∧ Dq K F v_square ((eL (eL (e2 PyData.int PyData.int))) square) ∧ Post (determinant n_ square) (fun r => Ret [] F H (fun F' _ v => Dq K F' v ((e2 PyData.int PyData.int) r)) Q) (fun _ => False)
theorem ok_determinant {P : Program} {w : World} {K : PySem.W.Frag} {mg : Str → Option Value} {base : Heap} {C f : Addr} {fd : FuncData} (B : Bi mg) (FF : FunD K "determinant" "determinant" (defArgs s_determinant) (defBody s_determinant) (defScope s_determinant) [] [] f fd) (G_times : Kn P w K mg base "times" 2 ["one", "other"] (sp_times K)) (G_plus : Kn P w K mg base "plus" 2 ["one", "other"] (sp_plus K)) (G_minus : Kn P w K mg base "minus" 2 ["one", "other"] (sp_minus K)) {a_NOUGHT : Addr} (c_NOUGHT : mg "NOUGHT" = some (.ref a_NOUGHT)) (d_NOUGHT : ∀ F, Dq K F (.ref a_NOUGHT) ((e2 PyData.int PyData.int) (0, 1))) {a_ONE : Addr} (c_ONE : mg "ONE" = some (.ref a_ONE)) (d_ONE : ∀ F, Dq K F (.ref a_ONE) ((e2 PyData.int PyData.int) (1, 1))) (g_determinant : mg "determinant" = some (.ref f)) (b_determinant : Binds K fd ["square"] []) : ∀ n_ : Nat, FnOk P w K mg base CX0 (n_ + 3) f fd ["square"] (sp_determinant K n_) := by
  intro n_
  induction n_ with
  | zero =>
    refine FF.ok sc_determinant (fun vs H Q E h => ?_) (fun cdv A outer s H vs Q E hr h => ?_)
    · obtain ⟨F, v_square, square, rfl, _⟩ := h; rfl
    · obtain ⟨F, v_square, square, rfl, e, r_square, k⟩ := h
      rw [determinant.eq_1] at k
      exact k.elim
  | succ n_ ih =>
    have G_determinant : Kn P w K mg base "determinant" (n_ + 3) ["square"] (sp_determinant K n_) := ⟨_, _, ih, g_determinant, FF.kp, b_determinant⟩
    refine FF.ok sc_determinant (fun vs H Q E h => ?_) (fun cdv A outer s H vs Q E hr h => ?_)
    · obtain ⟨F, v_square, square, rfl, _⟩ := h; rfl
    · obtain ⟨F, v_square, square, rfl, e, r_square, k⟩ := h
      rw [determinant.eq_2] at k
      have g_ := Gm.refl (M := []) e
      refine ⟨_, PSs.nox (pss_cons (ps_if (pt_cmpR op_eq (pe_callB call_lenM (by rfl) B.len (by decide +kernel) (pa_cons (pv 0) pa_nil)) (pe_int) (nomark _)) (pss_one (ps_ret (pe_gref c_ONE))) pss_nil) (pss_cons (ps_set (i := 1) sc_determinant.nd rfl (Or.inl rfl) (pe_gref c_NOUGHT)) (pss_cons (ps_for PassesOwn.never rfl (pi_enum rfl B.enumerate (pa_cons (pe_ix (r := rIxL K) ix_list (pv 0) (pe_int) (fun _ _ => rfl)) pa_nil)) (pg_tup (by rfl) (pgs_cons (pg_name (i := 2) sc_determinant.nd rfl (Or.inr rfl)) (pgs_cons (pg_name (i := 3) sc_determinant.nd rfl (Or.inl rfl)) (pgs_nil)))) (pss_cons (ps_q (ps_setLc (i := 4) (own := [("row", 6)]) (g := gName 6) rfl sc_determinant.nd rfl rfl (sw_true rfl rfl rfl (by decide +kernel)) (pi_list (pe_q (pe_slice (r := rSlL K) sl_list (pv 0) (po_some (pe_int)) po_none))) (blkOk_by (N := ["square", "result", "column", "head", "smaller", "part", "row"]) (sc := defScope s_determinant) (by decide +kernel)) (fun _ _ _ _ _ => pg_name (i := 6) sc_determinant.nd rfl (Or.inl rfl)) (fun _ _ _ _ _ => pts_nil) (fun _ _ _ _ _ => pe_q (pe_op op_cat (pe_q (pe_slice (r := rSlL K) sl_list (pv 6) po_none (po_some (pv 2)))) (pe_q (pe_slice (r := rSlL K) sl_list (pv 6) (po_some (pe_op op_add (pv 2) (pe_int))) po_none)))))) (pss_cons (ps_set (i := 5) sc_determinant.nd rfl (Or.inl rfl) (pe_kn G_times (hr.mono (by omega)) (pa_cons (pv 3) (pa_cons (pe_kn G_determinant (hr.mono (by omega)) (pa_cons (pv 4) (pa_nil))) (pa_nil))))) (pss_one (ps_if (pt_cmpR op_eq (pe_op op_modM (pv 2) (pe_int)) (pe_int) (nomark _)) (pss_one (ps_set (i := 1) sc_determinant.nd rfl (Or.inl rfl) (pe_kn G_plus (hr.mono (by omega)) (pa_cons (pv 1) (pa_cons (pv 5) (pa_nil)))))) (pss_one (ps_set (i := 1) sc_determinant.nd rfl (Or.inl rfl) (pe_kn G_minus (hr.mono (by omega)) (pa_cons (pv 1) (pa_cons (pv 5) (pa_nil))))))))))) (pss_one (ps_ret (pv 1)))))), ?_⟩
      refine ⟨_, rfl, ?_⟩
      obtain ⟨p1, xs2, rfl, s3, a4⟩ := dp_lst r_square
      refine ⟨_, _, _, rfl, .inl (sq_of (e _ _ s3)), len_all a4, rfl, ?_⟩
      rw [decV_int]
      refine ⟨_, rfl, ?_⟩
      refine cs k (fun _ k => ?_) (fun _ k => ?_)
      · exact k.h _ _ _ g_ (d_ONE F)
      · refine ⟨_, rfl, ?_⟩
        obtain ⟨i5, h6, k⟩ := post_get k
        obtain ⟨v7, h8, r9⟩ := dq_at a4 h6
        refine ⟨_, _, _, _, rfl, rfl, (sq_of (e _ _ s3)), h8, ?_⟩
        obtain ⟨p10, xs11, rfl, s12, a13⟩ := dp_lst r9
        refine ⟨_, _, rfl, (sq_of (e _ _ s12)), ?_⟩
        refine for_m (M := []) (F := F) (wlk_enum e s12 a13) (fun b14 F' H' σ' => ∃ (c1 : V) (u2 : Option V) (u3 : Option V) (u4 : Option V) (u5 : Option V) (u6 : Option V), σ' = [some (V.ref p1), some c1, u2, u3, u4, u5, u6] ∧ Dq K F' c1 ((e2 PyData.int PyData.int) b14)) k e ⟨_, _, _, _, _, _, rfl, (d_NOUGHT F)⟩ (fun b14 x15 v23 σ25 F16 H17 F18 H19 g20 i24 g21 r22 nx kfb14 => ?_) (fun b31 σ30 F26 H27 g28 i29 k => ?_)
        · replace r_square := r_square.up g20.f
          replace s3 := g20.f _ _ s3
          replace a4 := a4.up g20.f
          replace r9 := r9.up g20.f
          replace s12 := g20.f _ _ s12
          replace a13 := a13.up g20.f
          obtain ⟨c32, u33, u34, u35, u36, u37, rfl, r38⟩ := i24
          replace r_square := r_square.up g21.f
          replace s3 := g21.f _ _ s3
          replace a4 := a4.up g21.f
          replace r9 := r9.up g21.f
          replace s12 := g21.f _ _ s12
          replace a13 := a13.up g21.f
          replace r38 := r38.up g21.f
          have eF18 := g21.s
          have gF18 := g20.trans (g21.weak (by simp))
          obtain ⟨p39, x40, x41, rfl, s42, d43, d44⟩ := dp_tup2 r22
          obtain rfl := dp_int d43
          refine ⟨_, _, rfl, ex_t eF18 s42, rfl, _, _, rfl, _, _, rfl, rfl, ?_⟩
          refine ⟨_, rfl, _, rfl, ?_⟩
          refine cut_lst (K := K) (M := []) eF18 s3 a4 fun v49 F45 H46 g47 r48 => ?_
          have eF45 := g47.s
          have gF45 := gF18.trans (g47.weak (by simp))
          replace r_square := r_square.up g47.f
          replace s3 := g47.f _ _ s3
          replace a4 := a4.up g47.f
          replace r9 := r9.up g47.f
          replace s12 := g47.f _ _ s12
          replace a13 := a13.up g47.f
          replace r38 := r38.up g47.f
          replace r22 := r22.up g47.f
          replace s42 := ex_t g47.f s42
          replace d44 := d44.up g47.f
          obtain ⟨p50, xs51, rfl, s52, a53⟩ := dp_lst r48
          refine ⟨_, rfl, ⟨_, (sq_of (eF45 _ _ s52))⟩, ?_⟩
          obtain ⟨h73, kfb14⟩ := post_guard kfb14
          refine lc_map (K := K) (M := []) (wlk_list eF45 s52 a53) (eL (e2 PyData.int PyData.int)) kfb14 eF45 h73 (fun _ _ => by simp) (fun x56 v71 F64 H65 F66 H67 g68 g69 r70 Q' k54 => ?_) (fun _ z => z) (fun b55 v57 F58 H59 g60 r61 kfb14 => ?_) gm_name
          · have g74 := Gm.refl (M := []) g68.s
            replace r_square := r_square.up g68.f
            replace s3 := g68.f _ _ s3
            replace a4 := a4.up g68.f
            replace r9 := r9.up g68.f
            replace s12 := g68.f _ _ s12
            replace a13 := a13.up g68.f
            replace r38 := r38.up g68.f
            replace r22 := r22.up g68.f
            replace s42 := ex_t g68.f s42
            replace d44 := d44.up g68.f
            replace r48 := r48.up g68.f
            replace s52 := g68.f _ _ s52
            replace a53 := a53.up g68.f
            replace r_square := r_square.up g69.f
            replace s3 := g69.f _ _ s3
            replace a4 := a4.up g69.f
            replace r9 := r9.up g69.f
            replace s12 := g69.f _ _ s12
            replace a13 := a13.up g69.f
            replace r38 := r38.up g69.f
            replace r22 := r22.up g69.f
            replace s42 := ex_t g69.f s42
            replace d44 := d44.up g69.f
            replace r48 := r48.up g69.f
            replace s52 := g69.f _ _ s52
            replace a53 := a53.up g69.f
            have eF66 := g69.s
            have gF66 := g74.trans (g69.weak (by simp))
            refine ⟨rfl, _, rfl, _, rfl, _, rfl, ?_⟩
            obtain ⟨p75, xs76, rfl, s77, a78⟩ := dp_lst r70
            refine cut_lst (K := K) (M := []) eF66 s77 a78 fun v83 F79 H80 g81 r82 => ?_
            have eF79 := g81.s
            have gF79 := gF66.trans (g81.weak (by simp))
            replace r_square := r_square.up g81.f
            replace s3 := g81.f _ _ s3
            replace a4 := a4.up g81.f
            replace r9 := r9.up g81.f
            replace s12 := g81.f _ _ s12
            replace a13 := a13.up g81.f
            replace r38 := r38.up g81.f
            replace r22 := r22.up g81.f
            replace s42 := ex_t g81.f s42
            replace d44 := d44.up g81.f
            replace r48 := r48.up g81.f
            replace s52 := g81.f _ _ s52
            replace a53 := a53.up g81.f
            replace r70 := r70.up g81.f
            replace s77 := g81.f _ _ s77
            replace a78 := a78.up g81.f
            refine ⟨_, rfl, _, rfl, _, _, rfl, rfl, _, rfl, ?_⟩
            refine cut_lst (K := K) (M := []) eF79 s77 a78 fun v88 F84 H85 g86 r87 => ?_
            have eF84 := g86.s
            have gF84 := gF79.trans (g86.weak (by simp))
            replace r_square := r_square.up g86.f
            replace s3 := g86.f _ _ s3
            replace a4 := a4.up g86.f
            replace r9 := r9.up g86.f
            replace s12 := g86.f _ _ s12
            replace a13 := a13.up g86.f
            replace r38 := r38.up g86.f
            replace r22 := r22.up g86.f
            replace s42 := ex_t g86.f s42
            replace d44 := d44.up g86.f
            replace r48 := r48.up g86.f
            replace s52 := g86.f _ _ s52
            replace a53 := a53.up g86.f
            replace r70 := r70.up g86.f
            replace s77 := g86.f _ _ s77
            replace a78 := a78.up g86.f
            replace r82 := r82.up g86.f
            obtain ⟨p89, xs90, rfl, s91, a92⟩ := dp_lst r82
            obtain ⟨p93, xs94, rfl, s95, a96⟩ := dp_lst r87
            obtain ⟨h98, k54⟩ := post_guard k54
            refine ⟨_, _, _, _, rfl, rfl, eF84 _ _ s91, eF84 _ _ s95, cat_len a92 a96 h98, new_lstC (K := K) (M := []) (en := (e2 PyData.int PyData.int)) (l := (cutL x56 none (some x15.1))) (l' := (cutL x56 (some (x15.1 + (1 : Int))) none)) eF84 a92 a96 fun v103 F99 H100 g101 r102 => ?_⟩
            have eF99 := g101.s
            have gF99 := gF84.trans (g101.weak (by simp))
            replace r_square := r_square.up g101.f
            replace s3 := g101.f _ _ s3
            replace a4 := a4.up g101.f
            replace r9 := r9.up g101.f
            replace s12 := g101.f _ _ s12
            replace a13 := a13.up g101.f
            replace r38 := r38.up g101.f
            replace r22 := r22.up g101.f
            replace s42 := ex_t g101.f s42
            replace d44 := d44.up g101.f
            replace r48 := r48.up g101.f
            replace s52 := g101.f _ _ s52
            replace a53 := a53.up g101.f
            replace r70 := r70.up g101.f
            replace s77 := g101.f _ _ s77
            replace a78 := a78.up g101.f
            replace r82 := r82.up g101.f
            replace r87 := r87.up g101.f
            replace s91 := g101.f _ _ s91
            replace a92 := a92.up g101.f
            replace s95 := g101.f _ _ s95
            replace a96 := a96.up g101.f
            exact k54.h _ _ _ gF99 r102
          have eF58 := g60.s
          have gF58 := gF45.trans (g60.weak (by simp))
          replace r_square := r_square.up g60.f
          replace s3 := g60.f _ _ s3
          replace a4 := a4.up g60.f
          replace r9 := r9.up g60.f
          replace s12 := g60.f _ _ s12
          replace a13 := a13.up g60.f
          replace r38 := r38.up g60.f
          replace r22 := r22.up g60.f
          replace s42 := ex_t g60.f s42
          replace d44 := d44.up g60.f
          replace r48 := r48.up g60.f
          replace s52 := g60.f _ _ s52
          replace a53 := a53.up g60.f
          refine ⟨_, rfl, _, rfl, ?_⟩
          refine ⟨F58, _, b55, rfl, eF58, r61, (post_bd kfb14).mono (fun b105 kfb14 v110 F106 H107 g108 r109 => ?_) (fun _ z => z)⟩
          have eF106 := g108.s
          have gF106 := gF58.trans (g108.weak (by simp))
          replace r_square := r_square.up g108.f
          replace s3 := g108.f _ _ s3
          replace a4 := a4.up g108.f
          replace r9 := r9.up g108.f
          replace s12 := g108.f _ _ s12
          replace a13 := a13.up g108.f
          replace r38 := r38.up g108.f
          replace r22 := r22.up g108.f
          replace s42 := ex_t g108.f s42
          replace d44 := d44.up g108.f
          replace r48 := r48.up g108.f
          replace s52 := g108.f _ _ s52
          replace a53 := a53.up g108.f
          replace r61 := r61.up g108.f
          refine ⟨F106, _, x15.2, _, b105, rfl, eF106, d44, r109, (post_bd kfb14).mono (fun b112 kfb14 v117 F113 H114 g115 r116 => ?_) (fun _ z => z)⟩
          have eF113 := g115.s
          have gF113 := gF106.trans (g115.weak (by simp))
          replace r_square := r_square.up g115.f
          replace s3 := g115.f _ _ s3
          replace a4 := a4.up g115.f
          replace r9 := r9.up g115.f
          replace s12 := g115.f _ _ s12
          replace a13 := a13.up g115.f
          replace r38 := r38.up g115.f
          replace r22 := r22.up g115.f
          replace s42 := ex_t g115.f s42
          replace d44 := d44.up g115.f
          replace r48 := r48.up g115.f
          replace s52 := g115.f _ _ s52
          replace a53 := a53.up g115.f
          replace r61 := r61.up g115.f
          replace r109 := r109.up g115.f
          refine ⟨_, rfl, ?_⟩
          obtain ⟨m119, c120, q121, kfb14⟩ := post_mod kfb14
          refine ⟨_, _, _, rfl, rfl, c120, q121, rfl, ?_⟩
          rw [decV_int]
          refine ⟨_, rfl, ?_⟩
          refine cs kfb14 (fun _ kfb14 => ?_) (fun _ kfb14 => ?_)
          · refine ⟨_, rfl, _, rfl, ?_⟩
            refine ⟨F113, _, b14, _, b112, rfl, eF113, r38, r116, (post_bd kfb14).mono (fun b122 kfb14 v127 F123 H124 g125 r126 => ?_) (fun _ z => z)⟩
            have eF123 := g125.s
            have gF123 := gF113.trans (g125.weak (by simp))
            replace r_square := r_square.up g125.f
            replace s3 := g125.f _ _ s3
            replace a4 := a4.up g125.f
            replace r9 := r9.up g125.f
            replace s12 := g125.f _ _ s12
            replace a13 := a13.up g125.f
            replace r38 := r38.up g125.f
            replace r22 := r22.up g125.f
            replace s42 := ex_t g125.f s42
            replace d44 := d44.up g125.f
            replace r48 := r48.up g125.f
            replace s52 := g125.f _ _ s52
            replace a53 := a53.up g125.f
            replace r61 := r61.up g125.f
            replace r109 := r109.up g125.f
            replace r116 := r116.up g125.f
            exact kfb14.h _ _ _ gF123 ⟨_, _, _, _, _, _, rfl, r126⟩
          · refine ⟨_, rfl, _, rfl, ?_⟩
            refine ⟨F113, _, b14, _, b112, rfl, eF113, r38, r116, (post_bd kfb14).mono (fun b129 kfb14 v134 F130 H131 g132 r133 => ?_) (fun _ z => z)⟩
            have eF130 := g132.s
            have gF130 := gF113.trans (g132.weak (by simp))
            replace r_square := r_square.up g132.f
            replace s3 := g132.f _ _ s3
            replace a4 := a4.up g132.f
            replace r9 := r9.up g132.f
            replace s12 := g132.f _ _ s12
            replace a13 := a13.up g132.f
            replace r38 := r38.up g132.f
            replace r22 := r22.up g132.f
            replace s42 := ex_t g132.f s42
            replace d44 := d44.up g132.f
            replace r48 := r48.up g132.f
            replace s52 := g132.f _ _ s52
            replace a53 := a53.up g132.f
            replace r61 := r61.up g132.f
            replace r109 := r109.up g132.f
            replace r116 := r116.up g132.f
            exact kfb14.h _ _ _ gF130 ⟨_, _, _, _, _, _, rfl, r133⟩
        have g136 := g_.trans (g28.weak (by simp))
        replace r_square := r_square.up g28.f
        replace s3 := g28.f _ _ s3
        replace a4 := a4.up g28.f
        replace r9 := r9.up g28.f
        replace s12 := g28.f _ _ s12
        replace a13 := a13.up g28.f
        have eF26 := g28.s
        obtain ⟨c137, u138, u139, u140, u141, u142, rfl, r143⟩ := i29
        refine ⟨_, rfl, ?_⟩
        exact k.h _ _ _ g136 r143
/-! ### checked_sums -/
abbrev s_checked_sums : Stmt := top 46
theorem sc_checked_sums : FnScope ["sums", "index", "_", "bottom", "top"] ["sums"] (defScope s_checked_sums) := ⟨rfl, rfl, rfl, by decide +kernel, rfl, by decide +kernel, by decide +kernel⟩
def checked_sums_xm (sums : (List (Int × Int))) : Mm (List (Int × Int)) := cond (decide ((sums.length : Int) = (0 : Int))) ((guardM ((0 : Int).natAbs < 18446744073709551616)).bd fun _ => Mm.ex ⟨3, [(0 : Int)]⟩) ((foldM (fun (b9 : Unit) (x10 : (Int × (Int × Int))) => cond ((decide (x10.1 = (9 : Int))) || (decide (x10.2.2 = (0 : Int)))) ((guardM (x10.1.natAbs < 18446744073709551616)).bd fun _ => Mm.ex ⟨3, [x10.1]⟩) (Mm.ok ())) () (enumL sums)).bd fun b26 => (guardM (sums.length ≤ 50000)).bd fun _ => (noEx (mapMm (fun (x54 : (Int × Int)) => (noEx (lowest (x54.1) (x54.2))).bd fun b79 => Mm.ok b79) sums)).bd fun b53 => Mm.ok b53)
def checked_sums (sums : (List (Int × Int))) : Mm (List (Int × Int)) := cond (decide ((sums.length : Int) = (0 : Int))) (Mm.bad) ((foldM (fun (b5 : Unit) (x6 : (Int × (Int × Int))) => cond ((decide (x6.1 = (9 : Int))) || (decide (x6.2.2 = (0 : Int)))) (Mm.bad) (Mm.ok ())) () (enumL sums)).bd fun b22 => (guardM (sums.length ≤ 50000)).bd fun _ => (mapMm (fun (x46 : (Int × Int)) => (lowest (x46.1) (x46.2)).bd fun b71 => Mm.ok b71) sums).bd fun b45 => Mm.ok b45)
theorem le_checked_sums (sums : (List (Int × Int))) : Le (checked_sums sums) (checked_sums_xm sums) := by
  unfold checked_sums checked_sums_xm
  repeat (first | with_reducible exact Le.bad _ | with_reducible exact Le.refl _ | with_reducible exact Le.noE _ | (with_reducible apply Le.noEx) | with_reducible apply Le.bd | with_reducible apply Le.cond | with_reducible apply Le.foldM | with_reducible apply Le.mapMm | with_reducible apply Le.filMm | with_reducible apply Le.foldL | with_reducible apply Le.el | intro _)
def sp_checked_sums (K : PySem.W.Frag) : Sp := fun vs H Q E => ∃ (F : Hp) (v_sums : V) (sums : (List (Int × Int))), vs = [v_sums] ∧ Ex F H ∧ Dq K F v_sums ((eV (e2 PyData.int PyData.int)) sums) ∧ Post (checked_sums_xm sums) (fun r => Ret [] F H (fun F' _ v => Dq K F' v ((eL (e2 PyData.int PyData.int)) r)) Q) (fun e_ => RetX [] K F H e_ E)
theorem ok_checked_sums {P : Program} {w : World} {K : PySem.W.Frag} {mg : Str → Option Value} {base : Heap} {C f : Addr} {fd : FuncData} (B : Bi mg) (FF : FunD K "checked_sums" "checked_sums" (defArgs s_checked_sums) (defBody s_checked_sums) (defScope s_checked_sums) [] [] f fd) (G_lowest : Kn P w K mg base "lowest" 1 ["top", "bottom"] (sp_lowest K)) (c_MOST_SUMS : ∃ t, mg "MOST_SUMS" = some (.int 9 t)) (GX_InvalidSums : KnX P w K mg base "InvalidSums" 1 ["self", "index"] (spI1 (He.ga K "InvalidSums") "index")) : FnOk P w K mg base (L2.CX P w) 3 f fd ["sums"] (sp_checked_sums K) := by
  refine FF.ok sc_checked_sums (fun vs H Q E h => ?_) (fun cdv A outer s H vs Q E hr h => ?_)
  · obtain ⟨F, v_sums, sums, rfl, _⟩ := h; rfl
  · obtain ⟨F, v_sums, sums, rfl, e, r_sums, k⟩ := h
    unfold checked_sums_xm at k
    have g_ := Gm.refl (M := []) e
    refine ⟨_, (pss_cons (ps_if (pt_cmpR op_eq (pe_callB call_lenM (by rfl) B.len (by decide +kernel) (pa_cons (pv 0) pa_nil)) (pe_int) (nomark _)) (pss_one (ps_raiseX GX_InvalidSums (hr.mono (by decide)) (takes_of rfl rfl rfl rfl) (pa_cons (pe_int) (pa_nil)))) pss_nil) (pss_cons (ps_for (passes_of rfl) rfl (pi_enumT rfl B.enumerate (pa_cons (pv 0) pa_nil)) (pg_tup (by rfl) (pgs_cons (pg_name (i := 1) sc_checked_sums.nd rfl (Or.inl rfl)) (pgs_cons (pg_tup (by rfl) (pgs_cons (pg_name (i := 2) sc_checked_sums.nd rfl (Or.inl rfl)) (pgs_cons (pg_name (i := 3) sc_checked_sums.nd rfl (Or.inl rfl)) (pgs_nil)))) (pgs_nil)))) (pss_one (ps_if (PW.pt (pw_or (pt_cmpR op_eq (pv 1) (pe_gint c_MOST_SUMS) (nomark _)) (pw_or1 (pt_cmpR op_eq (pv 3) (pe_int) (nomark _))))) (pss_one (ps_raiseX GX_InvalidSums (hr.mono (by decide)) (takes_of rfl rfl rfl rfl) (pa_cons (pv 1) (pa_nil)))) pss_nil))) (pss_one (ps_ret (pe_q (pe_lc (own := [("top", 4), ("bottom", 3)]) (g := gTup K 2 (gCons (gName 4) (gCons (gName 3) gNil))) rfl sc_checked_sums.nd (pi_tup (pv 0)) (blkOk_by (N := ["sums", "index", "_", "bottom", "top"]) (sc := defScope s_checked_sums) (by decide +kernel)) (fun _ _ _ _ _ => pg_tup (by rfl) (pgs_cons (pg_name (i := 4) sc_checked_sums.nd rfl (Or.inl rfl)) (pgs_cons (pg_name (i := 3) sc_checked_sums.nd rfl (Or.inl rfl)) (pgs_nil)))) (fun _ _ _ _ _ => pts_nil) (fun _ _ _ _ _ => pe_kn G_lowest (hr.mono (by decide)) (pa_cons (pv 4) (pa_cons (pv 3) (pa_nil)))))))))), ?_⟩
    refine ⟨_, rfl, ?_⟩
    obtain ⟨p1, xs2, rfl, s3, a4⟩ := dp_tup r_sums
    refine ⟨_, _, _, rfl, .inr (ex_t e s3), len_all a4, rfl, ?_⟩
    rw [decV_int]
    refine ⟨_, rfl, ?_⟩
    refine cs k (fun _ k => ?_) (fun _ k => ?_)
    · obtain ⟨h5, k⟩ := post_guard k
      refine mk1 h5 (fun d6 y7 => ?_)
      have g8 := g_.trans (Gm.new (o := .xd [("index", (V.int 0))]) e y7)
      exact k.h _ _ _ _ g8 ⟨rfl, .inr ⟨_, rfl, upd_same⟩⟩
    · refine ⟨_, rfl, ?_⟩
      refine ⟨_, _, rfl, (ex_t e s3), ?_⟩
      refine for_m (M := []) (F := F) (wlk_enumT e s3 a4) (fun b9 F' H' σ' => ∃ (u1 : Option V) (u2 : Option V) (u3 : Option V) (u4 : Option V), σ' = [some (V.ref p1), u1, u2, u3, u4]) k e ⟨_, _, _, _, rfl⟩ (fun b9 x10 v18 σ20 F11 H12 F13 H14 g15 i19 g16 r17 nx kfb9 => ?_) (fun b26 σ25 F21 H22 g23 i24 k => ?_)
      · replace r_sums := r_sums.up g15.f
        replace s3 := ex_t g15.f s3
        replace a4 := a4.up g15.f
        obtain ⟨u27, u28, u29, u30, rfl⟩ := i19
        replace r_sums := r_sums.up g16.f
        replace s3 := ex_t g16.f s3
        replace a4 := a4.up g16.f
        have eF13 := g16.s
        have gF13 := g15.trans (g16.weak (by simp))
        obtain ⟨p31, x32, x33, rfl, s34, d35, d36⟩ := dp_tup2 r17
        obtain rfl := dp_int d35
        refine ⟨_, _, rfl, ex_t eF13 s34, rfl, _, _, rfl, _, _, rfl, ?_⟩
        obtain ⟨p37, x38, x39, rfl, s40, d41, d42⟩ := dp_tup2 d36
        obtain rfl := dp_int d41
        obtain rfl := dp_int d42
        refine ⟨_, _, rfl, ex_t eF13 s40, rfl, _, _, rfl, _, _, rfl, rfl, rfl, ?_⟩
        refine ⟨_, rfl, rfl, ?_⟩
        rw [decV_int]
        refine ⟨_, rfl, ?_⟩
        refine or_j (b := (decide (x10.2.2 = (0 : Int)))) (fun _ Q' q => ?_) ?_
        · refine ⟨_, rfl, rfl, ?_⟩
          rw [decV_int]
          refine ⟨_, rfl, ?_⟩
          exact q
        refine cs kfb9 (fun _ kfb9 => ?_) (fun _ kfb9 => ?_)
        · refine ⟨_, rfl, ?_⟩
          obtain ⟨h43, kfb9⟩ := post_guard kfb9
          refine mk1 h43 (fun d44 y45 => ?_)
          have g46 := (g_.trans (gF13.weak (by simp))).trans (Gm.new (o := .xd [("index", (V.int x10.1))]) eF13 y45)
          exact kfb9.h _ _ _ _ g46 ⟨rfl, .inr ⟨_, rfl, upd_same⟩⟩
        · exact kfb9.h _ _ _ gF13 ⟨_, _, _, _, rfl⟩
      have g47 := g_.trans (g23.weak (by simp))
      replace r_sums := r_sums.up g23.f
      replace s3 := ex_t g23.f s3
      replace a4 := a4.up g23.f
      have eF21 := g23.s
      obtain ⟨u48, u49, u50, u51, rfl⟩ := i24
      refine ⟨_, rfl, ?_⟩
      refine ⟨_, rfl, ⟨_, (ex_t eF21 s3)⟩, ?_⟩
      obtain ⟨h71, k⟩ := post_guard k
      refine lc_map (K := K) (M := []) (wlk_tup eF21 s3 a4) (e2 PyData.int PyData.int) (post_noEx' k) eF21 h71 (fun _ _ => by simp) (fun x54 v69 F62 H63 F64 H65 g66 g67 r68 Q' k52 => ?_) (fun _ z => z) (fun b53 v55 F56 H57 g58 r59 k => ?_) (gm_tup (gms_cons gm_name (gms_cons gm_name gms_nil)))
      · have g72 := Gm.refl (M := []) g66.s
        replace r_sums := r_sums.up g66.f
        replace s3 := ex_t g66.f s3
        replace a4 := a4.up g66.f
        replace r_sums := r_sums.up g67.f
        replace s3 := ex_t g67.f s3
        replace a4 := a4.up g67.f
        have eF64 := g67.s
        have gF64 := g72.trans (g67.weak (by simp))
        obtain ⟨p73, x74, x75, rfl, s76, d77, d78⟩ := dp_tup2 r68
        obtain rfl := dp_int d77
        obtain rfl := dp_int d78
        refine ⟨_, _, rfl, ex_t eF64 s76, rfl, _, _, rfl, _, _, rfl, rfl, rfl, _, rfl, _, rfl, ?_⟩
        refine ⟨F64, x54.1, x54.2, rfl, eF64, (post_noE k52).mono (fun b79 k52 v84 F80 H81 g82 r83 => ?_) (fun _ z => z)⟩
        have eF80 := g82.s
        have gF80 := gF64.trans (g82.weak (by simp))
        replace r_sums := r_sums.up g82.f
        replace s3 := ex_t g82.f s3
        replace a4 := a4.up g82.f
        replace r68 := r68.up g82.f
        replace s76 := ex_t g82.f s76
        exact k52.h _ _ _ gF80 r83
      replace k := post_ok k
      have eF56 := g58.s
      have gF56 := g47.trans (g58.weak (by simp))
      replace r_sums := r_sums.up g58.f
      replace s3 := ex_t g58.f s3
      replace a4 := a4.up g58.f
      exact k.h _ _ _ gF56 r59
/-! ### determinants_of -/
abbrev s_determinants_of : Stmt := top 47
theorem sc_determinants_of : FnScope ["checked", "sizes", "size"] ["checked"] (defScope s_determinants_of) := ⟨rfl, rfl, rfl, by decide +kernel, rfl, by decide +kernel, by decide +kernel⟩
def determinants_of (checked : (List (Int × Int))) : Mm (List (Int × Int)) := (divM ((checked.length : Int) + (1 : Int)) (2 : Int)).bd fun m5 => (rangeM2 (1 : Int) (m5 + (1 : Int))).bd fun l9 => (guardM ((rangeL (1 : Int) ((m5 + (1 : Int)) - (1 : Int)).toNat).length ≤ 50000)).bd fun _ => (mapMm (fun (x12 : Int) => (square_of_sums (checked) (x12)).bd fun b31 => (determinant 6 (b31)).bd fun b38 => Mm.ok b38) (rangeL (1 : Int) ((m5 + (1 : Int)) - (1 : Int)).toNat)).bd fun b11 => Mm.ok b11
def sp_determinants_of (K : PySem.W.Frag) : Sp := fun vs H Q E => ∃ (F : Hp) (v_checked : V) (checked : (List (Int × Int))), vs = [v_checked] ∧ Ex F H ∧ Dq K F v_checked ((eL (e2 PyData.int PyData.int)) checked) ∧ Post (determinants_of checked) (fun r => Ret [] F H (fun F' _ v => Dq K F' v ((eL (e2 PyData.int PyData.int)) r)) Q) (fun _ => False)
theorem ok_determinants_of {P : Program} {w : World} {K : PySem.W.Frag} {mg : Str → Option Value} {base : Heap} {C f : Addr} {fd : FuncData} (B : Bi mg) (FF : FunD K "determinants_of" "determinants_of" (defArgs s_determinants_of) (defBody s_determinants_of) (defScope s_determinants_of) [] [] f fd) (G_determinant : Kn P w K mg base "determinant" 9 ["square"] (sp_determinant K 6)) (G_square_of_sums : Kn P w K mg base "square_of_sums" 1 ["sums", "size"] (sp_square_of_sums K)) : FnOk P w K mg base CX0 10 f fd ["checked"] (sp_determinants_of K) := by
  refine FF.ok sc_determinants_of (fun vs H Q E h => ?_) (fun cdv A outer s H vs Q E hr h => ?_)
  · obtain ⟨F, v_checked, checked, rfl, _⟩ := h; rfl
  · obtain ⟨F, v_checked, checked, rfl, e, r_checked, k⟩ := h
    unfold determinants_of at k
    have g_ := Gm.refl (M := []) e
    refine ⟨_, PSs.nox (pss_cons (ps_set (i := 1) sc_determinants_of.nd rfl (Or.inl rfl) (pe_op op_divM (pe_op op_add (pe_callB call_lenM (by rfl) B.len (by decide +kernel) (pa_cons (pv 0) pa_nil)) (pe_int)) (pe_int))) (pss_one (ps_ret (pe_q (pe_lc (own := [("size", 2)]) (g := gName 2) rfl sc_determinants_of.nd (pi_range2 rfl B.range (pa_cons (pe_int) (pa_cons (pe_op op_add (pv 1) (pe_int)) (pa_nil)))) (blkOk_by (N := ["checked", "sizes", "size"]) (sc := defScope s_determinants_of) (by decide +kernel)) (fun _ _ _ _ _ => pg_name (i := 2) sc_determinants_of.nd rfl (Or.inl rfl)) (fun _ _ _ _ _ => pts_nil) (fun _ _ _ _ _ => pe_kn G_determinant (hr.mono (by decide)) (pa_cons (pe_kn G_square_of_sums (hr.mono (by decide)) (pa_cons (pv 0) (pa_cons (pv 2) (pa_nil)))) (pa_nil)))))))), ?_⟩
    refine ⟨_, rfl, ?_⟩
    obtain ⟨p1, xs2, rfl, s3, a4⟩ := dp_lst r_checked
    refine ⟨_, _, _, rfl, .inl (sq_of (e _ _ s3)), len_all a4, _, _, rfl, rfl, ?_⟩
    obtain ⟨m5, c6, q7, k⟩ := post_div k
    refine ⟨_, _, _, rfl, rfl, c6, q7, ?_⟩
    refine ⟨_, rfl, _, _, rfl, rfl, ?_⟩
    obtain ⟨h8, k⟩ := post_range2 k
    refine ⟨_, _, rfl, h8, ?_⟩
    obtain ⟨h29, k⟩ := post_guard k
    refine lc_map (K := K) (M := []) wlk_range (e2 PyData.int PyData.int) k e h29 (fun _ _ => by simp) (fun x12 v27 F20 H21 F22 H23 g24 g25 r26 Q' k10 => ?_) (fun _ z => z) (fun b11 v13 F14 H15 g16 r17 k => ?_) gm_name
    · have g30 := Gm.refl (M := []) g24.s
      replace r_checked := r_checked.up g24.f
      replace s3 := g24.f _ _ s3
      replace a4 := a4.up g24.f
      replace r_checked := r_checked.up g25.f
      replace s3 := g25.f _ _ s3
      replace a4 := a4.up g25.f
      have eF22 := g25.s
      have gF22 := g30.trans (g25.weak (by simp))
      subst r26
      refine ⟨rfl, _, rfl, _, rfl, ?_⟩
      refine ⟨F22, _, checked, x12, rfl, eF22, r_checked, (post_bd k10).mono (fun b31 k10 v36 F32 H33 g34 r35 => ?_) (fun _ z => z)⟩
      have eF32 := g34.s
      have gF32 := gF22.trans (g34.weak (by simp))
      replace r_checked := r_checked.up g34.f
      replace s3 := g34.f _ _ s3
      replace a4 := a4.up g34.f
      refine ⟨F32, _, b31, rfl, eF32, r35, (post_bd k10).mono (fun b38 k10 v43 F39 H40 g41 r42 => ?_) (fun _ z => z)⟩
      have eF39 := g41.s
      have gF39 := gF32.trans (g41.weak (by simp))
      replace r_checked := r_checked.up g41.f
      replace s3 := g41.f _ _ s3
      replace a4 := a4.up g41.f
      replace r35 := r35.up g41.f
      exact k10.h _ _ _ gF39 r42
    have eF14 := g16.s
    have gF14 := g_.trans (g16.weak (by simp))
    replace r_checked := r_checked.up g16.f
    replace s3 := g16.f _ _ s3
    replace a4 := a4.up g16.f
    exact k.h _ _ _ gF14 r17
/-! ### determinants -/
abbrev s_determinants : Stmt := top 48
theorem sc_determinants : FnScope ["sums"] ["sums"] (defScope s_determinants) := ⟨rfl, rfl, rfl, by decide +kernel, rfl, by decide +kernel, by decide +kernel⟩
def determinants (sums : (List (Int × Int))) : Mm (List (Int × Int)) := (checked_sums (sums)).bd fun b1 => (determinants_of (b1)).bd fun b8 => Mm.ok b8
def sp_determinants (K : PySem.W.Frag) : Sp := fun vs H Q E => ∃ (F : Hp) (v_sums : V) (sums : (List (Int × Int))), vs = [v_sums] ∧ Ex F H ∧ Dq K F v_sums ((eV (e2 PyData.int PyData.int)) sums) ∧ Post (determinants sums) (fun r => Ret [] F H (fun F' _ v => Dq K F' v ((eL (e2 PyData.int PyData.int)) r)) Q) (fun _ => False)
theorem ok_determinants {P : Program} {w : World} {K : PySem.W.Frag} {mg : Str → Option Value} {base : Heap} {C f : Addr} {fd : FuncData} (B : Bi mg) (FF : FunD K "determinants" "determinants" (defArgs s_determinants) (defBody s_determinants) (defScope s_determinants) [] [] f fd) (G_determinants_of : Kn P w K mg base "determinants_of" 10 ["checked"] (sp_determinants_of K)) (G_checked_sums : Kx P w K mg base "checked_sums" 3 ["sums"] (sp_checked_sums K)) : FnOk P w K mg base CX0 11 f fd ["sums"] (sp_determinants K) := by
  refine FF.ok sc_determinants (fun vs H Q E h => ?_) (fun cdv A outer s H vs Q E hr h => ?_)
  · obtain ⟨F, v_sums, sums, rfl, _⟩ := h; rfl
  · obtain ⟨F, v_sums, sums, rfl, e, r_sums, k⟩ := h
    unfold determinants at k
    have g_ := Gm.refl (M := []) e
    refine ⟨_, PSs.nox (pss_one (ps_ret (pe_kn G_determinants_of (hr.mono (by decide)) (pa_cons (pe_kx G_checked_sums (hr.mono (by decide)) takes_none5 (pa_cons (pv 0) (pa_nil))) (pa_nil))))), ?_⟩
    refine ⟨_, rfl, ?_⟩
    refine ⟨F, _, sums, rfl, e, r_sums, (post_le (le_checked_sums _) k).mono (fun b1 k v6 F2 H3 g4 r5 => ?_) (fun _ z => z.elim)⟩
    have eF2 := g4.s
    have gF2 := g_.trans (g4.weak (by simp))
    replace r_sums := r_sums.up g4.f
    refine ⟨F2, _, b1, rfl, eF2, r5, (post_bd k).mono (fun b8 k v13 F9 H10 g11 r12 => ?_) (fun _ z => z)⟩
    have eF9 := g11.s
    have gF9 := gF2.trans (g11.weak (by simp))
    replace r_sums := r_sums.up g11.f
    replace r5 := r5.up g11.f
    exact k.h _ _ _ gF9 r12
/-! ### next_least -/
abbrev s_next_least : Stmt := top 49
theorem sc_next_least : FnScope ["sums", "checked", "lesser", "size", "without", "one"] ["sums"] (defScope s_next_least) := ⟨rfl, rfl, rfl, by decide +kernel, rfl, by decide +kernel, by decide +kernel⟩
def next_least_xm (sums : (List (Int × Int))) : Mm (Int × Int) := (checked_sums_xm (sums)).bd fun b1 => (modM (b1.length : Int) (2 : Int)).bd fun m12 => cond (decide (m12 = (1 : Int))) ((guardM (((b1.length : Int) - (1 : Int)).natAbs < 18446744073709551616)).bd fun _ => Mm.ex ⟨3, [((b1.length : Int) - (1 : Int))]⟩) ((noEx (determinants_of (b1))).bd fun b19 => (guardM (b19.length ≤ 50000)).bd fun _ => (noEx (mapMm (fun (x32 : (Int × Int)) => (noEx (is_less (((0, 1) : (Int × Int))) (x32))).bd fun b51 => Mm.ok (!b51)) b19)).bd fun b31 => cond (List.any b31 id) (Mm.ex ⟨8, []⟩) ((guardM ((b1 ++ (((0, 1) : (Int × Int)) :: [])).length ≤ 100000)).bd fun _ => (noEx (square_of_sums ((b1 ++ (((0, 1) : (Int × Int)) :: []))) (((b19.length : Int) + (1 : Int))))).bd fun b70 => (noEx (determinant 6 (b70))).bd fun b77 => (noEx (minus (((0, 1) : (Int × Int))) (b77))).bd fun b84 => (getM b19 (-(1 : Int))).bd fun i91 => (noEx (over (b84) (i91))).bd fun b96 => Mm.ok b96))
def next_least (sums : (List (Int × Int))) : Mm (Int × Int) := (checked_sums (sums)).bd fun b1 => (modM (b1.length : Int) (2 : Int)).bd fun m12 => cond (decide (m12 = (1 : Int))) (Mm.bad) ((determinants_of (b1)).bd fun b15 => (guardM (b15.length ≤ 50000)).bd fun _ => (mapMm (fun (x28 : (Int × Int)) => (is_less (((0, 1) : (Int × Int))) (x28)).bd fun b47 => Mm.ok (!b47)) b15).bd fun b27 => cond (List.any b27 id) (Mm.bad) ((guardM ((b1 ++ (((0, 1) : (Int × Int)) :: [])).length ≤ 100000)).bd fun _ => (square_of_sums ((b1 ++ (((0, 1) : (Int × Int)) :: []))) (((b15.length : Int) + (1 : Int)))).bd fun b66 => (determinant 6 (b66)).bd fun b73 => (minus (((0, 1) : (Int × Int))) (b73)).bd fun b80 => (getM b15 (-(1 : Int))).bd fun i87 => (over (b80) (i87)).bd fun b92 => Mm.ok b92))
theorem le_next_least (sums : (List (Int × Int))) : Le (next_least sums) (next_least_xm sums) := by
  unfold next_least next_least_xm
  repeat (first | with_reducible exact Le.bad _ | with_reducible exact Le.refl _ | with_reducible exact Le.noE _ | with_reducible exact le_checked_sums _ | (with_reducible apply Le.noEx) | with_reducible apply Le.bd | with_reducible apply Le.cond | with_reducible apply Le.foldM | with_reducible apply Le.mapMm | with_reducible apply Le.filMm | with_reducible apply Le.foldL | with_reducible apply Le.el | intro _)
def sp_next_least (K : PySem.W.Frag) : Sp := fun vs H Q E => ∃ (F : Hp) (v_sums : V) (sums : (List (Int × Int))), vs = [v_sums] ∧ Ex F H ∧ Dq K F v_sums ((eV (e2 PyData.int PyData.int)) sums) ∧ Post (next_least_xm sums) (fun r => Ret [] F H (fun F' _ v => Dq K F' v ((e2 PyData.int PyData.int) r)) Q) (fun e_ => RetX [] K F H e_ E)
theorem ok_next_least {P : Program} {w : World} {K : PySem.W.Frag} {mg : Str → Option Value} {base : Heap} {C f : Addr} {fd : FuncData} (B : Bi mg) (FF : FunD K "next_least" "next_least" (defArgs s_next_least) (defBody s_next_least) (defScope s_next_least) [] [] f fd) (G_checked_sums : Kx P w K mg base "checked_sums" 3 ["sums"] (sp_checked_sums K)) (G_determinants_of : Kn P w K mg base "determinants_of" 10 ["checked"] (sp_determinants_of K)) (G_is_less : Kn P w K mg base "is_less" 1 ["one", "other"] (sp_is_less K)) (G_determinant : Kn P w K mg base "determinant" 9 ["square"] (sp_determinant K 6)) (G_square_of_sums : Kn P w K mg base "square_of_sums" 1 ["sums", "size"] (sp_square_of_sums K)) (G_over : Kn P w K mg base "over" 2 ["one", "other"] (sp_over K)) (G_minus : Kn P w K mg base "minus" 2 ["one", "other"] (sp_minus K)) {a_NOUGHT : Addr} (c_NOUGHT : mg "NOUGHT" = some (.ref a_NOUGHT)) (d_NOUGHT : ∀ F, Dq K F (.ref a_NOUGHT) ((e2 PyData.int PyData.int) (0, 1))) (G0_NoWeighting : KnP0 K mg "NoWeighting") (GX_InvalidSums : KnX P w K mg base "InvalidSums" 1 ["self", "index"] (spI1 (He.ga K "InvalidSums") "index")) (b_any : mg "any" = none) : FnOk P w K mg base (L2.CX P w) 11 f fd ["sums"] (sp_next_least K) := by
  refine FF.ok sc_next_least (fun vs H Q E h => ?_) (fun cdv A outer s H vs Q E hr h => ?_)
  · obtain ⟨F, v_sums, sums, rfl, _⟩ := h; rfl
  · obtain ⟨F, v_sums, sums, rfl, e, r_sums, k⟩ := h
    unfold next_least_xm at k
    have g_ := Gm.refl (M := []) e
    refine ⟨_, (pss_cons (ps_set (i := 1) sc_next_least.nd rfl (Or.inl rfl) (pe_kx G_checked_sums (hr.mono (by decide)) (takes_of rfl rfl rfl rfl) (pa_cons (pv 0) (pa_nil)))) (pss_cons (ps_if (pt_cmpR op_eq (pe_op op_modM (pe_callB call_lenM (by rfl) B.len (by decide +kernel) (pa_cons (pv 1) pa_nil)) (pe_int)) (pe_int) (nomark _)) (pss_one (ps_raiseX GX_InvalidSums (hr.mono (by decide)) (takes_of rfl rfl rfl rfl) (pa_cons (pe_op op_sub (pe_callB call_lenM (by rfl) B.len (by decide +kernel) (pa_cons (pv 1) pa_nil)) (pe_int)) (pa_nil)))) pss_nil) (pss_cons (ps_set (i := 2) sc_next_least.nd rfl (Or.inl rfl) (pe_kn G_determinants_of (hr.mono (by decide)) (pa_cons (pv 1) (pa_nil)))) (pss_cons (ps_if (pt_val (pe_callB (cr_any rfl) (by rfl) b_any (by decide +kernel) (pa_cons (pe_q (pe_lc (own := [("one", 5)]) (g := gName 5) rfl sc_next_least.nd (pi_list (pv 2)) (blkOk_by (N := ["sums", "checked", "lesser", "size", "without", "one"]) (sc := defScope s_next_least) (by decide +kernel)) (fun _ _ _ _ _ => pg_name (i := 5) sc_next_least.nd rfl (Or.inl rfl)) (fun _ _ _ _ _ => pts_nil) (fun _ _ _ _ _ => pe_not (pe_kn G_is_less (hr.mono (by decide)) (pa_cons (pe_gref c_NOUGHT) (pa_cons (pv 5) (pa_nil))))))) pa_nil))) (pss_one (ps_raise0 G0_NoWeighting (takes_of rfl rfl rfl rfl) (pa_cons (pe_str) (pa_nil)))) pss_nil) (pss_cons (ps_set (i := 3) sc_next_least.nd rfl (Or.inl rfl) (pe_op op_add (pe_callB call_lenM (by rfl) B.len (by decide +kernel) (pa_cons (pv 2) pa_nil)) (pe_int))) (pss_cons (ps_set (i := 4) sc_next_least.nd rfl (Or.inl rfl) (pe_kn G_determinant (hr.mono (by decide)) (pa_cons (pe_kn G_square_of_sums (hr.mono (by decide)) (pa_cons (pe_q (pe_lst (pa_star (pv 1) (pa_cons (pe_gref c_NOUGHT) (pa_nil))))) (pa_cons (pv 3) (pa_nil)))) (pa_nil)))) (pss_one (ps_ret (pe_kn G_over (hr.mono (by decide)) (pa_cons (pe_kn G_minus (hr.mono (by decide)) (pa_cons (pe_gref c_NOUGHT) (pa_cons (pv 4) (pa_nil)))) (pa_cons (pe_ix (r := rIxL K) ix_list (pv 2) (pe_un un_neg (pe_int)) (fun _ _ => rfl)) (pa_nil)))))))))))), ?_⟩
    refine ⟨_, rfl, ?_⟩
    refine ⟨F, _, sums, rfl, e, r_sums, (post_bd k).mono (fun b1 k v6 F2 H3 g4 r5 => ?_) (fun e_ z cls_ d_ F_ H_ g_x x_ => z cls_ d_ F_ H_ (g_.trans (g_x.weak (by simp))) x_)⟩
    have eF2 := g4.s
    have gF2 := g_.trans (g4.weak (by simp))
    replace r_sums := r_sums.up g4.f
    refine ⟨_, rfl, ?_⟩
    obtain ⟨p8, xs9, rfl, s10, a11⟩ := dp_lst r5
    refine ⟨_, _, _, rfl, .inl (sq_of (eF2 _ _ s10)), len_all a11, ?_⟩
    obtain ⟨m12, c13, q14, k⟩ := post_mod k
    refine ⟨_, _, _, rfl, rfl, c13, q14, rfl, ?_⟩
    rw [decV_int]
    refine ⟨_, rfl, ?_⟩
    refine cs k (fun _ k => ?_) (fun _ k => ?_)
    · refine ⟨_, rfl, ?_⟩
      refine ⟨_, _, _, rfl, .inl (sq_of (eF2 _ _ s10)), len_all a11, _, _, rfl, rfl, ?_⟩
      obtain ⟨h15, k⟩ := post_guard k
      refine mk1 h15 (fun d16 y17 => ?_)
      have g18 := gF2.trans (Gm.new (o := .xd [("index", (V.int ((b1.length : Int) - (1 : Int))))]) eF2 y17)
      exact k.h _ _ _ _ g18 ⟨rfl, .inr ⟨_, rfl, upd_same⟩⟩
    · refine ⟨_, rfl, ?_⟩
      refine ⟨F2, _, b1, rfl, eF2, r5, (post_noE k).mono (fun b19 k v24 F20 H21 g22 r23 => ?_) (fun _ z => z)⟩
      have eF20 := g22.s
      have gF20 := gF2.trans (g22.weak (by simp))
      replace r_sums := r_sums.up g22.f
      replace r5 := r5.up g22.f
      replace s10 := g22.f _ _ s10
      replace a11 := a11.up g22.f
      refine ⟨_, rfl, ?_⟩
      obtain ⟨p26, xs27, rfl, s28, a29⟩ := dp_lst r23
      refine ⟨_, rfl, ⟨_, (sq_of (eF20 _ _ s28))⟩, ?_⟩
      obtain ⟨h49, k⟩ := post_guard k
      refine lc_map (K := K) (M := []) (wlk_list eF20 s28 a29) PyData.bool (post_noEx' k) eF20 h49 (fun _ _ => by simp) (fun x32 v47 F40 H41 F42 H43 g44 g45 r46 Q' k30 => ?_) (fun _ z => z) (fun b31 v33 F34 H35 g36 r37 k => ?_) gm_name
      · have g50 := Gm.refl (M := []) g44.s
        replace r_sums := r_sums.up g44.f
        replace r5 := r5.up g44.f
        replace s10 := g44.f _ _ s10
        replace a11 := a11.up g44.f
        replace r23 := r23.up g44.f
        replace s28 := g44.f _ _ s28
        replace a29 := a29.up g44.f
        replace r_sums := r_sums.up g45.f
        replace r5 := r5.up g45.f
        replace s10 := g45.f _ _ s10
        replace a11 := a11.up g45.f
        replace r23 := r23.up g45.f
        replace s28 := g45.f _ _ s28
        replace a29 := a29.up g45.f
        have eF42 := g45.s
        have gF42 := g50.trans (g45.weak (by simp))
        refine ⟨rfl, _, rfl, ?_⟩
        refine ⟨F42, _, ((0, 1) : (Int × Int)), _, x32, rfl, eF42, (d_NOUGHT F42), r46, (post_noE k30).mono (fun b51 k30 v56 F52 H53 g54 r55 => ?_) (fun _ z => z)⟩
        have eF52 := g54.s
        have gF52 := gF42.trans (g54.weak (by simp))
        replace r_sums := r_sums.up g54.f
        replace r5 := r5.up g54.f
        replace s10 := g54.f _ _ s10
        replace a11 := a11.up g54.f
        replace r23 := r23.up g54.f
        replace s28 := g54.f _ _ s28
        replace a29 := a29.up g54.f
        replace r46 := r46.up g54.f
        subst r55
        refine ⟨_, rfl, ?_⟩
        exact k30.h _ _ _ gF52 (Dq.bl (!b51))
      replace k := post_ok k
      have eF34 := g36.s
      have gF34 := gF20.trans (g36.weak (by simp))
      replace r_sums := r_sums.up g36.f
      replace r5 := r5.up g36.f
      replace s10 := g36.f _ _ s10
      replace a11 := a11.up g36.f
      replace r23 := r23.up g36.f
      replace s28 := g36.f _ _ s28
      replace a29 := a29.up g36.f
      obtain ⟨p59, xs60, rfl, s61, a62⟩ := dp_lst r37
      obtain rfl := all_bls a62
      refine ⟨_, _, rfl, (sq_of (eF34 _ _ s61)), _, rfl, ?_⟩
      refine cs k (fun _ k => ?_) (fun _ k => ?_)
      · refine ⟨by show 1 ≤ 1000; decide, ?_⟩
        exact k.h _ _ _ _ gF34 ⟨rfl, .inl ⟨rfl, rfl⟩⟩
      · refine ⟨_, rfl, ?_⟩
        refine ⟨_, _, _, rfl, .inl (sq_of (eF34 _ _ s28)), len_all a29, _, _, rfl, rfl, ?_⟩
        refine ⟨_, rfl, ?_⟩
        refine ⟨_, _, rfl, .inr (sq_of (eF34 _ _ s10)), ?_⟩
        obtain ⟨h63, k⟩ := post_guard k
        have a64 : DqAll K F34 (xs9 ++ ((V.ref a_NOUGHT) :: [])) (List.map (e2 PyData.int PyData.int) (b1 ++ (((0, 1) : (Int × Int)) :: []))) := by simpa only [List.map_append, List.map_cons, List.map_nil] using (DqAll.app a11 (DqAll.cons (d_NOUGHT F34) DqAll.nil))
        show _ ∧ _
        refine new_lst (K := K) (M := []) eF34 a64 (by rw [DqAll.len a64, List.length_map]; exact h63) fun v69 F65 H66 g67 r68 => ?_
        have eF65 := g67.s
        have gF65 := gF34.trans (g67.weak (by simp))
        replace r_sums := r_sums.up g67.f
        replace r5 := r5.up g67.f
        replace s10 := g67.f _ _ s10
        replace a11 := a11.up g67.f
        replace r23 := r23.up g67.f
        replace s28 := g67.f _ _ s28
        replace a29 := a29.up g67.f
        replace r37 := r37.up g67.f
        replace s61 := g67.f _ _ s61
        replace a62 := a62.up g67.f
        replace r68 : Dq K F65 v69 ((eL (e2 PyData.int PyData.int)) (b1 ++ (((0, 1) : (Int × Int)) :: []))) := r68
        refine ⟨_, rfl, ?_⟩
        refine ⟨F65, _, (b1 ++ (((0, 1) : (Int × Int)) :: [])), ((b19.length : Int) + (1 : Int)), rfl, eF65, r68, (post_noE k).mono (fun b70 k v75 F71 H72 g73 r74 => ?_) (fun _ z => z)⟩
        have eF71 := g73.s
        have gF71 := gF65.trans (g73.weak (by simp))
        replace r_sums := r_sums.up g73.f
        replace r5 := r5.up g73.f
        replace s10 := g73.f _ _ s10
        replace a11 := a11.up g73.f
        replace r23 := r23.up g73.f
        replace s28 := g73.f _ _ s28
        replace a29 := a29.up g73.f
        replace r37 := r37.up g73.f
        replace s61 := g73.f _ _ s61
        replace a62 := a62.up g73.f
        replace r68 := r68.up g73.f
        refine ⟨F71, _, b70, rfl, eF71, r74, (post_noE k).mono (fun b77 k v82 F78 H79 g80 r81 => ?_) (fun _ z => z)⟩
        have eF78 := g80.s
        have gF78 := gF71.trans (g80.weak (by simp))
        replace r_sums := r_sums.up g80.f
        replace r5 := r5.up g80.f
        replace s10 := g80.f _ _ s10
        replace a11 := a11.up g80.f
        replace r23 := r23.up g80.f
        replace s28 := g80.f _ _ s28
        replace a29 := a29.up g80.f
        replace r37 := r37.up g80.f
        replace s61 := g80.f _ _ s61
        replace a62 := a62.up g80.f
        replace r68 := r68.up g80.f
        replace r74 := r74.up g80.f
        refine ⟨_, rfl, ?_⟩
        refine ⟨F78, _, ((0, 1) : (Int × Int)), _, b77, rfl, eF78, (d_NOUGHT F78), r81, (post_noE k).mono (fun b84 k v89 F85 H86 g87 r88 => ?_) (fun _ z => z)⟩
        have eF85 := g87.s
        have gF85 := gF78.trans (g87.weak (by simp))
        replace r_sums := r_sums.up g87.f
        replace r5 := r5.up g87.f
        replace s10 := g87.f _ _ s10
        replace a11 := a11.up g87.f
        replace r23 := r23.up g87.f
        replace s28 := g87.f _ _ s28
        replace a29 := a29.up g87.f
        replace r37 := r37.up g87.f
        replace s61 := g87.f _ _ s61
        replace a62 := a62.up g87.f
        replace r68 := r68.up g87.f
        replace r74 := r74.up g87.f
        replace r81 := r81.up g87.f
        refine ⟨_, rfl, _, rfl, ?_⟩
        obtain ⟨i91, h92, k⟩ := post_get k
        obtain ⟨v93, h94, r95⟩ := dq_at a29 h92
        refine ⟨_, _, _, _, rfl, rfl, (sq_of (eF85 _ _ s28)), h94, ?_⟩
        refine ⟨F85, _, b84, _, i91, rfl, eF85, r88, r95, (post_noE k).mono (fun b96 k v101 F97 H98 g99 r100 => ?_) (fun _ z => z)⟩
        have eF97 := g99.s
        have gF97 := gF85.trans (g99.weak (by simp))
        replace r_sums := r_sums.up g99.f
        replace r5 := r5.up g99.f
        replace s10 := g99.f _ _ s10
        replace a11 := a11.up g99.f
        replace r23 := r23.up g99.f
        replace s28 := g99.f _ _ s28
        replace a29 := a29.up g99.f
        replace r37 := r37.up g99.f
        replace s61 := g99.f _ _ s61
        replace a62 := a62.up g99.f
        replace r68 := r68.up g99.f
        replace r74 := r74.up g99.f
        replace r81 := r81.up g99.f
        replace r88 := r88.up g99.f
        replace r95 := r95.up g99.f
        exact k.h _ _ _ gF97 r100
/-! ### check_count -/
abbrev s_check_count : Stmt := top 52
theorem sc_check_count : FnScope ["weighting", "count", "least"] ["weighting", "count", "least"] (defScope s_check_count) := ⟨rfl, rfl, rfl, by decide +kernel, rfl, by decide +kernel, by decide +kernel⟩
def check_count (weighting : Wt) (count : Int) (least : Int) : Mm Unit := (check_within (count) (least) ((6 : Int))).bd fun b1 => (cond (decide ((weighting.2.length : Int) = (0 : Int))) (Mm.ok (decide ((weighting.1.length : Int) < count))) (Mm.ok false)).bd fun b19 => cond b19 (Mm.bad) (Mm.ok ())
def sp_check_count (K : PySem.W.Frag) (C : Addr) : Sp := fun vs H Q E => ∃ (F : Hp) (v_weighting : V) (weighting : Wt) (count : Int) (least : Int), vs = [v_weighting, (V.int count), (V.int least)] ∧ Ex F H ∧ IsW K C F v_weighting weighting ∧ Post (check_count weighting count least) (fun r => Ret [] F H (fun F' _ v => v = V.non) Q) (fun _ => False)
theorem ok_check_count {P : Program} {w : World} {K : PySem.W.Frag} {mg : Str → Option Value} {base : Heap} {C f : Addr} {fd : FuncData} (B : Bi mg) (FF : FunD K "check_count" "check_count" (defArgs s_check_count) (defBody s_check_count) (defScope s_check_count) [] [] f fd) (G_check_within : Kn P w K mg base "check_within" 2 ["number", "low", "high"] (sp_check_within K)) (c_MOST_ROOTS : ∃ t, mg "MOST_ROOTS" = some (.int 6 t)) (GP_masses : KnP P w K mg base C "masses" "_masses") (GP_stretches : KnP P w K mg base C "stretches" "_stretches") : FnOk P w K mg base CX0 3 f fd ["weighting", "count", "least"] (sp_check_count K C) := by
  refine FF.ok sc_check_count (fun vs H Q E h => ?_) (fun cdv A outer s H vs Q E hr h => ?_)
  · obtain ⟨F, v_weighting, weighting, count, least, rfl, _⟩ := h; rfl
  · obtain ⟨F, v_weighting, weighting, count, least, rfl, e, r_weighting, k⟩ := h
    unfold check_count at k
    have g_ := Gm.refl (M := []) e
    refine ⟨_, PSs.nox (pss_cons (ps_expr (pe_kn G_check_within (hr.mono (by decide)) (pa_cons (pv 1) (pa_cons (pv 2) (pa_cons (pe_gint c_MOST_ROOTS) (pa_nil)))))) (pss_one (ps_if (PW.pt (pw_and (pt_cmpR op_eq (pe_callB call_lenM (by rfl) B.len (by decide +kernel) (pa_cons (pe_propK GP_stretches (hr.mono (by decide)) (pv 0)) pa_nil)) (pe_int) (nomark _)) (pw_and1 (pt_cmpR op_lt (pe_callB call_lenM (by rfl) B.len (by decide +kernel) (pa_cons (pe_propK GP_masses (hr.mono (by decide)) (pv 0)) pa_nil)) (pv 1) (nomark _))))) (pss_one ps_never) pss_nil))), ?_⟩
    refine ⟨_, rfl, _, rfl, ?_⟩
    refine ⟨F, count, least, (6 : Int), rfl, e, (post_bd k).mono (fun b1 k v6 F2 H3 g4 r5 => ?_) (fun _ z => z)⟩
    have eF2 := g4.s
    have gF2 := g_.trans (g4.weak (by simp))
    replace r_weighting := r_weighting.up g4.f
    subst r5
    refine ⟨_, rfl, ?_⟩
    obtain ⟨a8, dx9, m10, t11, rfl, h12, r13, r14⟩ := r_weighting.ex
    refine ⟨_, _, _, rfl, eF2 _ _ h12, _, _, _, _, rfl, eF2 _ _ h12, wf_s _ _, ?_⟩
    obtain ⟨p15, xs16, rfl, s17, a18⟩ := dp_tup r14
    refine ⟨_, _, _, rfl, .inr (ex_t eF2 s17), len_all a18, rfl, ?_⟩
    rw [decV_int]
    refine ⟨_, rfl, ?_⟩
    refine and_jM (M := []) eF2 k (fun _ Q' ktb19 => ?_) (fun b19 F20 H21 g22 k => ?_)
    · have gF2_ := Gm.refl (M := []) eF2
      refine ⟨_, rfl, ?_⟩
      refine ⟨_, _, _, rfl, eF2 _ _ h12, _, _, _, _, rfl, eF2 _ _ h12, wf_m _ _, ?_⟩
      obtain ⟨p23, xs24, rfl, s25, a26⟩ := dp_tup r13
      refine ⟨_, _, _, rfl, .inr (ex_t eF2 s25), len_all a26, _, rfl, _, _, rfl, rfl, _, rfl, ?_⟩
      exact ktb19.h _ _ gF2_
    have eF20 := g22.s
    have gF20 := gF2.trans (g22.weak (by simp))
    replace r_weighting := r_weighting.up g22.f
    replace h12 := g22.f _ _ h12
    replace r13 := r13.up g22.f
    replace r14 := r14.up g22.f
    replace s17 := ex_t g22.f s17
    replace a18 := a18.up g22.f
    refine cs k (fun _ k => ?_) (fun _ k => ?_)
    · exact k.elim
    · exact k.h _ _ _ gF20 rfl
/-! ### next_rung -/
abbrev s_next_rung : Stmt := top 53
theorem sc_next_rung : FnScope ["present", "ahead", "step", "shift", "scale", "raised", "lesser", "coefficient", "one", "other"] ["present", "ahead", "step"] (defScope s_next_rung) := ⟨rfl, rfl, rfl, by decide +kernel, rfl, by decide +kernel, by decide +kernel⟩
def next_rung (present : (List (Int × Int))) (ahead : (List (Int × Int))) (step : ((Int × Int) × (Int × Int))) : Mm (List (Int × Int)) := (with_root (present) (step.1)).bd fun b7 => (guardM (ahead.length ≤ 50000)).bd fun _ => (mapMm (fun (x20 : (Int × Int)) => (times (step.2) (x20)).bd fun b39 => Mm.ok b39) ahead).bd fun b19 => (repM [((0, 1) : (Int × Int))] ((b7.length : Int) - (b19.length : Int))).bd fun m64 => (guardM (b19.length + m64.length ≤ 100000)).bd fun _ => (guardM ((b7.zip (b19 ++ m64)).length ≤ 50000)).bd fun _ => (mapMm (fun (x89 : ((Int × Int) × (Int × Int))) => (minus (x89.1) (x89.2)).bd fun b114 => Mm.ok b114) (b7.zip (b19 ++ m64))).bd fun b88 => Mm.ok b88
def sp_next_rung (K : PySem.W.Frag) : Sp := fun vs H Q E => ∃ (F : Hp) (v_present : V) (present : (List (Int × Int))) (v_ahead : V) (ahead : (List (Int × Int))) (v_step : V) (step : ((Int × Int) × (Int × Int))), vs = [v_present, v_ahead, v_step] ∧ Ex F H ∧ Dq K F v_present ((eL (e2 PyData.int PyData.int)) present) ∧ Dq K F v_ahead ((eL (e2 PyData.int PyData.int)) ahead) ∧ Dq K F v_step ((e2 (e2 PyData.int PyData.int) (e2 PyData.int PyData.int)) step) ∧ Post (next_rung present ahead step) (fun r => Ret [] F H (fun F' _ v => Dq K F' v ((eL (e2 PyData.int PyData.int)) r)) Q) (fun _ => False)
theorem ok_next_rung {P : Program} {w : World} {K : PySem.W.Frag} {mg : Str → Option Value} {base : Heap} {C f : Addr} {fd : FuncData} (B : Bi mg) (FF : FunD K "next_rung" "next_rung" (defArgs s_next_rung) (defBody s_next_rung) (defScope s_next_rung) [] [] f fd) (G_with_root : Kn P w K mg base "with_root" 3 ["polynomial", "place"] (sp_with_root K)) (G_times : Kn P w K mg base "times" 2 ["one", "other"] (sp_times K)) (G_minus : Kn P w K mg base "minus" 2 ["one", "other"] (sp_minus K)) {a_NOUGHT : Addr} (c_NOUGHT : mg "NOUGHT" = some (.ref a_NOUGHT)) (d_NOUGHT : ∀ F, Dq K F (.ref a_NOUGHT) ((e2 PyData.int PyData.int) (0, 1))) : FnOk P w K mg base CX0 4 f fd ["present", "ahead", "step"] (sp_next_rung K) := by
  refine FF.ok sc_next_rung (fun vs H Q E h => ?_) (fun cdv A outer s H vs Q E hr h => ?_)
  · obtain ⟨F, v_present, present, v_ahead, ahead, v_step, step, rfl, _⟩ := h; rfl
  · obtain ⟨F, v_present, present, v_ahead, ahead, v_step, step, rfl, e, r_present, r_ahead, r_step, k⟩ := h
    unfold next_rung at k
    have g_ := Gm.refl (M := []) e
    refine ⟨_, PSs.nox (pss_cons (ps_asg (pv 2) (pg_tup (by rfl) (pgs_cons (pg_name (i := 3) sc_next_rung.nd rfl (Or.inl rfl)) (pgs_cons (pg_name (i := 4) sc_next_rung.nd rfl (Or.inr rfl)) (pgs_nil))))) (pss_cons (ps_set (i := 5) sc_next_rung.nd rfl (Or.inl rfl) (pe_kn G_with_root (hr.mono (by decide)) (pa_cons (pv 0) (pa_cons (pv 3) (pa_nil))))) (pss_cons (ps_q (ps_setLc (i := 6) (own := [("coefficient", 7)]) (g := gName 7) rfl sc_next_rung.nd rfl rfl (sw_true rfl rfl rfl (by decide +kernel)) (pi_list (pv 1)) (blkOk_by (N := ["present", "ahead", "step", "shift", "scale", "raised", "lesser", "coefficient", "one", "other"]) (sc := defScope s_next_rung) (by decide +kernel)) (fun _ _ _ _ _ => pg_name (i := 7) sc_next_rung.nd rfl (Or.inl rfl)) (fun _ _ _ _ _ => pts_nil) (fun _ _ _ _ _ => pe_kn G_times (hr.mono (by decide)) (pa_cons (pv 4) (pa_cons (pv 7) (pa_nil)))))) (pss_cons (ps_set (i := 6) sc_next_rung.nd rfl (Or.inl rfl) (pe_q (pe_op op_cat (pv 6) (pe_q (pe_op op_rep (pe_q (pe_lst (pa_cons (pe_gref c_NOUGHT) (pa_nil)))) (pe_op op_sub (pe_callB call_lenM (by rfl) B.len (by decide +kernel) (pa_cons (pv 5) pa_nil)) (pe_callB call_lenM (by rfl) B.len (by decide +kernel) (pa_cons (pv 6) pa_nil)))))))) (pss_one (ps_ret (pe_q (pe_lc (own := [("one", 8), ("other", 9)]) (g := gTup K 2 (gCons (gName 8) (gCons (gName 9) gNil))) rfl sc_next_rung.nd (pi_zip rfl B.zip (pa_cons (pv 5) (pa_cons (pv 6) (pa_nil)))) (blkOk_by (N := ["present", "ahead", "step", "shift", "scale", "raised", "lesser", "coefficient", "one", "other"]) (sc := defScope s_next_rung) (by decide +kernel)) (fun _ _ _ _ _ => pg_tup (by rfl) (pgs_cons (pg_name (i := 8) sc_next_rung.nd rfl (Or.inl rfl)) (pgs_cons (pg_name (i := 9) sc_next_rung.nd rfl (Or.inl rfl)) (pgs_nil)))) (fun _ _ _ _ _ => pts_nil) (fun _ _ _ _ _ => pe_kn G_minus (hr.mono (by decide)) (pa_cons (pv 8) (pa_cons (pv 9) (pa_nil)))))))))))), ?_⟩
    refine ⟨_, rfl, ?_⟩
    obtain ⟨p1, x2, x3, rfl, s4, d5, d6⟩ := dp_tup2 r_step
    refine ⟨_, _, rfl, ex_t e s4, rfl, _, _, rfl, _, _, rfl, rfl, ?_⟩
    refine ⟨_, rfl, _, rfl, ?_⟩
    refine ⟨F, _, present, _, step.1, rfl, e, r_present, d5, (post_bd k).mono (fun b7 k v12 F8 H9 g10 r11 => ?_) (fun _ z => z)⟩
    have eF8 := g10.s
    have gF8 := g_.trans (g10.weak (by simp))
    replace r_present := r_present.up g10.f
    replace r_ahead := r_ahead.up g10.f
    replace r_step := r_step.up g10.f
    replace s4 := ex_t g10.f s4
    replace d5 := d5.up g10.f
    replace d6 := d6.up g10.f
    refine ⟨_, rfl, ?_⟩
    obtain ⟨p14, xs15, rfl, s16, a17⟩ := dp_lst r_ahead
    refine ⟨_, rfl, ⟨_, (sq_of (eF8 _ _ s16))⟩, ?_⟩
    obtain ⟨h37, k⟩ := post_guard k
    refine lc_map (K := K) (M := []) (wlk_list eF8 s16 a17) (e2 PyData.int PyData.int) k eF8 h37 (fun _ _ => by simp) (fun x20 v35 F28 H29 F30 H31 g32 g33 r34 Q' k18 => ?_) (fun _ z => z) (fun b19 v21 F22 H23 g24 r25 k => ?_) gm_name
    · have g38 := Gm.refl (M := []) g32.s
      replace r_present := r_present.up g32.f
      replace r_ahead := r_ahead.up g32.f
      replace r_step := r_step.up g32.f
      replace s4 := ex_t g32.f s4
      replace d5 := d5.up g32.f
      replace d6 := d6.up g32.f
      replace r11 := r11.up g32.f
      replace s16 := g32.f _ _ s16
      replace a17 := a17.up g32.f
      replace r_present := r_present.up g33.f
      replace r_ahead := r_ahead.up g33.f
      replace r_step := r_step.up g33.f
      replace s4 := ex_t g33.f s4
      replace d5 := d5.up g33.f
      replace d6 := d6.up g33.f
      replace r11 := r11.up g33.f
      replace s16 := g33.f _ _ s16
      replace a17 := a17.up g33.f
      have eF30 := g33.s
      have gF30 := g38.trans (g33.weak (by simp))
      refine ⟨rfl, _, rfl, _, rfl, ?_⟩
      refine ⟨F30, _, step.2, _, x20, rfl, eF30, d6, r34, (post_bd k18).mono (fun b39 k18 v44 F40 H41 g42 r43 => ?_) (fun _ z => z)⟩
      have eF40 := g42.s
      have gF40 := gF30.trans (g42.weak (by simp))
      replace r_present := r_present.up g42.f
      replace r_ahead := r_ahead.up g42.f
      replace r_step := r_step.up g42.f
      replace s4 := ex_t g42.f s4
      replace d5 := d5.up g42.f
      replace d6 := d6.up g42.f
      replace r11 := r11.up g42.f
      replace s16 := g42.f _ _ s16
      replace a17 := a17.up g42.f
      replace r34 := r34.up g42.f
      exact k18.h _ _ _ gF40 r43
    have eF22 := g24.s
    have gF22 := gF8.trans (g24.weak (by simp))
    replace r_present := r_present.up g24.f
    replace r_ahead := r_ahead.up g24.f
    replace r_step := r_step.up g24.f
    replace s4 := ex_t g24.f s4
    replace d5 := d5.up g24.f
    replace d6 := d6.up g24.f
    replace r11 := r11.up g24.f
    replace s16 := g24.f _ _ s16
    replace a17 := a17.up g24.f
    refine ⟨_, rfl, ?_⟩
    show _ ∧ _
    refine new_lst (K := K) (M := []) eF22 (.cons (d_NOUGHT F22) .nil) (by show 1 ≤ 100000; decide) fun v51 F47 H48 g49 r50 => ?_
    have eF47 := g49.s
    have gF47 := gF22.trans (g49.weak (by simp))
    replace r_present := r_present.up g49.f
    replace r_ahead := r_ahead.up g49.f
    replace r_step := r_step.up g49.f
    replace s4 := ex_t g49.f s4
    replace d5 := d5.up g49.f
    replace d6 := d6.up g49.f
    replace r11 := r11.up g49.f
    replace s16 := g49.f _ _ s16
    replace a17 := a17.up g49.f
    replace r25 := r25.up g49.f
    replace r50 : Dq K F47 v51 ((eL (e2 PyData.int PyData.int)) [((0, 1) : (Int × Int))]) := r50
    refine ⟨_, rfl, ?_⟩
    obtain ⟨p52, xs53, rfl, s54, a55⟩ := dp_lst r11
    refine ⟨_, _, _, rfl, .inl (sq_of (eF47 _ _ s54)), len_all a55, _, rfl, ?_⟩
    obtain ⟨p56, xs57, rfl, s58, a59⟩ := dp_lst r25
    refine ⟨_, _, _, rfl, .inl (sq_of (eF47 _ _ s58)), len_all a59, _, _, rfl, rfl, ?_⟩
    obtain ⟨p60, xs61, rfl, s62, a63⟩ := dp_lst r50
    obtain ⟨m64, c65, q66, k⟩ := post_rep k
    refine rep_lst (K := K) (M := []) (en := (e2 PyData.int PyData.int)) eF47 (eF47 _ _ s62) a63 c65 q66 fun v71 F67 H68 g69 r70 => ?_
    have eF67 := g69.s
    have gF67 := gF47.trans (g69.weak (by simp))
    replace r_present := r_present.up g69.f
    replace r_ahead := r_ahead.up g69.f
    replace r_step := r_step.up g69.f
    replace s4 := ex_t g69.f s4
    replace d5 := d5.up g69.f
    replace d6 := d6.up g69.f
    replace r11 := r11.up g69.f
    replace s16 := g69.f _ _ s16
    replace a17 := a17.up g69.f
    replace r25 := r25.up g69.f
    replace r50 := r50.up g69.f
    replace s54 := g69.f _ _ s54
    replace a55 := a55.up g69.f
    replace s58 := g69.f _ _ s58
    replace a59 := a59.up g69.f
    replace s62 := g69.f _ _ s62
    replace a63 := a63.up g69.f
    obtain ⟨p72, xs73, rfl, s74, a75⟩ := dp_lst r70
    obtain ⟨h77, k⟩ := post_guard k
    refine ⟨_, _, _, _, rfl, rfl, eF67 _ _ s58, eF67 _ _ s74, cat_len a59 a75 h77, new_lstC (K := K) (M := []) (en := (e2 PyData.int PyData.int)) (l := b19) (l' := m64) eF67 a59 a75 fun v82 F78 H79 g80 r81 => ?_⟩
    have eF78 := g80.s
    have gF78 := gF67.trans (g80.weak (by simp))
    replace r_present := r_present.up g80.f
    replace r_ahead := r_ahead.up g80.f
    replace r_step := r_step.up g80.f
    replace s4 := ex_t g80.f s4
    replace d5 := d5.up g80.f
    replace d6 := d6.up g80.f
    replace r11 := r11.up g80.f
    replace s16 := g80.f _ _ s16
    replace a17 := a17.up g80.f
    replace r25 := r25.up g80.f
    replace r50 := r50.up g80.f
    replace s54 := g80.f _ _ s54
    replace a55 := a55.up g80.f
    replace s58 := g80.f _ _ s58
    replace a59 := a59.up g80.f
    replace s62 := g80.f _ _ s62
    replace a63 := a63.up g80.f
    replace r70 := r70.up g80.f
    replace s74 := g80.f _ _ s74
    replace a75 := a75.up g80.f
    refine ⟨_, rfl, _, rfl, ?_⟩
    obtain ⟨p83, xs84, rfl, s85, a86⟩ := dp_lst r81
    refine ⟨_, _, _, _, rfl, (sq_of (eF78 _ _ s54)), (sq_of (eF78 _ _ s85)), ?_⟩
    obtain ⟨h106, k⟩ := post_guard k
    refine lc_map (K := K) (M := []) (wlk_zip eF78 s54 a55 s85 a86) (e2 PyData.int PyData.int) k eF78 h106 (fun _ _ => by simp) (fun x89 v104 F97 H98 F99 H100 g101 g102 r103 Q' k87 => ?_) (fun _ z => z) (fun b88 v90 F91 H92 g93 r94 k => ?_) (gm_tup (gms_cons gm_name (gms_cons gm_name gms_nil)))
    · have g107 := Gm.refl (M := []) g101.s
      replace r_present := r_present.up g101.f
      replace r_ahead := r_ahead.up g101.f
      replace r_step := r_step.up g101.f
      replace s4 := ex_t g101.f s4
      replace d5 := d5.up g101.f
      replace d6 := d6.up g101.f
      replace r11 := r11.up g101.f
      replace s16 := g101.f _ _ s16
      replace a17 := a17.up g101.f
      replace r25 := r25.up g101.f
      replace r50 := r50.up g101.f
      replace s54 := g101.f _ _ s54
      replace a55 := a55.up g101.f
      replace s58 := g101.f _ _ s58
      replace a59 := a59.up g101.f
      replace s62 := g101.f _ _ s62
      replace a63 := a63.up g101.f
      replace r70 := r70.up g101.f
      replace s74 := g101.f _ _ s74
      replace a75 := a75.up g101.f
      replace r81 := r81.up g101.f
      replace s85 := g101.f _ _ s85
      replace a86 := a86.up g101.f
      replace r_present := r_present.up g102.f
      replace r_ahead := r_ahead.up g102.f
      replace r_step := r_step.up g102.f
      replace s4 := ex_t g102.f s4
      replace d5 := d5.up g102.f
      replace d6 := d6.up g102.f
      replace r11 := r11.up g102.f
      replace s16 := g102.f _ _ s16
      replace a17 := a17.up g102.f
      replace r25 := r25.up g102.f
      replace r50 := r50.up g102.f
      replace s54 := g102.f _ _ s54
      replace a55 := a55.up g102.f
      replace s58 := g102.f _ _ s58
      replace a59 := a59.up g102.f
      replace s62 := g102.f _ _ s62
      replace a63 := a63.up g102.f
      replace r70 := r70.up g102.f
      replace s74 := g102.f _ _ s74
      replace a75 := a75.up g102.f
      replace r81 := r81.up g102.f
      replace s85 := g102.f _ _ s85
      replace a86 := a86.up g102.f
      have eF99 := g102.s
      have gF99 := g107.trans (g102.weak (by simp))
      obtain ⟨p108, x109, x110, rfl, s111, d112, d113⟩ := dp_tup2 r103
      refine ⟨_, _, rfl, ex_t eF99 s111, rfl, _, _, rfl, _, _, rfl, rfl, rfl, _, rfl, _, rfl, ?_⟩
      refine ⟨F99, _, x89.1, _, x89.2, rfl, eF99, d112, d113, (post_bd k87).mono (fun b114 k87 v119 F115 H116 g117 r118 => ?_) (fun _ z => z)⟩
      have eF115 := g117.s
      have gF115 := gF99.trans (g117.weak (by simp))
      replace r_present := r_present.up g117.f
      replace r_ahead := r_ahead.up g117.f
      replace r_step := r_step.up g117.f
      replace s4 := ex_t g117.f s4
      replace d5 := d5.up g117.f
      replace d6 := d6.up g117.f
      replace r11 := r11.up g117.f
      replace s16 := g117.f _ _ s16
      replace a17 := a17.up g117.f
      replace r25 := r25.up g117.f
      replace r50 := r50.up g117.f
      replace s54 := g117.f _ _ s54
      replace a55 := a55.up g117.f
      replace s58 := g117.f _ _ s58
      replace a59 := a59.up g117.f
      replace s62 := g117.f _ _ s62
      replace a63 := a63.up g117.f
      replace r70 := r70.up g117.f
      replace s74 := g117.f _ _ s74
      replace a75 := a75.up g117.f
      replace r81 := r81.up g117.f
      replace s85 := g117.f _ _ s85
      replace a86 := a86.up g117.f
      replace r103 := r103.up g117.f
      replace s111 := ex_t g117.f s111
      replace d112 := d112.up g117.f
      replace d113 := d113.up g117.f
      exact k87.h _ _ _ gF115 r118
    have eF91 := g93.s
    have gF91 := gF78.trans (g93.weak (by simp))
    replace r_present := r_present.up g93.f
    replace r_ahead := r_ahead.up g93.f
    replace r_step := r_step.up g93.f
    replace s4 := ex_t g93.f s4
    replace d5 := d5.up g93.f
    replace d6 := d6.up g93.f
    replace r11 := r11.up g93.f
    replace s16 := g93.f _ _ s16
    replace a17 := a17.up g93.f
    replace r25 := r25.up g93.f
    replace r50 := r50.up g93.f
    replace s54 := g93.f _ _ s54
    replace a55 := a55.up g93.f
    replace s58 := g93.f _ _ s58
    replace a59 := a59.up g93.f
    replace s62 := g93.f _ _ s62
    replace a63 := a63.up g93.f
    replace r70 := r70.up g93.f
    replace s74 := g93.f _ _ s74
    replace a75 := a75.up g93.f
    replace r81 := r81.up g93.f
    replace s85 := g93.f _ _ s85
    replace a86 := a86.up g93.f
    exact k.h _ _ _ gF91 r94
/-! ### climbed -/
abbrev s_climbed : Stmt := top 54
theorem sc_climbed : FnScope ["weighting", "count", "rungs", "taken", "ahead", "size_ahead", "_", "present", "square", "size", "shift", "scale"] ["weighting", "count"] (defScope s_climbed) := ⟨rfl, rfl, rfl, by decide +kernel, rfl, by decide +kernel, by decide +kernel⟩
def climbed (weighting : Wt) (count : Int) : Mm ((List (List (Int × Int))) × (List ((Int × Int) × (Int × Int)))) := (rangeM count).bd fun l26 => (foldM (fun (b27 : ((List (Int × Int)) × (Int × Int) × (List ((Int × Int) × (Int × Int))) × (List (List (Int × Int))))) (x28 : Int) => (getM b27.2.2.2 (-(1 : Int))).bd fun i61 => (multiplied (i61) (i61)).bd fun b66 => (weighed (weighting) (b66)).bd fun b73 => (guardM ([((0, 1) : (Int × Int))].length + b66.length ≤ 100000)).bd fun _ => (weighed (weighting) (([((0, 1) : (Int × Int))] ++ b66))).bd fun b90 => (over (b90) (b73)).bd fun b97 => (cond (decide ((b27.2.2.1.length : Int) > (0 : Int))) ((over (b73) (b27.2.1)).bd fun b110 => Mm.ok b110) (Mm.ok ((0, 1) : (Int × Int)))).bd fun b104 => (guardM (b27.2.2.1.length < 100000)).bd fun _ => (getM (b27.2.2.1 ++ [(b97, b104)]) (-(1 : Int))).bd fun i128 => (next_rung (i61) (b27.1) (i128)).bd fun b133 => (guardM (b27.2.2.2.length < 100000)).bd fun _ => Mm.ok (i61, b73, (b27.2.2.1 ++ [(b97, b104)]), (b27.2.2.2 ++ [b133]))) ([], ((0, 1) : (Int × Int)), [], [[((1, 1) : (Int × Int))]]) (rangeL 0 count.toNat)).bd fun b44 => Mm.ok (b44.2.2.2, b44.2.2.1)
def sp_climbed (K : PySem.W.Frag) (C : Addr) : Sp := fun vs H Q E => ∃ (F : Hp) (v_weighting : V) (weighting : Wt) (count : Int), vs = [v_weighting, (V.int count)] ∧ Ex F H ∧ IsW K C F v_weighting weighting ∧ Post (climbed weighting count) (fun r => Ret [] F H (fun F' _ v => Dq K F' v ((e2 (eL (eL (e2 PyData.int PyData.int))) (eL (e2 (e2 PyData.int PyData.int) (e2 PyData.int PyData.int)))) r)) Q) (fun _ => False)
theorem ok_climbed {P : Program} {w : World} {K : PySem.W.Frag} {mg : Str → Option Value} {base : Heap} {C f : Addr} {fd : FuncData} (B : Bi mg) (FF : FunD K "climbed" "climbed" (defArgs s_climbed) (defBody s_climbed) (defScope s_climbed) [] [] f fd) (G_multiplied : Kn P w K mg base "multiplied" 3 ["one", "other"] (sp_multiplied K)) (G_weighed : Kn P w K mg base "weighed" 4 ["weighting", "coefficients"] (sp_weighed K C)) (G_over : Kn P w K mg base "over" 2 ["one", "other"] (sp_over K)) (G_next_rung : Kn P w K mg base "next_rung" 4 ["present", "ahead", "step"] (sp_next_rung K)) {a_NOUGHT : Addr} (c_NOUGHT : mg "NOUGHT" = some (.ref a_NOUGHT)) (d_NOUGHT : ∀ F, Dq K F (.ref a_NOUGHT) ((e2 PyData.int PyData.int) (0, 1))) {a_ONE : Addr} (c_ONE : mg "ONE" = some (.ref a_ONE)) (d_ONE : ∀ F, Dq K F (.ref a_ONE) ((e2 PyData.int PyData.int) (1, 1))) : FnOk P w K mg base CX0 5 f fd ["weighting", "count"] (sp_climbed K C) := by
  refine FF.ok sc_climbed (fun vs H Q E h => ?_) (fun cdv A outer s H vs Q E hr h => ?_)
  · obtain ⟨F, v_weighting, weighting, count, rfl, _⟩ := h; rfl
  · obtain ⟨F, v_weighting, weighting, count, rfl, e, r_weighting, k⟩ := h
    unfold climbed at k
    have g_ := Gm.refl (M := []) e
    refine ⟨_, PSs.nox (pss_cons (ps_set (i := 2) sc_climbed.nd rfl (Or.inl rfl) (pe_q (pe_lst (pa_cons (pe_q (pe_lst (pa_cons (pe_gref c_ONE) (pa_nil)))) (pa_nil))))) (pss_cons (ps_set (i := 3) sc_climbed.nd rfl (Or.inl rfl) (pe_q (pe_lst (pa_nil)))) (pss_cons (ps_set (i := 4) sc_climbed.nd rfl (Or.inl rfl) (pe_q (pe_lst (pa_nil)))) (pss_cons (ps_set (i := 5) sc_climbed.nd rfl (Or.inl rfl) (pe_gref c_NOUGHT)) (pss_cons (ps_for PassesOwn.never rfl (pi_range1 rfl B.range (pa_cons (pv 1) (pa_nil))) (pg_name (i := 6) sc_climbed.nd rfl (Or.inl rfl)) (pss_cons (ps_set (i := 7) sc_climbed.nd rfl (Or.inl rfl) (pe_ix (r := rIxL K) ix_list (pv 2) (pe_un un_neg (pe_int)) (fun _ _ => rfl))) (pss_cons (ps_set (i := 8) sc_climbed.nd rfl (Or.inl rfl) (pe_kn G_multiplied (hr.mono (by decide)) (pa_cons (pv 7) (pa_cons (pv 7) (pa_nil))))) (pss_cons (ps_set (i := 9) sc_climbed.nd rfl (Or.inl rfl) (pe_kn G_weighed (hr.mono (by decide)) (pa_cons (pv 0) (pa_cons (pv 8) (pa_nil))))) (pss_cons (ps_set (i := 10) sc_climbed.nd rfl (Or.inl rfl) (pe_kn G_over (hr.mono (by decide)) (pa_cons (pe_kn G_weighed (hr.mono (by decide)) (pa_cons (pv 0) (pa_cons (pe_q (pe_lst (pa_cons (pe_gref c_NOUGHT) (pa_star (pv 8) pa_nil)))) (pa_nil)))) (pa_cons (pv 9) (pa_nil))))) (pss_cons (ps_set (i := 11) sc_climbed.nd rfl (Or.inl rfl) (pe_gref c_NOUGHT)) (pss_cons (ps_if (pt_cmpR op_gt (pe_callB call_lenM (by rfl) B.len (by decide +kernel) (pa_cons (pv 3) pa_nil)) (pe_int) (nomark _)) (pss_one (ps_set (i := 11) sc_climbed.nd rfl (Or.inl rfl) (pe_kn G_over (hr.mono (by decide)) (pa_cons (pv 9) (pa_cons (pv 5) (pa_nil)))))) (pss_nil)) (pss_cons (ps_expr (pe_bm PySem.F.plainAttrs_list PySem.F.slot_list_append PySem.F.type_list_append mt_append (pv 3) (pa_cons (pe_q (pe_tup (pa_cons (pv 10) (pa_cons (pv 11) (pa_nil))))) pa_nil))) (pss_cons (ps_expr (pe_bm PySem.F.plainAttrs_list PySem.F.slot_list_append PySem.F.type_list_append mt_append (pv 2) (pa_cons (pe_kn G_next_rung (hr.mono (by decide)) (pa_cons (pv 7) (pa_cons (pv 4) (pa_cons (pe_ix (r := rIxL K) ix_list (pv 3) (pe_un un_neg (pe_int)) (fun _ _ => rfl)) (pa_nil))))) pa_nil))) (pss_cons (ps_set (i := 4) sc_climbed.nd rfl (Or.inl rfl) (pv 7)) (pss_one (ps_set (i := 5) sc_climbed.nd rfl (Or.inl rfl) (pv 9))))))))))))) (pss_one (ps_ret (pe_q (pe_tup (pa_cons (pv 2) (pa_cons (pv 3) (pa_nil)))))))))))), ?_⟩
    show _ ∧ _
    refine new_lst (K := K) (M := []) e (.cons (d_ONE F) .nil) (by show 1 ≤ 100000; decide) fun v5 F1 H2 g3 r4 => ?_
    have eF1 := g3.s
    have gF1 := g_.trans (g3.weak (by simp))
    replace r_weighting := r_weighting.up g3.f
    replace r4 : Dq K F1 v5 ((eL (e2 PyData.int PyData.int)) [((1, 1) : (Int × Int))]) := r4
    show _ ∧ _
    refine new_own (K := K) eF1 (.cons r4 .nil) (by show 1 ≤ 100000; decide) fun p6 H7 g8 y9 o10 => ?_
    have a11 : DqAll K F1 [v5] (List.map (eL (e2 PyData.int PyData.int)) [[((1, 1) : (Int × Int))]]) := (.cons r4 .nil)
    have zp6 := gF1.fresh y9
    have eH7 := g8.s
    have gH7 := gF1.trans (g8.weak (by simp))
    show _ ∧ _
    refine new_own (K := K) eH7 .nil (by show 0 ≤ 100000; decide) fun p13 H14 g15 y16 o17 => ?_
    have a18 : DqAll K F1 [] (List.map (e2 (e2 PyData.int PyData.int) (e2 PyData.int PyData.int)) []) := .nil
    have np6_p13 := ne_of_none o10.1 y16
    have np13_p6 := np6_p13.symm
    have zp13 := gH7.fresh y16
    have eH14 := g15.s
    have gH14 := gH7.trans (g15.weak (by simp))
    replace o10 := g15.own (by simp) o10.1 o10.2
    show _ ∧ _
    refine new_lst (K := K) (M := []) eH14 .nil (by show 0 ≤ 100000; decide) fun v24 F20 H21 g22 r23 => ?_
    have eF20 := g22.s
    have gF20 := gH14.trans (g22.weak (by simp))
    replace r_weighting := r_weighting.up g22.f
    replace r4 := r4.up g22.f
    replace o10 := g22.own (by first | exact List.not_mem_nil | (simp only [List.mem_cons, List.not_mem_nil, or_false, not_or]; (repeat' apply And.intro) <;> assumption)) o10.1 o10.2
    replace a11 := a11.up g22.f
    replace o17 := g22.own (by first | exact List.not_mem_nil | (simp only [List.mem_cons, List.not_mem_nil, or_false, not_or]; (repeat' apply And.intro) <;> assumption)) o17.1 o17.2
    replace a18 := a18.up g22.f
    replace r23 : Dq K F20 v24 ((eL (e2 PyData.int PyData.int)) []) := r23
    refine ⟨_, rfl, ?_⟩
    obtain ⟨h25, k⟩ := post_range k
    refine ⟨_, rfl, h25.1, h25.2, ?_⟩
    refine for_m (M := [p13, p6]) (F := F20) wlk_range (fun b27 F' H' σ' => ∃ (c4 : V) (c5 : V) (u6 : Option V) (u7 : Option V) (u8 : Option V) (u9 : Option V) (u10 : Option V) (u11 : Option V) (xs2 : List V) (xs3 : List V), σ' = [some v_weighting, some (V.int count), some (V.ref p6), some (V.ref p13), some c4, some c5, u6, u7, u8, u9, u10, u11] ∧ (H' p6 = some (.lst xs2) ∧ F' p6 = none) ∧ DqAll K F' xs2 (List.map (eL (e2 PyData.int PyData.int)) b27.2.2.2) ∧ (H' p13 = some (.lst xs3) ∧ F' p13 = none) ∧ DqAll K F' xs3 (List.map (e2 (e2 PyData.int PyData.int) (e2 PyData.int PyData.int)) b27.2.2.1) ∧ Dq K F' c4 ((eL (e2 PyData.int PyData.int)) b27.1) ∧ Dq K F' c5 ((e2 PyData.int PyData.int) b27.2.1)) k eF20 ⟨_, _, _, _, _, _, _, _, _, _, rfl, o10, a11, o17, a18, r23, (d_NOUGHT F20)⟩ (fun b27 x28 v36 σ38 F29 H30 F31 H32 g33 i37 g34 r35 nx kfb27 => ?_) (fun b44 σ43 F39 H40 g41 i42 k => ?_)
    · replace r_weighting := r_weighting.up g33.f
      replace r4 := r4.up g33.f
      replace r23 := r23.up g33.f
      obtain ⟨c45, c46, u47, u48, u49, u50, u51, u52, xs53, xs56, rfl, o54, a55, o57, a58, r59, r60⟩ := i37
      replace r_weighting := r_weighting.up g34.f
      replace r4 := r4.up g34.f
      replace o54 := g34.own (by first | exact List.not_mem_nil | (simp only [List.mem_cons, List.not_mem_nil, or_false, not_or]; (repeat' apply And.intro) <;> assumption)) o54.1 o54.2
      replace a55 := a55.up g34.f
      replace o57 := g34.own (by first | exact List.not_mem_nil | (simp only [List.mem_cons, List.not_mem_nil, or_false, not_or]; (repeat' apply And.intro) <;> assumption)) o57.1 o57.2
      replace a58 := a58.up g34.f
      replace r59 := r59.up g34.f
      replace r60 := r60.up g34.f
      have eF31 := g34.s
      have gF31 := g33.trans (g34.weak (by simp))
      subst r35
      refine ⟨_, rfl, _, rfl, ?_⟩
      obtain ⟨i61, h62, kfb27⟩ := post_get kfb27
      obtain ⟨v63, h64, r65⟩ := dq_at a55 h62
      refine ⟨_, _, _, _, rfl, rfl, (sq_of o54.1), h64, ?_⟩
      refine ⟨_, rfl, _, rfl, ?_⟩
      refine ⟨F31, _, i61, _, i61, rfl, eF31, r65, r65, (post_bd kfb27).mono (fun b66 kfb27 v71 F67 H68 g69 r70 => ?_) (fun _ z => z)⟩
      have eF67 := g69.s
      have gF67 := gF31.trans (g69.weak (by simp))
      replace r_weighting := r_weighting.up g69.f
      replace r4 := r4.up g69.f
      replace o54 := g69.own (by first | exact List.not_mem_nil | (simp only [List.mem_cons, List.not_mem_nil, or_false, not_or]; (repeat' apply And.intro) <;> assumption)) o54.1 o54.2
      replace a55 := a55.up g69.f
      replace o57 := g69.own (by first | exact List.not_mem_nil | (simp only [List.mem_cons, List.not_mem_nil, or_false, not_or]; (repeat' apply And.intro) <;> assumption)) o57.1 o57.2
      replace a58 := a58.up g69.f
      replace r59 := r59.up g69.f
      replace r60 := r60.up g69.f
      replace r65 := r65.up g69.f
      refine ⟨_, rfl, _, rfl, ?_⟩
      refine ⟨F67, _, weighting, _, b66, rfl, eF67, r_weighting, r70, (post_bd kfb27).mono (fun b73 kfb27 v78 F74 H75 g76 r77 => ?_) (fun _ z => z)⟩
      have eF74 := g76.s
      have gF74 := gF67.trans (g76.weak (by simp))
      replace r_weighting := r_weighting.up g76.f
      replace r4 := r4.up g76.f
      replace o54 := g76.own (by first | exact List.not_mem_nil | (simp only [List.mem_cons, List.not_mem_nil, or_false, not_or]; (repeat' apply And.intro) <;> assumption)) o54.1 o54.2
      replace a55 := a55.up g76.f
      replace o57 := g76.own (by first | exact List.not_mem_nil | (simp only [List.mem_cons, List.not_mem_nil, or_false, not_or]; (repeat' apply And.intro) <;> assumption)) o57.1 o57.2
      replace a58 := a58.up g76.f
      replace r59 := r59.up g76.f
      replace r60 := r60.up g76.f
      replace r65 := r65.up g76.f
      replace r70 := r70.up g76.f
      refine ⟨_, rfl, _, rfl, ?_⟩
      obtain ⟨p80, xs81, rfl, s82, a83⟩ := dp_lst r70
      refine ⟨_, _, rfl, .inr (sq_of (eF74 _ _ s82)), ?_⟩
      obtain ⟨h84, kfb27⟩ := post_guard kfb27
      show _ ∧ _
      refine new_star (K := K) (M := []) (en := (e2 PyData.int PyData.int)) (pre := [(V.ref a_NOUGHT)]) (pm := [((0, 1) : (Int × Int))]) (xs := xs81) (l := b66) eF74 (.cons (d_NOUGHT F74) .nil) a83 h84 fun v89 F85 H86 g87 r88 => ?_
      have eF85 := g87.s
      have gF85 := gF74.trans (g87.weak (by simp))
      replace r_weighting := r_weighting.up g87.f
      replace r4 := r4.up g87.f
      replace o54 := g87.own (by first | exact List.not_mem_nil | (simp only [List.mem_cons, List.not_mem_nil, or_false, not_or]; (repeat' apply And.intro) <;> assumption)) o54.1 o54.2
      replace a55 := a55.up g87.f
      replace o57 := g87.own (by first | exact List.not_mem_nil | (simp only [List.mem_cons, List.not_mem_nil, or_false, not_or]; (repeat' apply And.intro) <;> assumption)) o57.1 o57.2
      replace a58 := a58.up g87.f
      replace r59 := r59.up g87.f
      replace r60 := r60.up g87.f
      replace r65 := r65.up g87.f
      replace r70 := r70.up g87.f
      replace r77 := r77.up g87.f
      replace s82 := g87.f _ _ s82
      replace a83 := a83.up g87.f
      refine ⟨F85, _, weighting, _, ([((0, 1) : (Int × Int))] ++ b66), rfl, eF85, r_weighting, r88, (post_bd kfb27).mono (fun b90 kfb27 v95 F91 H92 g93 r94 => ?_) (fun _ z => z)⟩
      have eF91 := g93.s
      have gF91 := gF85.trans (g93.weak (by simp))
      replace r_weighting := r_weighting.up g93.f
      replace r4 := r4.up g93.f
      replace o54 := g93.own (by first | exact List.not_mem_nil | (simp only [List.mem_cons, List.not_mem_nil, or_false, not_or]; (repeat' apply And.intro) <;> assumption)) o54.1 o54.2
      replace a55 := a55.up g93.f
      replace o57 := g93.own (by first | exact List.not_mem_nil | (simp only [List.mem_cons, List.not_mem_nil, or_false, not_or]; (repeat' apply And.intro) <;> assumption)) o57.1 o57.2
      replace a58 := a58.up g93.f
      replace r59 := r59.up g93.f
      replace r60 := r60.up g93.f
      replace r65 := r65.up g93.f
      replace r70 := r70.up g93.f
      replace r77 := r77.up g93.f
      replace s82 := g93.f _ _ s82
      replace a83 := a83.up g93.f
      replace r88 := r88.up g93.f
      refine ⟨_, rfl, ?_⟩
      refine ⟨F91, _, b90, _, b73, rfl, eF91, r94, r77, (post_bd kfb27).mono (fun b97 kfb27 v102 F98 H99 g100 r101 => ?_) (fun _ z => z)⟩
      have eF98 := g100.s
      have gF98 := gF91.trans (g100.weak (by simp))
      replace r_weighting := r_weighting.up g100.f
      replace r4 := r4.up g100.f
      replace o54 := g100.own (by first | exact List.not_mem_nil | (simp only [List.mem_cons, List.not_mem_nil, or_false, not_or]; (repeat' apply And.intro) <;> assumption)) o54.1 o54.2
      replace a55 := a55.up g100.f
      replace o57 := g100.own (by first | exact List.not_mem_nil | (simp only [List.mem_cons, List.not_mem_nil, or_false, not_or]; (repeat' apply And.intro) <;> assumption)) o57.1 o57.2
      replace a58 := a58.up g100.f
      replace r59 := r59.up g100.f
      replace r60 := r60.up g100.f
      replace r65 := r65.up g100.f
      replace r70 := r70.up g100.f
      replace r77 := r77.up g100.f
      replace s82 := g100.f _ _ s82
      replace a83 := a83.up g100.f
      replace r88 := r88.up g100.f
      replace r94 := r94.up g100.f
      refine ⟨_, rfl, ?_⟩
      refine ⟨_, _, _, rfl, .inl (sq_of o57.1), len_all a58, _, _, rfl, rfl, _, rfl, ?_⟩
      refine ifs_jM (M := []) (F := F98) (fun b104 F' H' σ' => ∃ (c11 : V), σ' = [some v_weighting, some (V.int count), some (V.ref p6), some (V.ref p13), some c45, some c46, some (V.int x28), some v63, some (V.ref p80), some v78, some v102, some c11] ∧ Dq K F' c11 ((e2 PyData.int PyData.int) b104)) kfb27 (fun _ nx kfb27jb104 => ?_) (fun _ nx kfb27jb104 => ?_) (fun b104 σ108 F105 H106 g107 i109 kfb27 => ?_)
      · have gF98_ := Gm.refl (M := []) eF98
        refine ⟨_, rfl, _, rfl, ?_⟩
        refine ⟨F98, _, b73, _, b27.2.1, rfl, eF98, r77, r60, (post_bd kfb27jb104).mono (fun b110 kfb27jb104 v115 F111 H112 g113 r114 => ?_) (fun _ z => z)⟩
        have eF111 := g113.s
        have gF111 := gF98_.trans (g113.weak (by simp))
        replace r_weighting := r_weighting.up g113.f
        replace r4 := r4.up g113.f
        replace o54 := g113.own (by first | exact List.not_mem_nil | (simp only [List.mem_cons, List.not_mem_nil, or_false, not_or]; (repeat' apply And.intro) <;> assumption)) o54.1 o54.2
        replace a55 := a55.up g113.f
        replace o57 := g113.own (by first | exact List.not_mem_nil | (simp only [List.mem_cons, List.not_mem_nil, or_false, not_or]; (repeat' apply And.intro) <;> assumption)) o57.1 o57.2
        replace a58 := a58.up g113.f
        replace r59 := r59.up g113.f
        replace r60 := r60.up g113.f
        replace r65 := r65.up g113.f
        replace r70 := r70.up g113.f
        replace r77 := r77.up g113.f
        replace s82 := g113.f _ _ s82
        replace a83 := a83.up g113.f
        replace r88 := r88.up g113.f
        replace r94 := r94.up g113.f
        replace r101 := r101.up g113.f
        exact kfb27jb104.h _ _ _ gF111 ⟨_, rfl, r114⟩
      · have gF98_ := Gm.refl (M := []) eF98
        exact kfb27jb104.h _ _ _ gF98_ ⟨_, rfl, (d_NOUGHT F98)⟩
      have g117 := gF98.trans (g107.weak (by simp))
      replace r_weighting := r_weighting.up g107.f
      replace r4 := r4.up g107.f
      replace o54 := g107.own (by first | exact List.not_mem_nil | (simp only [List.mem_cons, List.not_mem_nil, or_false, not_or]; (repeat' apply And.intro) <;> assumption)) o54.1 o54.2
      replace a55 := a55.up g107.f
      replace o57 := g107.own (by first | exact List.not_mem_nil | (simp only [List.mem_cons, List.not_mem_nil, or_false, not_or]; (repeat' apply And.intro) <;> assumption)) o57.1 o57.2
      replace a58 := a58.up g107.f
      replace r59 := r59.up g107.f
      replace r60 := r60.up g107.f
      replace r65 := r65.up g107.f
      replace r70 := r70.up g107.f
      replace r77 := r77.up g107.f
      replace s82 := g107.f _ _ s82
      replace a83 := a83.up g107.f
      replace r88 := r88.up g107.f
      replace r94 := r94.up g107.f
      replace r101 := r101.up g107.f
      have eF105 := g107.s
      obtain ⟨c118, rfl, r119⟩ := i109
      refine ⟨_, rfl, .inl ⟨rfl, _, sq_of o57.1⟩, _, rfl, _, rfl, ?_⟩
      show _ ∧ _
      refine new_tup (K := K) (M := []) eF105 (.cons r101 (.cons r119 .nil)) (by show 2 ≤ 100000; decide) fun v124 F120 H121 g122 r123 => ?_
      have eF120 := g122.s
      have gF120 := g117.trans (g122.weak (by simp))
      replace r_weighting := r_weighting.up g122.f
      replace r4 := r4.up g122.f
      replace o54 := g122.own (by first | exact List.not_mem_nil | (simp only [List.mem_cons, List.not_mem_nil, or_false, not_or]; (repeat' apply And.intro) <;> assumption)) o54.1 o54.2
      replace a55 := a55.up g122.f
      replace o57 := g122.own (by first | exact List.not_mem_nil | (simp only [List.mem_cons, List.not_mem_nil, or_false, not_or]; (repeat' apply And.intro) <;> assumption)) o57.1 o57.2
      replace a58 := a58.up g122.f
      replace r59 := r59.up g122.f
      replace r60 := r60.up g122.f
      replace r65 := r65.up g122.f
      replace r70 := r70.up g122.f
      replace r77 := r77.up g122.f
      replace s82 := g122.f _ _ s82
      replace a83 := a83.up g122.f
      replace r88 := r88.up g122.f
      replace r94 := r94.up g122.f
      replace r101 := r101.up g122.f
      replace r119 := r119.up g122.f
      replace r123 : Dq K F120 v124 ((e2 (e2 PyData.int PyData.int) (e2 PyData.int PyData.int)) (b97, b104)) := r123
      obtain ⟨h125, kfb27⟩ := post_guard kfb27
      refine ⟨_, _, _, rfl, rfl, o57.1, own_sz a58 h125, ?_⟩
      have g126 := gF120.putOr (o := .lst (xs56 ++ [v124])) (.inl (by simp)) o57.1 o57.2
      replace o54 : (upd H121 p13 (.lst (xs56 ++ [v124]))) p6 = _ ∧ _ := ⟨(upd_ne np6_p13).trans o54.1, o54.2⟩
      replace o57 : (upd H121 p13 (.lst (xs56 ++ [v124]))) p13 = some (.lst (xs56 ++ [v124])) ∧ F120 p13 = none := ⟨upd_same, o57.2⟩
      replace a58 : DqAll K F120 (xs56 ++ [v124]) (List.map (e2 (e2 PyData.int PyData.int) (e2 PyData.int PyData.int)) (b27.2.2.1 ++ [(b97, b104)])) := by rw [List.map_append]; exact a58.app (.cons r123 .nil)
      have e127 := g126.s
      refine ⟨_, rfl, .inl ⟨rfl, _, sq_of o54.1⟩, _, rfl, _, rfl, _, rfl, _, rfl, ?_⟩
      obtain ⟨i128, h129, kfb27⟩ := post_get kfb27
      obtain ⟨v130, h131, r132⟩ := dq_at a58 h129
      refine ⟨_, _, _, _, rfl, rfl, (sq_of o57.1), h131, ?_⟩
      refine ⟨F120, _, i61, _, b27.1, _, i128, rfl, e127, r65, r59, r132, (post_bd kfb27).mono (fun b133 kfb27 v138 F134 H135 g136 r137 => ?_) (fun _ z => z)⟩
      have eF134 := g136.s
      have gF134 := g126.trans (g136.weak (by simp))
      replace r_weighting := r_weighting.up g136.f
      replace r4 := r4.up g136.f
      replace o54 := g136.own (by first | exact List.not_mem_nil | (simp only [List.mem_cons, List.not_mem_nil, or_false, not_or]; (repeat' apply And.intro) <;> assumption)) o54.1 o54.2
      replace a55 := a55.up g136.f
      replace o57 := g136.own (by first | exact List.not_mem_nil | (simp only [List.mem_cons, List.not_mem_nil, or_false, not_or]; (repeat' apply And.intro) <;> assumption)) o57.1 o57.2
      replace a58 := a58.up g136.f
      replace r59 := r59.up g136.f
      replace r60 := r60.up g136.f
      replace r65 := r65.up g136.f
      replace r70 := r70.up g136.f
      replace r77 := r77.up g136.f
      replace s82 := g136.f _ _ s82
      replace a83 := a83.up g136.f
      replace r88 := r88.up g136.f
      replace r94 := r94.up g136.f
      replace r101 := r101.up g136.f
      replace r119 := r119.up g136.f
      replace r123 := r123.up g136.f
      replace r132 := r132.up g136.f
      obtain ⟨h140, kfb27⟩ := post_guard kfb27
      refine ⟨_, _, _, rfl, rfl, o54.1, own_sz a55 h140, ?_⟩
      have g141 := gF134.putOr (o := .lst (xs53 ++ [v138])) (.inl (by simp)) o54.1 o54.2
      replace o57 : (upd H135 p6 (.lst (xs53 ++ [v138]))) p13 = _ ∧ _ := ⟨(upd_ne np13_p6).trans o57.1, o57.2⟩
      replace o54 : (upd H135 p6 (.lst (xs53 ++ [v138]))) p6 = some (.lst (xs53 ++ [v138])) ∧ F134 p6 = none := ⟨upd_same, o54.2⟩
      replace a55 : DqAll K F134 (xs53 ++ [v138]) (List.map (eL (e2 PyData.int PyData.int)) (b27.2.2.2 ++ [b133])) := by rw [List.map_append]; exact a55.app (.cons r137 .nil)
      have e142 := g141.s
      refine ⟨_, rfl, ?_⟩
      refine ⟨_, rfl, ?_⟩
      exact kfb27.h _ _ _ g141 ⟨_, _, _, _, _, _, _, _, _, _, rfl, o54, a55, o57, a58, r65, r77⟩
    have hy144 : ∀ q ∈ [p13, p6], q ∈ [] ∨ H q = none := by intro q hq; simp only [List.mem_cons, List.not_mem_nil, or_false] at hq; rcases hq with rfl | rfl <;> first | exact (.inr zp13) | exact (.inr zp6)
    have g143 := Gm.outs [p13, p6] hy144 gF20 (g41.weak (by simp))
    replace r_weighting := r_weighting.up g41.f
    replace r4 := r4.up g41.f
    replace r23 := r23.up g41.f
    have eF39 := g41.s
    obtain ⟨c145, c146, u147, u148, u149, u150, u151, u152, xs153, xs156, rfl, o154, a155, o157, a158, r159, r160⟩ := i42
    refine ⟨_, rfl, _, rfl, ?_⟩
    have g161 := g143.fix o154.1 o154.2 zp6
    have ur162 : Ex F39 (upd F39 p6 (.lst xs153)) := Ex.new o154.2
    have r162 : Dq K (upd F39 p6 (.lst xs153)) (.ref p6) (eL (eL (e2 PyData.int PyData.int)) b44.2.2.2) := .lst upd_same (a155.up ur162)
    have s164 : (upd F39 p6 (.lst xs153)) p6 = some (.lst xs153) := upd_same
    have a165 := a155.up ur162
    replace r_weighting := r_weighting.up ur162
    replace r4 := r4.up ur162
    replace o157 : H40 p13 = _ ∧ (upd F39 p6 (.lst xs153)) p13 = none := ⟨o157.1, (upd_ne np13_p6).trans o157.2⟩
    replace a158 := a158.up ur162
    replace r159 := r159.up ur162
    replace r160 := r160.up ur162
    have e166 := g161.s
    have g167 := g161.fix o157.1 o157.2 zp13
    have ur168 : Ex (upd F39 p6 (.lst xs153)) (upd (upd F39 p6 (.lst xs153)) p13 (.lst xs156)) := Ex.new o157.2
    have r168 : Dq K (upd (upd F39 p6 (.lst xs153)) p13 (.lst xs156)) (.ref p13) (eL (e2 (e2 PyData.int PyData.int) (e2 PyData.int PyData.int)) b44.2.2.1) := .lst upd_same (a158.up ur168)
    have s170 : (upd (upd F39 p6 (.lst xs153)) p13 (.lst xs156)) p13 = some (.lst xs156) := upd_same
    have a171 := a158.up ur168
    replace r_weighting := r_weighting.up ur168
    replace r4 := r4.up ur168
    replace r159 := r159.up ur168
    replace r160 := r160.up ur168
    replace r162 := r162.up ur168
    replace s164 := ur168 _ _ s164
    replace a165 := a165.up ur168
    have e172 := g167.s
    show _ ∧ _
    refine new_tup (K := K) (M := []) e172 (.cons r162 (.cons r168 .nil)) (by show 2 ≤ 100000; decide) fun v177 F173 H174 g175 r176 => ?_
    have eF173 := g175.s
    have gF173 := g167.trans (g175.weak (by simp))
    replace r_weighting := r_weighting.up g175.f
    replace r4 := r4.up g175.f
    replace r159 := r159.up g175.f
    replace r160 := r160.up g175.f
    replace r162 := r162.up g175.f
    replace s164 := g175.f _ _ s164
    replace a165 := a165.up g175.f
    replace r168 := r168.up g175.f
    replace s170 := g175.f _ _ s170
    replace a171 := a171.up g175.f
    replace r176 : Dq K F173 v177 ((e2 (eL (eL (e2 PyData.int PyData.int))) (eL (e2 (e2 PyData.int PyData.int) (e2 PyData.int PyData.int)))) (b44.2.2.2, b44.2.2.1)) := r176
    exact k.h _ _ _ gF173 r176
/-! ### steps -/
abbrev s_steps : Stmt := top 55
theorem sc_steps : FnScope ["weighting", "count", "_", "taken"] ["weighting", "count"] (defScope s_steps) := ⟨rfl, rfl, rfl, by decide +kernel, rfl, by decide +kernel, by decide +kernel⟩
def steps (weighting : Wt) (count : Int) : Mm (List ((Int × Int) × (Int × Int))) := (check_count (weighting) (count) ((0 : Int))).bd fun b1 => (climbed (weighting) (count)).bd fun b8 => Mm.ok b8.2
def sp_steps (K : PySem.W.Frag) (C : Addr) : Sp := fun vs H Q E => ∃ (F : Hp) (v_weighting : V) (weighting : Wt) (count : Int), vs = [v_weighting, (V.int count)] ∧ Ex F H ∧ IsW K C F v_weighting weighting ∧ Post (steps weighting count) (fun r => Ret [] F H (fun F' _ v => Dq K F' v ((eL (e2 (e2 PyData.int PyData.int) (e2 PyData.int PyData.int))) r)) Q) (fun _ => False)
theorem ok_steps {P : Program} {w : World} {K : PySem.W.Frag} {mg : Str → Option Value} {base : Heap} {C f : Addr} {fd : FuncData} (B : Bi mg) (FF : FunD K "steps" "steps" (defArgs s_steps) (defBody s_steps) (defScope s_steps) [] [] f fd) (G_check_count : Kn P w K mg base "check_count" 3 ["weighting", "count", "least"] (sp_check_count K C)) (G_climbed : Kn P w K mg base "climbed" 5 ["weighting", "count"] (sp_climbed K C)) : FnOk P w K mg base CX0 6 f fd ["weighting", "count"] (sp_steps K C) := by
  refine FF.ok sc_steps (fun vs H Q E h => ?_) (fun cdv A outer s H vs Q E hr h => ?_)
  · obtain ⟨F, v_weighting, weighting, count, rfl, _⟩ := h; rfl
  · obtain ⟨F, v_weighting, weighting, count, rfl, e, r_weighting, k⟩ := h
    unfold steps at k
    have g_ := Gm.refl (M := []) e
    refine ⟨_, PSs.nox (pss_cons (ps_expr (pe_kn G_check_count (hr.mono (by decide)) (pa_cons (pv 0) (pa_cons (pv 1) (pa_cons (pe_int) (pa_nil)))))) (pss_cons (ps_asg (pe_kn G_climbed (hr.mono (by decide)) (pa_cons (pv 0) (pa_cons (pv 1) (pa_nil)))) (pg_tup (by rfl) (pgs_cons (pg_name (i := 2) sc_steps.nd rfl (Or.inl rfl)) (pgs_cons (pg_name (i := 3) sc_steps.nd rfl (Or.inl rfl)) (pgs_nil))))) (pss_one (ps_ret (pv 3))))), ?_⟩
    refine ⟨_, rfl, _, rfl, ?_⟩
    refine ⟨F, _, weighting, count, (0 : Int), rfl, e, r_weighting, (post_bd k).mono (fun b1 k v6 F2 H3 g4 r5 => ?_) (fun _ z => z)⟩
    have eF2 := g4.s
    have gF2 := g_.trans (g4.weak (by simp))
    replace r_weighting := r_weighting.up g4.f
    subst r5
    refine ⟨_, rfl, _, rfl, ?_⟩
    refine ⟨F2, _, weighting, count, rfl, eF2, r_weighting, (post_bd k).mono (fun b8 k v13 F9 H10 g11 r12 => ?_) (fun _ z => z)⟩
    have eF9 := g11.s
    have gF9 := gF2.trans (g11.weak (by simp))
    replace r_weighting := r_weighting.up g11.f
    obtain ⟨p15, x16, x17, rfl, s18, d19, d20⟩ := dp_tup2 r12
    refine ⟨_, _, rfl, ex_t eF9 s18, rfl, _, _, rfl, _, _, rfl, rfl, ?_⟩
    refine ⟨_, rfl, ?_⟩
    exact k.h _ _ _ gF9 d20
/-! ### _law_taken -/
abbrev s_law_taken : Stmt := top 57
theorem sc_law_taken : FnScope ["_law_row", "_law_many", "_law_found", "_law_cell"] ["_law_row", "_law_many"] (defScope s_law_taken) := ⟨rfl, rfl, rfl, by decide +kernel, rfl, by decide +kernel, by decide +kernel⟩
theorem ok_law_taken {P : Program} {w : World} {K : PySem.W.Frag} {mg : Str → Option Value} {base : Heap} {f : Addr} {fd : FuncData} (B : Bi mg) (FF : FunD K "_law_taken" "_law_taken" (defArgs s_law_taken) (defBody s_law_taken) (defScope s_law_taken) [] [] f fd) : FnOk P w K mg base CX0 1 f fd ["_law_row", "_law_many"] (spTaken takenA K) := by
  refine FF.ok sc_law_taken (fun vs H Q E h => ?_) (fun cdv A outer s H vs Q E hr h => ?_)
  · obtain ⟨F, sc, ra, scr, st, many, rfl, _⟩ := h; rfl
  · obtain ⟨F, sc, ra, scr, st, many, rfl, e, ⟨hL, hF, hS⟩, k⟩ := h
    obtain ⟨pos, seed, left⟩ := st
    unfold takenA at k
    split at k
    case isFalse => exact k.elim
    rename_i hc
    obtain ⟨h1, h2, h3, h4, h5, h6⟩ := hc
    simp only at h3 h4 h5 h6 k hL
    have cd : ∀ i : Int, CDv i many := fun i => cdv_small ⟨by omega, by omega⟩
    refine ⟨_, PSs.nox (pss_cons (ps_if (pt_cmpR op_gt (pe_ix ix_list (pv 0) pe_int (fun _ _ => rfl)) pe_int (nomark _))
        (pss_cons (ps_set (i := 2) sc_law_taken.nd rfl (.inl rfl) (pe_op op_modM (pe_callTy call_intM (by rfl) B.int (by decide +kernel) (pa_cons (pe_ix ix_list (pv 0) pe_int (fun _ _ => rfl)) pa_nil)) (pv 1)))
          (pss_cons (ps_asg (pe_op op_divM (pe_ix ix_list (pv 0) pe_int (fun _ _ => rfl)) (pv 1)) (pg_sub (pv 0) pe_int set_list)) (pss_one (ps_ret (pv 2))))) pss_nil)
      (pss_cons (ps_asg (pe_op op_add (pe_ix ix_list (pv 0) pe_int (fun _ _ => rfl)) pe_int) (pg_sub (pv 0) pe_int set_list))
      (pss_cons (ps_if (pt_cmpR op_gt (pe_ix ix_list (pv 0) pe_int (fun _ _ => rfl)) (pe_callB call_lenM (by rfl) B.len (by decide +kernel) (pa_cons (pe_ix ix_list (pv 0) pe_int (fun _ _ => rfl)) pa_nil)) (nomark _))
        (pss_cons (ps_asg (pe_op op_modM (pe_callTy call_intM (by rfl) B.int (by decide +kernel) (pa_cons (pe_op op_add (pe_op op_mulM (pe_ix ix_list (pv 0) pe_int (fun _ _ => rfl)) pe_int) pe_int) pa_nil)) pe_int) (pg_sub (pv 0) pe_int set_list))
          (pss_one (ps_ret (pe_op op_modM (pe_callTy call_intM (by rfl) B.int (by decide +kernel) (pa_cons (pe_op op_divM (pe_ix ix_list (pv 0) pe_int (fun _ _ => rfl)) pe_int) pa_nil)) (pv 1))))) pss_nil)
      (pss_cons (ps_set (i := 3) sc_law_taken.nd rfl (.inl rfl) (pe_ix ix_list (pe_ix ix_list (pv 0) pe_int (fun _ _ => rfl)) (pe_op op_sub (pe_ix ix_list (pv 0) pe_int (fun _ _ => rfl)) pe_int) (fun _ _ => rfl)))
      (pss_cons (ps_asg (pe_op op_modM (pe_callTy call_intM (by rfl) B.int (by decide +kernel) (pa_cons (pe_op op_add (pe_op op_add (pe_op op_mulM (pe_ix ix_list (pv 0) pe_int (fun _ _ => rfl)) pe_int) (pv 3)) pe_int) pa_nil)) pe_int) (pg_sub (pv 0) pe_int set_list))
      (pss_cons (ps_asg (pe_ifExp (pt_cmpR op_ge (pv 3) (pe_op op_pow pe_int pe_int) (nomark _)) (pe_op op_divM (pv 3) (pv 1)) pe_int) (pg_sub (pv 0) pe_int set_list))
      (pss_one (ps_ret (pe_op op_modM (pe_callTy call_intM (by rfl) B.int (by decide +kernel) (pa_cons (pv 3) pa_nil)) (pv 1)))))))))), ?_⟩
    refine ⟨_, rfl, _, _, _, _, rfl, rfl, sq_of hL, rfl, _, _, rfl, rfl, _, rfl, ?_⟩
    by_cases c1 : left > 0
    · rw [if_pos (show left > 0 from c1)] at k
      rw [if_pos (decide_eq_true c1)]
      refine ⟨_, rfl, _, _, _, _, rfl, rfl, sq_of hL, rfl, _, rfl, _, rfl, _, _, _, rfl, rfl, by omega, rfl, ?_⟩
      refine ⟨_, rfl, _, _, _, _, rfl, rfl, sq_of hL, rfl, _, rfl, _, _, _, rfl, rfl, cd _, rfl, _, rfl, _, _, _, _, rfl, rfl, hL, rfl, _, rfl, ?_⟩
      rw [fmod_pos h1, fdiv_pos h1]
      exact k.h _ F _ (Gm.put e hL hF) ⟨rfl, upd_same, hF, hS⟩
    · rw [if_neg (show ¬ left > 0 from c1)] at k
      rw [if_neg (by simpa using c1)]
      refine ⟨_, rfl, _, _, _, _, rfl, rfl, sq_of hL, rfl, _, _, rfl, rfl, _, rfl, _, _, _, _, rfl, rfl, hL, rfl, ?_⟩
      generalize hq : upd H ra (.lst ([V.ref sc, V.int pos, V.int seed, V.int left].set (Int.toNat 1) ((fun i j => V.int (i + j)) pos 1))) = H1
      have g1 : Gm [ra] F H F H1 := by rw [← hq]; exact Gm.put e hL hF
      have l1 : H1 ra = some (.lst [.ref sc, .int (pos + 1), .int seed, .int left]) := by rw [← hq]; exact upd_same
      clear hq
      refine ⟨_, rfl, _, _, _, _, rfl, rfl, sq_of l1, rfl, _, rfl, _, _, _, _, rfl, rfl, sq_of l1, rfl, _, _, _, rfl, .inl (ex_l g1.s hS), rfl, _, _, rfl, rfl, _, rfl, ?_⟩
      cases c2 : scr[pos.toNat]? with
      | none =>
        rw [c2] at k
        have hlen : pos + 1 > ((scr.map V.int).length : Int) := by
          have := List.getElem?_eq_none_iff.mp c2
          rw [List.length_map]; omega
        rw [if_pos (decide_eq_true hlen)]
        refine ⟨_, rfl, _, _, _, _, rfl, rfl, sq_of l1, rfl, _, _, _, rfl, rfl, cmul_small (by omega) (by decide), rfl, _, _, rfl, rfl, _, rfl, _, _, _, rfl, rfl, by decide, rfl, _, rfl, _, _, _, _, rfl, rfl, l1, rfl, ?_⟩
        have es : (seed * 48271 + 11).fmod 2147483647 = seedN seed 0 := by rw [fmod_pos (by decide)]; unfold seedN; rw [Int.add_zero]
        have g2 : Gm [ra] F H F (upd H1 ra (.lst [.ref sc, .int (pos + 1), .int (seedN seed 0), .int left])) := g1.trans (Gm.put g1.s l1 hF)
        have l2 : (upd H1 ra (.lst [.ref sc, .int (pos + 1), .int (seedN seed 0), .int left])) ra = some (.lst [.ref sc, .int (pos + 1), .int (seedN seed 0), .int left]) := upd_same
        rw [es]
        refine ⟨_, rfl, _, _, _, _, rfl, rfl, sq_of l2, rfl, _, _, _, rfl, rfl, cdv_small ⟨by decide, by decide⟩, rfl, _, rfl, _, rfl, _, _, _, rfl, rfl, by omega, rfl, ?_⟩
        rw [fmod_pos h1, fdiv_pos (by decide)]
        exact k.h _ F _ g2 ⟨rfl, l2, hF, hS⟩
      | some c =>
        rw [c2] at k
        obtain ⟨hp, ec⟩ := List.getElem?_eq_some_iff.mp c2
        have hlen : ¬ pos + 1 > ((scr.map V.int).length : Int) := by rw [List.length_map]; omega
        rw [if_neg (by simpa using hlen)]
        have hat : atI (scr.map V.int) (pos + 1 - 1) = some (.int c) := by
          unfold atI ixN
          rw [if_pos (by omega), if_pos (by rw [List.length_map]; omega)]
          show (scr.map V.int)[(pos + 1 - 1).toNat]? = _
          rw [show (pos + 1 - 1) = pos by omega, List.getElem?_map, c2]; rfl
        refine ⟨_, rfl, _, _, _, _, rfl, rfl, sq_of l1, rfl, _, rfl, _, _, _, _, rfl, rfl, sq_of l1, rfl, _, _, rfl, rfl, _, _, _, _, rfl, rfl, ex_l g1.s hS, hat, ?_⟩
        refine ⟨_, rfl, _, _, _, _, rfl, rfl, sq_of l1, rfl, _, _, _, rfl, rfl, cmul_small (by omega) (by decide), rfl, _, rfl, _, _, rfl, rfl, _, _, rfl, rfl, _, rfl, _, _, _, rfl, rfl, by decide, rfl, _, rfl, _, _, _, _, rfl, rfl, l1, rfl, ?_⟩
        have es : (seed * 48271 + c + 11).fmod 2147483647 = seedN seed c := by rw [fmod_pos (by decide)]; rfl
        have g2 : Gm [ra] F H F (upd H1 ra (.lst [.ref sc, .int (pos + 1), .int (seedN seed c), .int left])) := g1.trans (Gm.put g1.s l1 hF)
        have l2 : (upd H1 ra (.lst [.ref sc, .int (pos + 1), .int (seedN seed c), .int left])) ra = some (.lst [.ref sc, .int (pos + 1), .int (seedN seed c), .int left]) := upd_same
        rw [es]
        refine ⟨_, rfl, _, _, rfl, rfl, ⟨by decide, by decide, by decide⟩, _, _, rfl, rfl, _, rfl, ?_⟩
        have fin : ∀ x, Gm [ra] F H F (upd (upd H1 ra (.lst [.ref sc, .int (pos + 1), .int (seedN seed c), .int left])) ra (.lst [.ref sc, .int (pos + 1), .int (seedN seed c), .int x])) := fun x => g2.trans (Gm.put g2.s l2 hF)
        by_cases c3 : c ≥ 10 ^ 18
        · simp only [if_pos (show c ≥ 10 ^ 18 from c3)] at k
          refine iteP (decide_eq_true c3) ?_
          refine ⟨_, rfl, _, rfl, _, _, _, rfl, rfl, cd _, rfl, _, rfl, _, _, _, _, rfl, rfl, l2, rfl, ?_⟩
          refine ⟨_, rfl, _, rfl, _, rfl, _, _, _, rfl, rfl, by omega, rfl, ?_⟩
          rw [fmod_pos h1, fdiv_pos h1]
          exact k.h _ F _ (fin _) ⟨rfl, upd_same, hF, hS⟩
        · simp only [if_neg (show ¬ c ≥ 10 ^ 18 from c3)] at k
          refine iteN (decide_eq_false c3) ?_
          refine ⟨_, rfl, _, _, _, _, rfl, rfl, l2, rfl, ?_⟩
          refine ⟨_, rfl, _, rfl, _, rfl, _, _, _, rfl, rfl, by omega, rfl, ?_⟩
          rw [fmod_pos h1]
          exact k.h _ F _ (fin _) ⟨rfl, upd_same, hF, hS⟩

/-! ### _law_pick -/
abbrev s_law_pick : Stmt := top 58
theorem sc_law_pick : FnScope ["_law_row", "_law_some"] ["_law_row", "_law_some"] (defScope s_law_pick) := ⟨rfl, rfl, rfl, by decide +kernel, rfl, by decide +kernel, by decide +kernel⟩
theorem ok_law_pick {P : Program} {w : World} {K : PySem.W.Frag} {mg : Str → Option Value} {base : Heap} {f : Addr} {fd : FuncData} (B : Bi mg) (FF : FunD K "_law_pick" "_law_pick" (defArgs s_law_pick) (defBody s_law_pick) (defScope s_law_pick) [] [] f fd)
    (G_law_taken : Kn P w K mg base "_law_taken" 1 ["_law_row", "_law_many"] (spTaken takenA K)) : FnOk P w K mg base CX0 2 f fd ["_law_row", "_law_some"] (spPick takenA K) := by
  refine FF.ok sc_law_pick (fun vs H Q E h => ?_) (fun cdv A outer s H vs Q E hr h => ?_)
  · obtain ⟨F, sc, ra, scr, st, α, en, v, l, rfl, _⟩ := h; rfl
  · obtain ⟨F, sc, ra, scr, st, α, en, v, l, rfl, e, w, r, k⟩ := h
    obtain ⟨p, xs, rfl, hp, ha⟩ := dp_lst r
    unfold pickM at k
    refine ⟨_, PSs.nox (pss_one (ps_ret (pe_ix ix_list (pv 1) (pe_kn G_law_taken (hr.mono (by decide)) (pa_cons (pv 0) (pa_cons (pe_callB call_lenM (by rfl) B.len (by decide +kernel) (pa_cons (pv 1) pa_nil)) pa_nil))) (fun _ _ => rfl)))), ?_⟩
    refine ⟨_, rfl, _, rfl, _, rfl, _, _, _, rfl, .inl (sq_of (e _ _ hp)), len_all ha, ?_⟩
    refine ⟨F, sc, ra, scr, st, _, rfl, e, w, (post_bd k).mono (fun b k v F1 H1 g h => ?_) (fun _ z => z)⟩
    obtain ⟨rfl, w1⟩ := h
    obtain ⟨a, h1, k⟩ := post_get k
    obtain ⟨u, hu, ru⟩ := dq_at (ha.up g.f) h1
    refine ⟨_, _, _, _, rfl, rfl, sq_of (g.s _ _ (g.f _ _ hp)), hu, ?_⟩
    exact k.h _ _ _ g ⟨ru, w1⟩

/-! ### _law_low -/
abbrev s_law_low : Stmt := top 59
theorem sc_law_low : FnScope ["_law_top", "_law_bottom", "_law_one", "_law_other"] ["_law_top", "_law_bottom"] (defScope s_law_low) := ⟨rfl, rfl, rfl, by decide +kernel, rfl, by decide +kernel, by decide +kernel⟩
def law_low (law_top : Int) (law_bottom : Int) : Mm (Int × Int) := cond (decide (law_top = (0 : Int))) (Mm.ok ((0 : Int), (1 : Int))) ((foldW (fun (b6 : (Int × Int)) => Mm.ok (decide (b6.2 > (0 : Int)))) (fun (b7 : (Int × Int)) => (modM b7.1 b7.2).bd fun m24 => Mm.ok (b7.2, m24)) ((absI law_bottom).toNat + 1) ((absI law_top), (absI law_bottom))).bd fun b8 => (cond (decide (law_bottom > (0 : Int))) ((divM law_top b8.1).bd fun m35 => (divM law_bottom b8.1).bd fun m38 => Mm.ok (m35, m38)) ((divM law_top b8.1).bd fun m46 => (divM law_bottom b8.1).bd fun m49 => Mm.ok (((0 : Int) - m46), ((0 : Int) - m49)))).bd fun b33 => Mm.ok b33)
def sp_law_low (K : PySem.W.Frag) : Sp := fun vs H Q E => ∃ (F : Hp) (law_top : Int) (law_bottom : Int), vs = [(V.int law_top), (V.int law_bottom)] ∧ Ex F H ∧ Post (law_low law_top law_bottom) (fun r => Ret [] F H (fun F' _ v => Dq K F' v ((e2 PyData.int PyData.int) r)) Q) (fun _ => False)
theorem ok_law_low {P : Program} {w : World} {K : PySem.W.Frag} {mg : Str → Option Value} {base : Heap} {C f : Addr} {fd : FuncData} (B : Bi mg) (FF : FunD K "_law_low" "_law_low" (defArgs s_law_low) (defBody s_law_low) (defScope s_law_low) [] [] f fd) : FnOk P w K mg base CX0 1 f fd ["_law_top", "_law_bottom"] (sp_law_low K) := by
  refine FF.ok sc_law_low (fun vs H Q E h => ?_) (fun cdv A outer s H vs Q E hr h => ?_)
  · obtain ⟨F, law_top, law_bottom, rfl, _⟩ := h; rfl
  · obtain ⟨F, law_top, law_bottom, rfl, e, k⟩ := h
    unfold law_low at k
    have g_ := Gm.refl (M := []) e
    refine ⟨_, PSs.nox (pss_cons (ps_if (pt_cmpR op_eq (pv 0) (pe_int) (nomark _)) (pss_one (ps_ret (pe_q (pe_tup (pa_cons (pe_int) (pa_cons (pe_int) (pa_nil))))))) pss_nil) (pss_cons (ps_par (i := 2) (j := 3) (by rfl) sc_law_low.nd rfl rfl (by decide) rfl rfl (pa_cons (pe_callB call_abs (by rfl) B.abs (by decide +kernel) (pa_cons (pv 0) pa_nil)) (pa_cons (pe_callB call_abs (by rfl) B.abs (by decide +kernel) (pa_cons (pv 1) pa_nil)) (pa_nil))) (by rfl)) (pss_cons (ps_while PassesOwn.never (pt_cmpR op_gt (pv 3) (pe_int) (nomark _)) (pss_one (ps_par (i := 2) (j := 3) (by rfl) sc_law_low.nd rfl rfl (by decide) rfl rfl (pa_cons (pv 3) (pa_cons (pe_op op_modM (pv 2) (pv 3)) (pa_nil))) (by rfl)))) (pss_one (ps_ret (pe_ifExp (pt_cmpR op_gt (pv 1) (pe_int) (nomark _)) (pe_q (pe_tup (pa_cons (pe_op op_divM (pv 0) (pv 2)) (pa_cons (pe_op op_divM (pv 1) (pv 2)) (pa_nil))))) (pe_q (pe_tup (pa_cons (pe_op op_sub (pe_int) (pe_op op_divM (pv 0) (pv 2))) (pa_cons (pe_op op_sub (pe_int) (pe_op op_divM (pv 1) (pv 2))) (pa_nil))))))))))), ?_⟩
    refine ⟨_, rfl, rfl, ?_⟩
    rw [decV_int]
    refine ⟨_, rfl, ?_⟩
    refine cs k (fun _ k => ?_) (fun _ k => ?_)
    · show _ ∧ _
      refine new_tup (K := K) (M := []) e (.cons (Dq.int (0 : Int)) (.cons (Dq.int (1 : Int)) .nil)) (by show 2 ≤ 100000; decide) fun v5 F1 H2 g3 r4 => ?_
      have eF1 := g3.s
      have gF1 := g_.trans (g3.weak (by simp))
      replace r4 : Dq K F1 v5 ((e2 PyData.int PyData.int) ((0 : Int), (1 : Int))) := r4
      exact k.h _ _ _ gF1 r4
    · refine ⟨_, rfl, _, rfl, _, rfl, _, rfl, _, _, rfl, ?_⟩
      refine while_mir (M := []) (F := F) (N := (absI law_bottom).toNat + 1) (fun b6 F' H' σ' => σ' = [some (V.int law_top), some (V.int law_bottom), some (V.int b6.1), some (V.int b6.2)]) k e rfl (fun b6 σ13 F9 H10 g11 i12 Q' kcb6 => ?_) (fun b7 σ18 F14 H15 g16 i17 nx kwb6 => ?_) (fun b8 σ23 F19 H20 g21 i22 k => ?_)
      · obtain rfl := i12
        have eF9 := g11.s
        refine ⟨_, rfl, _, _, rfl, rfl, _, rfl, ?_⟩
        exact kcb6.h _ _ g11 rfl
      · obtain rfl := i17
        have eF14 := g16.s
        refine ⟨_, rfl, _, rfl, _, rfl, ?_⟩
        obtain ⟨m24, c25, q26, kwb6⟩ := post_mod kwb6
        refine ⟨_, _, _, rfl, rfl, c25, q26, _, _, rfl, ?_⟩
        exact kwb6.h _ _ _ g16 rfl
      have g27 := g_.trans (g21.weak (by simp))
      have eF19 := g21.s
      obtain rfl := i22
      refine ⟨_, rfl, _, _, rfl, rfl, _, rfl, ?_⟩
      refine if_jM (M := []) (F := F19) (fun b F' H' v => Dq K F' v ((e2 PyData.int PyData.int) b)) k (fun _ Q' kib33 => ?_) (fun _ Q' kib33 => ?_) (fun b33 v28 F29 H30 g31 r32 k => ?_)
      · have gF19_ := Gm.refl (M := []) eF19
        refine ⟨_, rfl, _, rfl, ?_⟩
        obtain ⟨m35, c36, q37, kib33⟩ := post_div kib33
        refine ⟨_, _, _, rfl, rfl, c36, q37, _, rfl, _, rfl, ?_⟩
        obtain ⟨m38, c39, q40, kib33⟩ := post_div kib33
        refine ⟨_, _, _, rfl, rfl, c39, q40, ?_⟩
        show _ ∧ _
        refine new_tup (K := K) (M := []) eF19 (.cons (Dq.int m35) (.cons (Dq.int m38) .nil)) (by show 2 ≤ 100000; decide) fun v45 F41 H42 g43 r44 => ?_
        have eF41 := g43.s
        have gF41 := gF19_.trans (g43.weak (by simp))
        replace r44 : Dq K F41 v45 ((e2 PyData.int PyData.int) (m35, m38)) := r44
        exact kib33.h _ _ _ gF41 r44
      · have gF19_ := Gm.refl (M := []) eF19
        refine ⟨_, rfl, _, rfl, ?_⟩
        obtain ⟨m46, c47, q48, kib33⟩ := post_div kib33
        refine ⟨_, _, _, rfl, rfl, c47, q48, _, _, rfl, rfl, _, rfl, _, rfl, ?_⟩
        obtain ⟨m49, c50, q51, kib33⟩ := post_div kib33
        refine ⟨_, _, _, rfl, rfl, c50, q51, _, _, rfl, rfl, ?_⟩
        show _ ∧ _
        refine new_tup (K := K) (M := []) eF19 (.cons (Dq.int ((0 : Int) - m46)) (.cons (Dq.int ((0 : Int) - m49)) .nil)) (by show 2 ≤ 100000; decide) fun v56 F52 H53 g54 r55 => ?_
        have eF52 := g54.s
        have gF52 := gF19_.trans (g54.weak (by simp))
        replace r55 : Dq K F52 v56 ((e2 PyData.int PyData.int) (((0 : Int) - m46), ((0 : Int) - m49))) := r55
        exact kib33.h _ _ _ gF52 r55
      have eF29 := g31.s
      have gF29 := g27.trans (g31.weak (by simp))
      exact k.h _ _ _ gF29 r32
/-! ### _law_mul -/
abbrev s_law_mul : Stmt := top 60
theorem sc_law_mul : FnScope ["_law_one", "_law_other"] ["_law_one", "_law_other"] (defScope s_law_mul) := ⟨rfl, rfl, rfl, by decide +kernel, rfl, by decide +kernel, by decide +kernel⟩
def law_mul (law_one : (Int × Int)) (law_other : (Int × Int)) : Mm (Int × Int) := (mulM law_one.1 law_other.1).bd fun m13 => (mulM law_one.2 law_other.2).bd fun m16 => (law_low (m13) (m16)).bd fun b19 => Mm.ok b19
def sp_law_mul (K : PySem.W.Frag) : Sp := fun vs H Q E => ∃ (F : Hp) (v_law_one : V) (law_one : (Int × Int)) (v_law_other : V) (law_other : (Int × Int)), vs = [v_law_one, v_law_other] ∧ Ex F H ∧ Dq K F v_law_one ((e2 PyData.int PyData.int) law_one) ∧ Dq K F v_law_other ((e2 PyData.int PyData.int) law_other) ∧ Post (law_mul law_one law_other) (fun r => Ret [] F H (fun F' _ v => Dq K F' v ((e2 PyData.int PyData.int) r)) Q) (fun _ => False)
theorem ok_law_mul {P : Program} {w : World} {K : PySem.W.Frag} {mg : Str → Option Value} {base : Heap} {C f : Addr} {fd : FuncData} (B : Bi mg) (FF : FunD K "_law_mul" "_law_mul" (defArgs s_law_mul) (defBody s_law_mul) (defScope s_law_mul) [] [] f fd) (G_law_low : Kn P w K mg base "_law_low" 1 ["_law_top", "_law_bottom"] (sp_law_low K)) : FnOk P w K mg base CX0 2 f fd ["_law_one", "_law_other"] (sp_law_mul K) := by
  refine FF.ok sc_law_mul (fun vs H Q E h => ?_) (fun cdv A outer s H vs Q E hr h => ?_)
  · obtain ⟨F, v_law_one, law_one, v_law_other, law_other, rfl, _⟩ := h; rfl
  · obtain ⟨F, v_law_one, law_one, v_law_other, law_other, rfl, e, r_law_one, r_law_other, k⟩ := h
    unfold law_mul at k
    have g_ := Gm.refl (M := []) e
    refine ⟨_, PSs.nox (pss_one (ps_ret (pe_kn G_law_low (hr.mono (by decide)) (pa_cons (pe_op op_mulM (pe_ix (r := rIxT K) ix_tup (pv 0) (pe_int) (fun _ _ => rfl)) (pe_ix (r := rIxT K) ix_tup (pv 1) (pe_int) (fun _ _ => rfl))) (pa_cons (pe_op op_mulM (pe_ix (r := rIxT K) ix_tup (pv 0) (pe_int) (fun _ _ => rfl)) (pe_ix (r := rIxT K) ix_tup (pv 1) (pe_int) (fun _ _ => rfl))) (pa_nil)))))), ?_⟩
    refine ⟨_, rfl, ?_⟩
    obtain ⟨p1, x2, x3, rfl, s4, d5, d6⟩ := dp_tup2 r_law_one
    obtain rfl := dp_int d5
    obtain rfl := dp_int d6
    refine ⟨_, _, _, _, rfl, rfl, ex_t e s4, rfl, _, rfl, ?_⟩
    obtain ⟨p7, x8, x9, rfl, s10, d11, d12⟩ := dp_tup2 r_law_other
    obtain rfl := dp_int d11
    obtain rfl := dp_int d12
    refine ⟨_, _, _, _, rfl, rfl, ex_t e s10, rfl, ?_⟩
    obtain ⟨m13, c14, q15, k⟩ := post_mul k
    refine ⟨_, _, _, rfl, rfl, c14, q15, _, rfl, ?_⟩
    refine ⟨_, _, _, _, rfl, rfl, ex_t e s4, rfl, _, rfl, ?_⟩
    refine ⟨_, _, _, _, rfl, rfl, ex_t e s10, rfl, ?_⟩
    obtain ⟨m16, c17, q18, k⟩ := post_mul k
    refine ⟨_, _, _, rfl, rfl, c17, q18, ?_⟩
    refine ⟨F, m13, m16, rfl, e, (post_bd k).mono (fun b19 k v24 F20 H21 g22 r23 => ?_) (fun _ z => z)⟩
    have eF20 := g22.s
    have gF20 := g_.trans (g22.weak (by simp))
    replace r_law_one := r_law_one.up g22.f
    replace r_law_other := r_law_other.up g22.f
    replace s4 := ex_t g22.f s4
    replace s10 := ex_t g22.f s10
    exact k.h _ _ _ gF20 r23
/-! ### _law_is_less -/
abbrev s_law_is_less : Stmt := top 61
theorem sc_law_is_less : FnScope ["_law_one", "_law_other"] ["_law_one", "_law_other"] (defScope s_law_is_less) := ⟨rfl, rfl, rfl, by decide +kernel, rfl, by decide +kernel, by decide +kernel⟩
def law_is_less (law_one : (Int × Int)) (law_other : (Int × Int)) : Mm Bool := (mulM law_one.1 law_other.2).bd fun m13 => (mulM law_other.1 law_one.2).bd fun m16 => Mm.ok (decide (m13 < m16))
def sp_law_is_less (K : PySem.W.Frag) : Sp := fun vs H Q E => ∃ (F : Hp) (v_law_one : V) (law_one : (Int × Int)) (v_law_other : V) (law_other : (Int × Int)), vs = [v_law_one, v_law_other] ∧ Ex F H ∧ Dq K F v_law_one ((e2 PyData.int PyData.int) law_one) ∧ Dq K F v_law_other ((e2 PyData.int PyData.int) law_other) ∧ Post (law_is_less law_one law_other) (fun r => Ret [] F H (fun F' _ v => v = V.bl r) Q) (fun _ => False)
theorem ok_law_is_less {P : Program} {w : World} {K : PySem.W.Frag} {mg : Str → Option Value} {base : Heap} {C f : Addr} {fd : FuncData} (B : Bi mg) (FF : FunD K "_law_is_less" "_law_is_less" (defArgs s_law_is_less) (defBody s_law_is_less) (defScope s_law_is_less) [] [] f fd) : FnOk P w K mg base CX0 1 f fd ["_law_one", "_law_other"] (sp_law_is_less K) := by
  refine FF.ok sc_law_is_less (fun vs H Q E h => ?_) (fun cdv A outer s H vs Q E hr h => ?_)
  · obtain ⟨F, v_law_one, law_one, v_law_other, law_other, rfl, _⟩ := h; rfl
  · obtain ⟨F, v_law_one, law_one, v_law_other, law_other, rfl, e, r_law_one, r_law_other, k⟩ := h
    unfold law_is_less at k
    have g_ := Gm.refl (M := []) e
    refine ⟨_, PSs.nox (pss_one (ps_ret (pe_cmpR op_lt (pe_op op_mulM (pe_ix (r := rIxT K) ix_tup (pv 0) (pe_int) (fun _ _ => rfl)) (pe_ix (r := rIxT K) ix_tup (pv 1) (pe_int) (fun _ _ => rfl))) (pe_op op_mulM (pe_ix (r := rIxT K) ix_tup (pv 1) (pe_int) (fun _ _ => rfl)) (pe_ix (r := rIxT K) ix_tup (pv 0) (pe_int) (fun _ _ => rfl))) (nomark _)))), ?_⟩
    refine ⟨_, rfl, ?_⟩
    obtain ⟨p1, x2, x3, rfl, s4, d5, d6⟩ := dp_tup2 r_law_one
    obtain rfl := dp_int d5
    obtain rfl := dp_int d6
    refine ⟨_, _, _, _, rfl, rfl, ex_t e s4, rfl, _, rfl, ?_⟩
    obtain ⟨p7, x8, x9, rfl, s10, d11, d12⟩ := dp_tup2 r_law_other
    obtain rfl := dp_int d11
    obtain rfl := dp_int d12
    refine ⟨_, _, _, _, rfl, rfl, ex_t e s10, rfl, ?_⟩
    obtain ⟨m13, c14, q15, k⟩ := post_mul k
    refine ⟨_, _, _, rfl, rfl, c14, q15, _, rfl, ?_⟩
    refine ⟨_, _, _, _, rfl, rfl, ex_t e s10, rfl, _, rfl, ?_⟩
    refine ⟨_, _, _, _, rfl, rfl, ex_t e s4, rfl, ?_⟩
    obtain ⟨m16, c17, q18, k⟩ := post_mul k
    refine ⟨_, _, _, rfl, rfl, c17, q18, _, _, rfl, rfl, ?_⟩
    exact k.h _ _ _ g_ rfl
/-! ### _law_masses -/
abbrev s_law_masses : Stmt := top 62
theorem sc_law_masses : FnScope ["_law_row", "_law_most", "_law_far", "_law_places", "_law_place", "_law_k"] ["_law_row", "_law_most", "_law_far"] (defScope s_law_masses) := ⟨rfl, rfl, rfl, by decide +kernel, rfl, by decide +kernel, by decide +kernel⟩
def law_masses (scr : List Int) (st : Rw) (law_most : Int) (law_far : Int) : Mm ((List (Int × Int)) × Rw) := (takenA scr st ((law_most + (1 : Int)))).bd fun b1 => (rangeM b1.1).bd fun l9 => (guardM ((rangeL 0 b1.1.toNat).length ≤ 50000)).bd fun _ => (mapSt (fun (st19 : Rw) (x12 : Int) => (mulM (2 : Int) law_far).bd fun m31 => (takenA scr st19 ((m31 + (1 : Int)))).bd fun b34 => Mm.ok ((b34.1 - law_far), b34.2)) b1.2 (rangeL 0 b1.1.toNat)).bd fun b11 => (guardM (b11.1.length < 64)).bd fun _ => (guardM ((sortedSet b11.1).length ≤ 50000)).bd fun _ => (mapSt (fun (st65 : Rw) (x58 : Int) => (takenA scr st65 ((3 : Int))).bd fun b77 => (takenA scr b77.2 ((20 : Int))).bd fun b84 => (pickM takenA scr b84.2 [(0 : Int), b77.1, b84.1]).bd fun b96 => Mm.ok ((x58, ((1 : Int) + b96.1)), b96.2)) b11.2 (sortedSet b11.1)).bd fun b57 => Mm.ok (b57.1, b57.2)
def sp_law_masses (K : PySem.W.Frag) : Sp := fun vs H Q E => ∃ (F : Hp) (sc ra : Addr) (scr : List Int) (st : Rw) (law_most : Int) (law_far : Int), vs = [.ref ra, (V.int law_most), (V.int law_far)] ∧ Ex F H ∧ RowAt K sc ra scr F H st ∧ Post (law_masses scr st law_most law_far) (fun r => Ret [ra] F H (fun F' H' v => Dq K F' v ((eV (e2 PyData.int PyData.int)) r.1) ∧ RowAt K sc ra scr F' H' r.2) Q) (fun _ => False)
theorem ok_law_masses {P : Program} {w : World} {K : PySem.W.Frag} {mg : Str → Option Value} {base : Heap} {C f : Addr} {fd : FuncData} (B : Bi mg) (FF : FunD K "_law_masses" "_law_masses" (defArgs s_law_masses) (defBody s_law_masses) (defScope s_law_masses) [] [] f fd) (G_law_taken : Kn P w K mg base "_law_taken" 1 ["_law_row", "_law_many"] (spTaken takenA K)) (G_law_pick : Kn P w K mg base "_law_pick" 2 ["_law_row", "_law_some"] (spPick takenA K)) : FnOk P w K mg base CX0 3 f fd ["_law_row", "_law_most", "_law_far"] (sp_law_masses K) := by
  refine FF.ok sc_law_masses (fun vs H Q E h => ?_) (fun cdv A outer s H vs Q E hr h => ?_)
  · obtain ⟨F, sc, ra, scr, st, law_most, law_far, rfl, _⟩ := h; rfl
  · obtain ⟨F, sc, ra, scr, st, law_most, law_far, rfl, e, w, k⟩ := h
    unfold law_masses at k
    have g_ := Gm.refl (M := [ra]) e
    refine ⟨_, PSs.nox (pss_cons (ps_set (i := 3) sc_law_masses.nd rfl (Or.inl rfl) (pe_q (pe_callB (cr_sortedSet rfl) (by rfl) B.sorted (by decide +kernel) (pa_cons (pe_callTy (cr_setM rfl) (by rfl) B.set (by decide +kernel) (pa_cons (pe_q (pe_lc (own := [("_law_k", 5)]) (g := gName 5) rfl sc_law_masses.nd (pi_range1 rfl B.range (pa_cons (pe_kn G_law_taken (hr.mono (by decide)) (pa_cons (pv 0) (pa_cons (pe_op op_add (pv 1) (pe_int)) (pa_nil)))) (pa_nil))) (blkOk_by (N := ["_law_row", "_law_most", "_law_far", "_law_places", "_law_place", "_law_k"]) (sc := defScope s_law_masses) (by decide +kernel)) (fun _ _ _ _ _ => pg_name (i := 5) sc_law_masses.nd rfl (Or.inl rfl)) (fun _ _ _ _ _ => pts_nil) (fun _ _ _ _ _ => pe_op op_sub (pe_kn G_law_taken (hr.mono (by decide)) (pa_cons (pv 0) (pa_cons (pe_op op_add (pe_op op_mulM (pe_int) (pv 2)) (pe_int)) (pa_nil)))) (pv 2)))) pa_nil)) pa_nil)))) (pss_one (ps_ret (pe_q (pe_callTy call_tuple_of (by rfl) B.tuple (by decide +kernel) (pa_cons (pe_q (pe_lc (own := [("_law_place", 4)]) (g := gName 4) rfl sc_law_masses.nd (pi_list (pv 3)) (blkOk_by (N := ["_law_row", "_law_most", "_law_far", "_law_places", "_law_place", "_law_k"]) (sc := defScope s_law_masses) (by decide +kernel)) (fun _ _ _ _ _ => pg_name (i := 4) sc_law_masses.nd rfl (Or.inl rfl)) (fun _ _ _ _ _ => pts_nil) (fun _ _ _ _ _ => pe_q (pe_tup (pa_cons (pv 4) (pa_cons (pe_op op_add (pe_int) (pe_kn G_law_pick (hr.mono (by decide)) (pa_cons (pv 0) (pa_cons (pe_q (pe_lst (pa_cons (pe_int) (pa_cons (pe_kn G_law_taken (hr.mono (by decide)) (pa_cons (pv 0) (pa_cons (pe_int) (pa_nil)))) (pa_cons (pe_kn G_law_taken (hr.mono (by decide)) (pa_cons (pv 0) (pa_cons (pe_int) (pa_nil)))) (pa_nil)))))) pa_nil)))) (pa_nil))))))) pa_nil)))))), ?_⟩
    refine ⟨_, rfl, _, rfl, _, _, rfl, rfl, ?_⟩
    refine ⟨F, sc, ra, scr, st, (law_most + (1 : Int)), rfl, e, w, (post_bd k).mono (fun b1 k v6 F2 H3 g4 ⟨r5, w7⟩ => ?_) (fun _ z => z)⟩
    have eF2 := g4.s
    have gF2 := g_.trans (g4.weak (by simp))
    subst r5
    obtain ⟨h8, k⟩ := post_range k
    refine ⟨_, rfl, h8.1, h8.2, ?_⟩
    obtain ⟨h29, k⟩ := post_guard k
    refine lc_st (K := K) wlk_range PyData.int k eF2 h29 w7 (fun st19 x12 v27 F20 H21 F22 H23 g24 w28 g25 r26 Q' k10 => ?_) (fun _ z => z) (fun b11 v13 F14 H15 g16 ⟨r17, w18⟩ k => ?_) gm_name
    · have g30 := Gm.refl (M := [ra]) g24.s
      clear w7
      replace w28 := w28.keep g25
      have eF22 := g25.s
      have gF22 := g30.trans (g25.weak (by simp))
      subst r26
      refine ⟨rfl, _, rfl, _, rfl, ?_⟩
      obtain ⟨m31, c32, q33, k10⟩ := post_mul k10
      refine ⟨_, _, _, rfl, rfl, c32, q33, _, _, rfl, rfl, ?_⟩
      refine ⟨F22, sc, ra, scr, st19, (m31 + (1 : Int)), rfl, eF22, w28, (post_bd k10).mono (fun b34 k10 v39 F35 H36 g37 ⟨r38, w40⟩ => ?_) (fun _ z => z)⟩
      have eF35 := g37.s
      have gF35 := gF22.trans (g37.weak (by simp))
      subst r38
      refine ⟨_, rfl, _, _, rfl, rfl, ?_⟩
      exact k10.h _ _ _ gF35 ⟨(Dq.int (b34.1 - law_far)), w40⟩
    have eF14 := g16.s
    have gF14 := gF2.trans (g16.weak (by simp))
    obtain ⟨p42, xs43, rfl, s44, a45⟩ := dp_lst r17
    obtain rfl := all_ints a45
    obtain ⟨h46, k⟩ := post_guard k
    refine sorted_set (K := K) (M := []) eF14 s44 h46 fun v51 F47 H48 g49 r50 => ?_
    have eF47 := g49.s
    have gF47 := gF14.trans (g49.weak (by simp))
    replace w18 := w18.keep g49
    replace r17 := r17.up g49.f
    replace s44 := g49.f _ _ s44
    replace a45 := a45.up g49.f
    refine ⟨_, rfl, ?_⟩
    obtain ⟨p52, xs53, rfl, s54, a55⟩ := dp_lst r50
    refine ⟨_, rfl, ⟨_, (sq_of (eF47 _ _ s54))⟩, ?_⟩
    obtain ⟨h75, k⟩ := post_guard k
    refine lc_st (K := K) (wlk_list eF47 s54 a55) (e2 PyData.int PyData.int) k eF47 h75 w18 (fun st65 x58 v73 F66 H67 F68 H69 g70 w74 g71 r72 Q' k56 => ?_) (fun _ z => z) (fun b57 v59 F60 H61 g62 ⟨r63, w64⟩ k => ?_) gm_name
    · have g76 := Gm.refl (M := [ra]) g70.s
      clear w18
      replace r17 := r17.up g70.f
      replace s44 := g70.f _ _ s44
      replace a45 := a45.up g70.f
      replace r50 := r50.up g70.f
      replace s54 := g70.f _ _ s54
      replace a55 := a55.up g70.f
      replace r17 := r17.up g71.f
      replace s44 := g71.f _ _ s44
      replace a45 := a45.up g71.f
      replace r50 := r50.up g71.f
      replace s54 := g71.f _ _ s54
      replace a55 := a55.up g71.f
      replace w74 := w74.keep g71
      have eF68 := g71.s
      have gF68 := g76.trans (g71.weak (by simp))
      obtain rfl := dp_int r72
      refine ⟨rfl, _, rfl, _, rfl, _, rfl, ?_⟩
      refine ⟨F68, sc, ra, scr, st65, (3 : Int), rfl, eF68, w74, (post_bd k56).mono (fun b77 k56 v82 F78 H79 g80 ⟨r81, w83⟩ => ?_) (fun _ z => z)⟩
      have eF78 := g80.s
      have gF78 := gF68.trans (g80.weak (by simp))
      replace r17 := r17.up g80.f
      replace s44 := g80.f _ _ s44
      replace a45 := a45.up g80.f
      replace r50 := r50.up g80.f
      replace s54 := g80.f _ _ s54
      replace a55 := a55.up g80.f
      subst r81
      refine ⟨_, rfl, ?_⟩
      refine ⟨F78, sc, ra, scr, b77.2, (20 : Int), rfl, eF78, w83, (post_bd k56).mono (fun b84 k56 v89 F85 H86 g87 ⟨r88, w90⟩ => ?_) (fun _ z => z)⟩
      have eF85 := g87.s
      have gF85 := gF78.trans (g87.weak (by simp))
      replace r17 := r17.up g87.f
      replace s44 := g87.f _ _ s44
      replace a45 := a45.up g87.f
      replace r50 := r50.up g87.f
      replace s54 := g87.f _ _ s54
      replace a55 := a55.up g87.f
      subst r88
      show _ ∧ _
      refine new_lst (K := K) (M := []) eF85 (.cons (Dq.int (0 : Int)) (.cons (Dq.int b77.1) (.cons (Dq.int b84.1) .nil))) (by show 3 ≤ 100000; decide) fun v95 F91 H92 g93 r94 => ?_
      have eF91 := g93.s
      have gF91 := gF85.trans (g93.weak (by simp))
      replace r17 := r17.up g93.f
      replace s44 := g93.f _ _ s44
      replace a45 := a45.up g93.f
      replace r50 := r50.up g93.f
      replace s54 := g93.f _ _ s54
      replace a55 := a55.up g93.f
      replace w90 := w90.keep g93
      replace r94 : Dq K F91 v95 ((eL PyData.int) [(0 : Int), b77.1, b84.1]) := r94
      refine ⟨F91, sc, ra, scr, b84.2, _, PyData.int, _, [(0 : Int), b77.1, b84.1], rfl, eF91, w90, r94, (post_bd k56).mono (fun b96 k56 v101 F97 H98 g99 ⟨r100, w102⟩ => ?_) (fun _ z => z)⟩
      have eF97 := g99.s
      have gF97 := gF91.trans (g99.weak (by simp))
      replace r17 := r17.up g99.f
      replace s44 := g99.f _ _ s44
      replace a45 := a45.up g99.f
      replace r50 := r50.up g99.f
      replace s54 := g99.f _ _ s54
      replace a55 := a55.up g99.f
      replace r94 := r94.up g99.f
      obtain rfl := dp_int r100
      refine ⟨_, _, rfl, rfl, ?_⟩
      show _ ∧ _
      refine new_tup (K := K) (M := []) eF97 (.cons (Dq.int x58) (.cons (Dq.int ((1 : Int) + b96.1)) .nil)) (by show 2 ≤ 100000; decide) fun v107 F103 H104 g105 r106 => ?_
      have eF103 := g105.s
      have gF103 := gF97.trans (g105.weak (by simp))
      replace r17 := r17.up g105.f
      replace s44 := g105.f _ _ s44
      replace a45 := a45.up g105.f
      replace r50 := r50.up g105.f
      replace s54 := g105.f _ _ s54
      replace a55 := a55.up g105.f
      replace r94 := r94.up g105.f
      replace w102 := w102.keep g105
      replace r106 : Dq K F103 v107 ((e2 PyData.int PyData.int) (x58, ((1 : Int) + b96.1))) := r106
      exact k56.h _ _ _ gF103 ⟨r106, w102⟩
    have eF60 := g62.s
    have gF60 := gF47.trans (g62.weak (by simp))
    replace r17 := r17.up g62.f
    replace s44 := g62.f _ _ s44
    replace a45 := a45.up g62.f
    replace r50 := r50.up g62.f
    replace s54 := g62.f _ _ s54
    replace a55 := a55.up g62.f
    obtain ⟨p109, xs110, rfl, s111, a112⟩ := dp_lst r63
    refine to_VL (K := K) (M := []) eF60 s111 a112 (en := (e2 PyData.int PyData.int)) (l := b57.1) fun v117 F113 H114 g115 r116 => ?_
    have eF113 := g115.s
    have gF113 := gF60.trans (g115.weak (by simp))
    replace r17 := r17.up g115.f
    replace s44 := g115.f _ _ s44
    replace a45 := a45.up g115.f
    replace r50 := r50.up g115.f
    replace s54 := g115.f _ _ s54
    replace a55 := a55.up g115.f
    replace w64 := w64.keep g115
    replace r63 := r63.up g115.f
    replace s111 := g115.f _ _ s111
    replace a112 := a112.up g115.f
    exact k.h _ _ _ gF113 ⟨r116, w64⟩
/-! ### _law_stretches -/
abbrev s_law_stretches : Stmt := top 63
theorem sc_law_stretches : FnScope ["_law_row", "_law_most", "_law_far", "_law_found", "_law_low_here", "_law_k", "_law_high"] ["_law_row", "_law_most", "_law_far"] (defScope s_law_stretches) := ⟨rfl, rfl, rfl, by decide +kernel, rfl, by decide +kernel, by decide +kernel⟩
def law_stretches (scr : List Int) (st : Rw) (law_most : Int) (law_far : Int) : Mm ((List (Int × Int × Int)) × Rw) := (takenA scr st ((law_most + (1 : Int)))).bd fun b8 => (rangeM b8.1).bd fun l16 => (foldM (fun (b17 : (Int × (List (Int × Int × Int)) × Rw)) (x18 : Int) => (takenA scr b17.2.2 (law_far)).bd fun b41 => (takenA scr b41.2 (law_far)).bd fun b48 => cond (decide ((((b17.1 + b41.1) + (1 : Int)) + b48.1) ≤ law_far)) ((takenA scr b48.2 ((4 : Int))).bd fun b55 => (guardM (b17.2.1.length < 100000)).bd fun _ => Mm.ok ((((b17.1 + b41.1) + (1 : Int)) + b48.1), (b17.2.1 ++ [((b17.1 + b41.1), (((b17.1 + b41.1) + (1 : Int)) + b48.1), ((1 : Int) + b55.1))]), b55.2)) (Mm.ok ((b17.1 + b41.1), b17.2.1, b48.2))) (((0 : Int) - law_far), [], b8.2) (rangeL 0 b8.1.toNat)).bd fun b34 => Mm.ok (b34.2.1, b34.2.2)
def sp_law_stretches (K : PySem.W.Frag) : Sp := fun vs H Q E => ∃ (F : Hp) (sc ra : Addr) (scr : List Int) (st : Rw) (law_most : Int) (law_far : Int), vs = [.ref ra, (V.int law_most), (V.int law_far)] ∧ Ex F H ∧ RowAt K sc ra scr F H st ∧ Post (law_stretches scr st law_most law_far) (fun r => Ret [ra] F H (fun F' H' v => Dq K F' v ((eV (e3 PyData.int PyData.int PyData.int)) r.1) ∧ RowAt K sc ra scr F' H' r.2) Q) (fun _ => False)
theorem ok_law_stretches {P : Program} {w : World} {K : PySem.W.Frag} {mg : Str → Option Value} {base : Heap} {C f : Addr} {fd : FuncData} (B : Bi mg) (FF : FunD K "_law_stretches" "_law_stretches" (defArgs s_law_stretches) (defBody s_law_stretches) (defScope s_law_stretches) [] [] f fd) (G_law_taken : Kn P w K mg base "_law_taken" 1 ["_law_row", "_law_many"] (spTaken takenA K)) : FnOk P w K mg base CX0 2 f fd ["_law_row", "_law_most", "_law_far"] (sp_law_stretches K) := by
  refine FF.ok sc_law_stretches (fun vs H Q E h => ?_) (fun cdv A outer s H vs Q E hr h => ?_)
  · obtain ⟨F, sc, ra, scr, st, law_most, law_far, rfl, _⟩ := h; rfl
  · obtain ⟨F, sc, ra, scr, st, law_most, law_far, rfl, e, w, k⟩ := h
    unfold law_stretches at k
    have g_ := Gm.refl (M := [ra]) e
    refine ⟨_, PSs.nox (pss_cons (ps_par (i := 3) (j := 4) (by rfl) sc_law_stretches.nd rfl rfl (by decide) rfl rfl (pa_cons (pe_q (pe_lst (pa_nil))) (pa_cons (pe_op op_sub (pe_int) (pv 2)) (pa_nil))) (by rfl)) (pss_cons (ps_for PassesOwn.never rfl (pi_range1 rfl B.range (pa_cons (pe_kn G_law_taken (hr.mono (by decide)) (pa_cons (pv 0) (pa_cons (pe_op op_add (pv 1) (pe_int)) (pa_nil)))) (pa_nil))) (pg_name (i := 5) sc_law_stretches.nd rfl (Or.inl rfl)) (pss_cons (ps_set (i := 4) sc_law_stretches.nd rfl (Or.inl rfl) (pe_op op_add (pv 4) (pe_kn G_law_taken (hr.mono (by decide)) (pa_cons (pv 0) (pa_cons (pv 2) (pa_nil)))))) (pss_cons (ps_set (i := 6) sc_law_stretches.nd rfl (Or.inl rfl) (pe_op op_add (pe_op op_add (pv 4) (pe_int)) (pe_kn G_law_taken (hr.mono (by decide)) (pa_cons (pv 0) (pa_cons (pv 2) (pa_nil)))))) (pss_one (ps_if (pt_cmpR op_le (pv 6) (pv 2) (nomark _)) (pss_cons (ps_expr (pe_bm PySem.F.plainAttrs_list PySem.F.slot_list_append PySem.F.type_list_append mt_append (pv 3) (pa_cons (pe_q (pe_tup (pa_cons (pv 4) (pa_cons (pv 6) (pa_cons (pe_op op_add (pe_int) (pe_kn G_law_taken (hr.mono (by decide)) (pa_cons (pv 0) (pa_cons (pe_int) (pa_nil))))) (pa_nil)))))) pa_nil))) (pss_one (ps_set (i := 4) sc_law_stretches.nd rfl (Or.inl rfl) (pv 6)))) (pss_nil)))))) (pss_one (ps_ret (pe_q (pe_callTy call_tuple_of (by rfl) B.tuple (by decide +kernel) (pa_cons (pv 3) pa_nil))))))), ?_⟩
    show _ ∧ _
    refine new_own (K := K) e .nil (by show 0 ≤ 100000; decide) fun p1 H2 g3 y4 o5 => ?_
    have a6 : DqAll K F [] (List.map (e3 PyData.int PyData.int PyData.int) []) := .nil
    have np1 := ne_of_none w.1 y4
    have mp1 := np1.symm
    have zp1 := g_.fresh y4
    have eH2 := g3.s
    have gH2 := g_.trans (g3.weak (by simp))
    replace w := w.keep g3
    refine ⟨_, rfl, _, _, rfl, rfl, _, _, rfl, ?_⟩
    refine ⟨_, rfl, _, rfl, _, _, rfl, rfl, ?_⟩
    refine ⟨F, sc, ra, scr, st, (law_most + (1 : Int)), rfl, eH2, w, (post_bd k).mono (fun b8 k v13 F9 H10 g11 ⟨r12, w14⟩ => ?_) (fun _ z => z)⟩
    have eF9 := g11.s
    have gF9 := gH2.trans (g11.weak (by simp))
    replace o5 := g11.own (by first | exact List.not_mem_nil | (simp only [List.mem_cons, List.not_mem_nil, or_false, not_or]; (repeat' apply And.intro) <;> assumption)) o5.1 o5.2
    replace a6 := a6.up g11.f
    subst r12
    obtain ⟨h15, k⟩ := post_range k
    refine ⟨_, rfl, h15.1, h15.2, ?_⟩
    refine for_m (M := [p1, ra]) (F := F9) wlk_range (fun b17 F' H' σ' => ∃ (u5 : Option V) (u6 : Option V) (xs3 : List V), σ' = [some (V.ref ra), some (V.int law_most), some (V.int law_far), some (V.ref p1), some (V.int b17.1), u5, u6] ∧ (H' p1 = some (.lst xs3) ∧ F' p1 = none) ∧ DqAll K F' xs3 (List.map (e3 PyData.int PyData.int PyData.int) b17.2.1) ∧ RowAt K sc ra scr F' H' b17.2.2) k eF9 ⟨_, _, _, rfl, o5, a6, w14⟩ (fun b17 x18 v26 σ28 F19 H20 F21 H22 g23 i27 g24 r25 nx kfb17 => ?_) (fun b34 σ33 F29 H30 g31 i32 k => ?_)
    · obtain ⟨u35, u36, xs37, rfl, o38, a39, w40⟩ := i27
      replace o38 := g24.own (by first | exact List.not_mem_nil | (simp only [List.mem_cons, List.not_mem_nil, or_false, not_or]; (repeat' apply And.intro) <;> assumption)) o38.1 o38.2
      replace a39 := a39.up g24.f
      replace w40 := w40.keep g24
      have eF21 := g24.s
      have gF21 := g23.trans (g24.weak (by simp))
      subst r25
      refine ⟨_, rfl, _, rfl, _, rfl, ?_⟩
      refine ⟨F21, sc, ra, scr, b17.2.2, law_far, rfl, eF21, w40, (post_bd kfb17).mono (fun b41 kfb17 v46 F42 H43 g44 ⟨r45, w47⟩ => ?_) (fun _ z => z)⟩
      have eF42 := g44.s
      have gF42 := gF21.trans (g44.weak (by simp))
      replace o38 := g44.own (by first | exact List.not_mem_nil | (simp only [List.mem_cons, List.not_mem_nil, or_false, not_or]; (repeat' apply And.intro) <;> assumption)) o38.1 o38.2
      replace a39 := a39.up g44.f
      subst r45
      refine ⟨_, _, rfl, rfl, ?_⟩
      refine ⟨_, rfl, _, _, rfl, rfl, _, rfl, _, rfl, ?_⟩
      refine ⟨F42, sc, ra, scr, b41.2, law_far, rfl, eF42, w47, (post_bd kfb17).mono (fun b48 kfb17 v53 F49 H50 g51 ⟨r52, w54⟩ => ?_) (fun _ z => z)⟩
      have eF49 := g51.s
      have gF49 := gF42.trans (g51.weak (by simp))
      replace o38 := g51.own (by first | exact List.not_mem_nil | (simp only [List.mem_cons, List.not_mem_nil, or_false, not_or]; (repeat' apply And.intro) <;> assumption)) o38.1 o38.2
      replace a39 := a39.up g51.f
      subst r52
      refine ⟨_, _, rfl, rfl, ?_⟩
      refine ⟨_, rfl, _, rfl, _, _, rfl, rfl, _, rfl, ?_⟩
      refine cs kfb17 (fun _ kfb17 => ?_) (fun _ kfb17 => ?_)
      · refine ⟨_, rfl, .inl ⟨rfl, _, sq_of o38.1⟩, _, rfl, _, rfl, _, rfl, ?_⟩
        refine ⟨F49, sc, ra, scr, b48.2, (4 : Int), rfl, eF49, w54, (post_bd kfb17).mono (fun b55 kfb17 v60 F56 H57 g58 ⟨r59, w61⟩ => ?_) (fun _ z => z)⟩
        have eF56 := g58.s
        have gF56 := gF49.trans (g58.weak (by simp))
        replace o38 := g58.own (by first | exact List.not_mem_nil | (simp only [List.mem_cons, List.not_mem_nil, or_false, not_or]; (repeat' apply And.intro) <;> assumption)) o38.1 o38.2
        replace a39 := a39.up g58.f
        subst r59
        refine ⟨_, _, rfl, rfl, ?_⟩
        show _ ∧ _
        refine new_tup (K := K) (M := []) eF56 (.cons (Dq.int (b17.1 + b41.1)) (.cons (Dq.int (((b17.1 + b41.1) + (1 : Int)) + b48.1)) (.cons (Dq.int ((1 : Int) + b55.1)) .nil))) (by show 3 ≤ 100000; decide) fun v66 F62 H63 g64 r65 => ?_
        have eF62 := g64.s
        have gF62 := gF56.trans (g64.weak (by simp))
        replace o38 := g64.own (by first | exact List.not_mem_nil | (simp only [List.mem_cons, List.not_mem_nil, or_false, not_or]; (repeat' apply And.intro) <;> assumption)) o38.1 o38.2
        replace a39 := a39.up g64.f
        replace w61 := w61.keep g64
        replace r65 : Dq K F62 v66 ((e3 PyData.int PyData.int PyData.int) ((b17.1 + b41.1), (((b17.1 + b41.1) + (1 : Int)) + b48.1), ((1 : Int) + b55.1))) := r65
        obtain ⟨h67, kfb17⟩ := post_guard kfb17
        refine ⟨_, _, _, rfl, rfl, o38.1, own_sz a39 h67, ?_⟩
        have g68 := gF62.putOr (o := .lst (xs37 ++ [v66])) (.inl (by simp)) o38.1 o38.2
        replace w61 := w61.put np1 (o := .lst (xs37 ++ [v66]))
        replace o38 : (upd H63 p1 (.lst (xs37 ++ [v66]))) p1 = some (.lst (xs37 ++ [v66])) ∧ F62 p1 = none := ⟨upd_same, o38.2⟩
        replace a39 : DqAll K F62 (xs37 ++ [v66]) (List.map (e3 PyData.int PyData.int PyData.int) (b17.2.1 ++ [((b17.1 + b41.1), (((b17.1 + b41.1) + (1 : Int)) + b48.1), ((1 : Int) + b55.1))])) := by rw [List.map_append]; exact a39.app (.cons r65 .nil)
        have e69 := g68.s
        refine ⟨_, rfl, ?_⟩
        exact kfb17.h _ _ _ g68 ⟨_, _, _, rfl, o38, a39, w61⟩
      · exact kfb17.h _ _ _ gF49 ⟨_, _, _, rfl, o38, a39, w54⟩
    have hy71 : ∀ q ∈ [p1], q ∈ [ra] ∨ H q = none := by intro q hq; simp only [List.mem_cons, List.not_mem_nil, or_false] at hq; rcases hq with rfl; exact (.inr zp1)
    have g70 := Gm.outs [p1] hy71 gF9 (g31.weak (by simp))
    have eF29 := g31.s
    obtain ⟨u72, u73, xs74, rfl, o75, a76, w77⟩ := i32
    refine ⟨_, rfl, ?_⟩
    refine to_VO (K := K) (M := []) eF29 o75.1 a76 (en := (e3 PyData.int PyData.int PyData.int)) (l := b34.2.1) fun v82 F78 H79 g80 r81 => ?_
    have eF78 := g80.s
    have gF78 := g70.trans (g80.weak (by simp))
    replace o75 := g80.own (by first | exact List.not_mem_nil | (simp only [List.mem_cons, List.not_mem_nil, or_false, not_or]; (repeat' apply And.intro) <;> assumption)) o75.1 o75.2
    replace a76 := a76.up g80.f
    replace w77 := w77.keep g80
    exact k.h _ _ _ gF78 ⟨r81, w77⟩
/-! ### _law_parts -/
abbrev s_law_parts : Stmt := top 64
theorem sc_law_parts : FnScope ["_law_row", "_law_far", "_law_masses_here", "_law_stretches_here"] ["_law_row"] (defScope s_law_parts) := ⟨rfl, rfl, rfl, by decide +kernel, rfl, by decide +kernel, by decide +kernel⟩
def law_parts (scr : List Int) (st : Rw) : Mm (((List (Int × Int)) × (List (Int × Int × Int))) × Rw) := (pickM takenA scr st [(3 : Int), (3 : Int), (8 : Int), (20 : Int)]).bd fun b6 => (pickM takenA scr b6.2 [(1 : Int), (3 : Int), (6 : Int)]).bd fun b18 => (law_masses scr b18.2 (b18.1) (b6.1)).bd fun b25 => (law_stretches scr b25.2 ((3 : Int)) (b6.1)).bd fun b32 => (guardM (b25.1.length + b32.1.length ≤ 100000)).bd fun _ => (cond (!(b25.1.isEmpty && b32.1.isEmpty)) (Mm.ok (b25.1, b32.1)) (Mm.ok ([((0 : Int), (1 : Int))], []))).bd fun b63 => Mm.ok (b63, b32.2)
def sp_law_parts (K : PySem.W.Frag) : Sp := fun vs H Q E => ∃ (F : Hp) (sc ra : Addr) (scr : List Int) (st : Rw), vs = [.ref ra] ∧ Ex F H ∧ RowAt K sc ra scr F H st ∧ Post (law_parts scr st) (fun r => Ret [ra] F H (fun F' H' v => Dq K F' v ((e2 (eV (e2 PyData.int PyData.int)) (eV (e3 PyData.int PyData.int PyData.int))) r.1) ∧ RowAt K sc ra scr F' H' r.2) Q) (fun _ => False)
theorem ok_law_parts {P : Program} {w : World} {K : PySem.W.Frag} {mg : Str → Option Value} {base : Heap} {C f : Addr} {fd : FuncData} (B : Bi mg) (FF : FunD K "_law_parts" "_law_parts" (defArgs s_law_parts) (defBody s_law_parts) (defScope s_law_parts) [] [] f fd) (G_law_pick : Kn P w K mg base "_law_pick" 2 ["_law_row", "_law_some"] (spPick takenA K)) (G_law_masses : Kn P w K mg base "_law_masses" 3 ["_law_row", "_law_most", "_law_far"] (sp_law_masses K)) (G_law_stretches : Kn P w K mg base "_law_stretches" 2 ["_law_row", "_law_most", "_law_far"] (sp_law_stretches K)) : FnOk P w K mg base CX0 4 f fd ["_law_row"] (sp_law_parts K) := by
  refine FF.ok sc_law_parts (fun vs H Q E h => ?_) (fun cdv A outer s H vs Q E hr h => ?_)
  · obtain ⟨F, sc, ra, scr, st, rfl, _⟩ := h; rfl
  · obtain ⟨F, sc, ra, scr, st, rfl, e, w, k⟩ := h
    unfold law_parts at k
    have g_ := Gm.refl (M := [ra]) e
    refine ⟨_, PSs.nox (pss_cons (ps_set (i := 1) sc_law_parts.nd rfl (Or.inl rfl) (pe_kn G_law_pick (hr.mono (by decide)) (pa_cons (pv 0) (pa_cons (pe_q (pe_lst (pa_cons (pe_int) (pa_cons (pe_int) (pa_cons (pe_int) (pa_cons (pe_int) (pa_nil))))))) pa_nil)))) (pss_cons (ps_par (i := 2) (j := 3) (by rfl) sc_law_parts.nd rfl rfl (by decide) rfl rfl (pa_cons (pe_kn G_law_masses (hr.mono (by decide)) (pa_cons (pv 0) (pa_cons (pe_kn G_law_pick (hr.mono (by decide)) (pa_cons (pv 0) (pa_cons (pe_q (pe_lst (pa_cons (pe_int) (pa_cons (pe_int) (pa_cons (pe_int) (pa_nil)))))) pa_nil))) (pa_cons (pv 1) (pa_nil))))) (pa_cons (pe_kn G_law_stretches (hr.mono (by decide)) (pa_cons (pv 0) (pa_cons (pe_int) (pa_cons (pv 1) (pa_nil))))) (pa_nil))) (by rfl)) (pss_one (ps_ret (pe_ifExp (pt_cmpR (op_neNil (units_of hr)) (pe_q (pe_op op_catM (pv 2) (pv 3))) (pe_q (pe_tup (pa_nil))) (nomark _)) (pe_q (pe_tup (pa_cons (pv 2) (pa_cons (pv 3) (pa_nil))))) (pe_q (pe_tup (pa_cons (pe_q (pe_tup (pa_cons (pe_q (pe_tup (pa_cons (pe_int) (pa_cons (pe_int) (pa_nil))))) (pa_nil)))) (pa_cons (pe_q (pe_tup (pa_nil))) (pa_nil)))))))))), ?_⟩
    refine ⟨_, rfl, ?_⟩
    show _ ∧ _
    refine new_lst (K := K) (M := []) e (.cons (Dq.int (3 : Int)) (.cons (Dq.int (3 : Int)) (.cons (Dq.int (8 : Int)) (.cons (Dq.int (20 : Int)) .nil)))) (by show 4 ≤ 100000; decide) fun v5 F1 H2 g3 r4 => ?_
    have eF1 := g3.s
    have gF1 := g_.trans (g3.weak (by simp))
    replace w := w.keep g3
    replace r4 : Dq K F1 v5 ((eL PyData.int) [(3 : Int), (3 : Int), (8 : Int), (20 : Int)]) := r4
    refine ⟨F1, sc, ra, scr, st, _, PyData.int, _, [(3 : Int), (3 : Int), (8 : Int), (20 : Int)], rfl, eF1, w, r4, (post_bd k).mono (fun b6 k v11 F7 H8 g9 ⟨r10, w12⟩ => ?_) (fun _ z => z)⟩
    have eF7 := g9.s
    have gF7 := gF1.trans (g9.weak (by simp))
    replace r4 := r4.up g9.f
    obtain rfl := dp_int r10
    refine ⟨_, rfl, _, rfl, ?_⟩
    show _ ∧ _
    refine new_lst (K := K) (M := []) eF7 (.cons (Dq.int (1 : Int)) (.cons (Dq.int (3 : Int)) (.cons (Dq.int (6 : Int)) .nil))) (by show 3 ≤ 100000; decide) fun v17 F13 H14 g15 r16 => ?_
    have eF13 := g15.s
    have gF13 := gF7.trans (g15.weak (by simp))
    replace r4 := r4.up g15.f
    replace w12 := w12.keep g15
    replace r16 : Dq K F13 v17 ((eL PyData.int) [(1 : Int), (3 : Int), (6 : Int)]) := r16
    refine ⟨F13, sc, ra, scr, b6.2, _, PyData.int, _, [(1 : Int), (3 : Int), (6 : Int)], rfl, eF13, w12, r16, (post_bd k).mono (fun b18 k v23 F19 H20 g21 ⟨r22, w24⟩ => ?_) (fun _ z => z)⟩
    have eF19 := g21.s
    have gF19 := gF13.trans (g21.weak (by simp))
    replace r4 := r4.up g21.f
    replace r16 := r16.up g21.f
    obtain rfl := dp_int r22
    refine ⟨_, rfl, ?_⟩
    refine ⟨F19, sc, ra, scr, b18.2, b18.1, b6.1, rfl, eF19, w24, (post_bd k).mono (fun b25 k v30 F26 H27 g28 ⟨r29, w31⟩ => ?_) (fun _ z => z)⟩
    have eF26 := g28.s
    have gF26 := gF19.trans (g28.weak (by simp))
    replace r4 := r4.up g28.f
    replace r16 := r16.up g28.f
    refine ⟨_, rfl, _, rfl, ?_⟩
    refine ⟨F26, sc, ra, scr, b25.2, (3 : Int), b6.1, rfl, eF26, w31, (post_bd k).mono (fun b32 k v37 F33 H34 g35 ⟨r36, w38⟩ => ?_) (fun _ z => z)⟩
    have eF33 := g35.s
    have gF33 := gF26.trans (g35.weak (by simp))
    replace r4 := r4.up g35.f
    replace r16 := r16.up g35.f
    replace r29 := r29.up g35.f
    refine ⟨_, _, rfl, ?_⟩
    refine ⟨_, rfl, _, rfl, ?_⟩
    obtain ⟨p39, xs40, rfl, s41, a42⟩ := dp_tup r29
    obtain ⟨p43, xs44, rfl, s45, a46⟩ := dp_tup r36
    obtain ⟨h47, k⟩ := post_guard k
    refine cat_tupD (K := K) (M := []) eF33 s41 a42 s45 a46 h47 fun v52 F48 H49 g50 r51 => ?_
    have eF48 := g50.s
    have gF48 := gF33.trans (g50.weak (by simp))
    replace r4 := r4.up g50.f
    replace r16 := r16.up g50.f
    replace r29 := r29.up g50.f
    replace w38 := w38.keep g50
    replace r36 := r36.up g50.f
    replace s41 := ex_t g50.f s41
    replace a42 := a42.up g50.f
    replace s45 := ex_t g50.f s45
    replace a46 := a46.up g50.f
    show _ ∧ _
    refine new_tup (K := K) (M := []) eF48 .nil (by show 0 ≤ 100000; decide) fun v57 F53 H54 g55 r56 => ?_
    have eF53 := g55.s
    have gF53 := gF48.trans (g55.weak (by simp))
    replace r4 := r4.up g55.f
    replace r16 := r16.up g55.f
    replace r29 := r29.up g55.f
    replace w38 := w38.keep g55
    replace r36 := r36.up g55.f
    replace s41 := ex_t g55.f s41
    replace a42 := a42.up g55.f
    replace s45 := ex_t g55.f s45
    replace a46 := a46.up g55.f
    replace r51 := r51.up g55.f
    refine ⟨_, (b25.1.isEmpty && b32.1.isEmpty), r51.dp eF53, r56.dp eF53, shaped_cat (sh_e2 sh_int sh_int) (sh_e3 sh_int sh_int sh_int) _ _, isEmpty_cat _ _, _, rfl, ?_⟩
    refine if_jM (M := []) (F := F53) (fun b F' H' v => Dq K F' v ((e2 (eV (e2 PyData.int PyData.int)) (eV (e3 PyData.int PyData.int PyData.int))) b)) k (fun _ Q' kib63 => ?_) (fun _ Q' kib63 => ?_) (fun b63 v58 F59 H60 g61 r62 k => ?_)
    · have gF53_ := Gm.refl (M := []) eF53
      refine ⟨_, rfl, _, rfl, ?_⟩
      show _ ∧ _
      refine new_tup (K := K) (M := []) eF53 (.cons r29 (.cons r36 .nil)) (by show 2 ≤ 100000; decide) fun v69 F65 H66 g67 r68 => ?_
      have eF65 := g67.s
      have gF65 := gF53_.trans (g67.weak (by simp))
      replace r4 := r4.up g67.f
      replace r16 := r16.up g67.f
      replace r29 := r29.up g67.f
      replace w38 := w38.keep g67
      replace r36 := r36.up g67.f
      replace s41 := ex_t g67.f s41
      replace a42 := a42.up g67.f
      replace s45 := ex_t g67.f s45
      replace a46 := a46.up g67.f
      replace r51 := r51.up g67.f
      replace r56 := r56.up g67.f
      replace r68 : Dq K F65 v69 ((e2 (eV (e2 PyData.int PyData.int)) (eV (e3 PyData.int PyData.int PyData.int))) (b25.1, b32.1)) := r68
      exact kib63.h _ _ _ gF65 r68
    · have gF53_ := Gm.refl (M := []) eF53
      show _ ∧ _
      refine new_tup (K := K) (M := []) eF53 (.cons (Dq.int (0 : Int)) (.cons (Dq.int (1 : Int)) .nil)) (by show 2 ≤ 100000; decide) fun v74 F70 H71 g72 r73 => ?_
      have eF70 := g72.s
      have gF70 := gF53_.trans (g72.weak (by simp))
      replace r4 := r4.up g72.f
      replace r16 := r16.up g72.f
      replace r29 := r29.up g72.f
      replace w38 := w38.keep g72
      replace r36 := r36.up g72.f
      replace s41 := ex_t g72.f s41
      replace a42 := a42.up g72.f
      replace s45 := ex_t g72.f s45
      replace a46 := a46.up g72.f
      replace r51 := r51.up g72.f
      replace r56 := r56.up g72.f
      replace r73 : Dq K F70 v74 ((e2 PyData.int PyData.int) ((0 : Int), (1 : Int))) := r73
      show _ ∧ _
      refine new_tup (K := K) (M := []) eF70 (.cons r73 .nil) (by show 1 ≤ 100000; decide) fun v79 F75 H76 g77 r78 => ?_
      have eF75 := g77.s
      have gF75 := gF70.trans (g77.weak (by simp))
      replace r4 := r4.up g77.f
      replace r16 := r16.up g77.f
      replace r29 := r29.up g77.f
      replace w38 := w38.keep g77
      replace r36 := r36.up g77.f
      replace s41 := ex_t g77.f s41
      replace a42 := a42.up g77.f
      replace s45 := ex_t g77.f s45
      replace a46 := a46.up g77.f
      replace r51 := r51.up g77.f
      replace r56 := r56.up g77.f
      replace r73 := r73.up g77.f
      replace r78 : Dq K F75 v79 ((eV (e2 PyData.int PyData.int)) [((0 : Int), (1 : Int))]) := r78
      show _ ∧ _
      refine new_tup (K := K) (M := []) eF75 .nil (by show 0 ≤ 100000; decide) fun v84 F80 H81 g82 r83 => ?_
      have eF80 := g82.s
      have gF80 := gF75.trans (g82.weak (by simp))
      replace r4 := r4.up g82.f
      replace r16 := r16.up g82.f
      replace r29 := r29.up g82.f
      replace w38 := w38.keep g82
      replace r36 := r36.up g82.f
      replace s41 := ex_t g82.f s41
      replace a42 := a42.up g82.f
      replace s45 := ex_t g82.f s45
      replace a46 := a46.up g82.f
      replace r51 := r51.up g82.f
      replace r56 := r56.up g82.f
      replace r73 := r73.up g82.f
      replace r78 := r78.up g82.f
      replace r83 : Dq K F80 v84 (eV (e3 PyData.int PyData.int PyData.int) []) := r83
      show _ ∧ _
      refine new_tup (K := K) (M := []) eF80 (.cons r78 (.cons r83 .nil)) (by show 2 ≤ 100000; decide) fun v89 F85 H86 g87 r88 => ?_
      have eF85 := g87.s
      have gF85 := gF80.trans (g87.weak (by simp))
      replace r4 := r4.up g87.f
      replace r16 := r16.up g87.f
      replace r29 := r29.up g87.f
      replace w38 := w38.keep g87
      replace r36 := r36.up g87.f
      replace s41 := ex_t g87.f s41
      replace a42 := a42.up g87.f
      replace s45 := ex_t g87.f s45
      replace a46 := a46.up g87.f
      replace r51 := r51.up g87.f
      replace r56 := r56.up g87.f
      replace r73 := r73.up g87.f
      replace r78 := r78.up g87.f
      replace r83 := r83.up g87.f
      replace r88 : Dq K F85 v89 ((e2 (eV (e2 PyData.int PyData.int)) (eV (e3 PyData.int PyData.int PyData.int))) ([((0 : Int), (1 : Int))], [])) := r88
      exact kib63.h _ _ _ gF85 r88
    have eF59 := g61.s
    have gF59 := gF53.trans (g61.weak (by simp))
    replace r4 := r4.up g61.f
    replace r16 := r16.up g61.f
    replace r29 := r29.up g61.f
    replace w38 := w38.keep g61
    replace r36 := r36.up g61.f
    replace s41 := ex_t g61.f s41
    replace a42 := a42.up g61.f
    replace s45 := ex_t g61.f s45
    replace a46 := a46.up g61.f
    replace r51 := r51.up g61.f
    replace r56 := r56.up g61.f
    exact k.h _ _ _ gF59 ⟨r62, w38⟩
/-! ### _law_weighting -/
abbrev s_law_weighting : Stmt := top 65
theorem sc_law_weighting : FnScope ["_law_parts_here"] ["_law_parts_here"] (defScope s_law_weighting) := ⟨rfl, rfl, rfl, by decide +kernel, rfl, by decide +kernel, by decide +kernel⟩
def law_weighting (law_parts_here : ((List (Int × Int)) × (List (Int × Int × Int)))) : Mm Wt := (Weighting_init law_parts_here.1 law_parts_here.2).bd fun b7 => Mm.ok b7
def sp_law_weighting (K : PySem.W.Frag) (C : Addr) : Sp := fun vs H Q E => ∃ (F : Hp) (v_law_parts_here : V) (law_parts_here : ((List (Int × Int)) × (List (Int × Int × Int)))), vs = [v_law_parts_here] ∧ Ex F H ∧ Dq K F v_law_parts_here ((e2 (eV (e2 PyData.int PyData.int)) (eV (e3 PyData.int PyData.int PyData.int))) law_parts_here) ∧ Post (law_weighting law_parts_here) (fun r => Ret [] F H (fun F' _ v => IsW K C F' v r) Q) (fun _ => False)
theorem ok_law_weighting {P : Program} {w : World} {K : PySem.W.Frag} {mg : Str → Option Value} {base : Heap} {C f : Addr} {fd : FuncData} (B : Bi mg) (FF : FunD K "_law_weighting" "_law_weighting" (defArgs s_law_weighting) (defBody s_law_weighting) (defScope s_law_weighting) [] [] f fd) (GC_Weighting : KnC P w K mg base CX0 "Weighting" C 4 ["self", "masses", "stretches"] (spW0 Weighting_init K C)) : FnOk P w K mg base CX0 6 f fd ["_law_parts_here"] (sp_law_weighting K C) := by
  refine FF.ok sc_law_weighting (fun vs H Q E h => ?_) (fun cdv A outer s H vs Q E hr h => ?_)
  · obtain ⟨F, v_law_parts_here, law_parts_here, rfl, _⟩ := h; rfl
  · obtain ⟨F, v_law_parts_here, law_parts_here, rfl, e, r_law_parts_here, k⟩ := h
    unfold law_weighting at k
    have g_ := Gm.refl (M := []) e
    refine ⟨_, PSs.nox (pss_one (ps_ret (pe_q (pe_knC GC_Weighting (hr.mono (by decide)) pass0 (pa_cons (pe_ix (r := rIxT K) ix_tup (pv 0) (pe_int) (fun _ _ => rfl)) (pa_cons (pe_ix (r := rIxT K) ix_tup (pv 0) (pe_int) (fun _ _ => rfl)) pa_nil)))))), ?_⟩
    refine ⟨_, rfl, ?_⟩
    obtain ⟨p1, x2, x3, rfl, s4, d5, d6⟩ := dp_tup2 r_law_parts_here
    refine ⟨_, _, _, _, rfl, rfl, ex_t e s4, rfl, _, rfl, ?_⟩
    refine ⟨_, _, _, _, rfl, rfl, ex_t e s4, rfl, ?_⟩
    refine make_W e d5 d6 ((post_bd k).mono (fun b7 k v12 F8 H9 g10 r11 => ?_) (fun _ z => z))
    have eF8 := g10.s
    have gF8 := g_.trans (g10.weak (by simp))
    replace r_law_parts_here := r_law_parts_here.up g10.f
    replace s4 := ex_t g10.f s4
    replace d5 := d5.up g10.f
    replace d6 := d6.up g10.f
    exact k.h _ _ _ gF8 r11
/-! ### _law_raised -/
abbrev s_law_raised : Stmt := top 66
theorem sc_law_raised : FnScope ["_law_work", "e", "_law_kinds", "_law_at", "_law_words"] ["_law_work"] (defScope s_law_raised) := ⟨rfl, rfl, rfl, by decide +kernel, rfl, by decide +kernel, by decide +kernel⟩
theorem gives_law_raised {X : Cx} {g : Addr} {cdg : Value} {q : Str} (B : Bi X.mg) (hVE : X.mg "ValueError" = none) (cx_ReadingError : X.mg "ReadingError" = some (.ref (He.ga X.K "ReadingError"))) (cx_InvalidWeighting : X.mg "InvalidWeighting" = some (.ref (He.ga X.K "InvalidWeighting"))) (cx_InvalidPlaces : X.mg "InvalidPlaces" = some (.ref (He.ga X.K "InvalidPlaces"))) (cx_InvalidWeights : X.mg "InvalidWeights" = some (.ref (He.ga X.K "InvalidWeights"))) (cx_InvalidSums : X.mg "InvalidSums" = some (.ref (He.ga X.K "InvalidSums"))) (cx_InvalidNumber : X.mg "InvalidNumber" = some (.ref (He.ga X.K "InvalidNumber"))) (cx_InvalidPolynomial : X.mg "InvalidPolynomial" = some (.ref (He.ga X.K "InvalidPolynomial"))) (cx_TooFew : X.mg "TooFew" = some (.ref (He.ga X.K "TooFew"))) (cx_InvalidFraction : X.mg "InvalidFraction" = some (.ref (He.ga X.K "InvalidFraction"))) (cx_NoWeighting : X.mg "NoWeighting" = some (.ref (He.ga X.K "NoWeighting"))) (R : RaisedK X.K) :
    LamX.GivesTo X ["_law_work", "e", "_law_kinds", "_law_at", "_law_words"] "_law_raised" (defScope s_law_raised) g cdg (defBody s_law_raised) "_law_work" q (TTr X.K raisedX) := by
  intro f c' s H Q tl act hc h
  refine ⟨_, pss_cons (ps_try_manyA (tb := fun W D σ H => ∃ Ech : XK, (∀ cls d σ' H', Ech cls d H' → W cls d σ' H') ∧ σ[0]? = some (some (.ref f)) ∧ H c' = some (LamX.CodeO c' q) ∧ tl Ech H (fun _ H' => D.nx σ H')) rfl rfl sc_law_raised.nd takes_none5 (fun W pn xe tk _ => (⟨fun pins s' σ H' D I ⟨Ech, hW, h1, h2, h3⟩ => (pss_one (ps_expr (act W pn xe Ech _ _ tk hW))).run pins s' σ H' D I ⟨h1, h2, h3⟩⟩ : PSs _ _ _)) (.cons (i := 1) (ts := fun a cls d => _) ⟨rfl, by decide, .inl cx_ReadingError⟩ rfl rfl (fun a oe cls d pn hz hf => (pss_cons (ps_set (i := 2) sc_law_raised.nd rfl (Or.inl rfl) (pe_q (pe_lst (pa_cons (pe_callB (call_isX hz hf) (by rfl) B.isinstance (by decide +kernel) (pa_cons (pv 1) (pa_cons (pe_gref cx_InvalidWeighting) pa_nil))) (pa_cons (pe_callB (call_isX hz hf) (by rfl) B.isinstance (by decide +kernel) (pa_cons (pv 1) (pa_cons (pe_gref cx_InvalidPlaces) pa_nil))) (pa_cons (pe_callB (call_isX hz hf) (by rfl) B.isinstance (by decide +kernel) (pa_cons (pv 1) (pa_cons (pe_gref cx_InvalidWeights) pa_nil))) pa_nil)))))) (pss_cons (ps_set (i := 2) sc_law_raised.nd rfl (Or.inl rfl) (pe_q (pe_op op_cat (pv 2) (pe_q (pe_lst (pa_cons (pe_callB (call_isX hz hf) (by rfl) B.isinstance (by decide +kernel) (pa_cons (pv 1) (pa_cons (pe_gref cx_InvalidSums) pa_nil))) (pa_cons (pe_callB (call_isX hz hf) (by rfl) B.isinstance (by decide +kernel) (pa_cons (pv 1) (pa_cons (pe_gref cx_InvalidNumber) pa_nil))) (pa_cons (pe_callB (call_isX hz hf) (by rfl) B.isinstance (by decide +kernel) (pa_cons (pv 1) (pa_cons (pe_gref cx_InvalidPolynomial) pa_nil))) pa_nil)))))))) (pss_cons (ps_set (i := 2) sc_law_raised.nd rfl (Or.inl rfl) (pe_q (pe_op op_cat (pv 2) (pe_q (pe_lst (pa_cons (pe_callB (call_isX hz hf) (by rfl) B.isinstance (by decide +kernel) (pa_cons (pv 1) (pa_cons (pe_gref cx_TooFew) pa_nil))) (pa_cons (pe_callB (call_isX hz hf) (by rfl) B.isinstance (by decide +kernel) (pa_cons (pv 1) (pa_cons (pe_gref cx_InvalidFraction) pa_nil))) (pa_cons (pe_callB (call_isX hz hf) (by rfl) B.isinstance (by decide +kernel) (pa_cons (pv 1) (pa_cons (pe_gref cx_NoWeighting) pa_nil))) pa_nil)))))))) (pss_cons (ps_if (PW.pt (pw_or (pt_cmpR op_ne (pe_bmK (K := X.K) (rr := rCount) rfl PySem.F.plainAttrs_list PySem.F.slot_list_count PySem.F.type_list_count (fun _ => mt_count) (pv 2) (pa_cons pe_bl pa_nil)) pe_int (nomark _)) (pw_or1 (pt_not (pt_val (pe_callB (call_isX hz hf) (by rfl) B.isinstance (by decide +kernel) (pa_cons (pv 1) (pa_cons (pe_bltn (v := .ty "ValueError") (u := .type "ValueError") (by rfl) hVE (by decide +kernel) rfl) pa_nil)))))))) (pss_one (ps_ret (pe_q (pe_tup (pa_cons pe_str pa_nil))))) pss_nil) (pss_cons (ps_set (i := 3) sc_law_raised.nd rfl (Or.inl rfl) (pe_bmK (K := X.K) (rr := rIndex) rfl PySem.F.plainAttrs_list PySem.F.slot_list_index PySem.F.type_list_index (fun _ => mt_index) (pv 2) (pa_cons pe_bl pa_nil))) (pss_cons (ps_if (pt_cmpR op_eq (pv 3) pe_int (nomark _)) (pss_one (ps_ret (pe_q (pe_tup (pa_cons pe_str (pa_cons (pe_xfG hz hf (pv 1)) (pa_cons (pe_xfG hz hf (pv 1)) pa_nil))))))) pss_nil) (pss_cons (ps_set (i := 4) sc_law_raised.nd rfl (Or.inl rfl) (pe_q (pe_lst (pa_cons pe_str (pa_cons pe_str (pa_cons pe_str (pa_cons pe_str (pa_cons pe_str (pa_cons pe_str (pa_cons pe_str (pa_cons pe_str (pa_cons pe_str pa_nil)))))))))))) (pss_one (ps_ret (pe_ifExp (pt_cmpR op_lt (pv 3) pe_int (nomark _)) (pe_q (pe_tup (pa_cons (pe_ix (r := rIxL X.K) ix_list (pv 4) (pv 3) (fun _ _ => rfl)) (pa_cons (pe_xfG hz hf (pv 1)) pa_nil)))) (pe_q (pe_tup (pa_cons (pe_ix (r := rIxL X.K) ix_list (pv 4) (pv 3) (fun _ _ => rfl)) pa_nil)))))))))))))) .nil)) (pss_one (ps_ret pe_non)), ?_⟩
  exact ⟨_, fun cls d σ' H' ⟨e, F', ex, xd, k⟩ => raised_many R ex xd k, rfl, hc, h⟩

/-! ### law -/
abbrev s_law : Stmt := top 67
theorem sc_law : FnScope ["_law_script", "_law_row", "_law_parts_here", "_law_one", "_law_many", "_law_found", "_law_half", "_law_sums", "_law_least", "_law_due", "_law_ratios", "_law_k", "_law_before", "_law_count"] ["_law_script"] (defScope s_law) := ⟨rfl, rfl, rfl, by decide +kernel, rfl, by decide +kernel, by decide +kernel⟩
def law (scr : List Int) : Mm Bool := (law_parts scr (Rw.mk 0 0 0)).bd fun b1 => (law_weighting (b1.1)).bd fun b8 => (cond (!(decide (b1.1.2 = []))) (Mm.ok (9 : Int)) (Mm.ok (b1.1.1.length : Int))).bd fun b31 => (power_sums (b8) ((9 : Int))).bd fun b42 => (determinants (b42)).bd fun b58 => (rangeM (5 : Int)).bd fun l66 => (guardM ((rangeL 0 (5 : Int).toNat).length ≤ 50000)).bd fun _ => (filMm (fun (x69 : Int) => (getM b58 x69).bd fun i92 => (cond (!(decide ((decide (i92.1 > (0 : Int))) = (decide (x69 < b31))))) (Mm.ok true) ((cond (decide (x69 ≥ b31)) ((getM b58 x69).bd fun i111 => Mm.ok (!(decide (i111.1 = (0 : Int))))) (Mm.ok false)).bd fun b107 => Mm.ok b107)).bd fun b103 => cond b103 (Mm.ok (some x69)) (Mm.ok none)) (rangeL 0 (5 : Int).toNat)).bd fun b68 => cond (!(decide (b68 = []))) (Mm.ok false) ((rangeM2 (1 : Int) (5 : Int)).bd fun l129 => (foldL (R := Bool) (fun (b130 : Rw) (x131 : Int) => (mulM (2 : Int) x131).bd fun m167 => (power_sums (b8) (m167)).bd fun b170 => cond (decide (x131 > b31)) ((((next_least_xm (b170)).bd fun b201 => Mm.ok b201).tr raisedX fun _ => Mm.ok Xr.non).bd fun x195 => cond (!(decide (x195 = (Xr.tup Kw.none_ [])))) (Mm.ok (Fl.ret false)) (Mm.ok (Fl.go b130))) ((next_least (b170)).bd fun b214 => (mulM (2 : Int) x131).bd fun m221 => (power_sum (b8) (m221)).bd fun b224 => (law_is_less (b224) (b214)).bd fun b231 => cond (b231 || (!(decide ((decide (b214 = b224)) = (decide (x131 = b31)))))) (Mm.ok (Fl.ret false)) (Mm.ok (Fl.go b130)))) b1.2 (rangeL (1 : Int) ((5 : Int) - (1 : Int)).toNat)).bd fun o => o.el (fun b147 => (rangeM2 (2 : Int) ((minI b31 (5 : Int)) + (1 : Int))).bd fun l252 => (guardM ((rangeL (2 : Int) (((minI b31 (5 : Int)) + (1 : Int)) - (2 : Int)).toNat).length ≤ 50000)).bd fun _ => (mapMm (fun (x255 : Int) => (steps (b8) (x255)).bd fun b274 => (getM b274 (-(1 : Int))).bd fun i285 => Mm.ok i285.2) (rangeL (2 : Int) (((minI b31 (5 : Int)) + (1 : Int)) - (2 : Int)).toNat)).bd fun b254 => (rangeM (b254.length : Int)).bd fun l302 => (foldL (R := Bool) (fun (b303 : Rw) (x304 : Int) => (cond (decide (x304 > (0 : Int))) ((getM b58 (x304 - (1 : Int))).bd fun i340 => Mm.ok i340) (Mm.ok ((1 : Int), (1 : Int)))).bd fun b334 => (getM b254 x304).bd fun i350 => (getM b58 x304).bd fun i359 => (getM b58 x304).bd fun i364 => (law_mul (i359) (i364)).bd fun b369 => (law_mul (i350) (b369)).bd fun b376 => (getM b58 (x304 + (1 : Int))).bd fun i383 => (law_mul (i383) (b334)).bd fun b388 => cond (!(decide (b376 = b388))) (Mm.ok (Fl.ret false)) (Mm.ok (Fl.go b303))) b147 (rangeL 0 (b254.length : Int).toNat)).bd fun o => o.el (fun b320 => Mm.ok true) (fun r => Mm.ok r)) (fun r => Mm.ok r))
def sp_law (K : PySem.W.Frag) : Sp := fun vs H Q _ => ∃ (sc : Addr) (scr : List Int), vs = [.ref sc] ∧ SqL K H sc (scr.map V.int) ∧ H (He.cT K ("law", none)).2 = some (.tbl #[]) ∧ Post (law scr) (fun r => ∀ H', Q (.bl r) H') (fun _ => False)
theorem ok_law {P : Program} {w : World} {K : PySem.W.Frag} {mg : Str → Option Value} {base : Heap} {C f : Addr} {fd : FuncData} (B : Bi mg) (FF : FunD K "law" "law" (defArgs s_law) (defBody s_law) (defScope s_law) [] [] (He.ga K "law") fd) (G_law_parts : Kn P w K mg base "_law_parts" 4 ["_law_row"] (sp_law_parts K)) (G_law_weighting : Kn P w K mg base "_law_weighting" 6 ["_law_parts_here"] (sp_law_weighting K C)) (G_determinants : Kn P w K mg base "determinants" 11 ["sums"] (sp_determinants K)) (G_power_sums : Kn P w K mg base "power_sums" 4 ["weighting", "count"] (sp_power_sums K C)) (G_next_least : Kx P w K mg base "next_least" 11 ["sums"] (sp_next_least K)) (G_power_sum : Kn P w K mg base "power_sum" 3 ["weighting", "power"] (sp_power_sum K C)) (G_law_is_less : Kn P w K mg base "_law_is_less" 1 ["_law_one", "_law_other"] (sp_law_is_less K)) (G_steps : Kn P w K mg base "steps" 6 ["weighting", "count"] (sp_steps K C)) (G_law_mul : Kn P w K mg base "_law_mul" 2 ["_law_one", "_law_other"] (sp_law_mul K)) (A_law_raised : Ask K mg "_law_raised" "_law_work" (defArgs s_law_raised) (defBody s_law_raised) (defScope s_law_raised)) (RK : RaisedK K) (TB : LamX.TabB base mg (He.codeOf K ("law", none)) (He.cT K ("law", none)).2) (cx_InvalidFraction : mg "InvalidFraction" = some (.ref (He.ga K "InvalidFraction"))) (cx_InvalidNumber : mg "InvalidNumber" = some (.ref (He.ga K "InvalidNumber"))) (cx_InvalidPlaces : mg "InvalidPlaces" = some (.ref (He.ga K "InvalidPlaces"))) (cx_InvalidPolynomial : mg "InvalidPolynomial" = some (.ref (He.ga K "InvalidPolynomial"))) (cx_InvalidSums : mg "InvalidSums" = some (.ref (He.ga K "InvalidSums"))) (cx_InvalidWeighting : mg "InvalidWeighting" = some (.ref (He.ga K "InvalidWeighting"))) (cx_InvalidWeights : mg "InvalidWeights" = some (.ref (He.ga K "InvalidWeights"))) (cx_NoWeighting : mg "NoWeighting" = some (.ref (He.ga K "NoWeighting"))) (cx_ReadingError : mg "ReadingError" = some (.ref (He.ga K "ReadingError"))) (cx_TooFew : mg "TooFew" = some (.ref (He.ga K "TooFew"))) (hVE : mg "ValueError" = none) : FnOk P w K mg base CX0 14 (He.ga K "law") fd ["_law_script"] (sp_law K) := by
  refine fn_code FF sc_law (fun vs H Q E h => ?_) (fun A outer s H vs Q E hr h => ?_)
  · obtain ⟨sc, scr, rfl, _⟩ := h; rfl
  · obtain ⟨sc, scr, rfl, hs, hT, k⟩ := h
    unfold law at k
    refine ⟨_, PSs.nox (pss_cons (ps_set (i := 1) sc_law.nd rfl (Or.inl rfl) (pe_q (pe_lst (pa_cons (pv 0) (pa_cons pe_int (pa_cons pe_int (pa_cons pe_int pa_nil))))))) (pss_cons (ps_set (i := 2) sc_law.nd rfl (Or.inl rfl) (pe_kn G_law_parts (hr.mono (by decide)) (pa_cons (pv 1) (pa_nil)))) (pss_cons (ps_asg (pe_q (pe_tup (pa_cons (pe_kn G_law_weighting (hr.mono (by decide)) (pa_cons (pv 2) (pa_nil))) (pa_cons (pe_ifExp (pt_cmpR (r := rNeM K (eV (e3 PyData.int PyData.int PyData.int))) (op_neM (sh_eV (sh_e3 sh_int sh_int sh_int)) (units_of hr)) (pe_ix (r := rIxT K) ix_tup (pv 2) (pe_int) (fun _ _ => rfl)) (pe_q (pe_tup (pa_nil))) (nomark _)) (pe_int) (pe_callB call_lenM (by rfl) B.len (by decide +kernel) (pa_cons (pe_ix (r := rIxT K) ix_tup (pv 2) (pe_int) (fun _ _ => rfl)) pa_nil))) (pa_nil))))) (pg_tup (by rfl) (pgs_cons (pg_name (i := 3) sc_law.nd rfl (Or.inr rfl)) (pgs_cons (pg_name (i := 4) sc_law.nd rfl (Or.inr rfl)) (pgs_nil))))) (pss_cons (ps_set (i := 5) sc_law.nd rfl (Or.inr rfl) (pe_kn G_determinants (hr.mono (by decide)) (pa_cons (pe_q (pe_callTy call_tuple_of (by rfl) B.tuple (by decide +kernel) (pa_cons (pe_kn G_power_sums (hr.mono (by decide)) (pa_cons (pv 3) (pa_cons (pe_int) (pa_nil)))) pa_nil))) (pa_nil)))) (pss_cons (ps_if (pt_cmpR (r := rNeM K (eL PyData.int)) (op_neM (sh_eL sh_int) (units_of hr)) (pe_q (pe_lc (own := [("_law_k", 11)]) (g := gName 11) rfl sc_law.nd (pi_range1 rfl B.range (pa_cons (pe_int) (pa_nil))) (blkOk_by (N := ["_law_script", "_law_row", "_law_parts_here", "_law_one", "_law_many", "_law_found", "_law_half", "_law_sums", "_law_least", "_law_due", "_law_ratios", "_law_k", "_law_before", "_law_count"]) (sc := defScope s_law) (by decide +kernel)) (fun _ _ _ _ _ => pg_name (i := 11) sc_law.nd rfl (Or.inl rfl)) (fun _ _ _ _ _ => pts_one (PW.pt (pw_or (pt_cmpR op_ne (pe_cmpR op_gt (pe_ix (r := rIxT K) ix_tup (pe_ix (r := rIxL K) ix_list (pv 5) (pv 11) (fun _ _ => rfl)) (pe_int) (fun _ _ => rfl)) (pe_int) (nomark _)) (pe_cmpR op_lt (pv 11) (pv 4) (nomark _)) (nomark _)) (pw_or1 (PW.pt (pw_and (pt_cmpR op_ge (pv 11) (pv 4) (nomark _)) (pw_and1 (pt_cmpR op_ne (pe_ix (r := rIxT K) ix_tup (pe_ix (r := rIxL K) ix_list (pv 5) (pv 11) (fun _ _ => rfl)) (pe_int) (fun _ _ => rfl)) (pe_int) (nomark _))))))))) (fun _ _ _ _ _ => pv 11))) (pe_q (pe_lst (pa_nil))) (nomark _)) (pss_one (ps_ret (pe_bl))) pss_nil) (pss_cons (ps_for PassesOwn.never rfl (pi_range2 rfl B.range (pa_cons (pe_int) (pa_cons (pe_int) (pa_nil)))) (pg_name (i := 6) sc_law.nd rfl (Or.inl rfl)) (pss_cons (ps_set (i := 7) sc_law.nd rfl (Or.inr rfl) (pe_q (pe_callTy call_tuple_of (by rfl) B.tuple (by decide +kernel) (pa_cons (pe_kn G_power_sums (hr.mono (by decide)) (pa_cons (pv 3) (pa_cons (pe_op op_mulM (pe_int) (pv 6)) (pa_nil)))) pa_nil)))) (pss_one (ps_if (pt_cmpR op_gt (pv 6) (pv 4) (nomark _)) (pss_one (ps_if (pt_cmpR (r := rNeM K eX) (op_neM sh_X (units_of hr)) (pe_ask (k := 11) A_law_raised (fun g_ cdv_ => gives_law_raised B hVE cx_ReadingError cx_InvalidWeighting cx_InvalidPlaces cx_InvalidWeights cx_InvalidSums cx_InvalidNumber cx_InvalidPolynomial cx_TooFew cx_InvalidFraction cx_NoWeighting RK) TB (hr.mono (by decide)) sc_law_raised rfl rfl rfl (Or.inl rfl) (sc := defScope s_law) rfl (by decide +kernel) rfl (fun _ _ _ _ _ => rfl) (by intro A_ outer_ s_ H_ E_ f_ c_ hr; refine pe_castT (pe_kx G_next_least (hr.mono (by decide)) (takes_of rfl rfl rfl rfl) (pa_cons (pv 7) (pa_nil))) ?_; (try dsimp only [LamX.lamCx, cxOf, Cx.nox]); first | done | rfl)) (pe_q (pe_tup (pa_cons (pe_str) (pa_nil)))) (nomark _)) (pss_one (ps_ret (pe_bl))) pss_nil)) (pss_cons (ps_par (i := 8) (j := 9) (by rfl) sc_law.nd rfl rfl (by decide) rfl rfl (pa_cons (pe_kx G_next_least (hr.mono (by decide)) takes_none5 (pa_cons (pv 7) (pa_nil))) (pa_cons (pe_kn G_power_sum (hr.mono (by decide)) (pa_cons (pv 3) (pa_cons (pe_op op_mulM (pe_int) (pv 6)) (pa_nil)))) (pa_nil))) (by rfl)) (pss_one (ps_if (PW.pt (pw_or (pt_val (pe_kn G_law_is_less (hr.mono (by decide)) (pa_cons (pv 9) (pa_cons (pv 8) (pa_nil))))) (pw_or1 (pt_cmpR op_ne (pe_cmpR (r := rEqM K (e2 PyData.int PyData.int)) (op_eqM (sh_e2 sh_int sh_int) (units_of hr)) (pv 8) (pv 9) (nomark _)) (pe_cmpR op_eq (pv 6) (pv 4) (nomark _)) (nomark _))))) (pss_one (ps_ret (pe_bl))) pss_nil))))))) (pss_cons (ps_q (ps_setLc (i := 10) (own := [("_law_count", 13)]) (g := gName 13) rfl sc_law.nd rfl rfl (sw_true rfl rfl rfl (by decide +kernel)) (pi_range2 rfl B.range (pa_cons (pe_int) (pa_cons (pe_op op_add (pe_callB (call_min2 rfl) (by rfl) B.min (by decide +kernel) (pa_cons (pv 4) (pa_cons (pe_int) (pa_nil)))) (pe_int)) (pa_nil)))) (blkOk_by (N := ["_law_script", "_law_row", "_law_parts_here", "_law_one", "_law_many", "_law_found", "_law_half", "_law_sums", "_law_least", "_law_due", "_law_ratios", "_law_k", "_law_before", "_law_count"]) (sc := defScope s_law) (by decide +kernel)) (fun _ _ _ _ _ => pg_name (i := 13) sc_law.nd rfl (Or.inl rfl)) (fun _ _ _ _ _ => pts_nil) (fun _ _ _ _ _ => pe_ix (r := rIxT K) ix_tup (pe_ix (r := rIxL K) ix_list (pe_kn G_steps (hr.mono (by decide)) (pa_cons (pv 3) (pa_cons (pv 13) (pa_nil)))) (pe_un un_neg (pe_int)) (fun _ _ => rfl)) (pe_int) (fun _ _ => rfl)))) (pss_cons (ps_for PassesOwn.never rfl (pi_range1 rfl B.range (pa_cons (pe_callB call_lenM (by rfl) B.len (by decide +kernel) (pa_cons (pv 10) pa_nil)) (pa_nil))) (pg_name (i := 11) sc_law.nd rfl (Or.inl rfl)) (pss_cons (ps_set (i := 12) sc_law.nd rfl (Or.inl rfl) (pe_ifExp (pt_cmpR op_gt (pv 11) (pe_int) (nomark _)) (pe_ix (r := rIxL K) ix_list (pv 5) (pe_op op_sub (pv 11) (pe_int)) (fun _ _ => rfl)) (pe_q (pe_tup (pa_cons (pe_int) (pa_cons (pe_int) (pa_nil))))))) (pss_one (ps_if (pt_cmpR (r := rNeM K (e2 PyData.int PyData.int)) (op_neM (sh_e2 sh_int sh_int) (units_of hr)) (pe_kn G_law_mul (hr.mono (by decide)) (pa_cons (pe_ix (r := rIxL K) ix_list (pv 10) (pv 11) (fun _ _ => rfl)) (pa_cons (pe_kn G_law_mul (hr.mono (by decide)) (pa_cons (pe_ix (r := rIxL K) ix_list (pv 5) (pv 11) (fun _ _ => rfl)) (pa_cons (pe_ix (r := rIxL K) ix_list (pv 5) (pv 11) (fun _ _ => rfl)) (pa_nil)))) (pa_nil)))) (pe_kn G_law_mul (hr.mono (by decide)) (pa_cons (pe_ix (r := rIxL K) ix_list (pv 5) (pe_op op_add (pv 11) (pe_int)) (fun _ _ => rfl)) (pa_cons (pv 12) (pa_nil)))) (nomark _)) (pss_one (ps_ret (pe_bl))) pss_nil)))) (pss_one (ps_ret (pe_bl))))))))))), ?_⟩
    refine ⟨_, rfl, ?_⟩
    show _ ∧ _
    refine new_rowT hs fun ra H0 eT e w => ?_
    have tb : LamX.Tabs [((He.cT K ("law", none)).2, (PyProof.Rows.envOfC "law" (defScope s_law) 0 0 Value.none).qual ++ "<lambda>")] H0 := tabs_start hT eT
    have nt : ∀ m ∈ [ra], NoTbl H0 m := nt_cons w.1 nt_nil
    generalize noTab H = F0 at e w
    have g_ := Gm.refl (M := [ra]) e
    refine ⟨_, rfl, ?_⟩
    refine ⟨F0, sc, ra, scr, (Rw.mk 0 0 0), rfl, e, w, (post_bd k).mono (fun b1 k v6 F2 H3 g4 ⟨r5, w7⟩ => ?_) (fun _ z => z)⟩
    have eF2 := g4.s
    have gF2 := g_.trans (g4.weak (by simp))
    refine ⟨_, rfl, ?_⟩
    refine ⟨F2, _, b1.1, rfl, eF2, r5, (post_bd k).mono (fun b8 k v13 F9 H10 g11 r12 => ?_) (fun _ z => z)⟩
    have eF9 := g11.s
    have gF9 := gF2.trans (g11.weak (by simp))
    replace w7 := w7.keep g11
    replace r5 := r5.up g11.f
    refine ⟨_, rfl, ?_⟩
    obtain ⟨p15, x16, x17, rfl, s18, d19, d20⟩ := dp_tup2 r5
    refine ⟨_, _, _, _, rfl, rfl, ex_t eF9 s18, rfl, ?_⟩
    show _ ∧ _
    refine new_tup (K := K) (M := []) eF9 .nil (by show 0 ≤ 100000; decide) fun v25 F21 H22 g23 r24 => ?_
    have eF21 := g23.s
    have gF21 := gF9.trans (g23.weak (by simp))
    replace w7 := w7.keep g23
    replace r5 := r5.up g23.f
    replace r12 := r12.up g23.f
    replace s18 := ex_t g23.f s18
    replace d19 := d19.up g23.f
    replace d20 := d20.up g23.f
    replace r24 : Dq K F21 v25 (eV (e3 PyData.int PyData.int PyData.int) []) := r24
    refine ⟨b1.1.2, [], d20.dp eF21, r24.dp eF21, ?_⟩
    refine ⟨_, rfl, ?_⟩
    refine if_jM (M := []) (F := F21) (fun b F' H' v => v = V.int b) k (fun _ Q' kib31 => ?_) (fun _ Q' kib31 => ?_) (fun b31 v26 F27 H28 g29 r30 k => ?_)
    · have gF21_ := Gm.refl (M := []) eF21
      exact kib31.h _ _ _ gF21_ rfl
    · have gF21_ := Gm.refl (M := []) eF21
      refine ⟨_, rfl, ?_⟩
      refine ⟨_, _, _, _, rfl, rfl, ex_t eF21 s18, rfl, ?_⟩
      obtain ⟨p33, xs34, rfl, s35, a36⟩ := dp_tup d19
      refine ⟨_, _, _, rfl, .inr (ex_t eF21 s35), len_all a36, ?_⟩
      exact kib31.h _ _ _ gF21_ rfl
    have eF27 := g29.s
    have gF27 := gF21.trans (g29.weak (by simp))
    replace w7 := w7.keep g29
    replace r5 := r5.up g29.f
    replace r12 := r12.up g29.f
    replace s18 := ex_t g29.f s18
    replace d19 := d19.up g29.f
    replace d20 := d20.up g29.f
    replace r24 := r24.up g29.f
    subst r30
    show _ ∧ _
    refine new_tupR (K := K) (M := []) eF27 (by show 2 ≤ 100000; decide) fun p37 F38 H39 g40 s41 => ?_
    have eF38 := g40.s
    have gF38 := gF27.trans (g40.weak (by simp))
    replace w7 := w7.keep g40
    replace r5 := r5.up g40.f
    replace r12 := r12.up g40.f
    replace s18 := ex_t g40.f s18
    replace d19 := d19.up g40.f
    replace d20 := d20.up g40.f
    replace r24 := r24.up g40.f
    refine ⟨_, _, rfl, ex_t eF38 s41, rfl, _, _, rfl, _, _, rfl, rfl, ?_⟩
    refine ⟨_, rfl, ?_⟩
    refine ⟨F38, _, b8, (9 : Int), rfl, eF38, r12, (post_bd k).mono (fun b42 k v47 F43 H44 g45 r46 => ?_) (fun _ z => z)⟩
    have eF43 := g45.s
    have gF43 := gF38.trans (g45.weak (by simp))
    replace w7 := w7.keep g45
    replace r5 := r5.up g45.f
    replace r12 := r12.up g45.f
    replace s18 := ex_t g45.f s18
    replace d19 := d19.up g45.f
    replace d20 := d20.up g45.f
    replace r24 := r24.up g45.f
    replace s41 := ex_t g45.f s41
    obtain ⟨p49, xs50, rfl, s51, a52⟩ := dp_lst r46
    refine to_VL (K := K) (M := []) eF43 s51 a52 (en := (e2 PyData.int PyData.int)) (l := b42) fun v57 F53 H54 g55 r56 => ?_
    have eF53 := g55.s
    have gF53 := gF43.trans (g55.weak (by simp))
    replace w7 := w7.keep g55
    replace r5 := r5.up g55.f
    replace r12 := r12.up g55.f
    replace s18 := ex_t g55.f s18
    replace d19 := d19.up g55.f
    replace d20 := d20.up g55.f
    replace r24 := r24.up g55.f
    replace s41 := ex_t g55.f s41
    replace r46 := r46.up g55.f
    replace s51 := g55.f _ _ s51
    replace a52 := a52.up g55.f
    refine ⟨F53, _, b42, rfl, eF53, r56, (post_bd k).mono (fun b58 k v63 F59 H60 g61 r62 => ?_) (fun _ z => z)⟩
    have eF59 := g61.s
    have gF59 := gF53.trans (g61.weak (by simp))
    replace w7 := w7.keep g61
    replace r5 := r5.up g61.f
    replace r12 := r12.up g61.f
    replace s18 := ex_t g61.f s18
    replace d19 := d19.up g61.f
    replace d20 := d20.up g61.f
    replace r24 := r24.up g61.f
    replace s41 := ex_t g61.f s41
    replace r46 := r46.up g61.f
    replace s51 := g61.f _ _ s51
    replace a52 := a52.up g61.f
    replace r56 := r56.up g61.f
    obtain ⟨h65, k⟩ := post_range k
    refine ⟨_, rfl, h65.1, h65.2, ?_⟩
    obtain ⟨h86, k⟩ := post_guard k
    refine lc_fil (K := K) (M := []) wlk_range PyData.int k eF59 h86 (fun _ _ => by simp) (fun x69 v84 F77 H78 F79 H80 g81 g82 r83 Q' k67 => ?_) (fun _ z => z) (fun b68 v70 F71 H72 g73 r74 k => ?_) gm_name
    · have g87 := Gm.refl (M := []) g81.s
      replace w7 := w7.keep g81
      replace r5 := r5.up g81.f
      replace r12 := r12.up g81.f
      replace s18 := ex_t g81.f s18
      replace d19 := d19.up g81.f
      replace d20 := d20.up g81.f
      replace r24 := r24.up g81.f
      replace s41 := ex_t g81.f s41
      replace r46 := r46.up g81.f
      replace s51 := g81.f _ _ s51
      replace a52 := a52.up g81.f
      replace r56 := r56.up g81.f
      replace r62 := r62.up g81.f
      replace w7 := w7.keep g82
      replace r5 := r5.up g82.f
      replace r12 := r12.up g82.f
      replace s18 := ex_t g82.f s18
      replace d19 := d19.up g82.f
      replace d20 := d20.up g82.f
      replace r24 := r24.up g82.f
      replace s41 := ex_t g82.f s41
      replace r46 := r46.up g82.f
      replace s51 := g82.f _ _ s51
      replace a52 := a52.up g82.f
      replace r56 := r56.up g82.f
      replace r62 := r62.up g82.f
      have eF79 := g82.s
      have gF79 := g87.trans (g82.weak (by simp))
      subst r83
      refine ⟨rfl, _, rfl, _, rfl, ?_⟩
      obtain ⟨p88, xs89, rfl, s90, a91⟩ := dp_lst r62
      obtain ⟨i92, h93, k67⟩ := post_get k67
      obtain ⟨v94, h95, r96⟩ := dq_at a91 h93
      refine ⟨_, _, _, _, rfl, rfl, (sq_of (eF79 _ _ s90)), h95, ?_⟩
      obtain ⟨p97, x98, x99, rfl, s100, d101, d102⟩ := dp_tup2 r96
      obtain rfl := dp_int d101
      obtain rfl := dp_int d102
      refine ⟨_, _, _, _, rfl, rfl, ex_t eF79 s100, rfl, _, _, rfl, rfl, _, rfl, _, rfl, _, _, rfl, rfl, rfl, ?_⟩
      rw [decV_bl]
      refine ⟨_, rfl, ?_⟩
      refine or_jM (M := []) eF79 k67 (fun _ Q' k67tb103 => ?_) (fun b103 F104 H105 g106 k67 => ?_)
      · have gF79_ := Gm.refl (M := []) eF79
        refine ⟨_, rfl, _, rfl, _, _, rfl, rfl, _, rfl, ?_⟩
        refine and_jM (M := []) eF79 k67tb103 (fun _ Q' k67tb103tb107 => ?_) (fun b107 F108 H109 g110 k67tb103 => ?_)
        · have gF79_ := Gm.refl (M := []) eF79
          refine ⟨_, rfl, _, rfl, ?_⟩
          obtain ⟨i111, h112, k67tb103tb107⟩ := post_get k67tb103tb107
          obtain ⟨v113, h114, r115⟩ := dq_at a91 h112
          refine ⟨_, _, _, _, rfl, rfl, (sq_of (eF79 _ _ s90)), h114, ?_⟩
          obtain ⟨p116, x117, x118, rfl, s119, d120, d121⟩ := dp_tup2 r115
          obtain rfl := dp_int d120
          obtain rfl := dp_int d121
          refine ⟨_, _, _, _, rfl, rfl, ex_t eF79 s119, rfl, rfl, ?_⟩
          rw [decV_int]
          refine ⟨_, rfl, ?_⟩
          exact k67tb103tb107.h _ _ gF79_
        have eF108 := g110.s
        have gF108 := gF79_.trans (g110.weak (by simp))
        replace w7 := w7.keep g110
        replace r5 := r5.up g110.f
        replace r12 := r12.up g110.f
        replace s18 := ex_t g110.f s18
        replace d19 := d19.up g110.f
        replace d20 := d20.up g110.f
        replace r24 := r24.up g110.f
        replace s41 := ex_t g110.f s41
        replace r46 := r46.up g110.f
        replace s51 := g110.f _ _ s51
        replace a52 := a52.up g110.f
        replace r56 := r56.up g110.f
        replace r62 := r62.up g110.f
        replace s90 := g110.f _ _ s90
        replace a91 := a91.up g110.f
        replace r96 := r96.up g110.f
        replace s100 := ex_t g110.f s100
        exact k67tb103.h _ _ gF108
      have eF104 := g106.s
      have gF104 := gF79.trans (g106.weak (by simp))
      replace w7 := w7.keep g106
      replace r5 := r5.up g106.f
      replace r12 := r12.up g106.f
      replace s18 := ex_t g106.f s18
      replace d19 := d19.up g106.f
      replace d20 := d20.up g106.f
      replace r24 := r24.up g106.f
      replace s41 := ex_t g106.f s41
      replace r46 := r46.up g106.f
      replace s51 := g106.f _ _ s51
      replace a52 := a52.up g106.f
      replace r56 := r56.up g106.f
      replace r62 := r62.up g106.f
      replace s90 := g106.f _ _ s90
      replace a91 := a91.up g106.f
      replace r96 := r96.up g106.f
      replace s100 := ex_t g106.f s100
      refine cs k67 (fun _ k67 => ?_) (fun _ k67 => ?_)
      · refine ⟨_, rfl, ?_⟩
        exact k67.h _ _ _ gF104 ⟨_, rfl, (Dq.int x69)⟩
      · exact k67.h _ _ _ gF104 rfl
    have eF71 := g73.s
    have gF71 := gF59.trans (g73.weak (by simp))
    replace w7 := w7.keep g73
    replace r5 := r5.up g73.f
    replace r12 := r12.up g73.f
    replace s18 := ex_t g73.f s18
    replace d19 := d19.up g73.f
    replace d20 := d20.up g73.f
    replace r24 := r24.up g73.f
    replace s41 := ex_t g73.f s41
    replace r46 := r46.up g73.f
    replace s51 := g73.f _ _ s51
    replace a52 := a52.up g73.f
    replace r56 := r56.up g73.f
    replace r62 := r62.up g73.f
    show _ ∧ _
    refine new_lst (K := K) (M := []) eF71 .nil (by show 0 ≤ 100000; decide) fun v127 F123 H124 g125 r126 => ?_
    have eF123 := g125.s
    have gF123 := gF71.trans (g125.weak (by simp))
    replace w7 := w7.keep g125
    replace r5 := r5.up g125.f
    replace r12 := r12.up g125.f
    replace s18 := ex_t g125.f s18
    replace d19 := d19.up g125.f
    replace d20 := d20.up g125.f
    replace r24 := r24.up g125.f
    replace s41 := ex_t g125.f s41
    replace r46 := r46.up g125.f
    replace s51 := g125.f _ _ s51
    replace a52 := a52.up g125.f
    replace r56 := r56.up g125.f
    replace r62 := r62.up g125.f
    replace r74 := r74.up g125.f
    replace r126 : Dq K F123 v127 ((eL PyData.int) []) := r126
    refine ⟨b68, [], r74.dp eF123, r126.dp eF123, ?_⟩
    refine ⟨_, rfl, ?_⟩
    refine cs k (fun _ k => ?_) (fun _ k => ?_)
    · exact k.h _
    · obtain ⟨h128, k⟩ := post_range2 k
      refine ⟨_, _, rfl, h128, ?_⟩
      have t154 := tabs_gm tb nt gF123
      refine for_mLN (F := F123) (fun b130 F' H' σ' => ∃ (u6 : Option V) (u7 : Option V) (u8 : Option V) (u9 : Option V) (u10 : Option V) (u11 : Option V) (u12 : Option V) (u13 : Option V), σ' = [some (V.ref sc), some (V.ref ra), some (V.ref p15), some v13, some (V.int b31), some v63, u6, u7, u8, u9, u10, u11, u12, u13] ∧ RowAt K sc ra scr F' H' b130) k (GN.refl eF123 t154) ⟨_, _, _, _, _, _, _, _, rfl, w7⟩ (fun b130 x131 σ141 F148 H149 g150 i140 nx kfb130 => ?_) (fun b147 σ146 F151 H152 g153 i145 k => ?_)
      · replace r5 := dqN g150.f _ _ r5
        replace r12 := isWN g150.f r12
        replace s18 := exN_sq g150.f s18
        replace d19 := dqN g150.f _ _ d19
        replace d20 := dqN g150.f _ _ d20
        replace r24 := dqN g150.f _ _ r24
        replace s41 := exN_sq g150.f s41
        replace r46 := dqN g150.f _ _ r46
        replace s51 := g150.f _ _ s51 (fun ps z => nomatch z)
        replace a52 := dqAllN g150.f _ _ a52
        replace r56 := dqN g150.f _ _ r56
        replace r62 := dqN g150.f _ _ r62
        replace r74 := dqN g150.f _ _ r74
        replace r126 := dqN g150.f _ _ r126
        obtain ⟨u155, u156, u157, u158, u159, u160, u161, u162, rfl, w163⟩ := i140
        have e164 := g150.s
        have t165 := g150.t
        have gF148 := Gm.refl (M := [ra]) e164
        have nt166 : ∀ m ∈ [ra], NoTbl H149 m := nt_cons w163.1 (nt_nil)
        refine ⟨_, rfl, _, rfl, ?_⟩
        obtain ⟨m167, c168, q169, kfb130⟩ := post_mul kfb130
        refine ⟨_, _, _, rfl, rfl, c168, q169, ?_⟩
        refine ⟨F148, _, b8, m167, rfl, e164, r12, (post_bd kfb130).mono (fun b170 kfb130 v175 F171 H172 g173 r174 => ?_) (fun _ z => z)⟩
        have eF171 := g173.s
        have gF171 := gF148.trans (g173.weak (by simp))
        replace r5 := r5.up g173.f
        replace r12 := r12.up g173.f
        replace s18 := ex_t g173.f s18
        replace d19 := d19.up g173.f
        replace d20 := d20.up g173.f
        replace r24 := r24.up g173.f
        replace s41 := ex_t g173.f s41
        replace r46 := r46.up g173.f
        replace s51 := g173.f _ _ s51
        replace a52 := a52.up g173.f
        replace r56 := r56.up g173.f
        replace r62 := r62.up g173.f
        replace r74 := r74.up g173.f
        replace r126 := r126.up g173.f
        replace w163 := w163.keep g173
        obtain ⟨p177, xs178, rfl, s179, a180⟩ := dp_lst r174
        refine to_VL (K := K) (M := []) eF171 s179 a180 (en := (e2 PyData.int PyData.int)) (l := b170) fun v185 F181 H182 g183 r184 => ?_
        have eF181 := g183.s
        have gF181 := gF171.trans (g183.weak (by simp))
        replace r5 := r5.up g183.f
        replace r12 := r12.up g183.f
        replace s18 := ex_t g183.f s18
        replace d19 := d19.up g183.f
        replace d20 := d20.up g183.f
        replace r24 := r24.up g183.f
        replace s41 := ex_t g183.f s41
        replace r46 := r46.up g183.f
        replace s51 := g183.f _ _ s51
        replace a52 := a52.up g183.f
        replace r56 := r56.up g183.f
        replace r62 := r62.up g183.f
        replace r74 := r74.up g183.f
        replace r126 := r126.up g183.f
        replace w163 := w163.keep g183
        replace r174 := r174.up g183.f
        replace s179 := g183.f _ _ s179
        replace a180 := a180.up g183.f
        refine ⟨_, rfl, _, rfl, _, _, rfl, rfl, _, rfl, ?_⟩
        refine cs kfb130 (fun _ kfb130 => ?_) (fun _ kfb130 => ?_)
        · have t186 := tabs_gm t165 nt166 gF181
          refine ⟨t186, fun H187 x188 tb189 => ?_⟩
          have e191 := noTab_ext eF181 x188
          replace r5 := dqN (exN_noTab F181) _ _ r5
          replace r12 := isWN (exN_noTab F181) r12
          replace s18 := exN_sq (exN_noTab F181) s18
          replace d19 := dqN (exN_noTab F181) _ _ d19
          replace d20 := dqN (exN_noTab F181) _ _ d20
          replace r24 := dqN (exN_noTab F181) _ _ r24
          replace s41 := exN_sq (exN_noTab F181) s41
          replace r46 := dqN (exN_noTab F181) _ _ r46
          replace s51 := exN_noTab F181 _ _ s51 (fun ps z => nomatch z)
          replace a52 := dqAllN (exN_noTab F181) _ _ a52
          replace r56 := dqN (exN_noTab F181) _ _ r56
          replace r62 := dqN (exN_noTab F181) _ _ r62
          replace r74 := dqN (exN_noTab F181) _ _ r74
          replace r126 := dqN (exN_noTab F181) _ _ r126
          replace w163 := row_noTab w163 x188
          replace r174 := dqN (exN_noTab F181) _ _ r174
          replace s179 := exN_noTab F181 _ _ s179 (fun ps z => nomatch z)
          replace a180 := dqAllN (exN_noTab F181) _ _ a180
          replace r184 := dqN (exN_noTab F181) _ _ r184
          have x193 := exN_noTab F181
          generalize noTab F181 = F190 at e191 r5 r12 s18 d19 d20 r24 s41 r46 s51 a52 r56 r62 r74 r126 w163 r174 s179 a180 r184 x193
          have gF190 := Gm.refl (M := [ra]) e191
          have nt192 : ∀ m ∈ [ra], NoTbl H187 m := nt_cons w163.1 (nt_nil)
          refine lam_jM (F := F190) kfb130 (fun Q_ E_ k194 => ?_) (fun x195 v196 F197 H198 g199 r200 kfb130 => ?_)
          · have gF190_ := Gm.refl (M := []) e191
            refine ⟨_, rfl, ?_⟩
            refine ⟨F190, _, b170, rfl, e191, r184, (post_bd k194).mono (fun b201 k194 v206 F202 H203 g204 r205 => ?_) (fun e_ z cls_ d_ F_ H_ g_x x_ => z cls_ d_ F_ H_ (gF190_.trans (g_x.weak (by simp))) x_)⟩
            have eF202 := g204.s
            have gF202 := gF190_.trans (g204.weak (by simp))
            replace r5 := r5.up g204.f
            replace r12 := r12.up g204.f
            replace s18 := ex_t g204.f s18
            replace d19 := d19.up g204.f
            replace d20 := d20.up g204.f
            replace r24 := r24.up g204.f
            replace s41 := ex_t g204.f s41
            replace r46 := r46.up g204.f
            replace s51 := g204.f _ _ s51
            replace a52 := a52.up g204.f
            replace r56 := r56.up g204.f
            replace r62 := r62.up g204.f
            replace r74 := r74.up g204.f
            replace r126 := r126.up g204.f
            replace w163 := w163.keep g204
            replace r174 := r174.up g204.f
            replace s179 := g204.f _ _ s179
            replace a180 := a180.up g204.f
            replace r184 := r184.up g204.f
            exact k194.h _ _ _ gF202
          have eF197 := g199.s
          have gF197 := gF190.trans (g199.weak (by simp))
          replace r5 := r5.up g199.f
          replace r12 := r12.up g199.f
          replace s18 := ex_t g199.f s18
          replace d19 := d19.up g199.f
          replace d20 := d20.up g199.f
          replace r24 := r24.up g199.f
          replace s41 := ex_t g199.f s41
          replace r46 := r46.up g199.f
          replace s51 := g199.f _ _ s51
          replace a52 := a52.up g199.f
          replace r56 := r56.up g199.f
          replace r62 := r62.up g199.f
          replace r74 := r74.up g199.f
          replace r126 := r126.up g199.f
          replace w163 := w163.keep g199
          replace r174 := r174.up g199.f
          replace s179 := g199.f _ _ s179
          replace a180 := a180.up g199.f
          replace r184 := r184.up g199.f
          show _ ∧ _
          refine new_tup (K := K) (M := []) eF197 (.cons (Dq.str ("none" : Str)) .nil) (by show 1 ≤ 100000; decide) fun v212 F208 H209 g210 r211 => ?_
          have eF208 := g210.s
          have gF208 := gF197.trans (g210.weak (by simp))
          replace r5 := r5.up g210.f
          replace r12 := r12.up g210.f
          replace s18 := ex_t g210.f s18
          replace d19 := d19.up g210.f
          replace d20 := d20.up g210.f
          replace r24 := r24.up g210.f
          replace s41 := ex_t g210.f s41
          replace r46 := r46.up g210.f
          replace s51 := g210.f _ _ s51
          replace a52 := a52.up g210.f
          replace r56 := r56.up g210.f
          replace r62 := r62.up g210.f
          replace r74 := r74.up g210.f
          replace r126 := r126.up g210.f
          replace w163 := w163.keep g210
          replace r174 := r174.up g210.f
          replace s179 := g210.f _ _ s179
          replace a180 := a180.up g210.f
          replace r184 := r184.up g210.f
          replace r200 := r200.up g210.f
          replace r211 : Dq K F208 v212 (eX (Xr.tup Kw.none_ [])) := r211
          refine ⟨x195, (Xr.tup Kw.none_ []), r200.dp eF208, r211.dp eF208, ?_⟩
          refine ⟨_, rfl, ?_⟩
          refine cs kfb130 (fun _ kfb130 => ?_) (fun _ kfb130 => ?_)
          · exact (show Post (Mm.ok _) _ _ from kfb130.h).h _
          · have t213 := tabs_gm tb189 nt192 gF208
            exact kfb130.h _ _ _ ⟨(ExN.trans (g150.f) (ExN.trans (ExN.of gF181.f) (ExN.trans (x193) (ExN.of gF208.f)))), eF208, t213⟩ ⟨_, _, _, _, _, _, _, _, rfl, w163⟩
        · refine ⟨_, rfl, ?_⟩
          refine ⟨F181, _, b170, rfl, eF181, r184, (post_le (le_next_least _) kfb130).mono (fun b214 kfb130 v219 F215 H216 g217 r218 => ?_) (fun _ z => z.elim)⟩
          have eF215 := g217.s
          have gF215 := gF181.trans (g217.weak (by simp))
          replace r5 := r5.up g217.f
          replace r12 := r12.up g217.f
          replace s18 := ex_t g217.f s18
          replace d19 := d19.up g217.f
          replace d20 := d20.up g217.f
          replace r24 := r24.up g217.f
          replace s41 := ex_t g217.f s41
          replace r46 := r46.up g217.f
          replace s51 := g217.f _ _ s51
          replace a52 := a52.up g217.f
          replace r56 := r56.up g217.f
          replace r62 := r62.up g217.f
          replace r74 := r74.up g217.f
          replace r126 := r126.up g217.f
          replace w163 := w163.keep g217
          replace r174 := r174.up g217.f
          replace s179 := g217.f _ _ s179
          replace a180 := a180.up g217.f
          replace r184 := r184.up g217.f
          refine ⟨_, rfl, _, rfl, ?_⟩
          obtain ⟨m221, c222, q223, kfb130⟩ := post_mul kfb130
          refine ⟨_, _, _, rfl, rfl, c222, q223, ?_⟩
          refine ⟨F215, _, b8, m221, rfl, eF215, r12, (post_bd kfb130).mono (fun b224 kfb130 v229 F225 H226 g227 r228 => ?_) (fun _ z => z)⟩
          have eF225 := g227.s
          have gF225 := gF215.trans (g227.weak (by simp))
          replace r5 := r5.up g227.f
          replace r12 := r12.up g227.f
          replace s18 := ex_t g227.f s18
          replace d19 := d19.up g227.f
          replace d20 := d20.up g227.f
          replace r24 := r24.up g227.f
          replace s41 := ex_t g227.f s41
          replace r46 := r46.up g227.f
          replace s51 := g227.f _ _ s51
          replace a52 := a52.up g227.f
          replace r56 := r56.up g227.f
          replace r62 := r62.up g227.f
          replace r74 := r74.up g227.f
          replace r126 := r126.up g227.f
          replace w163 := w163.keep g227
          replace r174 := r174.up g227.f
          replace s179 := g227.f _ _ s179
          replace a180 := a180.up g227.f
          replace r184 := r184.up g227.f
          replace r218 := r218.up g227.f
          refine ⟨_, _, rfl, ?_⟩
          refine ⟨_, rfl, _, rfl, ?_⟩
          refine ⟨F225, _, b224, _, b214, rfl, eF225, r228, r218, (post_bd kfb130).mono (fun b231 kfb130 v236 F232 H233 g234 r235 => ?_) (fun _ z => z)⟩
          have eF232 := g234.s
          have gF232 := gF225.trans (g234.weak (by simp))
          replace r5 := r5.up g234.f
          replace r12 := r12.up g234.f
          replace s18 := ex_t g234.f s18
          replace d19 := d19.up g234.f
          replace d20 := d20.up g234.f
          replace r24 := r24.up g234.f
          replace s41 := ex_t g234.f s41
          replace r46 := r46.up g234.f
          replace s51 := g234.f _ _ s51
          replace a52 := a52.up g234.f
          replace r56 := r56.up g234.f
          replace r62 := r62.up g234.f
          replace r74 := r74.up g234.f
          replace r126 := r126.up g234.f
          replace w163 := w163.keep g234
          replace r174 := r174.up g234.f
          replace s179 := g234.f _ _ s179
          replace a180 := a180.up g234.f
          replace r184 := r184.up g234.f
          replace r218 := r218.up g234.f
          replace r228 := r228.up g234.f
          subst r235
          refine ⟨_, rfl, ?_⟩
          refine or_j (b := (!(decide ((decide (b214 = b224)) = (decide (x131 = b31)))))) (fun _ Q' q => ?_) ?_
          · refine ⟨_, rfl, _, rfl, b214, b224, r218.dp eF232, r228.dp eF232, ?_⟩
            refine ⟨_, rfl, _, rfl, rfl, ?_⟩
            rw [decV_int]
            refine ⟨rfl, ?_⟩
            rw [decV_bl]
            refine ⟨_, rfl, ?_⟩
            exact q
          refine cs kfb130 (fun _ kfb130 => ?_) (fun _ kfb130 => ?_)
          · exact (show Post (Mm.ok _) _ _ from kfb130.h).h _
          · have t238 := tabs_gm t165 nt166 gF232
            exact kfb130.h _ _ _ ⟨(ExN.trans (g150.f) (ExN.of gF232.f)), eF232, t238⟩ ⟨_, _, _, _, _, _, _, _, rfl, w163⟩
      replace r5 := dqN g153.f _ _ r5
      replace r12 := isWN g153.f r12
      replace s18 := exN_sq g153.f s18
      replace d19 := dqN g153.f _ _ d19
      replace d20 := dqN g153.f _ _ d20
      replace r24 := dqN g153.f _ _ r24
      replace s41 := exN_sq g153.f s41
      replace r46 := dqN g153.f _ _ r46
      replace s51 := g153.f _ _ s51 (fun ps z => nomatch z)
      replace a52 := dqAllN g153.f _ _ a52
      replace r56 := dqN g153.f _ _ r56
      replace r62 := dqN g153.f _ _ r62
      replace r74 := dqN g153.f _ _ r74
      replace r126 := dqN g153.f _ _ r126
      obtain ⟨u239, u240, u241, u242, u243, u244, u245, u246, rfl, w247⟩ := i145
      have e248 := g153.s
      have t249 := g153.t
      have gF151 := Gm.refl (M := [ra]) e248
      have nt250 : ∀ m ∈ [ra], NoTbl H152 m := nt_cons w247.1 (nt_nil)
      refine ⟨_, rfl, _, _, rfl, _, _, rfl, rfl, ?_⟩
      obtain ⟨h251, k⟩ := post_range2 k
      refine ⟨_, _, rfl, h251, ?_⟩
      obtain ⟨h272, k⟩ := post_guard k
      refine lc_map (K := K) (M := []) wlk_range (e2 PyData.int PyData.int) k e248 h272 (fun _ _ => by simp) (fun x255 v270 F263 H264 F265 H266 g267 g268 r269 Q' k253 => ?_) (fun _ z => z) (fun b254 v256 F257 H258 g259 r260 k => ?_) gm_name
      · have g273 := Gm.refl (M := []) g267.s
        replace r5 := r5.up g267.f
        replace r12 := r12.up g267.f
        replace s18 := ex_t g267.f s18
        replace d19 := d19.up g267.f
        replace d20 := d20.up g267.f
        replace r24 := r24.up g267.f
        replace s41 := ex_t g267.f s41
        replace r46 := r46.up g267.f
        replace s51 := g267.f _ _ s51
        replace a52 := a52.up g267.f
        replace r56 := r56.up g267.f
        replace r62 := r62.up g267.f
        replace r74 := r74.up g267.f
        replace r126 := r126.up g267.f
        replace w247 := w247.keep g267
        replace r5 := r5.up g268.f
        replace r12 := r12.up g268.f
        replace s18 := ex_t g268.f s18
        replace d19 := d19.up g268.f
        replace d20 := d20.up g268.f
        replace r24 := r24.up g268.f
        replace s41 := ex_t g268.f s41
        replace r46 := r46.up g268.f
        replace s51 := g268.f _ _ s51
        replace a52 := a52.up g268.f
        replace r56 := r56.up g268.f
        replace r62 := r62.up g268.f
        replace r74 := r74.up g268.f
        replace r126 := r126.up g268.f
        replace w247 := w247.keep g268
        have eF265 := g268.s
        have gF265 := g273.trans (g268.weak (by simp))
        subst r269
        refine ⟨rfl, _, rfl, _, rfl, ?_⟩
        refine ⟨F265, _, b8, x255, rfl, eF265, r12, (post_bd k253).mono (fun b274 k253 v279 F275 H276 g277 r278 => ?_) (fun _ z => z)⟩
        have eF275 := g277.s
        have gF275 := gF265.trans (g277.weak (by simp))
        replace r5 := r5.up g277.f
        replace r12 := r12.up g277.f
        replace s18 := ex_t g277.f s18
        replace d19 := d19.up g277.f
        replace d20 := d20.up g277.f
        replace r24 := r24.up g277.f
        replace s41 := ex_t g277.f s41
        replace r46 := r46.up g277.f
        replace s51 := g277.f _ _ s51
        replace a52 := a52.up g277.f
        replace r56 := r56.up g277.f
        replace r62 := r62.up g277.f
        replace r74 := r74.up g277.f
        replace r126 := r126.up g277.f
        replace w247 := w247.keep g277
        refine ⟨_, rfl, ?_⟩
        obtain ⟨p281, xs282, rfl, s283, a284⟩ := dp_lst r278
        obtain ⟨i285, h286, k253⟩ := post_get k253
        obtain ⟨v287, h288, r289⟩ := dq_at a284 h286
        refine ⟨_, _, _, _, rfl, rfl, (sq_of (eF275 _ _ s283)), h288, ?_⟩
        obtain ⟨p290, x291, x292, rfl, s293, d294, d295⟩ := dp_tup2 r289
        refine ⟨_, _, _, _, rfl, rfl, ex_t eF275 s293, rfl, ?_⟩
        exact k253.h _ _ _ gF275 d295
      have eF257 := g259.s
      have gF257 := gF151.trans (g259.weak (by simp))
      replace r5 := r5.up g259.f
      replace r12 := r12.up g259.f
      replace s18 := ex_t g259.f s18
      replace d19 := d19.up g259.f
      replace d20 := d20.up g259.f
      replace r24 := r24.up g259.f
      replace s41 := ex_t g259.f s41
      replace r46 := r46.up g259.f
      replace s51 := g259.f _ _ s51
      replace a52 := a52.up g259.f
      replace r56 := r56.up g259.f
      replace r62 := r62.up g259.f
      replace r74 := r74.up g259.f
      replace r126 := r126.up g259.f
      replace w247 := w247.keep g259
      refine ⟨_, rfl, ?_⟩
      obtain ⟨p297, xs298, rfl, s299, a300⟩ := dp_lst r260
      refine ⟨_, _, _, rfl, .inl (sq_of (eF257 _ _ s299)), len_all a300, ?_⟩
      obtain ⟨h301, k⟩ := post_range k
      refine ⟨_, rfl, h301.1, h301.2, ?_⟩
      refine for_mL (M := [ra]) (F := F257) wlk_range (fun b303 F' H' σ' => ∃ (u6 : Option V) (u7 : Option V) (u8 : Option V) (u9 : Option V) (u11 : Option V) (u12 : Option V) (u13 : Option V), σ' = [some (V.ref sc), some (V.ref ra), some (V.ref p15), some v13, some (V.int b31), some v63, u6, u7, u8, u9, some (V.ref p297), u11, u12, u13] ∧ RowAt K sc ra scr F' H' b303) k eF257 ⟨_, _, _, _, _, _, _, rfl, w247⟩ (fun b303 x304 v312 σ314 F305 H306 F307 H308 g309 i313 g310 r311 nx kfb303 => ?_) (fun b320 σ319 F315 H316 g317 i318 k => ?_)
      · replace r5 := r5.up g309.f
        replace r12 := r12.up g309.f
        replace s18 := ex_t g309.f s18
        replace d19 := d19.up g309.f
        replace d20 := d20.up g309.f
        replace r24 := r24.up g309.f
        replace s41 := ex_t g309.f s41
        replace r46 := r46.up g309.f
        replace s51 := g309.f _ _ s51
        replace a52 := a52.up g309.f
        replace r56 := r56.up g309.f
        replace r62 := r62.up g309.f
        replace r74 := r74.up g309.f
        replace r126 := r126.up g309.f
        replace r260 := r260.up g309.f
        replace s299 := g309.f _ _ s299
        replace a300 := a300.up g309.f
        obtain ⟨u321, u322, u323, u324, u325, u326, u327, rfl, w328⟩ := i313
        replace r5 := r5.up g310.f
        replace r12 := r12.up g310.f
        replace s18 := ex_t g310.f s18
        replace d19 := d19.up g310.f
        replace d20 := d20.up g310.f
        replace r24 := r24.up g310.f
        replace s41 := ex_t g310.f s41
        replace r46 := r46.up g310.f
        replace s51 := g310.f _ _ s51
        replace a52 := a52.up g310.f
        replace r56 := r56.up g310.f
        replace r62 := r62.up g310.f
        replace r74 := r74.up g310.f
        replace r126 := r126.up g310.f
        replace r260 := r260.up g310.f
        replace s299 := g310.f _ _ s299
        replace a300 := a300.up g310.f
        replace w328 := w328.keep g310
        have eF307 := g310.s
        have gF307 := g309.trans (g310.weak (by simp))
        subst r311
        refine ⟨_, rfl, _, _, rfl, rfl, _, rfl, ?_⟩
        refine if_jM (M := []) (F := F307) (fun b F' H' v => Dq K F' v ((e2 PyData.int PyData.int) b)) kfb303 (fun _ Q' kfb303ib334 => ?_) (fun _ Q' kfb303ib334 => ?_) (fun b334 v329 F330 H331 g332 r333 kfb303 => ?_)
        · have gF307_ := Gm.refl (M := []) eF307
          refine ⟨_, rfl, _, rfl, _, _, rfl, rfl, ?_⟩
          obtain ⟨p336, xs337, rfl, s338, a339⟩ := dp_lst r62
          obtain ⟨i340, h341, kfb303ib334⟩ := post_get kfb303ib334
          obtain ⟨v342, h343, r344⟩ := dq_at a339 h341
          refine ⟨_, _, _, _, rfl, rfl, (sq_of (eF307 _ _ s338)), h343, ?_⟩
          exact kfb303ib334.h _ _ _ gF307_ r344
        · have gF307_ := Gm.refl (M := []) eF307
          show _ ∧ _
          refine new_tup (K := K) (M := []) eF307 (.cons (Dq.int (1 : Int)) (.cons (Dq.int (1 : Int)) .nil)) (by show 2 ≤ 100000; decide) fun v349 F345 H346 g347 r348 => ?_
          have eF345 := g347.s
          have gF345 := gF307_.trans (g347.weak (by simp))
          replace r5 := r5.up g347.f
          replace r12 := r12.up g347.f
          replace s18 := ex_t g347.f s18
          replace d19 := d19.up g347.f
          replace d20 := d20.up g347.f
          replace r24 := r24.up g347.f
          replace s41 := ex_t g347.f s41
          replace r46 := r46.up g347.f
          replace s51 := g347.f _ _ s51
          replace a52 := a52.up g347.f
          replace r56 := r56.up g347.f
          replace r62 := r62.up g347.f
          replace r74 := r74.up g347.f
          replace r126 := r126.up g347.f
          replace r260 := r260.up g347.f
          replace s299 := g347.f _ _ s299
          replace a300 := a300.up g347.f
          replace w328 := w328.keep g347
          replace r348 : Dq K F345 v349 ((e2 PyData.int PyData.int) ((1 : Int), (1 : Int))) := r348
          exact kfb303ib334.h _ _ _ gF345 r348
        have eF330 := g332.s
        have gF330 := gF307.trans (g332.weak (by simp))
        replace r5 := r5.up g332.f
        replace r12 := r12.up g332.f
        replace s18 := ex_t g332.f s18
        replace d19 := d19.up g332.f
        replace d20 := d20.up g332.f
        replace r24 := r24.up g332.f
        replace s41 := ex_t g332.f s41
        replace r46 := r46.up g332.f
        replace s51 := g332.f _ _ s51
        replace a52 := a52.up g332.f
        replace r56 := r56.up g332.f
        replace r62 := r62.up g332.f
        replace r74 := r74.up g332.f
        replace r126 := r126.up g332.f
        replace r260 := r260.up g332.f
        replace s299 := g332.f _ _ s299
        replace a300 := a300.up g332.f
        replace w328 := w328.keep g332
        refine ⟨_, rfl, _, rfl, ?_⟩
        obtain ⟨i350, h351, kfb303⟩ := post_get kfb303
        obtain ⟨v352, h353, r354⟩ := dq_at a300 h351
        refine ⟨_, _, _, _, rfl, rfl, (sq_of (eF330 _ _ s299)), h353, ?_⟩
        refine ⟨_, rfl, _, rfl, ?_⟩
        obtain ⟨p355, xs356, rfl, s357, a358⟩ := dp_lst r62
        obtain ⟨i359, h360, kfb303⟩ := post_get kfb303
        obtain ⟨v361, h362, r363⟩ := dq_at a358 h360
        refine ⟨_, _, _, _, rfl, rfl, (sq_of (eF330 _ _ s357)), h362, ?_⟩
        refine ⟨_, rfl, _, rfl, ?_⟩
        obtain ⟨i364, h365, kfb303⟩ := post_get kfb303
        obtain ⟨v366, h367, r368⟩ := dq_at a358 h365
        refine ⟨_, _, _, _, rfl, rfl, (sq_of (eF330 _ _ s357)), h367, ?_⟩
        refine ⟨F330, _, i359, _, i364, rfl, eF330, r363, r368, (post_bd kfb303).mono (fun b369 kfb303 v374 F370 H371 g372 r373 => ?_) (fun _ z => z)⟩
        have eF370 := g372.s
        have gF370 := gF330.trans (g372.weak (by simp))
        replace r5 := r5.up g372.f
        replace r12 := r12.up g372.f
        replace s18 := ex_t g372.f s18
        replace d19 := d19.up g372.f
        replace d20 := d20.up g372.f
        replace r24 := r24.up g372.f
        replace s41 := ex_t g372.f s41
        replace r46 := r46.up g372.f
        replace s51 := g372.f _ _ s51
        replace a52 := a52.up g372.f
        replace r56 := r56.up g372.f
        replace r62 := r62.up g372.f
        replace r74 := r74.up g372.f
        replace r126 := r126.up g372.f
        replace r260 := r260.up g372.f
        replace s299 := g372.f _ _ s299
        replace a300 := a300.up g372.f
        replace w328 := w328.keep g372
        replace r333 := r333.up g372.f
        replace r354 := r354.up g372.f
        replace s357 := g372.f _ _ s357
        replace a358 := a358.up g372.f
        replace r363 := r363.up g372.f
        replace r368 := r368.up g372.f
        refine ⟨F370, _, i350, _, b369, rfl, eF370, r354, r373, (post_bd kfb303).mono (fun b376 kfb303 v381 F377 H378 g379 r380 => ?_) (fun _ z => z)⟩
        have eF377 := g379.s
        have gF377 := gF370.trans (g379.weak (by simp))
        replace r5 := r5.up g379.f
        replace r12 := r12.up g379.f
        replace s18 := ex_t g379.f s18
        replace d19 := d19.up g379.f
        replace d20 := d20.up g379.f
        replace r24 := r24.up g379.f
        replace s41 := ex_t g379.f s41
        replace r46 := r46.up g379.f
        replace s51 := g379.f _ _ s51
        replace a52 := a52.up g379.f
        replace r56 := r56.up g379.f
        replace r62 := r62.up g379.f
        replace r74 := r74.up g379.f
        replace r126 := r126.up g379.f
        replace r260 := r260.up g379.f
        replace s299 := g379.f _ _ s299
        replace a300 := a300.up g379.f
        replace w328 := w328.keep g379
        replace r333 := r333.up g379.f
        replace r354 := r354.up g379.f
        replace s357 := g379.f _ _ s357
        replace a358 := a358.up g379.f
        replace r363 := r363.up g379.f
        replace r368 := r368.up g379.f
        replace r373 := r373.up g379.f
        refine ⟨_, rfl, _, rfl, _, _, rfl, rfl, ?_⟩
        obtain ⟨i383, h384, kfb303⟩ := post_get kfb303
        obtain ⟨v385, h386, r387⟩ := dq_at a358 h384
        refine ⟨_, _, _, _, rfl, rfl, (sq_of (eF377 _ _ s357)), h386, ?_⟩
        refine ⟨_, rfl, ?_⟩
        refine ⟨F377, _, i383, _, b334, rfl, eF377, r387, r333, (post_bd kfb303).mono (fun b388 kfb303 v393 F389 H390 g391 r392 => ?_) (fun _ z => z)⟩
        have eF389 := g391.s
        have gF389 := gF377.trans (g391.weak (by simp))
        replace r5 := r5.up g391.f
        replace r12 := r12.up g391.f
        replace s18 := ex_t g391.f s18
        replace d19 := d19.up g391.f
        replace d20 := d20.up g391.f
        replace r24 := r24.up g391.f
        replace s41 := ex_t g391.f s41
        replace r46 := r46.up g391.f
        replace s51 := g391.f _ _ s51
        replace a52 := a52.up g391.f
        replace r56 := r56.up g391.f
        replace r62 := r62.up g391.f
        replace r74 := r74.up g391.f
        replace r126 := r126.up g391.f
        replace r260 := r260.up g391.f
        replace s299 := g391.f _ _ s299
        replace a300 := a300.up g391.f
        replace w328 := w328.keep g391
        replace r333 := r333.up g391.f
        replace r354 := r354.up g391.f
        replace s357 := g391.f _ _ s357
        replace a358 := a358.up g391.f
        replace r363 := r363.up g391.f
        replace r368 := r368.up g391.f
        replace r373 := r373.up g391.f
        replace r380 := r380.up g391.f
        replace r387 := r387.up g391.f
        refine ⟨b376, b388, r380.dp eF389, r392.dp eF389, ?_⟩
        refine ⟨_, rfl, ?_⟩
        refine cs kfb303 (fun _ kfb303 => ?_) (fun _ kfb303 => ?_)
        · exact (show Post (Mm.ok _) _ _ from kfb303.h).h _
        · exact kfb303.h _ _ _ gF389 ⟨_, _, _, _, _, _, _, rfl, w328⟩
      have g395 := gF257.trans (g317.weak (by simp))
      replace r5 := r5.up g317.f
      replace r12 := r12.up g317.f
      replace s18 := ex_t g317.f s18
      replace d19 := d19.up g317.f
      replace d20 := d20.up g317.f
      replace r24 := r24.up g317.f
      replace s41 := ex_t g317.f s41
      replace r46 := r46.up g317.f
      replace s51 := g317.f _ _ s51
      replace a52 := a52.up g317.f
      replace r56 := r56.up g317.f
      replace r62 := r62.up g317.f
      replace r74 := r74.up g317.f
      replace r126 := r126.up g317.f
      replace r260 := r260.up g317.f
      replace s299 := g317.f _ _ s299
      replace a300 := a300.up g317.f
      have eF315 := g317.s
      obtain ⟨u396, u397, u398, u399, u400, u401, u402, rfl, w403⟩ := i318
      exact k.h _
end L

set_option Elab.async false
set_option linter.all false
set_option maxRecDepth 100000
set_option maxHeartbeats 0
namespace L
open PySem L2 Evl Wk
abbrev sp_p_masses : Stmt := inClass (top 33) 1
abbrev sp_p_stretches : Stmt := inClass (top 33) 2
/-! ### the head -/
def fileN : Str := "/claim/cut.py"
abbrev s_InvalidSums_init : Stmt := inClass (top 10) 0
def dd_InvalidSums_init : He5.DefA := ⟨initAt "InvalidSums" "__init__", "__init__", "InvalidSums.__init__", defArgs s_InvalidSums_init, defBody s_InvalidSums_init, defScope s_InvalidSums_init, [], []⟩
theorem ok_InvalidSums_init {P : Program} {w : World} {K : PySem.W.Frag} {mg : Str → Option Value} {base : Heap} {fd : FuncData} {cda cc : Addr} (I : IniD K P mg "InvalidSums" "__init__" "InvalidSums.__init__" (defArgs s_InvalidSums_init) (defBody s_InvalidSums_init) (defScope s_InvalidSums_init) fd cda cc) (nf_index : NoAttr K (He.ga K "InvalidSums") "index") : FnOk P w K mg base CX0 1 (He.ma K (He.ga K "InvalidSums") "__init__") fd ["self", "index"] (spI1 (He.ga K "InvalidSums") "index") := by
  obtain ⟨⟨oc, od, kV, doc, pm, ct, an, osl, rfl, lk⟩, cd, sc, _, _⟩ := I
  refine fn_ofS (N := ["self", "index", "__class__"]) (fun _ => rfl) lk cd (NdefX.nscope_by (by decide +kernel)) sc rfl rfl rfl (fun _ => rfl) (fun _ => rfl) (fun vs H Q E h => ?_) (fun A outer s H vs Q E h => ?_)
  · obtain ⟨a, i, rfl, _⟩ := h; rfl
  · obtain ⟨a, i, rfl, hi, ha, k⟩ := h
    refine ⟨a, _, _, rfl, ha, pa_cons (pe_joined (.cons pe_str (.cons (pe_fmt (pv 1)) .nil))) pa_nil, pss_one (ps_ost (pv 0) (pv 1)), ?_⟩
    refine js1 (by decide +kernel) hi (fun Q q => ⟨_, rfl, q⟩) (fun y => ?_)
    refine ⟨by show 1 ≤ 1000; decide, ha, ?_⟩
    exact ⟨_, rfl, _, rfl, a, _, rfl, sc.oex, nf_index, .inl ⟨ha, fun dx hd hn => k dx hd hn⟩⟩
def es : List He5.DefA := [dd_InvalidSums_init]
def dd_whole_within : He5.DefA := ⟨gAt "whole_within", "whole_within", "whole_within", defArgs s_whole_within, defBody s_whole_within, defScope s_whole_within, [], []⟩
def dd_check_within : He5.DefA := ⟨gAt "check_within", "check_within", "check_within", defArgs s_check_within, defBody s_check_within, defScope s_check_within, [], []⟩
def dd_power_of : He5.DefA := ⟨gAt "power_of", "power_of", "power_of", defArgs s_power_of, defBody s_power_of, defScope s_power_of, [], []⟩
def dd_lowest : He5.DefA := ⟨gAt "lowest", "lowest", "lowest", defArgs s_lowest, defBody s_lowest, defScope s_lowest, [], []⟩
def dd_plus : He5.DefA := ⟨gAt "plus", "plus", "plus", defArgs s_plus, defBody s_plus, defScope s_plus, [], []⟩
def dd_minus : He5.DefA := ⟨gAt "minus", "minus", "minus", defArgs s_minus, defBody s_minus, defScope s_minus, [], []⟩
def dd_times : He5.DefA := ⟨gAt "times", "times", "times", defArgs s_times, defBody s_times, defScope s_times, [], []⟩
def dd_over : He5.DefA := ⟨gAt "over", "over", "over", defArgs s_over, defBody s_over, defScope s_over, [], []⟩
def dd_is_less : He5.DefA := ⟨gAt "is_less", "is_less", "is_less", defArgs s_is_less, defBody s_is_less, defScope s_is_less, [], []⟩
def dd_added_up : He5.DefA := ⟨gAt "added_up", "added_up", "added_up", defArgs s_added_up, defBody s_added_up, defScope s_added_up, [], []⟩
def dd_with_root : He5.DefA := ⟨gAt "with_root", "with_root", "with_root", defArgs s_with_root, defBody s_with_root, defScope s_with_root, [], []⟩
def dd_multiplied : He5.DefA := ⟨gAt "multiplied", "multiplied", "multiplied", defArgs s_multiplied, defBody s_multiplied, defScope s_multiplied, [], []⟩
def dd_is_place : He5.DefA := ⟨gAt "is_place", "is_place", "is_place", defArgs s_is_place, defBody s_is_place, defScope s_is_place, [], []⟩
def dd_is_mass : He5.DefA := ⟨gAt "is_mass", "is_mass", "is_mass", defArgs s_is_mass, defBody s_is_mass, defScope s_is_mass, [], []⟩
def dd_check_masses : He5.DefA := ⟨gAt "check_masses", "check_masses", "check_masses", defArgs s_check_masses, defBody s_check_masses, defScope s_check_masses, [], []⟩
def dd_check_stretches : He5.DefA := ⟨gAt "check_stretches", "check_stretches", "check_stretches", defArgs s_check_stretches, defBody s_check_stretches, defScope s_check_stretches, [], []⟩
def dd_Weighting_init : He5.DefA := ⟨initAt "Weighting" "__init__", "__init__", "Weighting.__init__", defArgs s_Weighting_init, defBody s_Weighting_init, defScope s_Weighting_init, [], []⟩
def dd_power_sum : He5.DefA := ⟨gAt "power_sum", "power_sum", "power_sum", defArgs s_power_sum, defBody s_power_sum, defScope s_power_sum, [], []⟩
def dd_power_sums : He5.DefA := ⟨gAt "power_sums", "power_sums", "power_sums", defArgs s_power_sums, defBody s_power_sums, defScope s_power_sums, [], []⟩
def dd_weighed : He5.DefA := ⟨gAt "weighed", "weighed", "weighed", defArgs s_weighed, defBody s_weighed, defScope s_weighed, [], []⟩
def dd_square_of_sums : He5.DefA := ⟨gAt "square_of_sums", "square_of_sums", "square_of_sums", defArgs s_square_of_sums, defBody s_square_of_sums, defScope s_square_of_sums, [], []⟩
def dd_determinant : He5.DefA := ⟨gAt "determinant", "determinant", "determinant", defArgs s_determinant, defBody s_determinant, defScope s_determinant, [], []⟩
def dd_checked_sums : He5.DefA := ⟨gAt "checked_sums", "checked_sums", "checked_sums", defArgs s_checked_sums, defBody s_checked_sums, defScope s_checked_sums, [], []⟩
def dd_determinants_of : He5.DefA := ⟨gAt "determinants_of", "determinants_of", "determinants_of", defArgs s_determinants_of, defBody s_determinants_of, defScope s_determinants_of, [], []⟩
def dd_determinants : He5.DefA := ⟨gAt "determinants", "determinants", "determinants", defArgs s_determinants, defBody s_determinants, defScope s_determinants, [], []⟩
def dd_next_least : He5.DefA := ⟨gAt "next_least", "next_least", "next_least", defArgs s_next_least, defBody s_next_least, defScope s_next_least, [], []⟩
def dd_check_count : He5.DefA := ⟨gAt "check_count", "check_count", "check_count", defArgs s_check_count, defBody s_check_count, defScope s_check_count, [], []⟩
def dd_next_rung : He5.DefA := ⟨gAt "next_rung", "next_rung", "next_rung", defArgs s_next_rung, defBody s_next_rung, defScope s_next_rung, [], []⟩
def dd_climbed : He5.DefA := ⟨gAt "climbed", "climbed", "climbed", defArgs s_climbed, defBody s_climbed, defScope s_climbed, [], []⟩
def dd_steps : He5.DefA := ⟨gAt "steps", "steps", "steps", defArgs s_steps, defBody s_steps, defScope s_steps, [], []⟩
def dd_law_taken : He5.DefA := ⟨gAt "_law_taken", "_law_taken", "_law_taken", defArgs s_law_taken, defBody s_law_taken, defScope s_law_taken, [], []⟩
def dd_law_pick : He5.DefA := ⟨gAt "_law_pick", "_law_pick", "_law_pick", defArgs s_law_pick, defBody s_law_pick, defScope s_law_pick, [], []⟩
def dd_law_low : He5.DefA := ⟨gAt "_law_low", "_law_low", "_law_low", defArgs s_law_low, defBody s_law_low, defScope s_law_low, [], []⟩
def dd_law_mul : He5.DefA := ⟨gAt "_law_mul", "_law_mul", "_law_mul", defArgs s_law_mul, defBody s_law_mul, defScope s_law_mul, [], []⟩
def dd_law_is_less : He5.DefA := ⟨gAt "_law_is_less", "_law_is_less", "_law_is_less", defArgs s_law_is_less, defBody s_law_is_less, defScope s_law_is_less, [], []⟩
def dd_law_masses : He5.DefA := ⟨gAt "_law_masses", "_law_masses", "_law_masses", defArgs s_law_masses, defBody s_law_masses, defScope s_law_masses, [], []⟩
def dd_law_stretches : He5.DefA := ⟨gAt "_law_stretches", "_law_stretches", "_law_stretches", defArgs s_law_stretches, defBody s_law_stretches, defScope s_law_stretches, [], []⟩
def dd_law_parts : He5.DefA := ⟨gAt "_law_parts", "_law_parts", "_law_parts", defArgs s_law_parts, defBody s_law_parts, defScope s_law_parts, [], []⟩
def dd_law_weighting : He5.DefA := ⟨gAt "_law_weighting", "_law_weighting", "_law_weighting", defArgs s_law_weighting, defBody s_law_weighting, defScope s_law_weighting, [], []⟩
def dd_law_raised : He5.DefA := ⟨gAt "_law_raised", "_law_raised", "_law_raised", defArgs s_law_raised, defBody s_law_raised, defScope s_law_raised, [], []⟩
def dd_law : He5.DefA := ⟨gAt "law", "law", "law", defArgs s_law, defBody s_law, defScope s_law, [], []⟩
def dd_p_masses : He5.DefA := ⟨propG "Weighting" "masses", "masses", "Weighting.masses", defArgs sp_p_masses, defBody sp_p_masses, defScope sp_p_masses, [], []⟩
def dd_p_stretches : He5.DefA := ⟨propG "Weighting" "stretches", "stretches", "Weighting.stretches", defArgs sp_p_stretches, defBody sp_p_stretches, defScope sp_p_stretches, [], []⟩
def fn : List He5.DefA := [dd_whole_within, dd_check_within, dd_power_of, dd_lowest, dd_plus, dd_minus, dd_times, dd_over, dd_is_less, dd_added_up, dd_with_root, dd_multiplied, dd_is_place, dd_is_mass, dd_check_masses, dd_check_stretches, dd_Weighting_init, dd_power_sum, dd_power_sums, dd_weighed, dd_square_of_sums, dd_determinant, dd_checked_sums, dd_determinants_of, dd_determinants, dd_next_least, dd_check_count, dd_next_rung, dd_climbed, dd_steps, dd_law_taken, dd_law_pick, dd_law_low, dd_law_mul, dd_law_is_less, dd_law_masses, dd_law_stretches, dd_law_parts, dd_law_weighting, dd_law_raised, dd_law, dd_p_masses, dd_p_stretches]
def fa : List He.Fa := [.free "len", .free "int", .free "bool", .free "str", .free "abs", .free "sum", .free "min", .free "max", .free "list", .free "tuple", .free "set", .free "dict", .free "sorted", .free "range", .free "enumerate", .free "zip", .free "reversed", .free "isinstance", .glo "whole_within", .glo "check_within", .glo "power_of", .glo "lowest", .glo "plus", .glo "minus", .glo "times", .glo "over", .glo "is_less", .glo "added_up", .glo "with_root", .glo "multiplied", .glo "is_place", .glo "is_mass", .glo "check_masses", .glo "check_stretches", .glo "power_sum", .glo "power_sums", .glo "weighed", .glo "square_of_sums", .glo "determinant", .glo "checked_sums", .glo "determinants_of", .glo "determinants", .glo "next_least", .glo "check_count", .glo "next_rung", .glo "climbed", .glo "steps", .glo "_law_taken", .glo "_law_pick", .glo "_law_low", .glo "_law_mul", .glo "_law_is_less", .glo "_law_masses", .glo "_law_stretches", .glo "_law_parts", .glo "_law_weighting", .glo "_law_raised", .glo "law", .glo "Weighting", .cls "Weighting", .mkr "Weighting", .noat "Weighting" "_masses", .noat "Weighting" "_stretches", .free "ValueError", .exc "NoWeighting", .glo "InvalidFraction", .glo "InvalidNumber", .glo "InvalidPlaces", .glo "InvalidPolynomial", .glo "InvalidSums", .glo "InvalidWeighting", .glo "InvalidWeights", .glo "NoWeighting", .glo "ReadingError", .glo "TooFew", .noat "InvalidSums" "index", .free "super", .glo "NOUGHT", .int "FARTHEST" (20), .int "HEAVIEST" (20), .int "MOST_MASSES" (6), .int "MOST_STRETCHES" (4), .int "MOST_POWER" (60), .glo "ONE", .int "MOST_SUMS" (9), .free "any", .int "MOST_ROOTS" (6)]
def ex (K : PySem.W.Frag) : Bool := propB "Weighting" "masses" K && (propB "Weighting" "stretches" K && (raisedB K && (supB "InvalidSums" fileN K && (bltB "gcd" "math.gcd" K && (He.tupB K "NOUGHT" [.int (0), .int (1)] && (He.tupB K "ONE" [.int (1), .int (1)]))))))
abbrev R : PySem.W.OpenRow := PySem.W.OpenLaw.row PySem.Challenge.rw_fewreadings_k12_true_weightings_have_goo
def asL : List Addr := [3, 6, 4, 52, 74, 86, 98, 119, 140, 152, 164, 185, 197, 200, 201, 208, 215, 222, 229, 236, 243, 250, 257, 264, 271, 276, 283, 321, 332, 339, 346, 353, 358, 363, 368, 373, 378, 383, 388, 395, 400, 407, 412, 419, 426, 433, 440, 447, 454, 461, 466, 473, 480, 487, 494, 499, 0, 51, 73, 85, 97, 118, 139, 151, 163, 184, 196, 207, 214, 221, 228, 235, 242, 249, 256, 263, 270, 275, 282, 320, 331, 338, 345, 352, 357, 362, 367, 372, 377, 382, 387, 394, 399, 406, 411, 418, 425, 432, 439, 446, 453, 460, 465, 472, 479, 486, 493, 498, 50, 53, 71, 72, 84, 96, 116, 117, 137, 138, 150, 162, 182, 183, 195, 202, 204, 205, 206, 209, 211, 212, 213, 216, 218, 219, 220, 223, 225, 226, 227, 230, 232, 233, 234, 237, 239, 240, 241, 244, 246, 247, 248, 251, 253, 254, 255, 258, 260, 261, 262, 265, 267, 268, 269, 272, 274, 277, 279, 280, 281, 295, 303, 311, 318, 319, 322, 323, 326, 328, 329, 330, 333, 335, 336, 337, 340, 342, 343, 344, 347, 349, 350, 351, 354, 356, 359, 361, 364, 366, 369, 371, 374, 376, 379, 381, 384, 386, 389, 391, 392, 393, 396, 398, 401, 403, 404, 405, 408, 410, 413, 415, 416, 417, 420, 422, 423, 424, 427, 429, 430, 431, 434, 436, 437, 438, 441, 443, 444, 445, 448, 450, 451, 452, 455, 457, 458, 459, 462, 464, 467, 469, 470, 471, 474, 476, 477, 478, 481, 483, 484, 485, 488, 490, 491, 492, 495, 497, 70, 59, 115, 104, 136, 125, 181, 170, 294, 302, 310, 317, 65, 67, 68, 69, 110, 112, 113, 114, 131, 133, 134, 135, 176, 178, 179, 180, 291, 293, 301, 309, 312, 314, 315, 316, 296, 298, 299, 300, 304, 306, 307, 308, 2]
def ts : List He.Defn := [("law", none)]
abbrev hk : PySem.W.Hook := hookXT asL fa fn es ts ex
def ob (s : PySem.W.SharedT) : He.AlD := obsXT asL fa fn es ts ex (HandSHeadRun.getT s)
theorem ob_eq (s : PySem.W.SharedT) : ob s = hk.obs s.abs := obsXT_eq (HandSHeadRun.getT_eq s)
abbrev looseN : List Str := (["ReadingError", "InvalidWeighting", "InvalidNumber", "InvalidPolynomial", "InvalidPlaces", "InvalidWeights", "TooFew", "InvalidFraction", "InvalidSums", "NoWeighting", "NOUGHT", "ONE", "whole_within", "check_within", "power_of", "lowest", "plus", "minus", "times", "over"] : List Str) ++ (["is_less", "added_up", "with_root", "multiplied", "FARTHEST", "HEAVIEST", "MOST_MASSES", "MOST_STRETCHES", "MOST_POWER", "Weighting", "is_place", "is_mass", "check_masses", "check_stretches", "power_sum", "power_sums", "weighed", "square_of_sums", "determinant", "MOST_SUMS"] : List Str) ++ (["checked_sums", "determinants_of", "determinants", "next_least", "MOST_ROOTS", "check_count", "next_rung", "climbed", "steps", "_law_taken", "_law_pick", "_law_low", "_law_mul", "_law_is_less", "_law_masses", "_law_stretches", "_law_parts", "_law_weighting", "_law_raised"] : List Str)
abbrev vw : Program := PySem.W.view R.prog [0, 67]
theorem run (w : World) : HandSHeadRun.RunEqI R vw hk ob 6000 looseN w := by
  unfold HandSHeadRun.RunEqI
  kernel_rfl
theorem facts {P : Program} {w : World} {K : PySem.W.Frag} {h : Heap} {mg : Str → Option Value} {f : Addr} (X : K.In h) (G : h.Ns mainGlobals mg) (hfa : mg ("law" : Str) = some (.ref f)) (c0 : SaysXS fa fn es ex K) (hPf : ((P.main.file : Str) == fileN) = true) (hPt : (P.main.scope.names.lookup ("super" : Str)).isSome = false) :
    ∃ fd : FuncData, (∀ (s : Shared) (v : Value), BindsTo s fd ⟨[v], []⟩ [("_law_script", v)]) ∧ ∀ base : Heap, K.In base → base.Ns mainGlobals mg → LamX.TabB base mg (He.codeOf K ("law", none)) (He.cT K ("law", none)).2 → FnOk P w K mg base CX0 14 f fd ["_law_script"] (sp_law K) := by
  have c := c0.old
  have B : Bi mg := ⟨He.free_ok X G (c.fact 0 (f := .free "len") rfl), He.free_ok X G (c.fact 1 (f := .free "int") rfl), He.free_ok X G (c.fact 2 (f := .free "bool") rfl), He.free_ok X G (c.fact 3 (f := .free "str") rfl), He.free_ok X G (c.fact 4 (f := .free "abs") rfl), He.free_ok X G (c.fact 5 (f := .free "sum") rfl), He.free_ok X G (c.fact 6 (f := .free "min") rfl), He.free_ok X G (c.fact 7 (f := .free "max") rfl), He.free_ok X G (c.fact 8 (f := .free "list") rfl), He.free_ok X G (c.fact 9 (f := .free "tuple") rfl), He.free_ok X G (c.fact 10 (f := .free "set") rfl), He.free_ok X G (c.fact 11 (f := .free "dict") rfl), He.free_ok X G (c.fact 12 (f := .free "sorted") rfl), He.free_ok X G (c.fact 13 (f := .free "range") rfl), He.free_ok X G (c.fact 14 (f := .free "enumerate") rfl), He.free_ok X G (c.fact 15 (f := .free "zip") rfl), He.free_ok X G (c.fact 16 (f := .free "reversed") rfl), He.free_ok X G (c.fact 17 (f := .free "isinstance") rfl)⟩
  obtain ⟨fd_whole_within, F_whole_within⟩ := c.def_ 0 (d := dd_whole_within) rfl
  obtain ⟨fd_check_within, F_check_within⟩ := c.def_ 1 (d := dd_check_within) rfl
  obtain ⟨fd_power_of, F_power_of⟩ := c.def_ 2 (d := dd_power_of) rfl
  obtain ⟨fd_lowest, F_lowest⟩ := c.def_ 3 (d := dd_lowest) rfl
  obtain ⟨fd_plus, F_plus⟩ := c.def_ 4 (d := dd_plus) rfl
  obtain ⟨fd_minus, F_minus⟩ := c.def_ 5 (d := dd_minus) rfl
  obtain ⟨fd_times, F_times⟩ := c.def_ 6 (d := dd_times) rfl
  obtain ⟨fd_over, F_over⟩ := c.def_ 7 (d := dd_over) rfl
  obtain ⟨fd_is_less, F_is_less⟩ := c.def_ 8 (d := dd_is_less) rfl
  obtain ⟨fd_added_up, F_added_up⟩ := c.def_ 9 (d := dd_added_up) rfl
  obtain ⟨fd_with_root, F_with_root⟩ := c.def_ 10 (d := dd_with_root) rfl
  obtain ⟨fd_multiplied, F_multiplied⟩ := c.def_ 11 (d := dd_multiplied) rfl
  obtain ⟨fd_is_place, F_is_place⟩ := c.def_ 12 (d := dd_is_place) rfl
  obtain ⟨fd_is_mass, F_is_mass⟩ := c.def_ 13 (d := dd_is_mass) rfl
  obtain ⟨fd_check_masses, F_check_masses⟩ := c.def_ 14 (d := dd_check_masses) rfl
  obtain ⟨fd_check_stretches, F_check_stretches⟩ := c.def_ 15 (d := dd_check_stretches) rfl
  obtain ⟨fd_Weighting_init, F_Weighting_init⟩ := c.def_ 16 (d := dd_Weighting_init) rfl
  obtain ⟨fd_power_sum, F_power_sum⟩ := c.def_ 17 (d := dd_power_sum) rfl
  obtain ⟨fd_power_sums, F_power_sums⟩ := c.def_ 18 (d := dd_power_sums) rfl
  obtain ⟨fd_weighed, F_weighed⟩ := c.def_ 19 (d := dd_weighed) rfl
  obtain ⟨fd_square_of_sums, F_square_of_sums⟩ := c.def_ 20 (d := dd_square_of_sums) rfl
  obtain ⟨fd_determinant, F_determinant⟩ := c.def_ 21 (d := dd_determinant) rfl
  obtain ⟨fd_checked_sums, F_checked_sums⟩ := c.def_ 22 (d := dd_checked_sums) rfl
  obtain ⟨fd_determinants_of, F_determinants_of⟩ := c.def_ 23 (d := dd_determinants_of) rfl
  obtain ⟨fd_determinants, F_determinants⟩ := c.def_ 24 (d := dd_determinants) rfl
  obtain ⟨fd_next_least, F_next_least⟩ := c.def_ 25 (d := dd_next_least) rfl
  obtain ⟨fd_check_count, F_check_count⟩ := c.def_ 26 (d := dd_check_count) rfl
  obtain ⟨fd_next_rung, F_next_rung⟩ := c.def_ 27 (d := dd_next_rung) rfl
  obtain ⟨fd_climbed, F_climbed⟩ := c.def_ 28 (d := dd_climbed) rfl
  obtain ⟨fd_steps, F_steps⟩ := c.def_ 29 (d := dd_steps) rfl
  obtain ⟨fd_law_taken, F_law_taken⟩ := c.def_ 30 (d := dd_law_taken) rfl
  obtain ⟨fd_law_pick, F_law_pick⟩ := c.def_ 31 (d := dd_law_pick) rfl
  obtain ⟨fd_law_low, F_law_low⟩ := c.def_ 32 (d := dd_law_low) rfl
  obtain ⟨fd_law_mul, F_law_mul⟩ := c.def_ 33 (d := dd_law_mul) rfl
  obtain ⟨fd_law_is_less, F_law_is_less⟩ := c.def_ 34 (d := dd_law_is_less) rfl
  obtain ⟨fd_law_masses, F_law_masses⟩ := c.def_ 35 (d := dd_law_masses) rfl
  obtain ⟨fd_law_stretches, F_law_stretches⟩ := c.def_ 36 (d := dd_law_stretches) rfl
  obtain ⟨fd_law_parts, F_law_parts⟩ := c.def_ 37 (d := dd_law_parts) rfl
  obtain ⟨fd_law_weighting, F_law_weighting⟩ := c.def_ 38 (d := dd_law_weighting) rfl
  obtain ⟨fd_law_raised, F_law_raised⟩ := c.def_ 39 (d := dd_law_raised) rfl
  obtain ⟨fd_law, F_law⟩ := c.def_ 40 (d := dd_law) rfl
  obtain ⟨fd_p_masses, F_p_masses⟩ := c.def_ 41 (d := dd_p_masses) rfl
  obtain ⟨fd_p_stretches, F_p_stretches⟩ := c.def_ 42 (d := dd_p_stretches) rfl
  have e0 := c.ext
  obtain ⟨x0, e1⟩ := He.ba e0
  obtain ⟨x1, e2⟩ := He.ba e1
  obtain ⟨x2, e3⟩ := He.ba e2
  obtain ⟨x3, e4⟩ := He.ba e3
  obtain ⟨x4, e5⟩ := He.ba e4
  obtain ⟨x5, e6⟩ := He.ba e5
  have x6 := e6
  have cx_InvalidFraction := He.glo_ok X G (c.fact 65 (f := .glo "InvalidFraction") rfl)
  have cx_InvalidNumber := He.glo_ok X G (c.fact 66 (f := .glo "InvalidNumber") rfl)
  have cx_InvalidPlaces := He.glo_ok X G (c.fact 67 (f := .glo "InvalidPlaces") rfl)
  have cx_InvalidPolynomial := He.glo_ok X G (c.fact 68 (f := .glo "InvalidPolynomial") rfl)
  have cx_InvalidSums := He.glo_ok X G (c.fact 69 (f := .glo "InvalidSums") rfl)
  have cx_InvalidWeighting := He.glo_ok X G (c.fact 70 (f := .glo "InvalidWeighting") rfl)
  have cx_InvalidWeights := He.glo_ok X G (c.fact 71 (f := .glo "InvalidWeights") rfl)
  have cx_NoWeighting := He.glo_ok X G (c.fact 72 (f := .glo "NoWeighting") rfl)
  have cx_ReadingError := He.glo_ok X G (c.fact 73 (f := .glo "ReadingError") rfl)
  have cx_TooFew := He.glo_ok X G (c.fact 74 (f := .glo "TooFew") rfl)
  have nf_InvalidSums_index := He.noat_ok (c.fact 75 (f := .noat "InvalidSums" "index") rfl)
  have G0_NoWeighting : KnP0 K mg "NoWeighting" := by
    obtain ⟨z1, z2, z3, z4⟩ := He.exc_ok (c.fact 64 (f := .exc "NoWeighting") rfl)
    exact ⟨z1, z2, z3, z4, cx_NoWeighting⟩
  have hVE := He.free_ok X G (c.fact 63 (f := .free "ValueError") rfl)
  have RK := raisedB_ok x2
  have sup0 := He.free_ok X G (c.fact 76 (f := .free "super") rfl)
  obtain ⟨fd_InvalidSums, cda_InvalidSums, cc_InvalidSums, I_InvalidSums⟩ := c0.ini (P := P) (mg := mg) (x := "InvalidSums") (file := fileN) 0 (d := dd_InvalidSums_init) rfl rfl x3 hPf sup0 hPt
  have c_gcd := bltB_ok X G x4
  have c_NOUGHT := He.glo_ok X G (c.fact 77 (f := .glo "NOUGHT") rfl)
  have d_NOUGHT : ∀ F, Dq K F (.ref (He.ga K "NOUGHT")) (.tuple [.int (0), .int (1)]) := fun F => .tup (He.tupB_ok x5 F) (.cons (Dq.int _) (.cons (Dq.int _) (.nil)))
  have c_FARTHEST := He.int_ok X G (c.fact 78 (f := .int "FARTHEST" (20)) rfl)
  have c_HEAVIEST := He.int_ok X G (c.fact 79 (f := .int "HEAVIEST" (20)) rfl)
  have c_MOST_MASSES := He.int_ok X G (c.fact 80 (f := .int "MOST_MASSES" (6)) rfl)
  have c_MOST_STRETCHES := He.int_ok X G (c.fact 81 (f := .int "MOST_STRETCHES" (4)) rfl)
  have c_MOST_POWER := He.int_ok X G (c.fact 82 (f := .int "MOST_POWER" (60)) rfl)
  have c_ONE := He.glo_ok X G (c.fact 83 (f := .glo "ONE") rfl)
  have d_ONE : ∀ F, Dq K F (.ref (He.ga K "ONE")) (.tuple [.int (1), .int (1)]) := fun F => .tup (He.tupB_ok x6 F) (.cons (Dq.int _) (.cons (Dq.int _) (.nil)))
  have g_determinant := He.glo_ok X G (c.fact 38 (f := .glo "determinant") rfl)
  have b_determinant : Binds K fd_determinant ["square"] [] := F_determinant.bindsN fun _ _ _ _ _ _ us hl => match us, hl with | [_], _ => rfl
  have c_MOST_SUMS := He.int_ok X G (c.fact 84 (f := .int "MOST_SUMS" (9)) rfl)
  have b_any := He.free_ok X G (c.fact 85 (f := .free "any") rfl)
  have c_MOST_ROOTS := He.int_ok X G (c.fact 86 (f := .int "MOST_ROOTS" (6)) rfl)
  have cl := He.cls_ok (c.fact 59 (f := .cls "Weighting") rfl)
  have n_masses := He.noat_ok (c.fact 61 (f := .noat "Weighting" "_masses") rfl)
  have n_stretches := He.noat_ok (c.fact 62 (f := .noat "Weighting" "_stretches") rfl)
  have e := hfa.symm.trans (He.glo_ok X G (c.fact 57 (f := .glo "law") rfl))
  cases e
  have bl := FunD.bindsA (ps := ["_law_script"]) F_law fun _ _ _ _ _ _ us hl => match us, hl with | [_], _ => rfl
  refine ⟨fd_law, fun s v => bl s [v] rfl, fun base _ _ TB => ?_⟩
  have cl_W := cl
  have na_masses := n_masses
  have na_stretches := n_stretches
  have c_W := He.glo_ok X G (c.fact 58 (f := .glo "Weighting") rfl)
  have GP_masses : KnP P w K mg base (He.ga K "Weighting") "masses" "_masses" := knP_of x0 cl n_masses F_p_masses ⟨rfl, rfl, rfl, by decide +kernel, rfl, by decide +kernel, by decide +kernel⟩ rfl fun _ _ _ _ _ _ us hl => match us, hl with | [_], _ => rfl
  have GP_stretches : KnP P w K mg base (He.ga K "Weighting") "stretches" "_stretches" := knP_of x1 cl n_stretches F_p_stretches ⟨rfl, rfl, rfl, by decide +kernel, rfl, by decide +kernel, by decide +kernel⟩ rfl fun _ _ _ _ _ _ us hl => match us, hl with | [_], _ => rfl
  have GX_InvalidSums : KnX P w K mg base "InvalidSums" 1 ["self", "index"] (spI1 (He.ga K "InvalidSums") "index") := ⟨⟨_, ok_InvalidSums_init I_InvalidSums nf_InvalidSums_index, I_InvalidSums.binds rfl (fun _ _ _ _ _ _ _ us hl => match us, hl with | [_, _], _ => rfl)⟩, I_InvalidSums.sc.oex, I_InvalidSums.ini, I_InvalidSums.typ, cx_InvalidSums⟩
  have G_whole_within : Kn P w K mg base "whole_within" 1 ["number", "low", "high"] (sp_whole_within K) := ⟨_, _, ok_whole_within (C := He.ga K "Weighting") B F_whole_within, He.glo_ok X G (c.fact 18 (f := .glo "whole_within") rfl), F_whole_within.kp, F_whole_within.bindsN fun _ _ _ _ _ _ us hl => match us, hl with | [_, _, _], _ => rfl⟩
  have G_check_within : Kn P w K mg base "check_within" 2 ["number", "low", "high"] (sp_check_within K) := ⟨_, _, ok_check_within (C := He.ga K "Weighting") B F_check_within G_whole_within, He.glo_ok X G (c.fact 19 (f := .glo "check_within") rfl), F_check_within.kp, F_check_within.bindsN fun _ _ _ _ _ _ us hl => match us, hl with | [_, _, _], _ => rfl⟩
  have G_power_of : Kn P w K mg base "power_of" 1 ["base", "power"] (sp_power_of K) := ⟨_, _, ok_power_of (C := He.ga K "Weighting") B F_power_of, He.glo_ok X G (c.fact 20 (f := .glo "power_of") rfl), F_power_of.kp, F_power_of.bindsN fun _ _ _ _ _ _ us hl => match us, hl with | [_, _], _ => rfl⟩
  have G_lowest : Kn P w K mg base "lowest" 1 ["top", "bottom"] (sp_lowest K) := ⟨_, _, ok_lowest (C := He.ga K "Weighting") B F_lowest c_gcd, He.glo_ok X G (c.fact 21 (f := .glo "lowest") rfl), F_lowest.kp, F_lowest.bindsN fun _ _ _ _ _ _ us hl => match us, hl with | [_, _], _ => rfl⟩
  have G_plus : Kn P w K mg base "plus" 2 ["one", "other"] (sp_plus K) := ⟨_, _, ok_plus (C := He.ga K "Weighting") B F_plus G_lowest, He.glo_ok X G (c.fact 22 (f := .glo "plus") rfl), F_plus.kp, F_plus.bindsN fun _ _ _ _ _ _ us hl => match us, hl with | [_, _], _ => rfl⟩
  have G_minus : Kn P w K mg base "minus" 2 ["one", "other"] (sp_minus K) := ⟨_, _, ok_minus (C := He.ga K "Weighting") B F_minus G_lowest, He.glo_ok X G (c.fact 23 (f := .glo "minus") rfl), F_minus.kp, F_minus.bindsN fun _ _ _ _ _ _ us hl => match us, hl with | [_, _], _ => rfl⟩
  have G_times : Kn P w K mg base "times" 2 ["one", "other"] (sp_times K) := ⟨_, _, ok_times (C := He.ga K "Weighting") B F_times G_lowest, He.glo_ok X G (c.fact 24 (f := .glo "times") rfl), F_times.kp, F_times.bindsN fun _ _ _ _ _ _ us hl => match us, hl with | [_, _], _ => rfl⟩
  have G_over : Kn P w K mg base "over" 2 ["one", "other"] (sp_over K) := ⟨_, _, ok_over (C := He.ga K "Weighting") B F_over G_lowest, He.glo_ok X G (c.fact 25 (f := .glo "over") rfl), F_over.kp, F_over.bindsN fun _ _ _ _ _ _ us hl => match us, hl with | [_, _], _ => rfl⟩
  have G_is_less : Kn P w K mg base "is_less" 1 ["one", "other"] (sp_is_less K) := ⟨_, _, ok_is_less (C := He.ga K "Weighting") B F_is_less, He.glo_ok X G (c.fact 26 (f := .glo "is_less") rfl), F_is_less.kp, F_is_less.bindsN fun _ _ _ _ _ _ us hl => match us, hl with | [_, _], _ => rfl⟩
  have G_added_up : Kn P w K mg base "added_up" 3 ["fractions"] (sp_added_up K) := ⟨_, _, ok_added_up (C := He.ga K "Weighting") B F_added_up G_plus c_NOUGHT d_NOUGHT, He.glo_ok X G (c.fact 27 (f := .glo "added_up") rfl), F_added_up.kp, F_added_up.bindsN fun _ _ _ _ _ _ us hl => match us, hl with | [_], _ => rfl⟩
  have G_with_root : Kn P w K mg base "with_root" 3 ["polynomial", "place"] (sp_with_root K) := ⟨_, _, ok_with_root (C := He.ga K "Weighting") B F_with_root G_times G_minus c_NOUGHT d_NOUGHT, He.glo_ok X G (c.fact 28 (f := .glo "with_root") rfl), F_with_root.kp, F_with_root.bindsN fun _ _ _ _ _ _ us hl => match us, hl with | [_, _], _ => rfl⟩
  have G_multiplied : Kn P w K mg base "multiplied" 3 ["one", "other"] (sp_multiplied K) := ⟨_, _, ok_multiplied (C := He.ga K "Weighting") B F_multiplied G_plus G_times c_NOUGHT d_NOUGHT, He.glo_ok X G (c.fact 29 (f := .glo "multiplied") rfl), F_multiplied.kp, F_multiplied.bindsN fun _ _ _ _ _ _ us hl => match us, hl with | [_, _], _ => rfl⟩
  have G_is_place : Kn P w K mg base "is_place" 2 ["number"] (sp_is_place K) := ⟨_, _, ok_is_place (C := He.ga K "Weighting") B F_is_place G_whole_within c_FARTHEST, He.glo_ok X G (c.fact 30 (f := .glo "is_place") rfl), F_is_place.kp, F_is_place.bindsN fun _ _ _ _ _ _ us hl => match us, hl with | [_], _ => rfl⟩
  have G_is_mass : Kn P w K mg base "is_mass" 2 ["number"] (sp_is_mass K) := ⟨_, _, ok_is_mass (C := He.ga K "Weighting") B F_is_mass G_whole_within c_HEAVIEST, He.glo_ok X G (c.fact 31 (f := .glo "is_mass") rfl), F_is_mass.kp, F_is_mass.bindsN fun _ _ _ _ _ _ us hl => match us, hl with | [_], _ => rfl⟩
  have G_check_masses : Kn P w K mg base "check_masses" 3 ["masses"] (sp_check_masses K) := ⟨_, _, ok_check_masses (C := He.ga K "Weighting") B F_check_masses G_is_place G_is_mass c_FARTHEST c_MOST_MASSES, He.glo_ok X G (c.fact 32 (f := .glo "check_masses") rfl), F_check_masses.kp, F_check_masses.bindsN fun _ _ _ _ _ _ us hl => match us, hl with | [_], _ => rfl⟩
  have G_check_stretches : Kn P w K mg base "check_stretches" 3 ["stretches"] (sp_check_stretches K) := ⟨_, _, ok_check_stretches (C := He.ga K "Weighting") B F_check_stretches G_is_place G_is_mass c_FARTHEST c_MOST_STRETCHES, He.glo_ok X G (c.fact 33 (f := .glo "check_stretches") rfl), F_check_stretches.kp, F_check_stretches.bindsN fun _ _ _ _ _ _ us hl => match us, hl with | [_], _ => rfl⟩
  have GC_Weighting : KnC P w K mg base CX0 "Weighting" (He.ga K "Weighting") 4 ["self", "masses", "stretches"] (spW0 Weighting_init K (He.ga K "Weighting")) := ⟨⟨_, _, He.mkr_ok (c.fact 60 (f := .mkr "Weighting") rfl), ok_Weighting_init (C := He.ga K "Weighting") B cl n_masses n_stretches F_Weighting_init G_check_masses G_check_stretches, F_Weighting_init.bindsN fun _ _ _ _ _ _ us hl => match us, hl with | [_, _, _], _ => rfl⟩, He.glo_ok X G (c.fact 58 (f := .glo "Weighting") rfl)⟩
  have G_power_sum : Kn P w K mg base "power_sum" 3 ["weighting", "power"] (sp_power_sum K (He.ga K "Weighting")) := ⟨_, _, ok_power_sum (C := He.ga K "Weighting") B F_power_sum G_check_within G_power_of G_lowest c_MOST_POWER GP_masses GP_stretches, He.glo_ok X G (c.fact 34 (f := .glo "power_sum") rfl), F_power_sum.kp, F_power_sum.bindsN fun _ _ _ _ _ _ us hl => match us, hl with | [_, _], _ => rfl⟩
  have G_power_sums : Kn P w K mg base "power_sums" 4 ["weighting", "count"] (sp_power_sums K (He.ga K "Weighting")) := ⟨_, _, ok_power_sums (C := He.ga K "Weighting") B F_power_sums G_check_within G_power_sum c_MOST_POWER, He.glo_ok X G (c.fact 35 (f := .glo "power_sums") rfl), F_power_sums.kp, F_power_sums.bindsN fun _ _ _ _ _ _ us hl => match us, hl with | [_, _], _ => rfl⟩
  have G_weighed : Kn P w K mg base "weighed" 4 ["weighting", "coefficients"] (sp_weighed K (He.ga K "Weighting")) := ⟨_, _, ok_weighed (C := He.ga K "Weighting") B F_weighed G_added_up G_times G_power_sum, He.glo_ok X G (c.fact 36 (f := .glo "weighed") rfl), F_weighed.kp, F_weighed.bindsN fun _ _ _ _ _ _ us hl => match us, hl with | [_, _], _ => rfl⟩
  have G_square_of_sums : Kn P w K mg base "square_of_sums" 1 ["sums", "size"] (sp_square_of_sums K) := ⟨_, _, ok_square_of_sums (C := He.ga K "Weighting") B F_square_of_sums, He.glo_ok X G (c.fact 37 (f := .glo "square_of_sums") rfl), F_square_of_sums.kp, F_square_of_sums.bindsN fun _ _ _ _ _ _ us hl => match us, hl with | [_, _], _ => rfl⟩
  have G_determinant : Kn P w K mg base "determinant" 9 ["square"] (sp_determinant K 6) := ⟨_, _, ok_determinant (C := He.ga K "Weighting") B F_determinant G_times G_plus G_minus c_NOUGHT d_NOUGHT c_ONE d_ONE g_determinant b_determinant 6, He.glo_ok X G (c.fact 38 (f := .glo "determinant") rfl), F_determinant.kp, F_determinant.bindsN fun _ _ _ _ _ _ us hl => match us, hl with | [_], _ => rfl⟩
  have G_checked_sums : Kx P w K mg base "checked_sums" 3 ["sums"] (sp_checked_sums K) := ⟨_, _, ok_checked_sums (C := He.ga K "Weighting") B F_checked_sums G_lowest c_MOST_SUMS GX_InvalidSums, He.glo_ok X G (c.fact 39 (f := .glo "checked_sums") rfl), F_checked_sums.kp, F_checked_sums.bindsN fun _ _ _ _ _ _ us hl => match us, hl with | [_], _ => rfl⟩
  have G_determinants_of : Kn P w K mg base "determinants_of" 10 ["checked"] (sp_determinants_of K) := ⟨_, _, ok_determinants_of (C := He.ga K "Weighting") B F_determinants_of G_determinant G_square_of_sums, He.glo_ok X G (c.fact 40 (f := .glo "determinants_of") rfl), F_determinants_of.kp, F_determinants_of.bindsN fun _ _ _ _ _ _ us hl => match us, hl with | [_], _ => rfl⟩
  have G_determinants : Kn P w K mg base "determinants" 11 ["sums"] (sp_determinants K) := ⟨_, _, ok_determinants (C := He.ga K "Weighting") B F_determinants G_determinants_of G_checked_sums, He.glo_ok X G (c.fact 41 (f := .glo "determinants") rfl), F_determinants.kp, F_determinants.bindsN fun _ _ _ _ _ _ us hl => match us, hl with | [_], _ => rfl⟩
  have G_next_least : Kx P w K mg base "next_least" 11 ["sums"] (sp_next_least K) := ⟨_, _, ok_next_least (C := He.ga K "Weighting") B F_next_least G_checked_sums G_determinants_of G_is_less G_determinant G_square_of_sums G_over G_minus c_NOUGHT d_NOUGHT G0_NoWeighting GX_InvalidSums b_any, He.glo_ok X G (c.fact 42 (f := .glo "next_least") rfl), F_next_least.kp, F_next_least.bindsN fun _ _ _ _ _ _ us hl => match us, hl with | [_], _ => rfl⟩
  have G_check_count : Kn P w K mg base "check_count" 3 ["weighting", "count", "least"] (sp_check_count K (He.ga K "Weighting")) := ⟨_, _, ok_check_count (C := He.ga K "Weighting") B F_check_count G_check_within c_MOST_ROOTS GP_masses GP_stretches, He.glo_ok X G (c.fact 43 (f := .glo "check_count") rfl), F_check_count.kp, F_check_count.bindsN fun _ _ _ _ _ _ us hl => match us, hl with | [_, _, _], _ => rfl⟩
  have G_next_rung : Kn P w K mg base "next_rung" 4 ["present", "ahead", "step"] (sp_next_rung K) := ⟨_, _, ok_next_rung (C := He.ga K "Weighting") B F_next_rung G_with_root G_times G_minus c_NOUGHT d_NOUGHT, He.glo_ok X G (c.fact 44 (f := .glo "next_rung") rfl), F_next_rung.kp, F_next_rung.bindsN fun _ _ _ _ _ _ us hl => match us, hl with | [_, _, _], _ => rfl⟩
  have G_climbed : Kn P w K mg base "climbed" 5 ["weighting", "count"] (sp_climbed K (He.ga K "Weighting")) := ⟨_, _, ok_climbed (C := He.ga K "Weighting") B F_climbed G_multiplied G_weighed G_over G_next_rung c_NOUGHT d_NOUGHT c_ONE d_ONE, He.glo_ok X G (c.fact 45 (f := .glo "climbed") rfl), F_climbed.kp, F_climbed.bindsN fun _ _ _ _ _ _ us hl => match us, hl with | [_, _], _ => rfl⟩
  have G_steps : Kn P w K mg base "steps" 6 ["weighting", "count"] (sp_steps K (He.ga K "Weighting")) := ⟨_, _, ok_steps (C := He.ga K "Weighting") B F_steps G_check_count G_climbed, He.glo_ok X G (c.fact 46 (f := .glo "steps") rfl), F_steps.kp, F_steps.bindsN fun _ _ _ _ _ _ us hl => match us, hl with | [_, _], _ => rfl⟩
  have G_law_taken : Kn P w K mg base "_law_taken" 1 ["_law_row", "_law_many"] (spTaken takenA K) := ⟨_, _, ok_law_taken B F_law_taken, He.glo_ok X G (c.fact 47 (f := .glo "_law_taken") rfl), F_law_taken.kp, F_law_taken.bindsN fun _ _ _ _ _ _ us hl => match us, hl with | [_, _], _ => rfl⟩
  have G_law_pick : Kn P w K mg base "_law_pick" 2 ["_law_row", "_law_some"] (spPick takenA K) := ⟨_, _, ok_law_pick B F_law_pick G_law_taken, He.glo_ok X G (c.fact 48 (f := .glo "_law_pick") rfl), F_law_pick.kp, F_law_pick.bindsN fun _ _ _ _ _ _ us hl => match us, hl with | [_, _], _ => rfl⟩
  have G_law_low : Kn P w K mg base "_law_low" 1 ["_law_top", "_law_bottom"] (sp_law_low K) := ⟨_, _, ok_law_low (C := He.ga K "Weighting") B F_law_low, He.glo_ok X G (c.fact 49 (f := .glo "_law_low") rfl), F_law_low.kp, F_law_low.bindsN fun _ _ _ _ _ _ us hl => match us, hl with | [_, _], _ => rfl⟩
  have G_law_mul : Kn P w K mg base "_law_mul" 2 ["_law_one", "_law_other"] (sp_law_mul K) := ⟨_, _, ok_law_mul (C := He.ga K "Weighting") B F_law_mul G_law_low, He.glo_ok X G (c.fact 50 (f := .glo "_law_mul") rfl), F_law_mul.kp, F_law_mul.bindsN fun _ _ _ _ _ _ us hl => match us, hl with | [_, _], _ => rfl⟩
  have G_law_is_less : Kn P w K mg base "_law_is_less" 1 ["_law_one", "_law_other"] (sp_law_is_less K) := ⟨_, _, ok_law_is_less (C := He.ga K "Weighting") B F_law_is_less, He.glo_ok X G (c.fact 51 (f := .glo "_law_is_less") rfl), F_law_is_less.kp, F_law_is_less.bindsN fun _ _ _ _ _ _ us hl => match us, hl with | [_, _], _ => rfl⟩
  have G_law_masses : Kn P w K mg base "_law_masses" 3 ["_law_row", "_law_most", "_law_far"] (sp_law_masses K) := ⟨_, _, ok_law_masses (C := He.ga K "Weighting") B F_law_masses G_law_taken G_law_pick, He.glo_ok X G (c.fact 52 (f := .glo "_law_masses") rfl), F_law_masses.kp, F_law_masses.bindsN fun _ _ _ _ _ _ us hl => match us, hl with | [_, _, _], _ => rfl⟩
  have G_law_stretches : Kn P w K mg base "_law_stretches" 2 ["_law_row", "_law_most", "_law_far"] (sp_law_stretches K) := ⟨_, _, ok_law_stretches (C := He.ga K "Weighting") B F_law_stretches G_law_taken, He.glo_ok X G (c.fact 53 (f := .glo "_law_stretches") rfl), F_law_stretches.kp, F_law_stretches.bindsN fun _ _ _ _ _ _ us hl => match us, hl with | [_, _, _], _ => rfl⟩
  have G_law_parts : Kn P w K mg base "_law_parts" 4 ["_law_row"] (sp_law_parts K) := ⟨_, _, ok_law_parts (C := He.ga K "Weighting") B F_law_parts G_law_pick G_law_masses G_law_stretches, He.glo_ok X G (c.fact 54 (f := .glo "_law_parts") rfl), F_law_parts.kp, F_law_parts.bindsN fun _ _ _ _ _ _ us hl => match us, hl with | [_], _ => rfl⟩
  have G_law_weighting : Kn P w K mg base "_law_weighting" 6 ["_law_parts_here"] (sp_law_weighting K (He.ga K "Weighting")) := ⟨_, _, ok_law_weighting (C := He.ga K "Weighting") B F_law_weighting GC_Weighting, He.glo_ok X G (c.fact 55 (f := .glo "_law_weighting") rfl), F_law_weighting.kp, F_law_weighting.bindsN fun _ _ _ _ _ _ us hl => match us, hl with | [_], _ => rfl⟩
  have A_law_raised := ask_of F_law_raised (He.glo_ok X G (c.fact 56 (f := .glo "_law_raised") rfl)) (F_law_raised.bindsN fun _ _ _ _ _ _ us hl => match us, hl with | [_], _ => rfl)
  exact ok_law (f := 0) (C := He.ga K "Weighting") B F_law G_law_parts G_law_weighting G_determinants G_power_sums G_next_least G_power_sum G_law_is_less G_steps G_law_mul A_law_raised RK TB cx_InvalidFraction cx_InvalidNumber cx_InvalidPlaces cx_InvalidPolynomial cx_InvalidSums cx_InvalidWeighting cx_InvalidWeights cx_NoWeighting cx_ReadingError cx_TooFew hVE
open PySem PySem.W PySem.Calls PyProof.Rows
theorem of_law (math : ∀ scr : List Int, scr.length ≤ 63 → law scr = .ok true) : PySem.Challenge.rw_fewreadings_k12_true_weightings_have_goo.Holds := by
  w_on; o_law
  refine HandSHeadRun.head_imp (r := R) (q := vw) (H := hk) (ob := ob) (M := 6000) (loose := looseN) (d := HandSHeadRun.topDef R.prog 67) (kwd := []) ob_eq
    run (by kernel_rfl) (by kernel_rfl) (by kernel_rfl) (by rfl) (by first | assumption | decide +kernel) (by decide +kernel) ⟨rfl, rfl, rfl, rfl, rfl, by decide +kernel⟩ ?hw ?hc
  case hw => w_witness2
  case hc =>
    refine LamX.walk_ofTsE (l := PySem.Challenge.rw_fewreadings_k12_true_weightings_have_goo) (n := 63) (k := 14) (x := "_law_script") (CX := fun _ => L2.CX0) rfl (by decide) (by kernel_rfl) ⟨rfl, by decide, by decide⟩ ?F (fun _ _ _ _ _ z => z)
    intro w mg fa h Y G hmg0
    obtain ⟨K, KX, c, tk⟩ := Y
    have hmg : mg ("law" : PySem.Str) = some (.ref fa) := by
      have e : (HandSHeadRun.topDef R.prog 67).name = ("law" : PySem.Str) := by kernel_rfl
      rw [← e]
      exact hmg0
    obtain ⟨fd, hb, hF⟩ := facts (P := PySem.Challenge.rw_fewreadings_k12_true_weightings_have_goo.prog) (w := w) KX G hmg c (by kernel_rfl) (by kernel_rfl)
    have t1 := tk ("law", none) (List.mem_singleton.mpr rfl)
    refine ⟨K, KX, fd, [He.cT K ("law", none)], sp_law K, fun q hq => ?_, fun q hq => ?_, fun q hq => ?_, hb, fun H a ns hl _ hT hS => ⟨a, ns, rfl, hS, hT _ (List.mem_singleton.mpr rfl), ?_⟩, fun base hK hN tb => hF base hK hN (tb _ (List.mem_singleton.mpr rfl))⟩
    · rw [List.mem_singleton.mp hq]; exact t1.empty
    · rw [List.mem_singleton.mp hq]; exact t1.out
    · rw [List.mem_singleton.mp hq]; exact PySem.W.codeHd_of_K KX t1.hd
    · rw [math ns hl]; exact ⟨fun H => rfl⟩
end L

set_option Elab.async false
set_option linter.all false
set_option maxRecDepth 100000
set_option maxHeartbeats 2000000
set_option exponentiation.threshold 100
namespace L
open PySem L2 Evl Wk
/-! ### fractions, in any terms -/
theorem lowest_any {a b : Int} {n : Nat} (h : b ≠ 0) (hb : b.natAbs < 2 ^ n) (hn : n < 9000) : lowest a b = .ok (fr ((a : Rat) / (b : Rat))) := by
  unfold lowest
  have g1 := Nat.lt_of_le_of_lt (gcd_leZ (a := a) h) hb
  have g0 := gcd_posZ (a := a) h
  by_cases q : b < 0
  · rw [cT (decide_eq_true q), bdo, div_any (by omega) (by rw [Int.natAbs_neg]; exact g1) hn, bdo, div_any (by omega) (by rw [Int.natAbs_neg]; exact g1) hn, bdo, fr_neg q]
  · rw [cF (decide_eq_false q), bdo, div_any (by omega) g1 hn, bdo, div_any (by omega) g1 hn, bdo, fr_pos (by omega)]
theorem lowest_ok {a b : Int} {n : Nat} (h : 0 < b) (hb : b.natAbs < 2 ^ n) (hn : n < 9000) : lowest a b = .ok (fr ((a : Rat) / (b : Rat))) := lowest_any (by omega) hb hn
theorem lowest_x {x : Int × Int} {q : Rat} {n : Nat} (h : Rx n x q) (hn : n < 9000) : lowest x.1 x.2 = .ok (fr q) := by rw [lowest_any h.nz h.b hn, h.v]
theorem plus_x {x y : Int × Int} {p q : Rat} {a b : Nat} (hx : Rx a x p) (hy : Rx b y q) (h : a + b < 8999) : plus x y = .ok (fr (p + q)) := by
  unfold plus
  rw [mul_ok hx.t hy.b (by omega), bdo, mul_ok hy.t hx.b (by omega), bdo, mul_ok hx.b hy.b (by omega), bdo, lowest_any (mul_nz hx.nz hy.nz) (mul_lt hx.b hy.b (Nat.le_refl _)) (by omega), bdo, rx_add hx hy]
theorem minus_x {x y : Int × Int} {p q : Rat} {a b : Nat} (hx : Rx a x p) (hy : Rx b y q) (h : a + b < 8999) : minus x y = .ok (fr (p - q)) := by
  unfold minus
  rw [mul_ok hx.t hy.b (by omega), bdo, mul_ok hy.t hx.b (by omega), bdo, mul_ok hx.b hy.b (by omega), bdo, lowest_any (mul_nz hx.nz hy.nz) (mul_lt hx.b hy.b (Nat.le_refl _)) (by omega), bdo, rx_sub hx hy]
theorem times_x {x y : Int × Int} {p q : Rat} {a b : Nat} (hx : Rx a x p) (hy : Rx b y q) (h : a + b < 8999) : times x y = .ok (fr (p * q)) := by
  unfold times
  rw [mul_ok hx.t hy.t (by omega), bdo, mul_ok hx.b hy.b (by omega), bdo, lowest_any (mul_nz hx.nz hy.nz) (mul_lt hx.b hy.b (Nat.le_refl _)) (by omega), bdo, rx_mul hx hy]
theorem plus_ok {p q : Rat} {a b : Nat} (ha : Sq a p) (hb : Sq b q) (h : a + b < 8999) : plus (fr p) (fr q) = .ok (fr (p + q)) := plus_x (rx_fr ha) (rx_fr hb) h
theorem minus_ok {p q : Rat} {a b : Nat} (ha : Sq a p) (hb : Sq b q) (h : a + b < 8999) : minus (fr p) (fr q) = .ok (fr (p - q)) := minus_x (rx_fr ha) (rx_fr hb) h
theorem times_ok {p q : Rat} {a b : Nat} (ha : Sq a p) (hb : Sq b q) (h : a + b < 8999) : times (fr p) (fr q) = .ok (fr (p * q)) := times_x (rx_fr ha) (rx_fr hb) h
theorem over_x {x y : Int × Int} {p q : Rat} {a b : Nat} (hx : Rx a x p) (hy : Rx b y q) (hq : q ≠ 0) (h : a + b < 8999) : over x y = .ok (fr (p / q)) := by
  unfold over
  rw [mul_ok hx.t hy.b (by omega), bdo, mul_ok hx.b hy.t (by omega), bdo, lowest_any (mul_nz hx.nz (hy.top hq)) (mul_lt hx.b hy.t (Nat.le_refl _)) (by omega), bdo, rx_div hx hy hq]
theorem over_ok {p q : Rat} {a b : Nat} (ha : Sq a p) (hb : Sq b q) (hq : q ≠ 0) (h : a + b < 8999) : over (fr p) (fr q) = .ok (fr (p / q)) := over_x (rx_fr ha) (rx_fr hb) hq h
theorem is_less_ok {p q : Rat} {a b : Nat} (ha : Sq a p) (hb : Sq b q) (h : a + b < 8999) : is_less (fr p) (fr q) = .ok (decide (p < q)) := by
  unfold is_less
  rw [mul_ok (i := (fr p).1) (j := (fr q).2) ha.1 hb.d (by omega), bdo, mul_ok (i := (fr q).1) (j := (fr p).2) hb.1 ha.d (by omega), bdo]
  congr 1
  exact decide_eq_decide.mpr (Rat.lt_iff p q).symm
theorem added_up_ok {c : Nat} (l : List Rat) (h : Sqs c l) (hl : (c + 1) * l.length < 8996) : added_up (l.map fr) = .ok (fr l.sum) ∧ Sq (1 + (c + 1) * l.length) l.sum := by
  unfold added_up
  rw [foldM_map]
  obtain ⟨A, B⟩ := fold_fr0 (f := fun (s : Int × Int) (x : Rat) => (plus s (fr x)).bd fun b => Mm.ok b) (v := id) (c := c) l (fun x hx => ⟨h x hx, fun p a ha hn => by rw [plus_ok ha (h x hx) hn, bdo]; rfl⟩) hl
  rw [List.map_id] at A B
  exact ⟨by rw [A, bdo], B⟩
/-! ### places, weights, polynomials that are handed in -/
theorem asc_step {f : List (Int × Int) → Int × (Int × Int) → Mm (List (Int × Int))} {done : List Rat} {p : Rat} {x : Int × Int} {most : Int} {c : Nat} (hc : c < 4000)
    (hf : ∀ s y, f s y = cond ((decide (y.1 = most)) || (decide (y.2.2 = (0 : Int)))) (Mm.bad) ((lowest (y.2.1) (y.2.2)).bd fun b49 => (cond (decide (y.1 > (0 : Int))) ((getM s (-(1 : Int))).bd fun i60 => (is_less (i60) (b49)).bd fun b65 => Mm.ok (!b65)) (Mm.ok false)).bd fun b56 => cond b56 (Mm.bad) ((guardM (s.length < 100000)).bd fun _ => Mm.ok (s ++ [b49]))))
    (hw : Rx c x p) (ha : ∀ q ∈ done, q < p) (hs : Sqs c done) (hl : (done.length : Int) < most) (hm : most ≤ 6) : f (done.map fr) ((done.length : Int), x) = .ok ((done ++ [p]).map fr) := by
  have g : guardM ((done.map fr).length < 100000) = .ok () := guard_ok (by rw [List.length_map]; omega)
  have c1 : (decide ((done.length : Int) = most) || decide (x.2 = 0)) = false := by
    rw [decide_eq_false (by omega), decide_eq_false hw.nz]
    rfl
  have e1 : cond (decide ((done.length : Int) > 0)) ((getM (done.map fr) (-(1 : Int))).bd fun i60 => (is_less (i60) (fr p)).bd fun b65 => Mm.ok (!b65)) (Mm.ok false) = Mm.ok false := by
    rcases List.eq_nil_or_concat done with e | ⟨l, q, e⟩
    · subst e
      rfl
    · rw [List.concat_eq_append] at e
      subst e
      rw [cT (decide_eq_true (by rw [List.length_append, List.length_singleton]; omega))]
      have hq : q ∈ l ++ [q] := by simp
      rw [List.map_append, List.map_cons, List.map_nil, getM_last, bdo, is_less_ok (hs q hq) hw.sq (by omega), bdo, decide_eq_true (ha q hq)]
      rfl
  rw [hf, cF (c := decide (((done.length : Int), x).1 = most) || decide (((done.length : Int), x).2.2 = 0)) c1, lowest_x hw (by omega), bdo, e1, bdo, cF rfl, g, bdo, List.map_append]
  rfl
theorem asc_fold {f : List (Int × Int) → Int × (Int × Int) → Mm (List (Int × Int))} {most : Int} {c : Nat} (hc : c < 4000) (hm : most ≤ 6)
    (hf : ∀ s y, f s y = cond ((decide (y.1 = most)) || (decide (y.2.2 = (0 : Int)))) (Mm.bad) ((lowest (y.2.1) (y.2.2)).bd fun b49 => (cond (decide (y.1 > (0 : Int))) ((getM s (-(1 : Int))).bd fun i60 => (is_less (i60) (b49)).bd fun b65 => Mm.ok (!b65)) (Mm.ok false)).bd fun b56 => cond b56 (Mm.bad) ((guardM (s.length < 100000)).bd fun _ => Mm.ok (s ++ [b49])))) :
    ∀ (ps : List Rat) (pl : List (Int × Int)) (done : List Rat), All2 (fun p x => Rx c x p) ps pl → (done ++ ps).Pairwise (· < ·) → Sqs c done → ((done ++ ps).length : Int) ≤ most → foldM f (done.map fr) (numL (done.length : Int) pl) = .ok ((done ++ ps).map fr) := by
  intro ps
  induction ps with
  | nil =>
    intro pl done h _ _ _
    cases h
    rw [List.append_nil]
    rfl
  | cons p ps ih =>
    intro pl done h ha hs hl
    cases h with
    | cons hw hr =>
      rw [List.length_append, List.length_cons] at hl
      have ha' := List.pairwise_append.mp ha
      unfold numL foldM
      rw [asc_step hc hf hw (fun q hq => ha'.2.2 q hq p (List.mem_cons_self ..)) hs (by omega) hm, bdo]
      have e : done ++ p :: ps = (done ++ [p]) ++ ps := by simp
      rw [e] at ha ⊢
      have := ih _ (done ++ [p]) hr ha (fun q hq => by
        rcases List.mem_append.mp hq with z | z
        · exact hs q z
        · rw [List.mem_singleton.mp z]; exact hw.sq) (by simp only [List.length_append, List.length_singleton]; omega)
      have e2 : ((done ++ [p]).length : Int) = (done.length : Int) + 1 := by simp
      rw [e2] at this
      exact this
theorem weights_fold {f : Unit → Int × (Int × Int) → Mm Unit} {count : Int} (hf : ∀ s y, f s y = cond ((decide (y.1 = count)) || (decide (y.2.2 = (0 : Int)))) (Mm.bad) (Mm.ok ())) : ∀ (l : List (Int × Int)) (k : Int), k + l.length ≤ count → (∀ x ∈ l, x.2 ≠ 0) → foldM f () (numL k l) = .ok ()
  | [], k, _, _ => rfl
  | x :: l, k, h, hn => by
    rw [List.length_cons] at h
    unfold numL foldM
    rw [hf, cF (by rw [decide_eq_false (by show ¬ k = count; omega), decide_eq_false (hn x (List.mem_cons_self ..))]; rfl), bdo]
    exact weights_fold hf l (k + 1) (by omega) fun y hy => hn y (List.mem_cons_of_mem _ hy)
def toR (l : List Int) : List Rat := l.map fun x => ((x : Int) : Rat)
theorem toR_fr (l : List Int) : (toR l).map fr = l.map fun x => (x, (1 : Int)) := by
  unfold toR
  rw [List.map_map]
  exact List.map_congr_left fun x _ => fr_of_int x
theorem toR_sq {l : List Int} {c : Nat} (h : ∀ x ∈ l, x.natAbs < 2 ^ c) (h0 : 0 < c) : Sqs c (toR l) := fun q hq => by
  obtain ⟨x, hx, rfl⟩ := List.mem_map.mp hq
  exact sq_int (h x hx) h0
def zipR (ps ws : List Rat) (f : List Rat) : List Rat := (ps.zip ws).map fun x => x.2 * ev f x.1
def Rd (ps ws f : List Rat) : Rat := (zipR ps ws f).sum
/-! ### weightings that are right, their sums -/
theorem pow_fold {f : Int → Int → Mm Int} {base : Int} {b : Nat} (hb : base.natAbs < 2 ^ b) (hf : ∀ s x, f s x = (mulM s base).bd fun m => Mm.ok m) : ∀ (l : List Int) (s : Int) (a : Nat), s.natAbs < 2 ^ a → a + b * (l.length + 1) ≤ 900000 → foldM f s l = .ok (s * base ^ l.length)
  | [], s, a, _, _ => by simp [foldM]
  | x :: l, s, a, ha, h => by
    have e : a + b + b * (l.length + 1) ≤ 900000 := by
      rw [List.length_cons] at h
      have : b * (l.length + 1 + 1) = b * (l.length + 1) + b := by rw [Nat.mul_succ]
      omega
    unfold foldM
    rw [hf, mul_ok ha hb (by omega)]
    show foldM f (s * base) l = _
    rw [pow_fold hb hf l (s * base) (a + b) (mul_lt ha hb (Nat.le_refl _)) e, List.length_cons, Int.mul_assoc, Int.pow_succ']
theorem pow_lt {base : Int} {b : Nat} (hb : base.natAbs < 2 ^ b) : ∀ n : Nat, (base ^ n).natAbs < 2 ^ (b * n + 1)
  | 0 => by simp
  | n + 1 => by
    rw [Int.pow_succ]
    exact mul_lt (pow_lt hb n) hb (by rw [Nat.mul_succ]; omega)
theorem power_of_ok {base power : Int} (hb : base.natAbs ≤ 20) (h : 0 ≤ power) (h2 : power ≤ 61) : power_of base power = .ok (base ^ power.toNat) := by
  unfold power_of
  rw [range_ok (by omega) (by omega)]
  show (foldM _ _ _).bd _ = _
  rw [pow_fold (base := base) (b := 5) (by omega) (fun s x => rfl) _ _ 1 (by decide) (by rw [rangeL_len]; omega), rangeL_len, Int.one_mul]
  rfl
theorem sum_lt {a : Nat} : ∀ l : List Int, (∀ x ∈ l, x.natAbs < 2 ^ a) → l.sum.natAbs < 2 ^ (a + l.length)
  | [], _ => by
    have := two_le (a + 0)
    show 0 < 2 ^ (a + 0)
    omega
  | x :: l, h => by
    rw [List.sum_cons]
    refine add_lt (h x (List.mem_cons_self ..)) (sum_lt l fun y hy => h y (List.mem_cons_of_mem _ hy)) ?_ ?_ <;> (rw [List.length_cons]; omega)
structure Good (w : Wt) : Prop where
  ms : ∀ m ∈ w.1, m.1.natAbs ≤ 20 ∧ 1 ≤ m.2 ∧ m.2 ≤ 20
  ss : ∀ s ∈ w.2, s.1.natAbs ≤ 20 ∧ s.2.1.natAbs ≤ 20 ∧ 1 ≤ s.2.2 ∧ s.2.2 ≤ 20 ∧ s.1 < s.2.1
  lm : w.1.length ≤ 6
  ls : w.2.length ≤ 4
  ne : w.1 ≠ [] ∨ w.2 ≠ []
def mI (k : Nat) (m : Int × Int) : Int := m.2 * m.1 ^ k
def sI (k : Nat) (s : Int × Int × Int) : Int := s.2.2 * (s.2.1 ^ (k + 1) - s.1 ^ (k + 1))
def PS (w : Wt) (k : Nat) : Rat := (((w.1.map (mI k)).sum * ((k : Int) + 1) + (w.2.map (sI k)).sum : Int) : Rat) / (((k : Int) + 1 : Int) : Rat)
theorem pow_lt20 {x : Int} {k : Nat} (h : x.natAbs ≤ 20) (hk : k ≤ 61) : (x ^ k).natAbs < 2 ^ 306 := up_lt (pow_lt (b := 5) (by omega) k) (by omega)
theorem mI_lt {k : Nat} {m : Int × Int} (h : m.1.natAbs ≤ 20 ∧ 1 ≤ m.2 ∧ m.2 ≤ 20) (hk : k ≤ 60) : (mI k m).natAbs < 2 ^ 320 :=
  mul_lt (a := 5) (by omega) (pow_lt20 h.1 (by omega)) (by decide)
theorem sI_lt {k : Nat} {s : Int × Int × Int} (h : s.1.natAbs ≤ 20 ∧ s.2.1.natAbs ≤ 20 ∧ 1 ≤ s.2.2 ∧ s.2.2 ≤ 20 ∧ s.1 < s.2.1) (hk : k ≤ 60) : (sI k s).natAbs < 2 ^ 320 :=
  mul_lt (a := 5) (by omega) (sub_lt (n := 307) (pow_lt20 h.2.1 (by omega)) (pow_lt20 h.1 (by omega)) (by decide) (by decide)) (by decide)
theorem small_lt {k : Nat} (hk : k ≤ 60) : ((k : Int) + 1).natAbs < 2 ^ 6 := by
  have : (2 : Nat) ^ 6 = 64 := by decide
  omega
theorem sums_lt {w : Wt} (g : Good w) {k : Nat} (hk : k ≤ 60) : (w.1.map (mI k)).sum.natAbs < 2 ^ 326 ∧ (w.2.map (sI k)).sum.natAbs < 2 ^ 326 := by
  constructor
  · refine up_lt (sum_lt (a := 320) _ fun x hx => ?_) (by rw [List.length_map]; have := g.lm; omega)
    obtain ⟨m, hm, rfl⟩ := List.mem_map.mp hx
    exact mI_lt (g.ms m hm) hk
  · refine up_lt (sum_lt (a := 320) _ fun x hx => ?_) (by rw [List.length_map]; have := g.ls; omega)
    obtain ⟨m, hm, rfl⟩ := List.mem_map.mp hx
    exact sI_lt (g.ss m hm) hk
theorem sq_PS {w : Wt} (g : Good w) {k : Nat} (hk : k ≤ 60) : Sq 340 (PS w k) := by
  obtain ⟨a, b⟩ := sums_lt g hk
  refine sq_div (by omega) ?_ (up_lt (small_lt hk) (by decide))
  exact add_lt (mul_lt a (small_lt hk) (Nat.le_refl _)) b (by decide) (by decide)
theorem whole_ok {n l h : Int} (a : l ≤ n) (b : n ≤ h) : whole_within n l h = .ok true := by
  unfold whole_within
  rw [decide_eq_true a, decide_eq_true b]
  rfl
theorem check_within_ok {n l h : Int} (a : l ≤ n) (b : n ≤ h) : check_within n l h = .ok () := by
  unfold check_within
  rw [whole_ok a b, bdo]
  rfl
theorem power_sum_ok {w : Wt} (g : Good w) {p : Int} (h0 : 0 ≤ p) (h1 : p ≤ 60) : power_sum w p = .ok (fr (PS w p.toNat)) := by
  unfold power_sum
  rw [check_within_ok h0 h1]
  show (guardM _).bd _ = _
  rw [bd_guard (by have := g.lm; omega), mapMm_eq (g := mI p.toNat) _ fun x hx => ?_]
  · show (guardM _).bd _ = _
    rw [bd_guard (by have := g.ls; omega), mapMm_eq (g := sI p.toNat) _ fun x hx => ?_]
    · obtain ⟨a, b⟩ := sums_lt g (k := p.toNat) (by omega)
      have e : p + 1 = ((p.toNat : Nat) : Int) + 1 := by omega
      have sm := small_lt (k := p.toNat) (by omega)
      show (mulM (List.sum _) _).bd _ = _
      rw [e, mul_ok a sm (by decide)]
      show (lowest _ _).bd _ = _
      rw [lowest_ok (by omega) sm (by decide)]
      rfl
    · have q := g.ss x hx
      have e : (p + 1).toNat = p.toNat + 1 := by omega
      rw [power_of_ok q.2.1 (by omega) (by omega)]
      show (power_of _ _).bd _ = _
      rw [power_of_ok q.1 (by omega) (by omega)]
      show (mulM _ _).bd _ = _
      rw [e, mul_ok (a := 5) (b := 307) (by omega) (sub_lt (pow_lt20 q.2.1 (by omega)) (pow_lt20 q.1 (by omega)) (by decide) (by decide)) (by decide)]
      rfl
  · have q := g.ms x hx
    rw [power_of_ok q.1 (by omega) (by omega)]
    show (mulM _ _).bd _ = _
    rw [mul_ok (a := 5) (b := 306) (by omega) (pow_lt20 q.1 (by omega)) (by decide)]
    rfl
theorem power_sums_ok {w : Wt} (g : Good w) {c : Int} (h0 : 0 ≤ c) (h1 : c ≤ 61) : power_sums w c = .ok ((rangeL 0 c.toNat).map fun i => fr (PS w i.toNat)) := by
  unfold power_sums
  rw [check_within_ok h0 (by omega)]
  show (rangeM c).bd _ = _
  rw [range_ok (by omega) (by omega)]
  show (guardM _).bd _ = _
  rw [bd_guard (by rw [rangeL_len]; omega), mapMm_eq (g := fun i => fr (PS w i.toNat)) _ fun x hx => ?_]
  · rfl
  · obtain ⟨i, hi, rfl⟩ := List.mem_map.mp hx
    have := List.mem_range.mp hi
    rw [power_sum_ok g (by omega) (by omega)]
    rfl
theorem sum_cast {α : Type} (f : α → Int) : ∀ l : List α, (l.map fun x => ((f x : Int) : Rat)).sum = (((l.map f).sum : Int) : Rat)
  | [] => rfl
  | x :: l => by
    rw [List.map_cons, List.sum_cons, List.map_cons, List.sum_cons, sum_cast f l]
    push_cast
    rfl
theorem sum_castD {α : Type} (f : α → Int) (c : Rat) : ∀ l : List α, (l.map fun x => ((f x : Int) : Rat) / c).sum = (((l.map f).sum : Int) : Rat) / c
  | [] => by
    show (0 : Rat) = ((0 : Int) : Rat) / c
    push_cast
    grind
  | x :: l => by
    rw [List.map_cons, List.sum_cons, List.map_cons, List.sum_cons, sum_castD f c l]
    push_cast
    grind
theorem sum_nn : ∀ l : List Int, (∀ x ∈ l, 0 < x) → 0 ≤ l.sum ∧ (l ≠ [] → 0 < l.sum)
  | [], _ => ⟨by decide, fun h => absurd rfl h⟩
  | x :: l, h => by
    have a := (sum_nn l fun y hy => h y (List.mem_cons_of_mem _ hy)).1
    have b := h x (List.mem_cons_self ..)
    rw [List.sum_cons]
    exact ⟨by omega, fun _ => by omega⟩
theorem PS0_pos {w : Wt} (g : Good w) : 0 < PS w 0 := by
  have a := sum_nn (w.1.map (mI 0)) fun x hx => by
    obtain ⟨m, hm, rfl⟩ := List.mem_map.mp hx
    have := g.ms m hm
    unfold mI
    rw [Int.pow_zero]
    omega
  have b := sum_nn (w.2.map (sI 0)) fun x hx => by
    obtain ⟨s, hs, rfl⟩ := List.mem_map.mp hx
    have := g.ss s hs
    unfold sI
    rw [Int.pow_succ, Int.pow_zero, Int.pow_succ, Int.pow_zero, Int.one_mul, Int.one_mul]
    exact Int.mul_pos (by omega) (by omega)
  have c : 0 < (w.1.map (mI 0)).sum + (w.2.map (sI 0)).sum := by
    rcases g.ne with h | h
    · have := a.2 (by simpa using h)
      omega
    · have := b.2 (by simpa using h)
      omega
  unfold PS
  have e : (((w.1.map (mI 0)).sum * (((0 : Nat) : Int) + 1) + (w.2.map (sI 0)).sum : Int) : Rat) / (((((0 : Nat) : Int) + 1 : Int)) : Rat) = (((w.1.map (mI 0)).sum + (w.2.map (sI 0)).sum : Int) : Rat) := by
    push_cast
    grind
  rw [e]
  exact Rat.intCast_pos.mpr c
theorem pow_lt12 {x : Int} {k : Nat} (h : x.natAbs ≤ 20) (hk : k ≤ 13) : (x ^ k).natAbs < 2 ^ 66 := up_lt (pow_lt (b := 5) (by omega) k) (by omega)
theorem sq_PS12 {w : Wt} (g : Good w) {k : Nat} (hk : k ≤ 12) : Sq 90 (PS w k) := by
  have sm : ((k : Int) + 1).natAbs < 2 ^ 4 := by
    have : (2 : Nat) ^ 4 = 16 := by decide
    omega
  have a : (w.1.map (mI k)).sum.natAbs < 2 ^ 80 := by
    refine up_lt (sum_lt (a := 72) _ fun x hx => ?_) (by rw [List.length_map]; have := g.lm; omega)
    obtain ⟨m, hm, rfl⟩ := List.mem_map.mp hx
    have q := g.ms m hm
    exact mul_lt (a := 5) (by omega) (pow_lt12 q.1 (by omega)) (by decide)
  have b : (w.2.map (sI k)).sum.natAbs < 2 ^ 80 := by
    refine up_lt (sum_lt (a := 72) _ fun x hx => ?_) (by rw [List.length_map]; have := g.ls; omega)
    obtain ⟨s, hs, rfl⟩ := List.mem_map.mp hx
    have q := g.ss s hs
    exact mul_lt (a := 5) (by omega) (sub_lt (n := 67) (pow_lt12 q.2.1 (by omega)) (pow_lt12 q.1 (by omega)) (by decide) (by decide)) (by decide)
  refine sq_div (by omega) ?_ (up_lt sm (by decide))
  exact add_lt (mul_lt a sm (Nat.le_refl _)) b (by decide) (by decide)
def tW (w : Wt) (x : Int × Rat) : Rat := x.2 * PS w x.1.toNat
def WS (w : Wt) (l : List Rat) : Rat := ((numL 0 l).map (tW w)).sum
theorem weighed_ok {w : Wt} (g : Good w) {l : List Rat} {c : Nat} (hl : l.length ≤ 13) (hc : Sqs c l) (hN : (c + 91) * l.length < 8990) : weighed w (l.map fr) = .ok (fr (WS w l)) ∧ Sq (1 + (c + 91) * l.length) (WS w l) := by
  have each : ∀ x ∈ numL 0 l, (0 ≤ x.1 ∧ x.1 ≤ 12) ∧ Sq c x.2 ∧ Sq (c + 90) (tW w x) := fun x hx => by
    obtain ⟨a, b, m⟩ := numL_mem l 0 x hx
    have s1 := hc _ m
    exact ⟨by omega, s1, sq_mul s1 (sq_PS12 g (by omega)) (Nat.le_refl _)⟩
  have sm : Sqs (c + 90) ((numL 0 l).map (tW w)) := fun q hq => by
    obtain ⟨y, hy, rfl⟩ := List.mem_map.mp hq
    exact (each y hy).2.2
  have ln : ((numL 0 l).map (tW w)).length = l.length := by rw [List.length_map, numL_len]
  obtain ⟨A, A2⟩ := added_up_ok _ sm (by rw [ln]; show (c + 91) * l.length < 8996; omega)
  rw [ln] at A2
  refine ⟨?_, A2⟩
  unfold weighed
  rw [enumL_eq, numL_map, guard_ok (by rw [List.length_map, numL_len]; omega), bdo, mapMm_map, mapMm_eq (g := fun x => fr (tW w x)) _ fun x hx => ?_, bdo]
  · have e : (numL 0 l).map (fun x => fr (tW w x)) = ((numL 0 l).map (tW w)).map fr := by
      rw [List.map_map]
      rfl
    rw [e, A, bdo]
    rfl
  · obtain ⟨a, b, m⟩ := each x hx
    by_cases z : 90 + c < 8999
    · show (power_sum w x.1).bd _ = _
      rw [power_sum_ok g a.1 (by omega), bdo]
      show (times (fr x.2) _).bd _ = _
      rw [times_ok b (sq_PS12 g (by omega)) (by omega), bdo]
      rfl
    · exfalso
      have : 0 < l.length := by
        have := (numL_mem l 0 x hx)
        omega
      have : (c + 91) * 1 ≤ (c + 91) * l.length := Nat.mul_le_mul_left _ this
      omega
structure MsOk (ms : Ms) : Prop where
  each : ∀ m ∈ ms, m.1.natAbs ≤ 20 ∧ 1 ≤ m.2 ∧ m.2 ≤ 20
  asc : (ms.map (·.1)).Pairwise (· < ·)
  len : ms.length ≤ 6
theorem zeroW : MsOk [(0, 1)] := ⟨by decide, by decide, by decide⟩
def SsTo : Int → Ss → Int → Prop
  | a, [], z => a ≤ z
  | a, s :: l, z => a ≤ s.1 ∧ s.1 < s.2.1 ∧ 1 ≤ s.2.2 ∧ s.2.2 ≤ 20 ∧ SsTo s.2.1 l z
theorem SsTo.le : ∀ {l : Ss} {a z : Int}, SsTo a l z → a ≤ z
  | [], _, _, h => h
  | s :: l, a, z, h => by
    have := SsTo.le h.2.2.2.2
    have := h.1
    have := h.2.1
    omega
theorem SsTo.up : ∀ {l : Ss} {a z z' : Int}, SsTo a l z → z ≤ z' → SsTo a l z'
  | [], _, _, _, h, k => Int.le_trans h k
  | s :: l, _, _, _, ⟨a, b, c, d, e⟩, k => ⟨a, b, c, d, SsTo.up e k⟩
theorem SsTo.low : ∀ {l : Ss} {a a' z : Int}, SsTo a l z → a' ≤ a → SsTo a' l z
  | [], _, _, _, h, k => Int.le_trans k h
  | s :: l, _, _, _, ⟨a, b, c, d, e⟩, k => ⟨Int.le_trans k a, b, c, d, e⟩
theorem SsTo.app {lo hi h : Int} : ∀ {l : Ss} {a y : Int}, SsTo a l y → y ≤ lo → lo < hi → 1 ≤ h → h ≤ 20 → SsTo a (l ++ [(lo, hi, h)]) hi
  | [], a, y, h1, h2, h3, h4, h5 => ⟨Int.le_trans h1 h2, h3, h4, h5, Int.le_refl _⟩
  | s :: l, a, y, ⟨a1, b, c, d, e⟩, h2, h3, h4, h5 => ⟨a1, b, c, d, SsTo.app e h2 h3 h4 h5⟩
theorem SsTo.each : ∀ {l : Ss} {a z : Int}, SsTo a l z → -20 ≤ a → z ≤ 20 → ∀ s ∈ l, s.1.natAbs ≤ 20 ∧ s.2.1.natAbs ≤ 20 ∧ 1 ≤ s.2.2 ∧ s.2.2 ≤ 20 ∧ s.1 < s.2.1
  | [], _, _, _, _, _, _, h => by cases h
  | t :: l, a, z, ⟨a1, b, c, d, e⟩, ha, hz, s, h => by
    have := SsTo.le e
    rcases List.mem_cons.mp h with rfl | h
    · omega
    · exact SsTo.each e (by omega) hz s h
theorem is_place_ok {n : Int} (h : n.natAbs ≤ 20) : is_place n = .ok true := by
  unfold is_place
  rw [whole_ok (by omega) (by omega)]
  rfl
theorem is_mass_ok {n : Int} (h : 1 ≤ n) (h2 : n ≤ 20) : is_mass n = .ok true := by
  unfold is_mass
  rw [whole_ok h h2]
  rfl
theorem check_masses_ok {ms : Ms} (g : MsOk ms) : check_masses ms = .ok () := by
  unfold check_masses
  rw [enumL_eq]
  have k : ∀ (l : Ms) (k a : Int), 0 ≤ k → k + l.length ≤ 6 → (∀ m ∈ l, m.1.natAbs ≤ 20 ∧ 1 ≤ m.2 ∧ m.2 ≤ 20) → (l.map (·.1)).Pairwise (· < ·) → (∀ m ∈ l, a < m.1) →
      ∃ r, foldM (fun (b5 : Int) (x6 : (Int × (Int × Int))) => (cond (decide (x6.1 = (6 : Int))) (Mm.ok true) ((is_place (x6.2.1)).bd fun b42 => (cond (!b42) (Mm.ok true) ((is_mass (x6.2.2)).bd fun b53 => Mm.ok ((!b53) || (decide (x6.2.1 ≤ b5))))).bd fun b49 => Mm.ok b49)).bd fun b38 => cond b38 (Mm.bad) (Mm.ok x6.2.1)) a (numL k l) = .ok r := by
    intro l
    induction l with
    | nil => intro k a _ _ _ _ _; exact ⟨a, rfl⟩
    | cons m l ih =>
      intro k a h0 h1 h2 h3 h4
      obtain ⟨q1, q2⟩ := List.pairwise_cons.mp (show (m.1 :: l.map (·.1)).Pairwise (· < ·) from h3)
      obtain ⟨r, hr⟩ := ih (k + 1) m.1 (by omega) (by rw [List.length_cons] at h1; omega) (fun x hx => h2 x (List.mem_cons_of_mem _ hx)) q2 (fun x hx => q1 x.1 (List.mem_map_of_mem hx))
      refine ⟨r, ?_⟩
      have hm := h2 m (List.mem_cons_self ..)
      have ha := h4 m (List.mem_cons_self ..)
      unfold numL foldM
      rw [show decide ((k, m).1 = 6) = false from decide_eq_false (by show ¬ k = 6; rw [List.length_cons] at h1; omega)]
      simp only [bdo, cond_false, cond_true, Bool.not_true, Bool.false_or, is_place_ok hm.1, is_mass_ok hm.2.1 hm.2.2, decide_eq_false (show ¬ m.1 ≤ a by omega)]
      exact hr
  obtain ⟨r, hr⟩ := k ms 0 (-20 - 1) (by decide) (by have := g.len; omega) g.each g.asc (fun m hm => by have := g.each m hm; omega)
  rw [hr]
  rfl
theorem check_stretches_ok {ss : Ss} {z : Int} (g : SsTo (-20) ss z) (hz : z ≤ 20) (hl : ss.length ≤ 4) : check_stretches ss = .ok () := by
  unfold check_stretches
  rw [enumL_eq]
  have k : ∀ (l : Ss) (k a : Int), 0 ≤ k → k + l.length ≤ 4 → -20 ≤ a → SsTo a l z →
      ∃ r, foldM (fun (b5 : Int) (x6 : (Int × (Int × Int × Int))) => (cond (decide (x6.1 = (4 : Int))) (Mm.ok true) ((is_place (x6.2.1)).bd fun b45 => (cond (!b45) (Mm.ok true) ((is_place (x6.2.2.1)).bd fun b56 => (cond (!b56) (Mm.ok true) ((is_mass (x6.2.2.2)).bd fun b67 => Mm.ok (!b67))).bd fun b63 => Mm.ok b63)).bd fun b52 => Mm.ok b52)).bd fun b41 => cond b41 (Mm.bad) (cond ((decide (x6.2.1 < b5)) || (decide (x6.2.2.1 ≤ x6.2.1))) (Mm.bad) (Mm.ok x6.2.2.1))) a (numL k l) = .ok r := by
    intro l
    induction l with
    | nil => intro k a _ _ _ _; exact ⟨a, rfl⟩
    | cons m l ih =>
      intro k a h0 h1 h2 h3
      obtain ⟨q1, q2, q3, q4, q5⟩ := h3
      have q6 := q5.le
      obtain ⟨r, hr⟩ := ih (k + 1) m.2.1 (by omega) (by rw [List.length_cons] at h1; omega) (by omega) q5
      refine ⟨r, ?_⟩
      unfold numL foldM
      rw [show decide ((k, m).1 = 4) = false from decide_eq_false (by show ¬ k = 4; rw [List.length_cons] at h1; omega)]
      simp only [bdo, cond_false, cond_true, Bool.not_true, Bool.false_or, is_place_ok (show m.1.natAbs ≤ 20 by omega), is_place_ok (show m.2.1.natAbs ≤ 20 by omega), is_mass_ok q3 q4, decide_eq_false (show ¬ m.1 < a by omega), decide_eq_false (show ¬ m.2.1 ≤ m.1 by omega)]
      exact hr
  obtain ⟨r, hr⟩ := k ss 0 (-20) (by decide) (by omega) (by decide) g
  rw [hr]
  rfl
structure WOk (w : Wt) : Prop where
  ms : MsOk w.1
  ss : SsTo (-20) w.2 20
  ls : w.2.length ≤ 4
  ne : w.1 ≠ [] ∨ w.2 ≠ []
theorem WOk.good {w : Wt} (h : WOk w) : Good w := ⟨h.ms.each, h.ss.each (by decide) (by decide), h.ms.len, h.ls, h.ne⟩
theorem map_id3 (l : Ss) : l.map (fun x => (x.1, x.2.1, x.2.2)) = l := by
  conv => rhs; rw [← List.map_id l]
  rfl
theorem map_id2 (l : Ms) : l.map (fun x => (x.1, x.2)) = l := by
  conv => rhs; rw [← List.map_id l]
  rfl
theorem init_ok {w : Wt} (h : WOk w) : Weighting_init w.1 w.2 = .ok w := by
  have hm := h.ms.len
  have hs := h.ls
  unfold Weighting_init
  rw [check_masses_ok h.ms]
  show (check_stretches w.2).bd _ = _
  rw [check_stretches_ok h.ss (by decide) h.ls]
  have e : cond (decide ((w.1.length : Int) = 0)) (Mm.ok (decide ((w.2.length : Int) = 0))) (Mm.ok false) = Mm.ok false := by
    by_cases q : (w.1.length : Int) = 0
    · rw [decide_eq_true q]
      rcases h.ne with n | n
      · exact absurd (List.length_eq_zero_iff.mp (by omega)) n
      · rw [decide_eq_false (show ¬ (w.2.length : Int) = 0 from fun z => n (List.length_eq_zero_iff.mp (by omega)))]
        rfl
    · rw [decide_eq_false q]
      rfl
  show Mm.bd (cond (decide ((w.1.length : Int) = 0)) (Mm.ok (decide ((w.2.length : Int) = 0))) (Mm.ok false)) _ = _
  rw [e]
  show (guardM _).bd _ = _
  rw [bd_guard (by omega), mapMm_eq (f := fun (x28 : Int × Int) => Mm.ok (x28.1, x28.2)) (g := fun x => (x.1, x.2)) _ fun x hx => rfl, map_id2]
  show (guardM _).bd _ = _
  rw [bd_guard (by omega), mapMm_eq (f := fun (x75 : Int × Int × Int) => Mm.ok (x75.1, x75.2.1, x75.2.2)) (g := fun x => (x.1, x.2.1, x.2.2)) _ fun x hx => rfl, map_id3]
  rfl
/-! ### polynomials by their roots -/
def rp (p : Rat) : Rat → List Rat → List Rat
  | z, [] => [z]
  | z, x :: l => (z - x * p) :: rp p x l
theorem rp_len (p : Rat) : ∀ (l : List Rat) (z : Rat), (rp p z l).length = l.length + 1
  | [], _ => rfl
  | x :: l, z => by
    unfold rp
    rw [List.length_cons, rp_len p l, List.length_cons]
theorem zip_rp (p : Rat) : ∀ (l : List Rat) (z : Rat), ((z :: l).zip (l.map (· * p) ++ [0])).map (fun x => x.1 - x.2) = rp p z l
  | [], z => by
    show [z - 0] = [z]
    congr 1
    grind
  | x :: l, z => by
    rw [List.map_cons, List.cons_append, List.zip_cons_cons, List.map_cons, zip_rp p l x]
    rfl
theorem with_root_ok {p : Rat} {l : List Rat} {a b : Nat} (hp : Sq b p) (hl : Sqs a l) (ha : 0 < a) (h : 2 * a + b < 8990) (hn : l.length < 40000) : with_root (l.map fr) (fr p) = .ok ((rp p 0 l).map fr) := by
  unfold with_root
  rw [bd_guard (by simp only [List.length_map, List.length_cons, List.length_nil]; omega), bd_guard (by rw [List.length_map]; omega), mapMm_map, mapMm_eq (g := fun x => fr (x * p)) _ fun x hx => ?_]
  · have e1 : [((0, 1) : Int × Int)] ++ l.map fr = (0 :: l).map fr := by rw [List.map_cons, fr_zero]; rfl
    have e2 : l.map (fun x => fr (x * p)) ++ [((0, 1) : Int × Int)] = (l.map (· * p) ++ [0]).map fr := by
      rw [List.map_append, List.map_map, List.map_cons, fr_zero]
      rfl
    show (guardM _).bd _ = _
    rw [bd_guard (by simp only [List.length_map, List.length_cons, List.length_nil]; omega), e1, e2, List.zip_map, bd_guard (by simp only [List.length_map, List.length_zip, List.length_cons, List.length_append, List.length_nil]; omega), mapMm_map, mapMm_eq (g := fun x => fr (x.1 - x.2)) _ fun x hx => ?_]
    · show Mm.ok _ = _
      rw [← zip_rp, List.map_map]
      rfl
    · have m := List.of_mem_zip (a := x.1) (b := x.2) hx
      have h1 : Sq a x.1 := by
        rcases List.mem_cons.mp m.1 with e | e
        · rw [e]; exact zero_sqn ha
        · exact hl _ e
      have h2 : Sq (a + b) x.2 := by
        rcases List.mem_append.mp m.2 with e | e
        · obtain ⟨y, hy, e⟩ := List.mem_map.mp e
          rw [← e]
          exact sq_mul (hl y hy) hp (Nat.le_refl _)
        · rw [List.mem_singleton.mp e]
          exact zero_sqn (by omega)
      show (minus (fr x.1) (fr x.2)).bd _ = _
      rw [minus_ok h1 h2 (by omega)]
      rfl
  · show (times (fr x) (fr p)).bd _ = _
    rw [times_ok (hl x hx) hp (by omega)]
    rfl
def WRf (ps l : List Rat) : List Rat := ps.foldl (fun l p => rp p 0 l) l
def WR (ps : List Rat) : List Rat := WRf ps [1]
theorem WRf_len : ∀ (ps l : List Rat), (WRf ps l).length = l.length + ps.length
  | [], l => rfl
  | p :: ps, l => by
    show (WRf ps (rp p 0 l)).length = _
    rw [WRf_len ps, rp_len, List.length_cons]
    omega
theorem WR_len (ps : List Rat) : (WR ps).length = ps.length + 1 := by
  unfold WR
  rw [WRf_len]
  show 1 + _ = _
  omega
/-! ### what has a bottom in common -/
def Dv (D : Int) (a : Nat) (q : Rat) : Prop := ∃ n : Int, q = (n : Rat) / (D : Rat) ∧ n.natAbs < 2 ^ a
theorem Dv.sq {D : Int} {a : Nat} {q : Rat} (h : Dv D a q) (h0 : 0 < D) (hD : D.natAbs < 2 ^ a) : Sq a q := by
  obtain ⟨n, rfl, hn⟩ := h
  exact sq_div h0 hn hD
theorem Dv.up {D : Int} {a b : Nat} {q : Rat} (h : Dv D a q) (k : a ≤ b) : Dv D b q := by
  obtain ⟨n, e, hn⟩ := h
  exact ⟨n, e, up_lt hn k⟩
theorem dv_zero {D : Int} {a : Nat} : Dv D a 0 := ⟨0, by push_cast; grind, by have := two_le a; show 0 < 2 ^ a; omega⟩
theorem dv_step {D B : Int} {a e : Nat} {z x p : Rat} (hD : 0 < D) (hB : 0 < B) (hz : Dv D a z) (hx : Dv D a x) (hp : Dv B e p) (hBe : B.natAbs < 2 ^ e) : Dv (D * B) (a + e + 1) (z - x * p) := by
  obtain ⟨n, rfl, hn⟩ := hz
  obtain ⟨m, rfl, hm⟩ := hx
  obtain ⟨s, rfl, hs⟩ := hp
  refine ⟨n * B - m * s, ?_, sub_lt (mul_lt hn hBe (Nat.le_refl _)) (mul_lt hm hs (Nat.le_refl _)) (by omega) (by omega)⟩
  have k1 := intc_ne (n := D) (by omega)
  have k2 := intc_ne (n := B) (by omega)
  push_cast
  grind
theorem dv_last {D B : Int} {a e : Nat} {z : Rat} (hD : 0 < D) (hB : 0 < B) (hz : Dv D a z) (hBe : B.natAbs < 2 ^ e) : Dv (D * B) (a + e + 1) z := by
  obtain ⟨n, rfl, hn⟩ := hz
  refine ⟨n * B, ?_, mul_lt hn hBe (by omega)⟩
  have k1 := intc_ne (n := D) (by omega)
  have k2 := intc_ne (n := B) (by omega)
  push_cast
  grind
theorem rp_dv {D B : Int} {a e : Nat} {p : Rat} (hD : 0 < D) (hB : 0 < B) (hp : Dv B e p) (hBe : B.natAbs < 2 ^ e) : ∀ (l : List Rat) (z : Rat), Dv D a z → (∀ x ∈ l, Dv D a x) → ∀ q ∈ rp p z l, Dv (D * B) (a + e + 1) q
  | [], z, hz, _, q, hq => by
    rw [List.mem_singleton.mp hq]
    exact dv_last hD hB hz hBe
  | x :: l, z, hz, hl, q, hq => by
    have hx := hl x (List.mem_cons_self ..)
    rcases List.mem_cons.mp hq with rfl | hq
    · exact dv_step hD hB hz hx hp hBe
    · exact rp_dv hD hB hp hBe l x hx (fun y hy => hl y (List.mem_cons_of_mem _ hy)) q hq
theorem wrf_dv {B : Int} {e : Nat} (hB : 0 < B) (hBe : B.natAbs < 2 ^ e) : ∀ (ps l : List Rat) (D : Int) (a : Nat), 0 < D → (∀ p ∈ ps, Dv B e p) → (∀ x ∈ l, Dv D a x) → ∀ q ∈ WRf ps l, Dv (D * B ^ ps.length) (a + (e + 1) * ps.length) q
  | [], l, D, a, _, _, hl, q, hq => by
    rw [List.length_nil, Int.pow_zero, Int.mul_one]
    exact hl q hq
  | p :: ps, l, D, a, hD, hp, hl, q, hq => by
    have h := wrf_dv hB hBe ps (rp p 0 l) (D * B) (a + e + 1) (Int.mul_pos hD hB) (fun q hq => hp q (List.mem_cons_of_mem _ hq)) (rp_dv hD hB (hp p (List.mem_cons_self ..)) hBe l 0 dv_zero hl) q hq
    have e1 : D * B * B ^ ps.length = D * B ^ (p :: ps).length := by rw [List.length_cons, Int.pow_succ, Int.mul_assoc, Int.mul_comm B]
    have e2 : a + e + 1 + (e + 1) * ps.length = a + (e + 1) * (p :: ps).length := by rw [List.length_cons, Nat.mul_succ]; omega
    rw [e1, e2] at h
    exact h
structure PB (B : Int) (e : Nat) (ps : List Rat) : Prop where
  b0 : 0 < B
  be : B.natAbs < 2 ^ e
  each : ∀ p ∈ ps, Dv B e p
theorem PB.sq {B : Int} {e : Nat} {ps : List Rat} (h : PB B e ps) : Sqs e ps := fun p hp => (h.each p hp).sq h.b0 h.be
theorem PB.sub {B : Int} {e : Nat} {ps qs : List Rat} (h : PB B e ps) (k : ∀ p ∈ qs, p ∈ ps) : PB B e qs := ⟨h.b0, h.be, fun p hp => h.each p (k p hp)⟩
theorem pow_ltZ {B : Int} {e : Nat} (h : B.natAbs < 2 ^ e) : ∀ n : Nat, (B ^ n).natAbs < 2 ^ (e * n + 1)
  | 0 => by simp
  | n + 1 => by
    rw [Int.pow_succ]
    exact mul_lt (pow_ltZ h n) h (by rw [Nat.mul_succ]; omega)
theorem pow_posZ {B : Int} (h : 0 < B) : ∀ n : Nat, 0 < B ^ n
  | 0 => by rw [Int.pow_zero]; decide
  | n + 1 => by
    rw [Int.pow_succ]
    exact Int.mul_pos (pow_posZ h n) h
theorem dv_one {a : Nat} : Dv 1 (a + 1) 1 := ⟨1, by decide +kernel, by have := two_le a; show 1 < 2 ^ (a + 1); rw [Nat.pow_succ]; omega⟩
theorem WR_sq {B : Int} {e : Nat} {ps : List Rat} (h : PB B e ps) : Sqs (1 + (e + 1) * ps.length) (WR ps) := fun q hq => by
  have d := wrf_dv h.b0 h.be ps [1] 1 1 (by decide) h.each (fun x hx => by rw [List.mem_singleton.mp hx]; exact dv_one) q hq
  rw [Int.one_mul] at d
  refine d.sq (pow_posZ h.b0 _) (up_lt (pow_ltZ h.be _) ?_)
  rw [Nat.succ_mul]
  omega
theorem with_roots_fold {B : Int} {e : Nat} {f : List (Int × Int) → (Int × Int) → Mm (List (Int × Int))} (hf : ∀ s x, f s x = (with_root s x).bd fun b => .ok b) (hB : 0 < B) (hBe : B.natAbs < 2 ^ e) : ∀ (ps l : List Rat) (D : Int) (a : Nat), 0 < D → D.natAbs < 2 ^ a → 0 < a → (∀ p ∈ ps, Dv B e p) → (∀ x ∈ l, Dv D a x) → 2 * (a + (e + 1) * ps.length) + e < 8990 → l.length + ps.length < 1000 → foldM f (l.map fr) (ps.map fr) = .ok ((WRf ps l).map fr)
  | [], l, D, a, _, _, _, _, _, _, _ => rfl
  | p :: ps, l, D, a, hD, hDa, ha, hp, hl, hN, hn => by
    have e2 : (e + 1) * (p :: ps).length = (e + 1) * ps.length + (e + 1) := by rw [List.length_cons, Nat.mul_succ]
    rw [List.length_cons] at hn
    have sp := (hp p (List.mem_cons_self ..)).sq hB hBe
    have sl : Sqs a l := fun x hx => (hl x hx).sq hD hDa
    rw [List.map_cons]
    unfold foldM
    rw [hf, with_root_ok sp sl ha (by omega) (by omega), bdo, bdo]
    exact with_roots_fold hf hB hBe ps (rp p 0 l) (D * B) (a + e + 1) (Int.mul_pos hD hB) (mul_lt hDa hBe (by omega)) (by omega) (fun q hq => hp q (List.mem_cons_of_mem _ hq)) (rp_dv hD hB (hp p (List.mem_cons_self ..)) hBe l 0 dv_zero hl) (by omega) (by rw [rp_len]; omega)
/-! ### values -/
theorem ev_rp (p x : Rat) : ∀ (l : List Rat) (z : Rat), ev (rp p z l) x = z + ev l x * (x - p)
  | [], z => by
    show z + x * 0 = z + 0 * (x - p)
    grind
  | c :: l, z => by
    show (z - c * p) + x * ev (rp p c l) x = z + (c + x * ev l x) * (x - p)
    rw [ev_rp p x l c]
    grind
def prd (x : Rat) (ps : List Rat) : Rat := ps.foldl (fun a p => a * (x - p)) 1
theorem prd_from (x : Rat) : ∀ (ps : List Rat) (a : Rat), ps.foldl (fun a p => a * (x - p)) a = a * prd x ps
  | [], a => by
    show a = a * 1
    grind
  | p :: ps, a => by
    unfold prd
    rw [List.foldl_cons, List.foldl_cons, prd_from x ps, prd_from x ps]
    grind
theorem prd_cons (x p : Rat) (ps : List Rat) : prd x (p :: ps) = (x - p) * prd x ps := by
  unfold prd
  rw [List.foldl_cons, prd_from]
  show 1 * (x - p) * prd x ps = _
  unfold prd
  grind
theorem ev_WRf (x : Rat) : ∀ (ps l : List Rat), ev (WRf ps l) x = ev l x * prd x ps
  | [], l => by
    show ev l x = ev l x * 1
    grind
  | p :: ps, l => by
    show ev (WRf ps (rp p 0 l)) x = _
    rw [ev_WRf x ps, ev_rp, prd_cons]
    grind
theorem ev_WR (x : Rat) (ps : List Rat) : ev (WR ps) x = prd x ps := by
  unfold WR
  rw [ev_WRf]
  show (1 + x * 0) * _ = _
  grind
theorem prd_ne {x : Rat} : ∀ {ps : List Rat}, x ∉ ps → prd x ps ≠ 0
  | [], _ => by
    show (1 : Rat) ≠ 0
    decide
  | p :: ps, h => by
    have h1 : x ≠ p := fun e => h (by rw [e]; exact List.mem_cons_self ..)
    have h2 := prd_ne (x := x) (ps := ps) fun e => h (List.mem_cons_of_mem _ e)
    rw [prd_cons]
    intro z
    rcases Rat.mul_eq_zero.mp z with q | q
    · exact h1 (by grind)
    · exact h2 q
theorem prd_zero {x : Rat} : ∀ {ps : List Rat}, x ∈ ps → prd x ps = 0
  | [], h => by cases h
  | p :: ps, h => by
    rw [prd_cons]
    rcases List.mem_cons.mp h with rfl | h
    · grind
    · rw [prd_zero h]
      grind
theorem prd_sq {B : Int} {e : Nat} {x : Rat} : ∀ {ps : List Rat}, 0 < B → B.natAbs < 2 ^ e → Dv B e x → (∀ p ∈ ps, Dv B e p) → Sq (1 + (e + 1) * ps.length) (prd x ps)
  | [], _, _, _, _ => one_sq
  | p :: ps, hB, hBe, hx, hp => by
    have ih := prd_sq (ps := ps) hB hBe hx fun q hq => hp q (List.mem_cons_of_mem _ hq)
    have d : Sq (e + 1) (x - p) := by
      obtain ⟨n, rfl, hn⟩ := hx
      obtain ⟨m, rfl, hm⟩ := hp p (List.mem_cons_self ..)
      have k := intc_ne (n := B) (by omega)
      have e1 : (n : Rat) / (B : Rat) - (m : Rat) / (B : Rat) = ((n - m : Int) : Rat) / (B : Rat) := by
        push_cast
        grind
      rw [e1]
      exact sq_div hB (sub_lt hn hm (by omega) (by omega)) (up_lt hBe (by omega))
    rw [prd_cons]
    exact sq_mul d ih (by rw [List.length_cons, Nat.mul_succ]; omega)
/-! ### the polynomial that is 1 at one place and 0 at the others -/
def oth (ps : List Rat) (i : Nat) : List Rat := ps.take i ++ ps.drop (i + 1)
def LB (ps : List Rat) (i : Nat) : List Rat := (WR (oth ps i)).map fun c => c / prd (ps.getD i 0) (oth ps i)
theorem oth_len {ps : List Rat} {i : Nat} (h : i < ps.length) : (oth ps i).length = ps.length - 1 := by
  unfold oth
  rw [List.length_append, List.length_take, List.length_drop]
  omega
theorem oth_mem {ps : List Rat} {i : Nat} {q : Rat} (h : q ∈ oth ps i) : q ∈ ps := by
  rcases List.mem_append.mp h with h | h
  · exact List.mem_of_mem_take h
  · exact List.mem_of_mem_drop h
theorem oth_not {ps : List Rat} {i : Nat} (ha : ps.Pairwise (· < ·)) (h : i < ps.length) : ps[i] ∉ oth ps i := by
  have e : ps = ps.take i ++ ps[i] :: ps.drop (i + 1) := by
    rw [← List.drop_eq_getElem_cons h, List.take_append_drop]
  have k : ∀ (l r : List Rat) (x : Rat), (l ++ x :: r).Pairwise (· < ·) → x ∉ l ++ r := fun l r x hp hx => by
    obtain ⟨_, h2, h3⟩ := List.pairwise_append.mp hp
    rcases List.mem_append.mp hx with q | q
    · exact absurd (h3 x q x (List.mem_cons_self ..)) (by grind)
    · exact absurd ((List.pairwise_cons.mp h2).1 x q) (by grind)
  exact k _ _ _ (by rw [← e]; exact ha)
theorem getD_at {ps : List Rat} {i : Nat} (h : i < ps.length) : ps.getD i 0 = ps[i] := by
  rw [List.getD_eq_getElem?_getD, List.getElem?_eq_getElem h]
  rfl
theorem cut_lo {α : Type} (l : List α) (n : Nat) (h : n ≤ l.length) : cutL l none (some (n : Int)) = l.take n := by
  unfold cutL
  rw [HT.sIx_none, HT.sIx_nat, Nat.min_eq_left h]
  rfl
theorem cut_hi {α : Type} (l : List α) (n : Nat) (h : n ≤ l.length) : cutL l (some (n : Int)) none = l.drop n := by
  unfold cutL
  rw [HT.sIx_none, HT.sIx_nat, Nat.min_eq_left h]
  exact List.take_of_length_le (by rw [List.length_drop]; omega)
theorem LB_len {ps : List Rat} {i : Nat} (h : i < ps.length) : (LB ps i).length = ps.length := by
  unfold LB
  rw [List.length_map, WR_len, oth_len h]
  omega
theorem LB_sq {B : Int} {e : Nat} {ps : List Rat} (hp : PB B e ps) (ha : ps.Pairwise (· < ·)) {i : Nat} (h : i < ps.length) : Sqs (2 * (1 + (e + 1) * (ps.length - 1))) (LB ps i) := fun q hq => by
  have ho : PB B e (oth ps i) := hp.sub fun p hp => oth_mem hp
  obtain ⟨c, hc, rfl⟩ := List.mem_map.mp hq
  have s1 := WR_sq ho c hc
  have s2 := prd_sq (ps := oth ps i) hp.b0 hp.be (hp.each ps[i] (List.getElem_mem h)) ho.each
  rw [oth_len h] at s1 s2
  have ne := prd_ne (oth_not ha h)
  rw [getD_at h]
  exact sq_divB s1 s2 ne (by omega)
/-! ### weights -/
def Wts (w : Wt) (ps : List Rat) : List Rat := (List.range ps.length).map fun i => WS w (LB ps i)
theorem Wts_len (w : Wt) (ps : List Rat) : (Wts w ps).length = ps.length := by
  unfold Wts
  rw [List.length_map, List.length_range]
theorem wt_sq {w : Wt} (g : Good w) {B : Int} {e : Nat} {ps : List Rat} (hp : PB B e ps) (ha : ps.Pairwise (· < ·)) (hl : ps.length ≤ 6) (he : e ≤ 30) {i : Nat} (h : i < ps.length) : weighed w ((LB ps i).map fr) = .ok (fr (WS w (LB ps i))) ∧ Sq (1 + (2 * (1 + (e + 1) * (ps.length - 1)) + 91) * ps.length) (WS w (LB ps i)) := by
  have m : (e + 1) * (ps.length - 1) ≤ 31 * 5 := Nat.mul_le_mul (by omega) (by omega)
  have mm : (2 * (1 + (e + 1) * (ps.length - 1)) + 91) * ps.length ≤ 403 * 6 := Nat.mul_le_mul (by omega) hl
  have := weighed_ok g (l := LB ps i) (c := 2 * (1 + (e + 1) * (ps.length - 1))) (by rw [LB_len h]; omega) (LB_sq hp ha h) (by rw [LB_len h]; omega)
  rw [LB_len h] at this
  exact this
theorem WS_sq {w : Wt} (g : Good w) {B : Int} {e : Nat} {ps : List Rat} (hp : PB B e ps) (ha : ps.Pairwise (· < ·)) (hl : ps.length ≤ 6) (he : e ≤ 30) {i : Nat} (h : i < ps.length) : Sq (1 + (2 * (1 + (e + 1) * (ps.length - 1)) + 91) * ps.length) (WS w (LB ps i)) := by
  have sL := LB_sq hp ha h
  have k : ∀ l : List (Int × Rat), (∀ x ∈ l, Sq (2 * (1 + (e + 1) * (ps.length - 1)) + 90) (tW w x)) → Sq (1 + (2 * (1 + (e + 1) * (ps.length - 1)) + 91) * l.length) (l.map (tW w)).sum := fun l => by
    induction l with
    | nil => intro _; exact zero_sqn (by omega)
    | cons x l ih =>
      intro hx
      rw [List.map_cons, List.sum_cons]
      exact sq_add (hx x (List.mem_cons_self ..)) (ih fun y hy => hx y (List.mem_cons_of_mem _ hy)) (by rw [List.length_cons, Nat.mul_succ]; omega)
  have q := k (numL 0 (LB ps i)) fun x hx => by
    obtain ⟨a, b, m⟩ := numL_mem _ 0 x hx
    have := LB_len h
    exact sq_mul (sL _ m) (sq_PS12 g (by omega)) (Nat.le_refl _)
  rw [numL_len, LB_len h] at q
  exact q
theorem Wts_sq {w : Wt} (g : Good w) {B : Int} {e : Nat} {ps : List Rat} (hp : PB B e ps) (ha : ps.Pairwise (· < ·)) (hl : ps.length ≤ 6) (he : e ≤ 30) : Sqs (1 + (2 * (1 + (e + 1) * (ps.length - 1)) + 91) * ps.length) (Wts w ps) := fun q hq => by
  obtain ⟨i, hi, rfl⟩ := List.mem_map.mp hq
  exact (wt_sq g hp ha hl he (List.mem_range.mp hi)).2
/-! ### indexes -/
theorem filMm_eq {α γ : Type} {f : α → Mm (Option γ)} (g : α → Option γ) : ∀ l : List α, (∀ x ∈ l, f x = .ok (g x)) → filMm f l = .ok (l.filterMap g)
  | [], _ => rfl
  | x :: l, h => by
    unfold filMm
    rw [h x (List.mem_cons_self ..), bdo, filMm_eq g l fun y hy => h y (List.mem_cons_of_mem _ hy), bdo, List.filterMap_cons]
    cases g x <;> rfl
theorem filMm_map {α β γ : Type} {f : β → Mm (Option γ)} {g : α → β} : ∀ l : List α, filMm f (l.map g) = filMm (fun x => f (g x)) l
  | [] => rfl
  | x :: l => by
    rw [List.map_cons]
    unfold filMm
    rw [filMm_map l]
theorem numL_fst {α : Type} : ∀ (l : List α) (k : Int), (numL k l).map (·.1) = rangeL k l.length
  | [], k => rfl
  | x :: l, k => by
    unfold numL
    rw [List.map_cons, numL_fst l, List.length_cons, rangeL_succ]
theorem numL_at {α : Type} {l : List α} {y : Int × α} (h : y ∈ numL 0 l) : l[y.1.toNat]? = some y.2 ∧ 0 ≤ y.1 := by
  have k : ∀ (l pre : List α) (y : Int × α), y ∈ numL (pre.length : Int) l → (pre ++ l)[y.1.toNat]? = some y.2 := fun l => by
    induction l with
    | nil => intro pre y h; cases h
    | cons x l ih =>
      intro pre y h
      rcases List.mem_cons.mp h with rfl | h
      · show (pre ++ x :: l)[((pre.length : Int)).toNat]? = some x
        rw [Int.toNat_natCast]
        simp
      · have := ih (pre ++ [x]) y (by rw [List.length_append, List.length_singleton]; exact h)
        simpa using this
  exact ⟨by simpa using k l [] y h, (numL_mem l 0 y h).1⟩
def idx (P : Rat → Bool) (l : List Rat) : List Int := (numL 0 l).filterMap fun y => if P y.2 then some y.1 else none
theorem idx_prog {f : Int × (Int × Int) → Mm (Option Int)} (P : Rat → Bool) (l : List Rat) (hf : ∀ (i : Int) (q : Rat), q ∈ l → f (i, fr q) = .ok (if P q then some i else none)) : filMm f (enumL (l.map fr)) = .ok (idx P l) := by
  rw [enumL_eq, numL_map, filMm_map]
  exact filMm_eq _ _ fun y hy => hf y.1 y.2 (numL_mem l 0 y hy).2.2
theorem idx_law {f : Int → Mm (Option Int)} (P : Rat → Bool) (l : List Rat) (hf : ∀ (i : Nat) (q : Rat), l[i]? = some q → f (i : Int) = .ok (if P q then some (i : Int) else none)) : filMm f (rangeL 0 l.length) = .ok (idx P l) := by
  rw [← numL_fst, filMm_map]
  refine filMm_eq _ _ fun y hy => ?_
  obtain ⟨h1, h2⟩ := numL_at hy
  have e : y.1 = ((y.1.toNat : Nat) : Int) := by omega
  have := hf y.1.toNat y.2 h1
  rw [← e] at this
  exact this
theorem fr_isz (q : Rat) : decide (fr q = ((0, 1) : Int × Int)) = decide (q = 0) := by
  rw [← fr_zero]
  exact decide_eq_decide.mpr ⟨fr_inj, fun h => by rw [h]⟩
theorem fr_isp (q : Rat) : decide ((fr q).1 > (0 : Int)) = decide (0 < q) := decide_eq_decide.mpr (by
  constructor
  · intro h
    have v := fr_val q
    have p : (0 : Rat) < ((fr q).1 : Rat) := Rat.intCast_pos.mpr h
    have d : (0 : Rat) < ((fr q).2 : Rat) := Rat.intCast_pos.mpr (den_posI q)
    rw [← v, Rat.div_def]
    exact Rat.mul_pos p (Rat.inv_pos.mpr d)
  · exact fun h => num_pos' h)
structure Pls (n : Nat) (pl : List (Int × Int)) (ps : List Rat) : Prop where
  rx : All2 (fun p x => Rx 7 x p) ps pl
  asc : ps.Pairwise (· < ·)
  len : ps.length ≤ n
  pos : 0 < ps.length
  pb : ∃ B, PB B 6 ps
theorem int_pls {n : Nat} (zs : List Int) (h : zs.Pairwise (· < ·)) (hb : ∀ z ∈ zs, z.natAbs ≤ 40) (hl : zs.length ≤ n) (h0 : 0 < zs.length) : Pls n (zs.map fun z => (z, (1 : Int))) (zs.map fun z => ((z : Int) : Rat)) := by
  have e6 : (2 : Nat) ^ 6 = 64 := by decide
  have e7 : (2 : Nat) ^ 7 = 128 := by decide
  refine ⟨?_, ?_, by rw [List.length_map]; exact hl, by rw [List.length_map]; exact h0, 1, by decide, by decide, fun p hp => ?_⟩
  · clear h hl h0
    induction zs with
    | nil => exact .nil
    | cons z zs ih => exact .cons (rx_int (by have := hb z (List.mem_cons_self ..); omega) (by decide)) (ih fun y hy => hb y (List.mem_cons_of_mem _ hy))
  · rw [List.pairwise_map]
    exact h.imp fun k => Rat.intCast_lt_intCast.mpr k
  · obtain ⟨z, hz, rfl⟩ := List.mem_map.mp hp
    refine ⟨z, ?_, by have := hb z hz; omega⟩
    push_cast
    grind
theorem mass_places (w : Wt) : w.1.map (fun x => (x.1, (1 : Int))) = (w.1.map (·.1)).map fun z => (z, (1 : Int)) := by rw [List.map_map]; rfl
/-! ### interpolation -/
theorem ev_map_mul (c x : Rat) : ∀ l : List Rat, ev (l.map (c * ·)) x = c * ev l x
  | [] => by
    show (0 : Rat) = c * 0
    grind
  | y :: l => by
    show c * y + x * ev (l.map (c * ·)) x = c * (y + x * ev l x)
    rw [ev_map_mul c x l]
    grind
theorem ev_zipWith (x : Rat) : ∀ l r : List Rat, l.length = r.length → ev (List.zipWith (· + ·) l r) x = ev l x + ev r x
  | [], [], _ => by
    show (0 : Rat) = 0 + 0
    grind
  | [], _ :: _, h => by cases h
  | _ :: _, [], h => by cases h
  | a :: l, b :: r, h => by
    show a + b + x * ev (List.zipWith (· + ·) l r) x = a + x * ev l x + (b + x * ev r x)
    rw [ev_zipWith x l r (by simpa using h)]
    grind
theorem ev_LB (ps : List Rat) (i : Nat) (x : Rat) : ev (LB ps i) x = prd x (oth ps i) / prd (ps.getD i 0) (oth ps i) := by
  unfold LB
  rw [map_divI, ev_map_mul, ev_WR]
  grind
where map_divI {c : Rat} {l : List Rat} : l.map (fun y => y / c) = l.map ((1 / c) * ·) := List.map_congr_left fun y _ => by grind
theorem mem_oth {ps : List Rat} {i j : Nat} (hj : j < ps.length) (h : j ≠ i) : ps[j] ∈ oth ps i := by
  unfold oth
  by_cases q : j < i
  · refine List.mem_append_left _ (List.mem_iff_getElem.mpr ⟨j, by rw [List.length_take]; omega, ?_⟩)
    rw [List.getElem_take]
  · refine List.mem_append_right _ (List.mem_iff_getElem.mpr ⟨j - (i + 1), by rw [List.length_drop]; omega, ?_⟩)
    rw [List.getElem_drop]
    congr 1
    omega
theorem ev_LB_self {ps : List Rat} (ha : ps.Pairwise (· < ·)) {i : Nat} (h : i < ps.length) : ev (LB ps i) ps[i] = 1 := by
  rw [ev_LB, getD_at h]
  have := prd_ne (oth_not ha h)
  grind
theorem ev_LB_other {ps : List Rat} {i j : Nat} (hj : j < ps.length) (h : j ≠ i) : ev (LB ps i) ps[j] = 0 := by
  rw [ev_LB, prd_zero (mem_oth hj h)]
  grind
def IPk (ps ys : List Rat) : Nat → List Rat
  | 0 => List.replicate ps.length 0
  | k + 1 => List.zipWith (· + ·) (IPk ps ys k) ((LB ps k).map (ys.getD k 0 * ·))
def IP (ps ys : List Rat) : List Rat := IPk ps ys ps.length
theorem IPk_len (ps ys : List Rat) : ∀ k, k ≤ ps.length → (IPk ps ys k).length = ps.length
  | 0, _ => by
    unfold IPk
    rw [List.length_replicate]
  | k + 1, h => by
    unfold IPk
    rw [List.length_zipWith, IPk_len ps ys k (by omega), List.length_map, LB_len (by omega), Nat.min_self]
theorem IP_len (ps ys : List Rat) : (IP ps ys).length = ps.length := IPk_len ps ys _ (Nat.le_refl _)
theorem ev_repl (x : Rat) : ∀ n : Nat, ev (List.replicate n 0) x = 0
  | 0 => rfl
  | n + 1 => by
    rw [List.replicate_succ]
    show 0 + x * ev (List.replicate n 0) x = 0
    rw [ev_repl x n]
    grind
theorem ev_IPk {ps ys : List Rat} (ha : ps.Pairwise (· < ·)) {j : Nat} (hj : j < ps.length) : ∀ k, k ≤ ps.length → ev (IPk ps ys k) ps[j] = if j < k then ys.getD j 0 else 0
  | 0, _ => by
    rw [if_neg (by omega)]
    exact ev_repl _ _
  | k + 1, h => by
    have ih := ev_IPk ha hj k (ys := ys) (by omega)
    show ev (List.zipWith (· + ·) (IPk ps ys k) ((LB ps k).map (ys.getD k 0 * ·))) ps[j] = _
    rw [ev_zipWith _ _ _ (by rw [IPk_len ps ys k (by omega), List.length_map, LB_len (by omega)]), ih, ev_map_mul]
    by_cases q : j = k
    · subst q
      rw [ev_LB_self ha hj, if_neg (by omega), if_pos (by omega)]
      grind
    · rw [ev_LB_other hj q]
      by_cases z : j < k
      · rw [if_pos z, if_pos (by omega)]
        grind
      · rw [if_neg z, if_neg (by omega)]
        grind
theorem ev_IP {ps ys : List Rat} (ha : ps.Pairwise (· < ·)) {j : Nat} (hj : j < ps.length) : ev (IP ps ys) ps[j] = ys.getD j 0 := by
  unfold IP
  rw [ev_IPk ha hj _ (Nat.le_refl _), if_pos hj]
theorem ev_IPf {ps : List Rat} (ha : ps.Pairwise (· < ·)) (f : Rat → Rat) : ∀ p ∈ ps, ev (IP ps (ps.map f)) p = f p := fun p hp => by
  obtain ⟨i, hi, rfl⟩ := List.getElem_of_mem hp
  rw [ev_IP ha hi, List.getD_eq_getElem?_getD, List.getElem?_map, List.getElem?_eq_getElem hi]
  rfl
/-! ### a polynomial is told by as many worths as it has coefficients -/
def sx (p : Rat) : List Rat → List Rat
  | [] => []
  | c :: l => ev (c :: l) p :: sx p l
theorem sx_len (p : Rat) : ∀ l, (sx p l).length = l.length
  | [] => rfl
  | c :: l => by
    unfold sx
    rw [List.length_cons, sx_len p l, List.length_cons]
theorem rp_sx (p : Rat) : ∀ (l : List Rat) (z c : Rat), z = c + ev l p * p → rp p z (sx p l) = c :: l
  | [], z, c, h => by
    show [z] = [c]
    congr 1
    rw [h]
    show c + 0 * p = c
    grind
  | d :: l, z, c, h => by
    show (z - ev (d :: l) p * p) :: rp p (ev (d :: l) p) (sx p l) = c :: d :: l
    rw [rp_sx p l (ev (d :: l) p) d (by show d + p * ev l p = d + ev l p * p; grind), h]
    congr 1
    grind
theorem factor {p : Rat} {c : Rat} {l : List Rat} (h : ev (c :: l) p = 0) : rp p 0 (sx p l) = c :: l := rp_sx p l 0 c (by
  have : c + p * ev l p = 0 := h
  grind)
theorem rp_zero (p : Rat) : ∀ (l : List Rat) (z : Rat), z = 0 → (∀ c ∈ l, c = 0) → ∀ c ∈ rp p z l, c = 0
  | [], z, hz, _, c, hc => by rw [List.mem_singleton.mp hc, hz]
  | x :: l, z, hz, h, c, hc => by
    have hx := h x (List.mem_cons_self ..)
    rcases List.mem_cons.mp hc with rfl | hc
    · rw [hz, hx]
      grind
    · exact rp_zero p l x hx (fun y hy => h y (List.mem_cons_of_mem _ hy)) c hc
theorem zero_of_roots : ∀ (ps l : List Rat), ps.Pairwise (· ≠ ·) → l.length ≤ ps.length → (∀ p ∈ ps, ev l p = 0) → ∀ c ∈ l, c = 0
  | _, [], _, _, _, c, hc => by cases hc
  | [], _ :: _, _, h, _, c, hc => by simp at h
  | p :: ps, c :: l, hn, hl, hr, d, hd => by
    obtain ⟨n1, n2⟩ := List.pairwise_cons.mp hn
    have f := factor (hr p (List.mem_cons_self ..))
    rw [List.length_cons, List.length_cons] at hl
    have z := zero_of_roots ps (sx p l) n2 (by rw [sx_len]; omega) fun q hq => by
      have e := hr q (List.mem_cons_of_mem _ hq)
      rw [← f, ev_rp] at e
      have : q - p ≠ 0 := fun z => n1 q hq (by grind)
      grind
    rw [← f] at hd
    exact rp_zero p _ 0 rfl z d hd
theorem asc_ne {ps : List Rat} (h : ps.Pairwise (· < ·)) : ps.Pairwise (· ≠ ·) := h.imp fun {a b} k e => by rw [e] at k; exact absurd k (by grind)
theorem same_poly {ps : List Rat} (hn : ps.Pairwise (· ≠ ·)) {l r : List Rat} (h1 : l.length = r.length) (h2 : l.length ≤ ps.length) (h : ∀ p ∈ ps, ev l p = ev r p) : l = r := by
  have z := zero_of_roots ps (List.zipWith (· + ·) l (r.map ((-1) * ·))) hn (by rw [List.length_zipWith, List.length_map]; omega) fun p hp => by
    rw [ev_zipWith _ _ _ (by rw [List.length_map]; exact h1), ev_map_mul, h p hp]
    grind
  have k : ∀ l r : List Rat, l.length = r.length → (∀ c ∈ List.zipWith (· + ·) l (r.map ((-1) * ·)), c = 0) → l = r := fun l => by
    induction l with
    | nil =>
      intro r h _
      cases r with
      | nil => rfl
      | cons => cases h
    | cons a l ih =>
      intro r h k
      cases r with
      | nil => cases h
      | cons b r =>
        have e := k (a + -1 * b) (by simp)
        rw [ih r (by simpa using h) fun c hc => k c (by simp only [List.map_cons, List.zipWith_cons_cons]; exact List.mem_cons_of_mem _ hc)]
        congr 1
        grind
  exact k l r h1 z
def tl (l : List Rat) : Nat → Nat
  | 0 => 0
  | n + 1 => if l.getD n 0 = 0 then tl l n else n + 1
def trim (l : List Rat) : List Rat := l.take (tl l l.length)
theorem tl_le (l : List Rat) : ∀ n, tl l n ≤ n
  | 0 => Nat.le_refl _
  | n + 1 => by
    unfold tl
    split
    · have := tl_le l n
      omega
    · exact Nat.le_refl _
theorem tl_zero {l : List Rat} : ∀ {n k : Nat}, tl l n ≤ k → k < n → l.getD k 0 = 0
  | 0, k, _, h => absurd h (by omega)
  | n + 1, k, h, h2 => by
    unfold tl at h
    split at h
    · rename_i z
      by_cases q : k = n
      · rw [q]; exact z
      · exact tl_zero h (by omega)
    · omega
theorem tl_min {l : List Rat} {m : Nat} : ∀ {n : Nat}, (∀ k, m ≤ k → k < n → l.getD k 0 = 0) → tl l n ≤ m
  | 0, _ => Nat.zero_le _
  | n + 1, h => by
    unfold tl
    split
    · exact tl_min fun k h1 h2 => h k h1 (by omega)
    · rename_i z
      apply Classical.byContradiction
      intro q
      exact z (h n (by omega) (by omega))
theorem getD_beyond {l : List Rat} {k : Nat} (h : l.length ≤ k) : l.getD k 0 = 0 := by
  rw [List.getD_eq_getElem?_getD, List.getElem?_eq_none h]
  rfl
theorem ev_take (x : Rat) : ∀ (l : List Rat) (m : Nat), (∀ k, m ≤ k → l.getD k 0 = 0) → ev (l.take m) x = ev l x
  | [], m, _ => by rw [List.take_nil]
  | c :: l, 0, h => by
    have z : ∀ r : List Rat, (∀ k, r.getD k 0 = 0) → ev r x = 0 := fun r => by
      induction r with
      | nil => intro _; rfl
      | cons d r ih =>
        intro hr
        have h0 : d = 0 := hr 0
        show d + x * ev r x = 0
        rw [ih fun k => hr (k + 1), h0]
        grind
    rw [z (c :: l) fun k => h k (Nat.zero_le _)]
    rfl
  | c :: l, m + 1, h => by
    rw [List.take_succ_cons]
    show c + x * ev (l.take m) x = c + x * ev l x
    rw [ev_take x l m fun k hk => h (k + 1) (by omega)]
theorem trim_ev (l : List Rat) (x : Rat) : ev (trim l) x = ev l x := ev_take x l _ fun k hk => by
  by_cases q : k < l.length
  · exact tl_zero hk q
  · exact getD_beyond (by omega)
theorem trim_len (l : List Rat) : (trim l).length = tl l l.length := by
  unfold trim
  rw [List.length_take]
  have := tl_le l l.length
  omega
theorem trim_le {l : List Rat} {m : Nat} : (trim l).length ≤ m ↔ ∀ k, m ≤ k → l.getD k 0 = 0 := by
  rw [trim_len]
  constructor
  · intro h k hk
    by_cases q : k < l.length
    · exact tl_zero (by omega) q
    · exact getD_beyond (by omega)
  · exact fun h => tl_min fun k h1 _ => h k h1
theorem tl_congr {l r : List Rat} : ∀ {n : Nat}, (∀ k, k < n → l.getD k 0 = r.getD k 0) → tl l n = tl r n
  | 0, _ => rfl
  | n + 1, h => by
    unfold tl
    rw [h n (by omega), tl_congr fun k hk => h k (by omega)]
theorem getD_app_lt {l r : List Rat} {k : Nat} (h : k < l.length) : (l ++ r).getD k 0 = l.getD k 0 := by
  rw [List.getD_eq_getElem?_getD, List.getD_eq_getElem?_getD, List.getElem?_append_left h]
theorem getD_snoc (l : List Rat) (x : Rat) : (l ++ [x]).getD l.length 0 = x := by
  rw [List.getD_eq_getElem?_getD]
  simp
theorem trim_snoc0 (l : List Rat) : trim (l ++ [0]) = trim l := by
  unfold trim
  rw [List.length_append, List.length_singleton]
  have e : tl (l ++ [0]) (l.length + 1) = tl l l.length := by
    show (if (l ++ [0]).getD l.length 0 = 0 then tl (l ++ [0]) l.length else l.length + 1) = _
    rw [getD_snoc, if_pos rfl]
    exact tl_congr fun k hk => getD_app_lt hk
  rw [e, List.take_append_of_le_length (tl_le _ _)]
theorem trim_snoc {l : List Rat} {x : Rat} (h : x ≠ 0) : trim (l ++ [x]) = l ++ [x] := by
  unfold trim
  rw [List.length_append, List.length_singleton]
  have e : tl (l ++ [x]) (l.length + 1) = l.length + 1 := by
    show (if (l ++ [x]).getD l.length 0 = 0 then tl (l ++ [x]) l.length else l.length + 1) = _
    rw [getD_snoc, if_neg h]
  rw [e]
  exact List.take_of_length_le (by simp)
theorem trim_mem {l : List Rat} {c : Rat} (h : c ∈ trim l) : c ∈ l := List.mem_of_mem_take h
theorem trim_pop : ∀ (N : Nat) (l : List Rat), l.length < N → foldW (fun (b137 : (List (Int × Int))) => (cond (!(decide (b137 = []))) ((getM b137 (-(1 : Int))).bd fun i170 => Mm.ok (decide (i170 = ((0 : Int), (1 : Int))))) (Mm.ok false)).bd fun b166 => Mm.ok b166) (fun (b138 : (List (Int × Int))) => (popN b138).bd fun _ => Mm.ok (List.dropLast b138)) N (l.map fr) = .ok ((trim l).map fr) := fun N => by
  induction N with
  | zero => intro l h; omega
  | succ N ih =>
    intro l hl
    unfold foldW
    rcases List.eq_nil_or_concat l with q | ⟨r, x, q⟩
    · subst q
      rfl
    · rw [List.concat_eq_append] at q
      subst q
      rw [List.length_append, List.length_singleton] at hl
      have e1 : (r ++ [x]).map fr = r.map fr ++ [fr x] := by rw [List.map_append]; rfl
      rw [e1, cT (c := !decide (r.map fr ++ [fr x] = [])) (by rw [decide_eq_false (by simp)]; rfl), getM_last, bdo, bdo, bdo, show decide (fr x = ((0 : Int), (1 : Int))) = decide (x = 0) from by
        rw [← fr_zero]
        exact decide_eq_decide.mpr ⟨fr_inj, fun h => by rw [h]⟩]
      by_cases z : x = 0
      · have p1 : popN (r.map fr ++ [fr x]) = .ok (r.map fr ++ [fr x]).dropLast := by
          cases h : r.map fr with
          | nil => rfl
          | cons a b => rfl
        rw [decide_eq_true z, z, trim_snoc0, ← ih r (by omega)]
        rw [z] at p1
        show ((popN _).bd fun _ => Mm.ok _).bd _ = _
        rw [p1, bdo, bdo]
        congr 1
        simp
      · rw [decide_eq_false z, trim_snoc z, e1]
/-! ### fitting a degree -/
def Fit (ps ys : List Rat) (m : Nat) : Prop := ∃ r : List Rat, r.length ≤ m ∧ ∀ j, j < ps.length → ev r (ps.getD j 0) = ys.getD j 0
theorem ev_pad (x : Rat) (n : Nat) : ∀ l : List Rat, ev (l ++ List.replicate n 0) x = ev l x
  | [] => ev_repl x n
  | c :: l => by
    show c + x * ev (l ++ List.replicate n 0) x = c + x * ev l x
    rw [ev_pad x n l]
theorem ev_IPg {ps ys : List Rat} (ha : ps.Pairwise (· < ·)) {j : Nat} (hj : j < ps.length) : ev (IP ps ys) (ps.getD j 0) = ys.getD j 0 := by
  rw [getD_at hj]
  exact ev_IP ha hj
theorem fit_iff {ps ys : List Rat} {m : Nat} (ha : ps.Pairwise (· < ·)) : (trim (IP ps ys)).length ≤ m ↔ Fit ps ys m := by
  constructor
  · exact fun h => ⟨trim (IP ps ys), h, fun j hj => by rw [trim_ev, ev_IPg ha hj]⟩
  · rintro ⟨r, hr, h⟩
    have il := IP_len ps ys
    by_cases q : ps.length ≤ m
    · have := tl_le (IP ps ys) (IP ps ys).length
      rw [trim_len]
      omega
    · have e : IP ps ys = r ++ List.replicate (ps.length - r.length) 0 := same_poly (asc_ne ha) (by rw [List.length_append, List.length_replicate]; omega) (by omega) fun p hp => by
        obtain ⟨i, hi, rfl⟩ := List.getElem_of_mem hp
        rw [ev_IP ha hi, ev_pad, ← h i hi, getD_at hi]
      rw [trim_le]
      intro k hk
      rw [e, List.getD_eq_getElem?_getD]
      by_cases z : r.length ≤ k
      · rw [List.getElem?_append_right z]
        by_cases y : k - r.length < ps.length - r.length
        · rw [List.getElem?_replicate, if_pos y]
          rfl
        · rw [List.getElem?_eq_none (by rw [List.length_replicate]; omega)]
          rfl
      · omega
theorem pad_len (l : List Rat) {n : Nat} (h : l.length ≤ n) : (l ++ List.replicate (n - l.length) 0).length = n := by
  rw [List.length_append, List.length_replicate]
  omega
theorem same_ev {ps l r : List Rat} {m : Nat} (hn : ps.Pairwise (· ≠ ·)) (hm : m ≤ ps.length) (h1 : l.length ≤ m) (h2 : r.length ≤ m) (h : ∀ p ∈ ps, ev l p = ev r p) (x : Rat) : ev l x = ev r x := by
  have := same_poly hn (l := l ++ List.replicate (m - l.length) 0) (r := r ++ List.replicate (m - r.length) 0) (by rw [pad_len l h1, pad_len r h2]) (by rw [pad_len l h1]; exact hm) fun p hp => by rw [ev_pad, ev_pad, h p hp]
  rw [← ev_pad x (m - l.length) l, this, ev_pad]
theorem take_asc {ps : List Rat} (h : ps.Pairwise (· < ·)) (m : Nat) : (ps.take m).Pairwise (· < ·) := h.sublist (List.take_sublist ..)
theorem getD_take {l : List Rat} {m j : Nat} (h : j < m) : (l.take m).getD j 0 = l.getD j 0 := by
  rw [List.getD_eq_getElem?_getD, List.getD_eq_getElem?_getD, List.getElem?_take_of_lt h]
theorem fit_first {ps ys : List Rat} {m : Nat} (ha : ps.Pairwise (· < ·)) : (∀ j, j < ps.length → ev (IP (ps.take m) (ys.take m)) (ps.getD j 0) = ys.getD j 0) ↔ Fit ps ys m := by
  have il := IP_len (ps.take m) (ys.take m)
  rw [List.length_take] at il
  have at_ : ∀ j, j < m → j < ps.length → ev (IP (ps.take m) (ys.take m)) (ps.getD j 0) = ys.getD j 0 := fun j h1 h2 => by
    have := ev_IPg (ys := ys.take m) (take_asc ha m) (j := j) (by rw [List.length_take]; omega)
    rw [getD_take h1, getD_take h1] at this
    exact this
  constructor
  · exact fun h => ⟨IP (ps.take m) (ys.take m), by omega, h⟩
  · rintro ⟨r, hr, h⟩ j hj
    by_cases q : ps.length ≤ m
    · exact at_ j (by omega) hj
    · rw [← h j hj]
      refine same_ev (ps := ps.take m) (m := m) (asc_ne (take_asc ha m)) (by rw [List.length_take]; omega) (by omega) hr (fun p hp => ?_) _
      obtain ⟨i, hi, rfl⟩ := List.getElem_of_mem hp
      rw [List.length_take] at hi
      rw [List.getElem_take]
      have e := getD_at (ps := ps) (i := i) (by omega)
      rw [← e, at_ i (by omega) (by omega), h i (by omega)]
/-! ### the polynomial through readings, as the program tells it -/
theorem LB_sq6 {B : Int} {e : Nat} {ps : List Rat} (hp : PB B e ps) (ha : ps.Pairwise (· < ·)) (hl : ps.length ≤ 6) (he : e ≤ 10) {i : Nat} (h : i < ps.length) : Sqs 112 (LB ps i) := by
  have m : (e + 1) * (ps.length - 1) ≤ 11 * 5 := Nat.mul_le_mul (by omega) (by omega)
  exact (LB_sq hp ha h).up (by omega)
theorem zw_sq {a b : Nat} : ∀ l r : List Rat, Sqs a l → Sqs b r → Sqs (a + b + 1) (List.zipWith (· + ·) l r)
  | [], _, _, _ => fun q hq => by cases hq
  | _ :: _, [], _, _ => fun q hq => by cases hq
  | x :: l, y :: r, h1, h2 => fun q hq => by
    rw [List.zipWith_cons_cons] at hq
    rcases List.mem_cons.mp hq with rfl | hq
    · exact sq_add (h1 x (List.mem_cons_self ..)) (h2 y (List.mem_cons_self ..)) (by omega)
    · exact zw_sq l r (fun z hz => h1 z (List.mem_cons_of_mem _ hz)) (fun z hz => h2 z (List.mem_cons_of_mem _ hz)) q hq
theorem getD_sq {ys : List Rat} {c : Nat} (hy : Sqs c ys) (h0 : 0 < c) (k : Nat) : Sq c (ys.getD k 0) := by
  by_cases q : k < ys.length
  · rw [getD_at q]
    exact hy _ (List.getElem_mem q)
  · rw [getD_beyond (by omega)]
    exact zero_sqn h0
theorem IPk_sq {B : Int} {e c : Nat} {ps ys : List Rat} (hp : PB B e ps) (ha : ps.Pairwise (· < ·)) (hl : ps.length ≤ 6) (he : e ≤ 10) (hy : Sqs c ys) (h0 : 0 < c) : ∀ k, k ≤ ps.length → Sqs (1 + (c + 113) * k) (IPk ps ys k)
  | 0, _ => fun q hq => by
    rw [List.eq_of_mem_replicate hq]
    exact zero_sqn (by omega)
  | k + 1, h => by
    have a := IPk_sq hp ha hl he hy h0 k (by omega)
    have b : Sqs (c + 112) ((LB ps k).map (ys.getD k 0 * ·)) := fun q hq => by
      obtain ⟨z, hz, rfl⟩ := List.mem_map.mp hq
      exact sq_mul (getD_sq hy h0 k) (LB_sq6 hp ha hl he (by omega) z hz) (Nat.le_refl _)
    exact (zw_sq _ _ a b).up (by rw [Nat.mul_succ]; omega)
theorem IP_sq {B : Int} {e c : Nat} {ps ys : List Rat} (hp : PB B e ps) (ha : ps.Pairwise (· < ·)) (hl : ps.length ≤ 6) (he : e ≤ 10) (hy : Sqs c ys) (h0 : 0 < c) : Sqs (1 + (c + 113) * 6) (IP ps ys) := by
  have m : (c + 113) * ps.length ≤ (c + 113) * 6 := Nat.mul_le_mul_left _ hl
  exact (IPk_sq hp ha hl he hy h0 _ (Nat.le_refl _)).up (by omega)
theorem zip_map_fr (l r : List Rat) : (l.map fr).zip (r.map fr) = (l.zip r).map fun x => (fr x.1, fr x.2) := by
  rw [List.zip_map]
  rfl
theorem zw_zip (l r : List Rat) : (l.zip r).map (fun x => x.1 + x.2) = List.zipWith (· + ·) l r := by
  rw [List.zip, List.map_zipWith]
theorem rep0 (n : Nat) (h : n ≤ 100000) : repM [((0, 1) : Int × Int)] (n : Int) = .ok ((List.replicate n (0 : Rat)).map fr) := by
  have k : ∀ n : Nat, (List.replicate n [((0, 1) : Int × Int)]).flatten = List.replicate n (0, 1) := fun n => by
    induction n with
    | zero => rfl
    | succ n ih =>
      rw [List.replicate_succ, List.flatten_cons, ih, List.replicate_succ]
      rfl
  unfold repM
  rw [if_pos ⟨by omega, by omega, by show 1 * _ ≤ _; omega⟩, Int.toNat_natCast, k, List.map_replicate, fr_zero]
theorem oth_asc {ps : List Rat} (ha : ps.Pairwise (· < ·)) (i : Nat) : (oth ps i).Pairwise (· < ·) := by
  have s : (oth ps i).Sublist ps := by
    unfold oth
    conv => rhs; rw [← List.take_append_drop i ps]
    exact (List.Sublist.refl _).append (List.drop_sublist_drop_left _ (by omega))
  exact ha.sublist s
def alone (ps ys : List Rat) (m : Nat) (i : Nat) : Bool := decide ((trim (IP (oth ps i) (oth ys i))).length ≤ m)
def FA (ps ys : List Rat) (m : Nat) : List Int := (rangeL 0 ps.length).filterMap fun x => if alone ps ys m x.toNat then some x else none
theorem rng_nat {n : Nat} {x : Int} (h : x ∈ rangeL 0 n) : ∃ k : Nat, x = (k : Int) ∧ k < n := by
  obtain ⟨i, hi, rfl⟩ := List.mem_map.mp h
  have := List.mem_range.mp hi
  exact ⟨i, by omega, this⟩
theorem readings_fold {f : Unit → Int × (Int × Int) → Mm Unit} (hf : ∀ s y, f s y = cond (decide (y.2.2 = (0 : Int))) (Mm.bad) (Mm.ok ())) : ∀ (l : List (Int × Int)) (k : Int), (∀ x ∈ l, x.2 ≠ 0) → foldM f () (numL k l) = .ok ()
  | [], k, _ => rfl
  | x :: l, k, hn => by
    unfold numL foldM
    rw [hf, cF (decide_eq_false (hn x (List.mem_cons_self ..))), bdo]
    exact readings_fold hf l (k + 1) fun y hy => hn y (List.mem_cons_of_mem _ hy)
structure FR (B : Int) (e c : Nat) (pl yl : List (Int × Int)) (ps ys : List Rat) : Prop where
  rp : All2 (fun p x => Rx 30 x p) ps pl
  ry : All2 (fun p x => Rx c x p) ys yl
  pb : PB B e ps
  asc : ps.Pairwise (· < ·)
  len : ps.length ≤ 6
  pos : 0 < ps.length
  eq : ys.length = ps.length
  e10 : e ≤ 10
  c0 : 0 < c
  c1 : c ≤ 180
theorem FR.sy {B : Int} {e c : Nat} {pl yl : List (Int × Int)} {ps ys : List Rat} (h : FR B e c pl yl ps ys) : Sqs c ys := h.ry.left fun _ _ r => r.sq
def mend (ps ys : List Rat) (i : Nat) : List Rat := ys.take i ++ (ev (IP (oth ps i) (oth ys i)) (ps.getD i 0) :: ys.drop (i + 1))
def Rep (ps ys : List Rat) (m : Nat) : Option (List Rat) := if (trim (IP ps ys)).length ≤ m then some ys else match FA ps ys m with
  | [i] => some (mend ps ys i.toNat)
  | _ => none
/-! ### the law's polynomial through readings -/
theorem appL {α γ : Type} {p : α → γ → Prop} {l l' : List α} {r r' : List γ} (h : All2 p l r) (h' : All2 p l' r') : All2 p (l ++ l') (r ++ r') := by
  induction h with
  | nil => exact h'
  | cons a _ ih => exact .cons a ih
theorem takeL {α γ : Type} {p : α → γ → Prop} {l : List α} {r : List γ} (h : All2 p l r) : ∀ n, All2 p (l.take n) (r.take n) := by
  induction h with
  | nil => intro n; rw [List.take_nil, List.take_nil]; exact .nil
  | cons a _ ih =>
    intro n
    cases n with
    | zero => exact .nil
    | succ n => exact .cons a (ih n)
theorem dropL {α γ : Type} {p : α → γ → Prop} {l : List α} {r : List γ} (h : All2 p l r) : ∀ n, All2 p (l.drop n) (r.drop n) := by
  induction h with
  | nil => intro n; rw [List.drop_nil, List.drop_nil]; exact .nil
  | cons a b ih =>
    intro n
    cases n with
    | zero => exact .cons a b
    | succ n => exact ih n
theorem cut_take {α : Type} (l : List α) (n : Nat) : cutL l none (some (n : Int)) = l.take n := by
  by_cases h : n ≤ l.length
  · exact cut_lo l n h
  · unfold cutL
    rw [HT.sIx_none, HT.sIx_nat, Nat.min_eq_right (by omega), List.take_of_length_le (l := l) (i := n) (by omega)]
    exact List.take_of_length_le (Nat.le_refl _)
theorem cut_drop {α : Type} (l : List α) (n : Nat) : cutL l (some (n : Int)) none = l.drop n := by
  by_cases h : n ≤ l.length
  · exact cut_hi l n h
  · unfold cutL
    rw [HT.sIx_none, HT.sIx_nat, Nat.min_eq_right (by omega), List.drop_eq_nil_of_le (as := l) (i := n) (by omega), List.drop_eq_nil_of_le (as := l) (i := l.length) (Nat.le_refl _), List.take_nil]
theorem hornerX {f : Int × Int → Int × Int → Mm (Int × Int)} {p : Rat} {b c : Nat} (hp : Sq b p) (N : Nat) (hf : ∀ y x, Rx c y x → ∀ q a, Sq a q → a + b + c + 1 ≤ N → f (fr q) y = .ok (fr (q * p + x))) : ∀ {l : List Rat} {r : List (Int × Int)}, All2 (fun q y => Rx c y q) l r → (b + c + 1) * l.length + 1 ≤ N → foldM f ((0, 1) : Int × Int) r.reverse = .ok (fr (ev l p)) := by
  intro l r h
  induction h with
  | nil =>
    intro _
    show Mm.ok _ = _
    rw [← fr_zero]
    rfl
  | cons a h ih =>
    rename_i x y l r
    intro hN
    have e : (b + c + 1) * (x :: l).length = (b + c + 1) * l.length + (b + c + 1) := by rw [List.length_cons, Nat.mul_succ]
    have hl : Sqs c l := h.left fun _ _ r => r.sq
    rw [List.reverse_cons, foldM_app, ih (by omega)]
    show (f _ y).bd _ = _
    rw [hf y x a _ _ (ev_sq hp l hl) (by omega)]
    show Mm.ok _ = _
    congr 2
    show _ = x + p * ev l p
    grind
theorem all_loop {α : Type} {f : Unit → α → Mm (Fl Bool Unit)} (P : α → Bool) : ∀ l : List α, (∀ x ∈ l, f () x = cond (!(P x)) (.ok (.ret false)) (.ok (.go ()))) → (foldL f () l).bd (fun o => o.el (fun _ => Mm.ok true) (fun r => Mm.ok r)) = .ok (l.all P)
  | [], _ => rfl
  | x :: l, h => by
    unfold foldL
    rw [h x (List.mem_cons_self ..), List.all_cons]
    cases hx : P x with
    | false => rfl
    | true =>
      rw [cF (c := !true) rfl, bdo]
      exact all_loop P l fun y hy => h y (List.mem_cons_of_mem _ hy)
/-! ### the law's own fractions, its other family -/
theorem fdiv_flip {g a : Int} (h : 0 < g) (d : g ∣ a) : (0 : Int) - a.fdiv g = a.fdiv (-g) := by
  rw [fdiv_neg_dvd h d, Int.fdiv_eq_ediv_of_nonneg _ (by omega), Int.neg_ediv_of_dvd d]
  omega
theorem law_low_any {a b : Int} {n : Nat} (h : b ≠ 0) (hb : b.natAbs < 2 ^ n) (hn : n < 9000) : law_low a b = .ok (fr ((a : Rat) / (b : Rat))) := by
  unfold law_low
  by_cases z : a = 0
  · subst z
    have e : ((0 : Int) : Rat) / (b : Rat) = 0 := by
      push_cast
      grind
    rw [cT (decide_eq_true rfl), e, fr_zero]
  · have g1 := Nat.lt_of_le_of_lt (gcd_leZ (a := a) h) hb
    have g0 := gcd_posZ (a := a) h
    rw [cF (decide_eq_false z), euclid _ _ _ (abs_nn a) (abs_nn b) (by omega), abs_na, abs_na, bdo]
    by_cases q : b > 0
    · rw [cT (decide_eq_true q), div_any (by omega) g1 hn, bdo, div_any (by omega) g1 hn, bdo, bdo, fr_pos q]
    · rw [cF (decide_eq_false q), div_any (by omega) g1 hn, bdo, div_any (by omega) g1 hn, bdo, bdo, fr_neg (by omega), fdiv_flip g0 (Int.ofNat_dvd_left.mpr (Nat.gcd_dvd_left _ _)), fdiv_flip g0 (Int.ofNat_dvd_left.mpr (Nat.gcd_dvd_right _ _))]
theorem law_low_x {x : Int × Int} {q : Rat} {n : Nat} (h : Rx n x q) (hn : n < 9000) : law_low x.1 x.2 = .ok (fr q) := by rw [law_low_any h.nz h.b hn, h.v]
theorem law_mul_x {x y : Int × Int} {p q : Rat} {a b : Nat} (hx : Rx a x p) (hy : Rx b y q) (h : a + b < 8999) : law_mul x y = .ok (fr (p * q)) := by
  unfold law_mul
  rw [mul_ok hx.t hy.t (by omega), bdo, mul_ok hx.b hy.b (by omega), bdo, law_low_any (mul_nz hx.nz hy.nz) (mul_lt hx.b hy.b (Nat.le_refl _)) (by omega), bdo, rx_mul hx hy]
theorem law_mul_ok {p q : Rat} {a b : Nat} (ha : Sq a p) (hb : Sq b q) (h : a + b < 8999) : law_mul (fr p) (fr q) = .ok (fr (p * q)) := law_mul_x (rx_fr ha) (rx_fr hb) h
theorem law_is_less_ok {p q : Rat} {a b : Nat} (ha : Sq a p) (hb : Sq b q) (h : a + b < 8999) : law_is_less (fr p) (fr q) = .ok (decide (p < q)) := by
  unfold law_is_less
  rw [mul_ok (i := (fr p).1) (j := (fr q).2) ha.1 hb.d (by omega), bdo, mul_ok (i := (fr q).1) (j := (fr p).2) hb.1 ha.d (by omega), bdo]
  congr 1
  exact decide_eq_decide.mpr (Rat.lt_iff p q).symm
theorem rev_rng {n : Nat} : (rangeL 0 n).reverse = (rangeL 0 n).map fun i => (n : Int) - 1 - i := by
  rw [← rangeDn_rev]
  unfold rangeDn rangeL
  rw [List.map_map]
  exact List.map_congr_left fun i _ => by show (n : Int) - 1 - i = (n : Int) - 1 - (0 + i); omega
/-! ### what the law draws -/
theorem pickA_ok {α : Type} {scr : List Int} {st : Rw} {l : List α} {N : Nat} (r : Rk N st) (h0 : 0 < l.length) (h1 : l.length < 1000) (hN : N < 999999) : Yes (pickM takenA scr st l) fun r => r.1 ∈ l ∧ Rk (N + 1) r.2 := by
  unfold pickM
  refine (takenA_ok r (by omega) (by omega) hN).bd fun b hb => ?_
  obtain ⟨⟨b0, b1⟩, rb⟩ := hb
  obtain ⟨x, hx, g⟩ := getM_ok (l := l) b0 b1
  exact .eq g (.ok ⟨hx, rb⟩)
theorem hasM_iff {α : Type} [DecidableEq α] (l : List α) (a : α) : hasM l a = decide (a ∈ l) := by
  unfold hasM
  rw [Bool.eq_iff_iff, List.contains_iff_mem, decide_eq_true_eq]
theorem mem_fr {p : Rat} {l : List Rat} : hasM (l.map fr) (fr p) = decide (p ∈ l) := by
  rw [hasM_iff]
  refine decide_eq_decide.mpr ?_
  constructor
  · intro h
    obtain ⟨q, hq, e⟩ := List.mem_map.mp h
    rw [← fr_inj e]
    exact hq
  · intro h
    exact List.mem_map_of_mem h
theorem fil_less {p : Rat} (hp : Sq 10 p) : ∀ l : List Rat, Sqs 10 l → filMm (fun (x71 : (Int × Int)) => (law_is_less (x71) (fr p)).bd fun b90 => cond b90 (Mm.ok (some x71)) (Mm.ok none)) (l.map fr) = .ok ((l.filter fun q => decide (q < p)).map fr)
  | [], _ => rfl
  | q :: l, h => by
    rw [List.map_cons]
    unfold filMm
    rw [law_is_less_ok (h q (List.mem_cons_self ..)) hp (by decide), bdo, fil_less hp l fun x hx => h x (List.mem_cons_of_mem _ hx)]
    cases e : decide (q < p) with
    | true =>
      rw [List.filter_cons_of_pos (by simpa using e)]
      rfl
    | false =>
      rw [List.filter_cons_of_neg (by simpa using e)]
      rfl
theorem lt_tr {a b c : Rat} (h : a < b) (h' : b < c) : a < c := by grind
theorem spot {p : Rat} : ∀ l : List Rat, l.Pairwise (· < ·) → p ∉ l → (l.take (l.filter fun q => decide (q < p)).length ++ [p] ++ l.drop (l.filter fun q => decide (q < p)).length).Pairwise (· < ·)
  | [], _, _ => by simp
  | q :: l, h, hn => by
    obtain ⟨h1, h2⟩ := List.pairwise_cons.mp h
    have hq : p ≠ q := fun e => hn (by rw [e]; exact List.mem_cons_self ..)
    have hl : p ∉ l := fun e => hn (List.mem_cons_of_mem _ e)
    by_cases c : q < p
    · rw [List.filter_cons_of_pos (by simpa using c), List.length_cons, List.take_succ_cons, List.drop_succ_cons]
      have ih := spot l h2 hl
      rw [List.cons_append, List.cons_append]
      refine List.pairwise_cons.mpr ⟨fun x hx => ?_, ih⟩
      rw [List.append_assoc, List.mem_append, List.mem_append, List.mem_singleton] at hx
      rcases hx with hx | hx | hx
      · exact h1 x (List.mem_of_mem_take hx)
      · rw [hx]; exact c
      · exact h1 x (List.mem_of_mem_drop hx)
    · have lt : p < q := by
        have := Rat.not_lt.mp c
        exact Rat.lt_of_le_of_ne this hq
      have e : (q :: l).filter (fun q => decide (q < p)) = [] := by
        rw [List.filter_eq_nil_iff]
        intro x hx
        rcases List.mem_cons.mp hx with rfl | hx
        · simpa using c
        · have := h1 x hx
          simp only [decide_eq_true_eq]
          intro z
          exact c (lt_tr this z)
      rw [e]
      show (p :: q :: l).Pairwise (· < ·)
      refine List.pairwise_cons.mpr ⟨fun x hx => ?_, h⟩
      rcases List.mem_cons.mp hx with rfl | hx
      · exact lt
      · exact lt_tr lt (h1 x hx)
/-! ### readings, set and found -/
theorem setL {α γ : Type} {p : α → γ → Prop} {l : List α} {r : List γ} {x : α} {y : γ} (h : All2 p l r) (hxy : p x y) : ∀ i : Nat, All2 p (l.set i x) (r.set i y) := by
  induction h with
  | nil => intro i; exact .nil
  | cons a b ih =>
    intro i
    cases i with
    | zero => exact .cons hxy b
    | succ i => exact .cons a (ih i)
theorem setM_ok {α : Type} {l : List α} {i : Int} (v : α) (h0 : 0 ≤ i) (h : i < l.length) : setM l i v = .ok (l.set i.toNat v) := by
  unfold setM ixN
  rw [if_pos h0, if_pos h]
theorem rx_list {c : Nat} {n : Int} {l : List (Int × Int)} {ps : List Rat} (h : All2 (fun p x => Rx c x p) ps l) : ∀ i : Nat, i < ps.length → All2 (fun p x => Rx c x p) (oth ps i) (l.take i ++ l.drop (i + 1)) := fun i _ => appL (takeL h i) (dropL h (i + 1))
theorem mend_set (ps ys : List Rat) {i : Nat} (h : i < ys.length) (v : Rat) : ys.take i ++ v :: ys.drop (i + 1) = ys.set i v := by
  rw [List.set_eq_take_append_cons_drop, if_pos h]
theorem FA_mem {ps ys : List Rat} {m : Nat} {x : Int} (h : x ∈ FA ps ys m) : ∃ k : Nat, x = (k : Int) ∧ k < ps.length ∧ alone ps ys m k = true := by
  obtain ⟨y, hy, hz⟩ := List.mem_filterMap.mp h
  obtain ⟨k, rfl, hk⟩ := rng_nat hy
  rw [Int.toNat_natCast] at hz
  split at hz
  · rename_i q
    cases hz
    exact ⟨k, rfl, hk, q⟩
  · cases hz
theorem mend_ev {ps ys : List Rat} {m i : Nat} (ha : ps.Pairwise (· < ·)) (hi : i < ps.length) (hn : m + 1 ≤ ps.length) (h : alone ps ys m i = true) (x : Rat) : ev (IP ((oth ps i).take m) ((oth ys i).take m)) x = ev (IP (oth ps i) (oth ys i)) x := by
  have ao := oth_asc ha i
  have ol := oth_len hi
  have f := of_decide_eq_true h
  have il := IP_len ((oth ps i).take m) ((oth ys i).take m)
  rw [List.length_take] at il
  rw [← trim_ev (IP (oth ps i) (oth ys i))]
  refine same_ev (ps := (oth ps i).take m) (m := m) (asc_ne (take_asc ao m)) (by rw [List.length_take]; omega) (by omega) f (fun p hp => ?_) x
  obtain ⟨j, hj, rfl⟩ := List.getElem_of_mem hp
  have hj' := hj
  rw [List.length_take] at hj'
  rw [trim_ev, ev_IP (take_asc ao m) hj, List.getElem_take, ev_IP ao (by omega), getD_take (by omega)]
theorem fold_append {R : Type} {f : (List Int × R) → Int → Mm (List Int × R)} {P : Nat → Bool} {r : R} {n : Nat} (hf : ∀ (acc : List Int) (k : Nat), k < n → acc.length ≤ k → f (acc, r) (k : Int) = .ok (acc ++ (if P k then [(k : Int)] else []), r)) : ∀ (m k : Nat) (acc : List Int), k + m = n → acc.length ≤ k → foldM f (acc, r) (rangeL (k : Int) m) = .ok (acc ++ (rangeL (k : Int) m).filterMap (fun x => if P x.toNat then some x else none), r)
  | 0, k, acc, _, _ => by
    show Mm.ok _ = Mm.ok (acc ++ [], r)
    rw [List.append_nil]
  | m + 1, k, acc, h, ha => by
    have e4 : (k : Int) + 1 = ((k + 1 : Nat) : Int) := by omega
    rw [rangeL_succ]
    unfold foldM
    rw [hf acc k (by omega) ha, bdo, e4, fold_append hf m (k + 1) _ (by omega) (by
      rw [List.length_append]
      have : (if P k then [(k : Int)] else []).length ≤ 1 := by split <;> simp
      omega), List.filterMap_cons, Int.toNat_natCast, List.append_assoc]
    cases P k <;> rfl
/-! ### the laws of family A: weightings that are drawn, their sums -/
theorem pair_fold {f : Int × Int → Int → Mm (Int × Int)} {hi lo : Int} {b : Nat} (h1 : hi.natAbs < 2 ^ b) (h2 : lo.natAbs < 2 ^ b) (hf : ∀ s x, f s x = (mulM s.1 hi).bd fun m => (mulM s.2 lo).bd fun n => Mm.ok (m, n)) : ∀ (l : List Int) (s : Int × Int) (a : Nat), s.1.natAbs < 2 ^ a → s.2.natAbs < 2 ^ a → a + b * (l.length + 1) ≤ 900000 →
    foldM f s l = .ok (s.1 * hi ^ l.length, s.2 * lo ^ l.length)
  | [], s, a, _, _, _ => by simp [foldM]
  | x :: l, s, a, ha, ha2, h => by
    have e : a + b + b * (l.length + 1) ≤ 900000 := by
      rw [List.length_cons] at h
      have : b * (l.length + 1 + 1) = b * (l.length + 1) + b := by rw [Nat.mul_succ]
      omega
    unfold foldM
    rw [hf, mul_ok ha h1 (by omega)]
    show Mm.bd (Mm.bd (mulM s.2 lo) _) _ = _
    rw [mul_ok ha2 h2 (by omega)]
    show foldM f (s.1 * hi, s.2 * lo) l = _
    rw [pair_fold h1 h2 hf l _ (a + b) (mul_lt ha h1 (Nat.le_refl _)) (mul_lt ha2 h2 (Nat.le_refl _)) e, List.length_cons, Int.mul_assoc, Int.mul_assoc, Int.pow_succ', Int.pow_succ']
theorem insU_len (x : Int) : ∀ l : List Int, (insU x l).length ≤ l.length + 1
  | [] => by simp [insU]
  | y :: l => by
    have := insU_len x l
    unfold insU
    split
    · simp
    · split
      · simp
      · simp only [List.length_cons]; omega
theorem sortedSet_len : ∀ l : List Int, (sortedSet l).length ≤ l.length
  | [] => by simp [sortedSet]
  | x :: l => by
    have := sortedSet_len l
    have := insU_len x (sortedSet l)
    show (insU x (sortedSet l)).length ≤ l.length + 1
    omega
theorem law_masses_ok {scr : List Int} {st : Rw} {most far : Int} {N : Nat} (r : Rk N st) (h0 : 0 ≤ most) (h1 : most ≤ 6) (f0 : 0 ≤ far) (f1 : far ≤ 20) (hN : N < 9000) : Yes (law_masses scr st most far) fun r => MsOk r.1 ∧ Rk (N + 30) r.2 := by
  unfold law_masses
  refine (takenA_ok r (by omega) (by omega) (by omega)).bd fun b hb => ?_
  obtain ⟨⟨b0, b1⟩, rb⟩ := hb
  rw [range_ok (by omega) (by omega)]
  refine .guard (by rw [rangeL_len]; omega) ?_
  refine (yes_mapS (fun s n => ∃ k, Rk k s ∧ k + n ≤ N + 7) (fun _ y => y.natAbs ≤ 20) _ _ ⟨N + 1, rb, by rw [rangeL_len]; omega⟩ fun s x n hx hs => ?_).bd fun c hc => ?_
  · obtain ⟨k, rk, hk⟩ := hs
    refine .eq (mul_ok (a := 2) (b := 5) (by decide) (by omega) (by decide)) ?_
    refine (takenA_ok rk (by omega) (by omega) (by omega)).bd fun d hd => ?_
    exact .ok ⟨by show (d.1 - far).natAbs ≤ 20; omega, k + 1, hd.2, by omega⟩
  · obtain ⟨hc, k, rk, hk⟩ := hc
    have l1 := hc.len
    rw [rangeL_len] at l1
    have l2 := sortedSet_len c.1
    have hp := hc.right fun x y h => h
    refine .guard (by omega) (.guard (by omega) ?_)
    refine (yes_mapS (fun s n => ∃ k, Rk k s ∧ k + 3 * n ≤ N + 30) (fun (x : Int) (y : Int × Int) => y.1 = x ∧ 1 ≤ y.2 ∧ y.2 ≤ 20) (sortedSet c.1) c.2 ⟨k, rk, by omega⟩ fun s x n hx hs => ?_).bd fun d hd => ?_
    · obtain ⟨k, rk, hk⟩ := hs
      refine (takenA_ok rk (by decide) (by decide) (by omega)).bd fun e he => ?_
      refine (takenA_ok he.2 (by decide) (by decide) (by omega)).bd fun f hf => ?_
      refine (pickA_ok hf.2 (by simp) (by simp) (by omega)).bd fun g hg => ?_
      refine .ok ⟨⟨rfl, ?_⟩, k + 3, hg.2, by omega⟩
      have m := hg.1
      simp only [List.mem_cons, List.not_mem_nil, or_false] at m
      show 1 ≤ 1 + g.1 ∧ 1 + g.1 ≤ 20
      omega
    · obtain ⟨hd, k2, rk2, hk2⟩ := hd
      have l3 := hd.len
      have hf := hd.fst (g := (·.1)) fun x y h => h.1
      refine .ok ⟨⟨fun m hm => ⟨?_, hd.right (fun x y h => h.2) m hm⟩, by rw [hf]; exact asc_sortedSet _, by show d.1.length ≤ 6; omega⟩, rk2.1, rk2.2.1, rk2.2.2.1, by have := rk2.2.2.2; show d.2.pos ≤ _; omega⟩
      have : m.1 ∈ sortedSet c.1 := by
        rw [← hf]
        exact List.mem_map_of_mem hm
      exact hp _ ((mem_sortedSet _ _).mp this)
theorem law_stretches_ok {scr : List Int} {st : Rw} {far : Int} {N : Nat} (r : Rk N st) (f0 : 1 ≤ far) (f1 : far ≤ 20) (hN : N < 9000) : Yes (law_stretches scr st 3 far) fun r => (SsTo (-20) r.1 20 ∧ r.1.length ≤ 3) ∧ Rk (N + 10) r.2 := by
  unfold law_stretches
  refine (takenA_ok r (by omega) (by omega) (by omega)).bd fun b hb => ?_
  obtain ⟨⟨b0, b1⟩, rb⟩ := hb
  rw [range_ok (by omega) (by omega)]
  refine (yes_fold (fun (s : Int × Ss × Rw) (l : List Int) => s.2.1.length + l.length ≤ 3 ∧ (∃ y, y ≤ s.1 ∧ y ≤ far ∧ SsTo (-far) s.2.1 y) ∧ ∃ k, Rk k s.2.2 ∧ k + 3 * l.length ≤ N + 10) _ _ ⟨by rw [rangeL_len]; show 0 + b.1.toNat ≤ 3; omega, ⟨-far, by show -far ≤ 0 - far; omega, by omega, Int.le_refl _⟩, N + 1, rb, by rw [rangeL_len]; omega⟩ fun s x l hs => ?_).bd fun c hc => ?_
  · obtain ⟨hl, ⟨y, y1, y2, hy⟩, k, rk, hk⟩ := hs
    rw [List.length_cons] at hl hk
    refine (takenA_ok rk (by omega) (by omega) (by omega)).bd fun d hd => ?_
    refine (takenA_ok hd.2 (by omega) (by omega) (by omega)).bd fun e he => ?_
    have d0 := hd.1.1
    have e0 := he.1.1
    by_cases q : s.1 + d.1 + 1 + e.1 ≤ far
    · rw [decide_eq_true q]
      refine (takenA_ok he.2 (by omega) (by omega) (by omega)).bd fun f hf => ?_
      refine .guard (by omega) (.ok ⟨?_, ⟨s.1 + d.1 + 1 + e.1, Int.le_refl _, q, ?_⟩, k + 3, hf.2, by omega⟩)
      · show (s.2.1 ++ [_]).length + l.length ≤ 3
        rw [List.length_append, List.length_singleton]
        omega
      · exact hy.app (by omega) (by omega) (by omega) (by omega)
    · rw [decide_eq_false q]
      refine .ok ⟨by show s.2.1.length + l.length ≤ 3; omega, ⟨y, by show y ≤ s.1 + d.1; omega, y2, hy⟩, k + 2, he.2, by omega⟩
  · obtain ⟨hl, ⟨y, y1, y2, hy⟩, k, rk, hk⟩ := hc
    refine .ok ⟨⟨(hy.low (by omega)).up (by omega), by simpa using hl⟩, rk.1, rk.2.1, rk.2.2.1, by have := rk.2.2.2; show c.2.2.pos ≤ _; omega⟩
theorem law_parts_ok {scr : List Int} : Yes (law_parts scr (Rw.mk 0 0 0)) fun r => (WOk r.1 ∧ r.1.2.length ≤ 3) ∧ Rk 60 r.2 := by
  unfold law_parts
  refine (pickA_ok (N := 0) ⟨by decide, by decide, by decide, by decide⟩ (by decide) (by decide) (by decide)).bd fun a ha => ?_
  have m1 := ha.1
  simp only [List.mem_cons, List.not_mem_nil, or_false] at m1
  refine (pickA_ok ha.2 (by decide) (by decide) (by decide)).bd fun b hb => ?_
  have m2 := hb.1
  simp only [List.mem_cons, List.not_mem_nil, or_false] at m2
  refine (law_masses_ok hb.2 (by omega) (by omega) (by omega) (by omega) (by decide)).bd fun c hc => ?_
  refine (law_stretches_ok hc.2 (by omega) (by omega) (by decide)).bd fun d hd => ?_
  have l1 := hc.1.len
  have l2 := hd.1.2
  refine .guard (by omega) ?_
  by_cases q : c.1 = [] ∧ d.1 = []
  · rw [q.1, q.2]
    refine .ok ⟨⟨⟨zeroW, ?_, Nat.zero_le 4, .inl (by simp)⟩, Nat.zero_le 3⟩, hd.2.1, hd.2.2.1, hd.2.2.2.1, by have := hd.2.2.2.2; show d.2.pos ≤ 60; omega⟩
    show (-20 : Int) ≤ 20
    decide
  · have e : (c.1.isEmpty && d.1.isEmpty) = false := by
      cases h1 : c.1 with
      | nil => cases h2 : d.1 with
        | nil => exact absurd ⟨h1, h2⟩ q
        | cons _ _ => rfl
      | cons _ _ => rfl
    rw [e]
    refine .ok ⟨⟨⟨hc.1, hd.1.1, by show d.1.length ≤ 4; omega, ?_⟩, hd.1.2⟩, hd.2.1, hd.2.2.1, hd.2.2.2.1, by have := hd.2.2.2.2; show d.2.pos ≤ 60; omega⟩
    by_cases z : c.1 = []
    · exact .inr fun z2 => q ⟨z, z2⟩
    · exact .inl z
theorem num_at : ∀ {l : List Rat} {i : Nat} {x : Int × Rat}, (numL 0 l)[i]? = some x → x.1 = (i : Int) ∧ l[i]? = some x.2 := by
  have gen : ∀ (l : List Rat) (k : Nat) (i : Nat) (x : Int × Rat), (numL (k : Int) l)[i]? = some x → x.1 = ((k + i : Nat) : Int) ∧ l[i]? = some x.2 := fun l => by
    induction l with
    | nil => intro k i x h; cases h
    | cons a l ih =>
      intro k i x h
      have e : (k : Int) + 1 = ((k + 1 : Nat) : Int) := by omega
      cases i with
      | zero =>
        have h0 : some ((k : Int), a) = some x := h
        cases h0
        exact ⟨rfl, rfl⟩
      | succ i =>
        have h1 : (numL ((k : Int) + 1) l)[i]? = some x := h
        rw [e] at h1
        obtain ⟨p, q⟩ := ih (k + 1) i x h1
        exact ⟨by rw [p]; congr 1; omega, q⟩
  intro l i x h
  obtain ⟨p, q⟩ := gen l 0 i x h
  exact ⟨by rw [p, Nat.zero_add], q⟩
theorem law_weighting_okA {w : Wt} (h : WOk w) : law_weighting w = .ok w := by
  unfold law_weighting
  rw [init_ok h, bdo]
/-! ### cuts -/
def hf (lo hi n : Int) : Rat := ((hi - lo : Int) : Rat) / ((2 * n : Int) : Rat)
def mid (lo hi n x : Int) : Rat := (lo : Rat) + ((2 * x + 1 : Int) : Rat) * hf lo hi n
def CSt (lo hi n : Int) (ps ws f : List Rat) (x : Int) : Rat := Rd (ps.map fun p => mid lo hi n x + hf lo hi n * p) (ws.map fun w => w * hf lo hi n) f
def CS (lo hi n : Int) (ps ws f : List Rat) : Rat := ((rangeL 0 n.toNat).map (CSt lo hi n ps ws f)).sum
theorem hf_pos {lo hi n : Int} (h : lo < hi) (n1 : 1 ≤ n) : 0 < hf lo hi n := by
  unfold hf
  rw [Rat.div_def]
  exact Rat.mul_pos (Rat.intCast_pos.mpr (by omega)) (Rat.inv_pos.mpr (Rat.intCast_pos.mpr (by omega)))
theorem rangeL_mem {n : Nat} {x : Int} (h : x ∈ rangeL 0 n) : 0 ≤ x ∧ x < n := by
  obtain ⟨i, hi, rfl⟩ := List.mem_map.mp h
  have := List.mem_range.mp hi
  omega
theorem hf_sq {lo hi n : Int} (h1 : -20 ≤ lo) (h2 : lo < hi) (h3 : hi ≤ 20) (n1 : 1 ≤ n) (n12 : n ≤ 12) : Sq 6 (hf lo hi n) := by
  have : (2 : Nat) ^ 6 = 64 := by decide
  exact sq_div (by omega) (by omega) (by omega)
theorem mid_sq {lo hi n x : Int} (h1 : -20 ≤ lo) (h2 : lo < hi) (h3 : hi ≤ 20) (n1 : 1 ≤ n) (n12 : n ≤ 12) (x0 : 0 ≤ x) (x1 : x < n) : Sq 17 (mid lo hi n x) := by
  have e5 : (2 : Nat) ^ 5 = 32 := by decide
  exact sq_add (sq_int (a := 5) (by omega) (by decide)) (sq_mul (sq_int (a := 5) (by omega) (by decide)) (hf_sq h1 h2 h3 n1 n12) (Nat.le_refl _)) (by decide)
theorem All2.mapL {α β γ : Type} {p : α → γ → Prop} {q : β → γ → Prop} {g : α → β} {l : List α} {r : List γ} (h : All2 p l r) (k : ∀ x y, p x y → q (g x) y) : All2 q (l.map g) r := by
  induction h with
  | nil => exact .nil
  | cons a _ ih => exact .cons (k _ _ a) ih
theorem self_rx {b : Nat} {ps : List Rat} (h : Sqs b ps) : All2 (fun p x => Rx b x p) ps (ps.map fr) := All2.self ps fun p hp => rx_fr (h p hp)
theorem cutW_ok {lo hi : Int} (h1 : -20 ≤ lo) (h2 : lo < hi) (h3 : hi ≤ 20) : WOk ([], [(lo, hi, 1)]) :=
  ⟨⟨by simp, by simp, by simp⟩, ⟨h1, h2, by show (1 : Int) ≤ 1; decide, by show (1 : Int) ≤ 20; decide, h3⟩, by simp, .inr (by simp)⟩
/-! ### sums; a weighting as weights at places -/
def rs {α : Type} (l : List α) (f : α → Rat) : Rat := (l.map f).sum
theorem rs_nil {α : Type} (f : α → Rat) : rs [] f = 0 := rfl
theorem rs_cons {α : Type} (x : α) (l : List α) (f : α → Rat) : rs (x :: l) f = f x + rs l f := by
  unfold rs
  rw [List.map_cons, List.sum_cons]
theorem rs_add {α : Type} (f g : α → Rat) : ∀ l : List α, rs l f + rs l g = rs l fun x => f x + g x
  | [] => by simp only [rs_nil]; grind
  | x :: l => by
    rw [rs_cons, rs_cons, rs_cons, ← rs_add f g l]
    grind
theorem rs_mul {α : Type} (c : Rat) (f : α → Rat) : ∀ l : List α, c * rs l f = rs l fun x => c * f x
  | [] => by simp only [rs_nil]; grind
  | x :: l => by
    rw [rs_cons, rs_cons, ← rs_mul c f l]
    grind
theorem rs_congr {α : Type} {f g : α → Rat} : ∀ l : List α, (∀ x ∈ l, f x = g x) → rs l f = rs l g
  | [], _ => rfl
  | x :: l, h => by rw [rs_cons, rs_cons, h x (List.mem_cons_self ..), rs_congr l fun y hy => h y (List.mem_cons_of_mem _ hy)]
theorem rs_app {α : Type} (f : α → Rat) (l r : List α) : rs (l ++ r) f = rs l f + rs r f := by
  unfold rs
  rw [List.map_append, List.sum_append]
theorem rs_map {α β : Type} (f : β → Rat) (g : α → β) (l : List α) : rs (l.map g) f = rs l fun x => f (g x) := by
  unfold rs
  rw [List.map_map]
  rfl
theorem rs_flat {α β : Type} (f : β → Rat) (g : α → List β) : ∀ l : List α, rs (l.flatMap g) f = rs l fun x => rs (g x) f
  | [] => rfl
  | x :: l => by rw [List.flatMap_cons, rs_app, rs_cons, rs_flat f g l]
theorem rs_nn {α : Type} {f : α → Rat} : ∀ l : List α, (∀ x ∈ l, 0 ≤ f x) → 0 ≤ rs l f ∧ (rs l f = 0 → ∀ x ∈ l, f x = 0)
  | [], _ => ⟨by rw [rs_nil]; decide, fun _ x h => by cases h⟩
  | x :: l, h => by
    obtain ⟨a, b⟩ := rs_nn l fun y hy => h y (List.mem_cons_of_mem _ hy)
    have c := h x (List.mem_cons_self ..)
    rw [rs_cons]
    refine ⟨by grind, fun e y hy => ?_⟩
    have e1 : f x = 0 := by grind
    have e2 : rs l f = 0 := by grind
    rcases List.mem_cons.mp hy with rfl | hy
    · exact e1
    · exact b e2 y hy
def atS (s : Int × Int × Int) : List (Rat × Rat) := QN.map fun q => ((s.2.2 : Rat) * ((((s.2.1 - s.1 : Int)) : Rat) * q.1), (s.1 : Rat) + ((s.2.1 - s.1 : Int) : Rat) * q.2)
def atoms (w : Wt) : List (Rat × Rat) := w.1.map (fun m => ((m.2 : Rat), (m.1 : Rat))) ++ w.2.flatMap atS
theorem pow_cast (x : Int) : ∀ k : Nat, ((x ^ k : Int) : Rat) = (x : Rat) ^ k
  | 0 => by simp
  | k + 1 => by
    rw [Int.pow_succ, Rat.pow_succ, ← pow_cast x k]
    push_cast
    rfl
theorem sI_atoms (s : Int × Int × Int) {k : Nat} (hk : k ≤ 12) : ((sI k s : Int) : Rat) = rs (atS s) (fun u => u.1 * u.2 ^ k) * (((k : Int) + 1 : Int) : Rat) := by
  have q := quad (s.1 : Rat) ((s.2.1 - s.1 : Int) : Rat) k hk
  have e : (s.1 : Rat) + ((s.2.1 - s.1 : Int) : Rat) = (s.2.1 : Rat) := by
    push_cast
    grind
  rw [e] at q
  have e1 : rs (atS s) (fun u => u.1 * u.2 ^ k) = (s.2.2 : Rat) * rs QN (fun q => ((s.2.1 - s.1 : Int) : Rat) * q.1 * ((s.1 : Rat) + ((s.2.1 - s.1 : Int) : Rat) * q.2) ^ k) := by
    unfold atS
    rw [rs_map, rs_mul]
    refine rs_congr _ fun x _ => ?_
    grind
  have e2 : ((sI k s : Int) : Rat) = (s.2.2 : Rat) * ((s.2.1 : Rat) ^ (k + 1) - (s.1 : Rat) ^ (k + 1)) := by
    unfold sI
    rw [← pow_cast, ← pow_cast]
    push_cast
    rfl
  rw [e1, e2, ← q]
  unfold rs
  grind
theorem PS_atoms (w : Wt) {k : Nat} (hk : k ≤ 12) : PS w k = rs (atoms w) fun u => u.1 * u.2 ^ k := by
  have hz := intc_ne (n := (k : Int) + 1) (by omega)
  unfold atoms
  rw [rs_app, rs_map, rs_flat]
  have e1 : rs w.1 (fun m => (m.2 : Rat) * (m.1 : Rat) ^ k) = (((w.1.map (mI k)).sum : Int) : Rat) := by
    rw [← sum_cast]
    refine rs_congr _ fun m _ => ?_
    unfold mI
    rw [← pow_cast]
    push_cast
    rfl
  have e2 : rs w.2 (fun s => rs (atS s) fun u => u.1 * u.2 ^ k) * (((k : Int) + 1 : Int) : Rat) = (((w.2.map (sI k)).sum : Int) : Rat) := by
    rw [← sum_cast]
    have : (w.2.map fun x => ((sI k x : Int) : Rat)).sum = rs w.2 fun s => rs (atS s) (fun u => u.1 * u.2 ^ k) * (((k : Int) + 1 : Int) : Rat) := rs_congr _ fun s _ => sI_atoms s hk
    rw [this]
    have c : ∀ x : Rat, x * (((k : Int) + 1 : Int) : Rat) = (((k : Int) + 1 : Int) : Rat) * x := fun x => by grind
    rw [c, rs_mul]
    exact rs_congr _ fun s _ => by rw [c]
  unfold PS
  rw [e1, ← (show (((w.1.map (mI k)).sum * ((k : Int) + 1) : Int) : Rat) + (((w.2.map (sI k)).sum : Int) : Rat) = (((w.1.map (mI k)).sum * ((k : Int) + 1) + (w.2.map (sI k)).sum : Int) : Rat) by push_cast; rfl), ← e2]
  push_cast
  push_cast at hz
  grind
theorem WS_from (w : Wt) : ∀ (l : List Rat) (k : Nat), k + l.length ≤ 13 → ((numL (k : Int) l).map (tW w)).sum = rs (atoms w) fun u => u.1 * u.2 ^ k * ev l u.2
  | [], k, _ => by
    show (0 : Rat) = _
    rw [rs_congr (g := fun _ => 0 * 0) _ fun u _ => by show u.1 * u.2 ^ k * 0 = _; grind, ← rs_mul]
    grind
  | c :: l, k, h => by
    rw [List.length_cons] at h
    have ih := WS_from w l (k + 1) (by omega)
    unfold numL
    rw [List.map_cons, List.sum_cons, show ((k : Int) + 1) = ((k + 1 : Nat) : Int) by omega, ih]
    show c * PS w ((k : Int)).toNat + _ = _
    rw [Int.toNat_natCast, PS_atoms w (by omega), rs_mul, rs_add]
    refine rs_congr _ fun u _ => ?_
    show c * (u.1 * u.2 ^ k) + u.1 * u.2 ^ (k + 1) * ev l u.2 = u.1 * u.2 ^ k * (c + u.2 * ev l u.2)
    rw [Rat.pow_succ]
    grind
theorem WS_atoms (w : Wt) {l : List Rat} (h : l.length ≤ 13) : WS w l = rs (atoms w) fun u => u.1 * ev l u.2 := by
  refine (WS_from w l 0 (by omega)).trans (rs_congr _ fun u _ => ?_)
  rw [Rat.pow_zero]
  grind
theorem comb (A : List (Rat × Rat)) (P : Rat → Rat) (n : Nat) (h : ∀ j, j < n → rs A (fun u => u.1 * (u.2 ^ j * P u.2)) = 0) : ∀ (l : List Rat) (k : Nat), k + l.length ≤ n → rs A (fun u => u.1 * P u.2 * (u.2 ^ k * ev l u.2)) = 0
  | [], k, _ => by
    rw [rs_congr (g := fun _ => 0 * 0) _ fun u _ => by show u.1 * P u.2 * (u.2 ^ k * 0) = _; grind, ← rs_mul]
    grind
  | c :: l, k, hk => by
    rw [List.length_cons] at hk
    have a := h k (by omega)
    have b := comb A P n h l (k + 1) (by omega)
    have e : rs A (fun u => u.1 * P u.2 * (u.2 ^ k * ev (c :: l) u.2)) = c * rs A (fun u => u.1 * (u.2 ^ k * P u.2)) + rs A (fun u => u.1 * P u.2 * (u.2 ^ (k + 1) * ev l u.2)) := by
      rw [rs_mul, rs_add]
      refine rs_congr _ fun u _ => ?_
      show u.1 * P u.2 * (u.2 ^ k * (c + u.2 * ev l u.2)) = _
      rw [Rat.pow_succ]
      grind
    rw [e, a, b]
    grind
theorem nd_len : ∀ (l r : List Rat), l.Nodup → (∀ x ∈ l, x ∈ r) → l.length ≤ r.length
  | [], r, _, _ => Nat.zero_le _
  | x :: l, r, h, k => by
    obtain ⟨h1, h2⟩ := List.nodup_cons.mp h
    have hx := k x (List.mem_cons_self ..)
    have := nd_len l (r.erase x) h2 fun y hy => (List.mem_erase_of_ne (fun e => h1 (by rw [← e]; exact hy))).mpr (k y (List.mem_cons_of_mem _ hy))
    rw [List.length_erase_of_mem hx] at this
    have := List.length_pos_of_mem hx
    rw [List.length_cons]
    omega
/-! ### gaps -/
def GP (w : Wt) (ps ws : List Rat) (k : Nat) : Rat := PS w k - rs (ps.zip ws) fun x => x.2 * x.1 ^ k
theorem GP_lin {w : Wt} {ps ws : List Rat} {m : Nat} (hm : m ≤ 12) (h : ∀ k, k ≤ m → GP w ps ws k = 0) : ∀ (l : List Rat) (k : Nat), k + l.length ≤ m + 1 → rs (atoms w) (fun u => u.1 * (u.2 ^ k * ev l u.2)) = rs (ps.zip ws) fun x => x.2 * (x.1 ^ k * ev l x.1)
  | [], k, _ => by
    rw [rs_congr (g := fun _ => 0 * 0) _ fun u _ => by show u.1 * (u.2 ^ k * 0) = _; grind, ← rs_mul, rs_congr (g := fun _ => 0 * 0) (ps.zip ws) fun u _ => by show u.2 * (u.1 ^ k * 0) = _; grind, ← rs_mul]
    grind
  | c :: l, k, hk => by
    rw [List.length_cons] at hk
    have ih := GP_lin hm h l (k + 1) (by omega)
    have z := h k (by omega)
    unfold GP at z
    rw [PS_atoms w (by omega)] at z
    have e1 : rs (atoms w) (fun u => u.1 * (u.2 ^ k * ev (c :: l) u.2)) = c * rs (atoms w) (fun u => u.1 * u.2 ^ k) + rs (atoms w) (fun u => u.1 * (u.2 ^ (k + 1) * ev l u.2)) := by
      rw [rs_mul, rs_add]
      refine rs_congr _ fun u _ => ?_
      show u.1 * (u.2 ^ k * (c + u.2 * ev l u.2)) = _
      rw [Rat.pow_succ]
      grind
    have e2 : rs (ps.zip ws) (fun x => x.2 * (x.1 ^ k * ev (c :: l) x.1)) = c * rs (ps.zip ws) (fun x => x.2 * x.1 ^ k) + rs (ps.zip ws) (fun x => x.2 * (x.1 ^ (k + 1) * ev l x.1)) := by
      rw [rs_mul, rs_add]
      refine rs_congr _ fun u _ => ?_
      show u.2 * (u.1 ^ k * (c + u.1 * ev l u.1)) = _
      rw [Rat.pow_succ]
      grind
    rw [e1, e2, ih]
    grind
theorem atoms_pos {w : Wt} (g : Good w) : ∀ u ∈ atoms w, 0 < u.1 := fun u hu => by
  unfold atoms at hu
  rcases List.mem_append.mp hu with hu | hu
  · obtain ⟨m, hm, rfl⟩ := List.mem_map.mp hu
    have := g.ms m hm
    exact Rat.intCast_pos.mpr (by omega)
  · obtain ⟨t, ht, hu⟩ := List.mem_flatMap.mp hu
    obtain ⟨q, hq, rfl⟩ := List.mem_map.mp hu
    have a := g.ss t ht
    have b := QN_pos q hq
    have c : (0 : Rat) < ((t.2.1 - t.1 : Int) : Rat) := Rat.intCast_pos.mpr (by omega)
    have d : (0 : Rat) < ((t.2.2 : Int) : Rat) := Rat.intCast_pos.mpr (by omega)
    exact Rat.mul_pos d (Rat.mul_pos c b)
theorem sq_nn (x : Rat) : 0 ≤ x * x := by
  rcases Rat.le_total (a := 0) (b := x) with q | q
  · exact Rat.mul_nonneg q q
  · have := Rat.mul_nonneg (a := -x) (b := -x) (by grind) (by grind)
    grind
theorem prd_root {x : Rat} {ps : List Rat} (h : prd x ps = 0) : x ∈ ps := Classical.byContradiction fun z => prd_ne z h
theorem atoms_in {w : Wt} (g : Good w) {ps ws : List Rat} (hl : ps.length ≤ 6) (h : ∀ k, k ≤ 2 * ps.length → GP w ps ws k = 0) : ∀ u ∈ atoms w, u.2 ∈ ps := by
  have wl := WR_len ps
  have z1 : ∀ j, j < ps.length + 1 → rs (atoms w) (fun u => u.1 * (u.2 ^ j * ev (WR ps) u.2)) = 0 := fun j hj => by
    rw [GP_lin (m := 2 * ps.length) (by omega) h (WR ps) j (by omega)]
    rw [rs_congr (g := fun _ => 0 * 0) _ fun x hx => ?_, ← rs_mul]
    · grind
    · rw [ev_WR, prd_zero (List.of_mem_zip (a := x.1) (b := x.2) hx).1]
      grind
  have z2 := comb (atoms w) (ev (WR ps)) _ z1 (WR ps) 0 (by omega)
  have nn := rs_nn (f := fun u => u.1 * ev (WR ps) u.2 * (u.2 ^ 0 * ev (WR ps) u.2)) (atoms w) fun u hu => by
    have a := Rat.le_of_lt (atoms_pos g u hu)
    have b := Rat.mul_nonneg a (sq_nn (ev (WR ps) u.2))
    rw [Rat.pow_zero]
    grind
  intro u hu
  have a := nn.2 z2 u hu
  rw [Rat.pow_zero] at a
  have b := atoms_pos g u hu
  have c : ev (WR ps) u.2 = 0 := by
    have : u.1 ≠ 0 := fun e => by rw [e] at b; exact absurd b (by decide)
    grind
  rw [ev_WR] at c
  exact prd_root c
theorem gap_all {w : Wt} (g : Good w) {ps ws : List Rat} (ha : ps.Pairwise (· < ·)) (h0 : 0 < ps.length) (hl : ps.length ≤ 6) (h : ∀ k, k ≤ 2 * ps.length → GP w ps ws k = 0) : ∀ k, k ≤ 12 → GP w ps ws k = 0 := fun k hk => by
  have ins := atoms_in g hl h
  have R := ev_IPf ha fun p => p ^ k
  have il := IP_len ps (ps.map fun p => p ^ k)
  have lin := GP_lin (m := 2 * ps.length) (by omega) h (IP ps (ps.map fun p => p ^ k)) 0 (by omega)
  have e1 : rs (atoms w) (fun u => u.1 * (u.2 ^ 0 * ev (IP ps (ps.map fun p => p ^ k)) u.2)) = PS w k := by
    rw [PS_atoms w hk]
    refine rs_congr _ fun u hu => ?_
    rw [R u.2 (ins u hu), Rat.pow_zero]
    grind
  have e2 : rs (ps.zip ws) (fun x => x.2 * (x.1 ^ 0 * ev (IP ps (ps.map fun p => p ^ k)) x.1)) = rs (ps.zip ws) fun x => x.2 * x.1 ^ k := rs_congr _ fun x hx => by
    rw [R x.1 (List.of_mem_zip (a := x.1) (b := x.2) hx).1, Rat.pow_zero]
    grind
  unfold GP
  rw [← e1, lin, e2]
  grind
/-! ### gaps, as program and law tell them -/
theorem ev_rise (x : Rat) : ∀ k : Nat, ev (List.replicate k 0 ++ [1]) x = x ^ k
  | 0 => by
    show 1 + x * 0 = x ^ 0
    rw [Rat.pow_zero]
    grind
  | k + 1 => by
    rw [List.replicate_succ]
    show 0 + x * ev (List.replicate k 0 ++ [1]) x = _
    rw [ev_rise x k, Rat.pow_succ]
    grind
theorem sq_pow {b : Nat} {p : Rat} (h : Sq b p) : ∀ k : Nat, Sq (1 + b * k) (p ^ k)
  | 0 => by rw [Rat.pow_zero]; exact one_sq
  | k + 1 => by
    rw [Rat.pow_succ]
    exact sq_mul (sq_pow h k) h (by rw [Nat.mul_succ]; omega)
theorem flat_one {α : Type} (x : α) : ∀ n : Nat, (List.replicate n [x]).flatten = List.replicate n x
  | 0 => rfl
  | n + 1 => by
    rw [List.replicate_succ, List.flatten_cons, flat_one x n, List.replicate_succ]
    rfl
structure RR (b c n : Nat) (pl wl : List (Int × Int)) (ps ws : List Rat) : Prop where
  rp : All2 (fun p x => Rx b x p) ps pl
  rw : All2 (fun p x => Rx c x p) ws wl
  asc : ps.Pairwise (· < ·)
  pos : 0 < ps.length
  len : ps.length ≤ n
  eq : ws.length = ps.length
def fnz (G : Nat → Rat) : Nat → Nat → Option Nat
  | 0, _ => none
  | n + 1, k => if G k = 0 then fnz G n (k + 1) else some k
theorem fnz_app (G : Nat → Rat) : ∀ (m j k : Nat), fnz G (m + j) k = (fnz G m k).orElse fun _ => fnz G j (k + m)
  | 0, j, k => by rw [Nat.zero_add]; rfl
  | m + 1, j, k => by
    rw [Nat.succ_add]
    show (if G k = 0 then fnz G (m + j) (k + 1) else some k) = Option.orElse (if G k = 0 then fnz G m (k + 1) else some k) fun _ => fnz G j (k + (m + 1))
    by_cases z : G k = 0
    · rw [if_pos z, if_pos z, fnz_app G m j (k + 1), show k + 1 + m = k + (m + 1) by omega]
    · rw [if_neg z, if_neg z]
      rfl
theorem fnz_none {G : Nat → Rat} : ∀ {n k : Nat}, fnz G n k = none ↔ ∀ j, k ≤ j → j < k + n → G j = 0
  | 0, k => ⟨fun _ j h1 h2 => by omega, fun _ => rfl⟩
  | n + 1, k => by
    unfold fnz
    split
    · rename_i z
      rw [fnz_none]
      refine ⟨fun h j h1 h2 => ?_, fun h j h1 h2 => h j (by omega) (by omega)⟩
      by_cases q : j = k
      · rw [q]; exact z
      · exact h j (by omega) (by omega)
    · rename_i z
      exact ⟨(fun h => by cases h), fun h => absurd (h k (Nat.le_refl _) (by omega)) z⟩
theorem fnz_more {G : Nat → Rat} {m n : Nat} (hm : m ≤ n) (h : (∀ k, k < m → G k = 0) → ∀ k, k < n → G k = 0) : fnz G m 0 = fnz G n 0 := by
  have e : n = m + (n - m) := by omega
  cases q : fnz G m 0 with
  | some k => rw [e, fnz_app, q]; rfl
  | none =>
    have z := fnz_none.mp q
    exact (fnz_none.mpr fun j _ hj => h (fun k hk => z k (Nat.zero_le _) (by omega)) j (by omega)).symm
theorem fnz_lt {G : Nat → Rat} : ∀ {n k j : Nat}, fnz G n k = some j → j < k + n
  | 0, k, j, h => by cases h
  | n + 1, k, j, h => by
    unfold fnz at h
    split at h
    · have := fnz_lt h
      omega
    · cases h
      omega
def share (k : Nat) (x : Rat × Rat) : Rat := x.2 * x.1 ^ k
/-! ### the law of gaps -/
/-! ### Lagrange's weights serve exactly -/
theorem rs_swap {α β : Type} (f : α → β → Rat) (B : List β) : ∀ A : List α, rs A (fun u => rs B fun v => f u v) = rs B fun v => rs A fun u => f u v
  | [] => by
    rw [rs_nil, rs_congr (g := fun _ => 0 * 0) B fun v _ => by rw [rs_nil]; grind, ← rs_mul]
    grind
  | x :: A => by
    rw [rs_cons, rs_swap f B A, rs_add]
    exact rs_congr _ fun v _ => by rw [rs_cons]
theorem ev_IPk_sum {ps ys : List Rat} (x : Rat) : ∀ k, k ≤ ps.length → ev (IPk ps ys k) x = rs (List.range k) fun i => ys.getD i 0 * ev (LB ps i) x
  | 0, _ => ev_repl x _
  | k + 1, h => by
    show ev (List.zipWith (· + ·) (IPk ps ys k) ((LB ps k).map (ys.getD k 0 * ·))) x = _
    rw [ev_zipWith _ _ _ (by rw [IPk_len ps ys k (by omega), List.length_map, LB_len (by omega)]), ev_map_mul, ev_IPk_sum x k (by omega), List.range_succ, rs_app, rs_cons, rs_nil]
    grind
theorem by_range (ps : List Rat) : ps = (List.range ps.length).map fun i => ps.getD i 0 := by
  refine List.ext_getElem (by simp) fun i h1 h2 => ?_
  rw [List.getElem_map, List.getElem_range, getD_at h1]
theorem WS_exact (w : Wt) {ps g : List Rat} (ha : ps.Pairwise (· < ·)) (hl : ps.length ≤ 6) (hg : g.length ≤ ps.length) : WS w g = rs (ps.zip (Wts w ps)) fun x => x.2 * ev g x.1 := by
  have E : ∀ x, ev g x = rs (List.range ps.length) fun i => ev g (ps.getD i 0) * ev (LB ps i) x := fun x => by
    have il := IP_len ps (ps.map fun p => ev g p)
    rw [same_ev (ps := ps) (m := ps.length) (asc_ne ha) (Nat.le_refl _) hg (by omega) (fun p hp => (ev_IPf ha (fun p => ev g p) p hp).symm) x]
    unfold IP
    rw [ev_IPk_sum x _ (Nat.le_refl _)]
    refine rs_congr _ fun i hi => ?_
    have lt := List.mem_range.mp hi
    rw [getD_at lt, List.getD_eq_getElem?_getD, List.getElem?_map, List.getElem?_eq_getElem lt]
    rfl
  have z : ps.zip (Wts w ps) = (List.range ps.length).map fun i => (ps.getD i 0, WS w (LB ps i)) := by
    have b := by_range ps
    unfold Wts
    generalize hn : ps.length = n at b
    generalize hf : (fun i => ps.getD i 0) = f at b
    conv => lhs; lhs; rw [b]
    rw [List.zip_map']
    refine List.map_congr_left fun i _ => ?_
    rw [← hf]
  rw [z, rs_map, WS_atoms w (by omega)]
  have e1 : rs (atoms w) (fun u => u.1 * ev g u.2) = rs (atoms w) fun u => rs (List.range ps.length) fun i => ev g (ps.getD i 0) * (u.1 * ev (LB ps i) u.2) := rs_congr _ fun u _ => by
    rw [E u.2, rs_mul]
    exact rs_congr _ fun i _ => by grind
  rw [e1, rs_swap]
  refine rs_congr _ fun i hi => ?_
  have lt := List.mem_range.mp hi
  rw [← rs_mul, WS_atoms w (l := LB ps i) (by rw [LB_len lt]; omega)]
  grind
/-! ### a polynomial of m + h x -/
def aff (m h : Rat) : List Rat → List Rat
  | [] => []
  | c :: l => rp (-(m / h)) c ((aff m h l).map (h * ·))
theorem aff_len (m h : Rat) : ∀ l, (aff m h l).length = l.length
  | [] => rfl
  | c :: l => by
    unfold aff
    rw [rp_len, List.length_map, aff_len m h l, List.length_cons]
theorem ev_aff {m h : Rat} (h0 : h ≠ 0) (x : Rat) : ∀ l, ev (aff m h l) x = ev l (m + h * x)
  | [] => rfl
  | c :: l => by
    unfold aff
    rw [ev_rp, ev_map_mul, ev_aff h0 x l]
    show _ = c + (m + h * x) * ev l (m + h * x)
    generalize ev l (m + h * x) = y
    grind
def W0 : Wt := ([], [((0 : Int) - (1 : Int), (1 : Int), (1 : Int))])
theorem atoms_cut (lo hi : Int) : atoms ([], [(lo, hi, 1)]) = QN.map fun q => ((1 : Rat) * (((hi - lo : Int) : Rat) * q.1), (lo : Rat) + ((hi - lo : Int) : Rat) * q.2) := by
  unfold atoms atS
  simp only [List.map_nil, List.nil_append, List.flatMap_cons, List.flatMap_nil, List.append_nil]
  rfl
theorem hf_one (lo hi : Int) : hf lo hi 1 = ((hi - lo : Int) : Rat) / 2 := by
  unfold hf
  rfl
theorem mid_one (lo hi : Int) : mid lo hi 1 0 = (lo : Rat) + hf lo hi 1 := by
  unfold mid
  have : ((2 * 0 + 1 : Int) : Rat) = 1 := rfl
  rw [this]
  grind
theorem WS_aff {lo hi : Int} (h : lo < hi) {f : List Rat} (hl : f.length ≤ 13) : WS ([], [(lo, hi, 1)]) f = hf lo hi 1 * WS W0 (aff (mid lo hi 1 0) (hf lo hi 1) f) := by
  have h0 : hf lo hi 1 ≠ 0 := by
    have := hf_pos (n := 1) h (by decide)
    grind
  have e2 : ((1 - (0 - 1) : Int) : Rat) = 2 := rfl
  have e1 : ((0 - 1 : Int) : Rat) = -1 := rfl
  unfold W0
  rw [WS_atoms _ hl, WS_atoms _ (by rw [aff_len]; exact hl), atoms_cut, atoms_cut, rs_map, rs_map, rs_mul]
  refine rs_congr _ fun q _ => ?_
  have e3 : mid lo hi 1 0 + hf lo hi 1 * (((0 - 1 : Int) : Rat) + ((1 - (0 - 1) : Int) : Rat) * q.2) = (lo : Rat) + ((hi - lo : Int) : Rat) * q.2 := by
    rw [mid_one, hf_one, e1, e2]
    grind
  show 1 * (((hi - lo : Int) : Rat) * q.1) * ev f ((lo : Rat) + ((hi - lo : Int) : Rat) * q.2) = hf lo hi 1 * (1 * (((1 - (0 - 1) : Int) : Rat) * q.1) * ev (aff (mid lo hi 1 0) (hf lo hi 1) f) (((0 - 1 : Int) : Rat) + ((1 - (0 - 1) : Int) : Rat) * q.2))
  rw [ev_aff h0, e3, e2, hf_one]
  grind
theorem CSt_rs (lo hi n : Int) (ps ws f : List Rat) (x : Int) : CSt lo hi n ps ws f x = rs (ps.zip ws) fun y => y.2 * hf lo hi n * ev f (mid lo hi n x + hf lo hi n * y.1) := by
  unfold CSt Rd zipR rs
  rw [List.zip_map, List.map_map]
  rfl
theorem cut_exact {lo hi : Int} (h : lo < hi) {ps f : List Rat} (ha : ps.Pairwise (· < ·)) (hl : ps.length ≤ 6) (hf' : f.length ≤ ps.length) : CSt lo hi 1 ps (Wts W0 ps) f 0 = WS ([], [(lo, hi, 1)]) f := by
  have h0 : hf lo hi 1 ≠ 0 := by
    have := hf_pos (n := 1) h (by decide)
    grind
  rw [WS_aff h (by omega), WS_exact W0 ha hl (by rw [aff_len]; exact hf'), CSt_rs, rs_mul]
  refine rs_congr _ fun x _ => ?_
  rw [ev_aff h0]
  grind
/-! ### cuts put together -/
theorem hf_sub {lo s n a : Int} (n1 : 1 ≤ n) : hf lo (lo + s * n) n = hf a (a + s) 1 := by
  have k := intc_ne (n := n) (by omega)
  unfold hf
  push_cast
  push_cast at k
  grind
theorem mid_sub {lo s n k : Int} (n1 : 1 ≤ n) : mid lo (lo + s * n) n k = mid (lo + k * s) (lo + k * s + s) 1 0 := by
  rw [mid_one, ← hf_sub (lo := lo) (s := s) (n := n) (a := lo + k * s) n1]
  unfold mid
  have h : hf lo (lo + s * n) n = (s : Rat) / 2 := by
    rw [hf_sub (a := 0) n1, hf_one]
    congr 2
    omega
  rw [h]
  push_cast
  grind
theorem CSt_sub {lo s n k : Int} (n1 : 1 ≤ n) (ps ws f : List Rat) : CSt lo (lo + s * n) n ps ws f k = CSt (lo + k * s) (lo + k * s + s) 1 ps ws f 0 := by
  rw [CSt_rs, CSt_rs, mid_sub n1, hf_sub (a := lo + k * s) n1]
theorem CS_one (a b : Int) (ps ws f : List Rat) : CS a b 1 ps ws f = CSt a b 1 ps ws f 0 := by
  show CSt a b 1 ps ws f 0 + 0 = _
  grind
theorem CS_parts {lo s n : Int} (n1 : 1 ≤ n) (ps ws f : List Rat) : CS lo (lo + s * n) n ps ws f = ((rangeL 0 n.toNat).map fun k => CS (lo + k * s) (lo + k * s + s) 1 ps ws f).sum := by
  unfold CS
  congr 1
  refine List.map_congr_left fun k _ => ?_
  rw [CSt_sub n1, ← CS_one]
  rfl
theorem rs_sum {α : Type} (l : List α) (f : α → Rat) : (l.map f).sum = rs l f := rfl
theorem CS_twice (lo hi n : Int) (ps ws f : List Rat) : CS lo hi n ps (ws.map (2 * ·)) f = CS lo hi n ps ws f * 2 := by
  unfold CS
  rw [rs_sum, rs_sum, show ∀ x : Rat, x * 2 = 2 * x from fun x => by grind, rs_mul]
  refine rs_congr _ fun k _ => ?_
  rw [CSt_rs, CSt_rs, rs_mul, List.zip_map_right, rs_map]
  refine rs_congr _ fun x _ => ?_
  show 2 * x.2 * hf lo hi n * ev f (mid lo hi n k + hf lo hi n * x.1) = _
  grind
theorem CS_nil (lo hi n : Int) (ps ws : List Rat) : CS lo hi n ps ws [] = 0 := by
  unfold CS
  rw [rs_sum, rs_congr (g := fun _ => 0 * 0) _ fun k _ => ?_, ← rs_mul]
  · grind
  · rw [CSt_rs, rs_congr (g := fun _ => 0 * 0) _ fun x _ => by show x.2 * hf lo hi n * 0 = _; grind, ← rs_mul]
    grind
theorem PS_W0 : ∀ k, k < 13 → PS W0 k = if k % 2 = 0 then 2 / (((k : Int) + 1 : Int) : Rat) else 0 := by decide +kernel
theorem PS_W0_sq : ∀ k, k < 6 → Sq 4 (PS W0 k) := by
  unfold Sq
  decide +kernel
theorem W0_wts {B : Int} {ps : List Rat} (hp : PB B 6 ps) (ha : ps.Pairwise (· < ·)) (hl : ps.length ≤ 4) : Sqs 200 (Wts W0 ps) := fun q hq => by
  obtain ⟨i, hi, rfl⟩ := List.mem_map.mp hq
  have lt := List.mem_range.mp hi
  have sL := (LB_sq hp ha lt).up (show _ ≤ 44 by omega)
  have k : ∀ l : List (Int × Rat), (∀ x ∈ l, Sq 48 (tW W0 x)) → Sq (1 + 49 * l.length) (l.map (tW W0)).sum := fun l => by
    induction l with
    | nil => intro _; exact zero_sqn (by omega)
    | cons x l ih =>
      intro hx
      rw [List.map_cons, List.sum_cons]
      exact sq_add (hx x (List.mem_cons_self ..)) (ih fun y hy => hx y (List.mem_cons_of_mem _ hy)) (by rw [List.length_cons, Nat.mul_succ]; omega)
  have q := k (numL 0 (LB ps i)) fun x hx => by
    obtain ⟨a, b, m⟩ := numL_mem _ 0 x hx
    have := LB_len lt
    exact sq_mul (sL _ m) (PS_W0_sq _ (by omega)) (Nat.le_refl _)
  rw [numL_len, LB_len lt] at q
  exact q.up (by omega)
def barS (w : Wt) : Nat → List Rat → Option (List Rat)
  | 0, _ => none
  | n + 1, l => if WS w l = 0 then barS w n (0 :: l) else some l
theorem zero_cons {l : List Rat} {a : Nat} (h : Sqs a l) (ha : 0 < a) : Sqs a (0 :: l) := fun q hq => by
  rcases List.mem_cons.mp hq with rfl | hq
  · exact zero_sqn ha
  · exact h q hq
theorem cons_fr (l : List Rat) : [((0, 1) : Int × Int)] ++ l.map fr = (0 :: l).map fr := by rw [List.map_cons, fr_zero]; rfl
theorem bar_fold {w : Wt} (g : Good w) {c : Nat} (c0 : 0 < c) (c6 : c ≤ 590) : ∀ (n : Nat) (k : Int) (l : List Rat), Sqs c l → l.length + n ≤ 14 →
    (foldL (R := (Option (List (Int × Int)))) (fun (b21 : (List (Int × Int))) (x22 : Int) => (weighed (w) (b21)).bd fun b42 => cond (!(decide (b42 = ((0, 1) : (Int × Int))))) (Mm.ok (Fl.ret (some b21))) ((guardM ([((0, 1) : (Int × Int))].length + b21.length ≤ 100000)).bd fun _ => Mm.ok (Fl.go ([((0, 1) : (Int × Int))] ++ b21)))) (l.map fr) (rangeL k n)).bd (fun o => o.el (fun b38 => Mm.ok none) (fun r => Mm.ok r)) = .ok ((barS w n l).map (List.map fr))
  | 0, k, l, _, _ => rfl
  | n + 1, k, l, hs, hl => by
    have N : (c + 91) * l.length ≤ 681 * 13 := Nat.mul_le_mul (by omega) (by omega)
    rw [rangeL_succ]
    unfold foldL
    rw [(weighed_ok g (by omega) hs (by omega)).1, bdo, fr_isz]
    unfold barS
    by_cases q : WS w l = 0
    · rw [decide_eq_true q, if_pos q, cF (c := !true) rfl, guard_ok (by simp only [List.length_map, List.length_cons, List.length_nil]; omega), bdo, bdo, cons_fr]
      exact bar_fold g c0 c6 n (k + 1) (0 :: l) (zero_cons hs c0) (by rw [List.length_cons]; omega)
    · rw [decide_eq_false q, if_neg q]
      rfl
/-! ### what a rule misses of a polynomial -/
def AF (w : Wt) (ps ws l : List Rat) : Rat := WS w l - rs (ps.zip ws) fun x => x.2 * ev l x.1
theorem ev_app (x : Rat) (r : List Rat) : ∀ l : List Rat, ev (l ++ r) x = ev l x + x ^ l.length * ev r x
  | [] => by
    show ev r x = 0 + x ^ 0 * ev r x
    rw [Rat.pow_zero]
    grind
  | c :: l => by
    show c + x * ev (l ++ r) x = c + x * ev l x + x ^ (l.length + 1) * ev r x
    rw [ev_app x r l, Rat.pow_succ]
    grind
theorem AF_low {w : Wt} {ps ws : List Rat} {k : Nat} (hk : k ≤ 13) (h : ∀ i, i < k → GP w ps ws i = 0) {l : List Rat} (hl : l.length ≤ k) : AF w ps ws l = 0 := by
  unfold AF
  rw [WS_atoms w (by omega)]
  cases k with
  | zero =>
    have : l = [] := List.length_eq_zero_iff.mp (by omega)
    rw [this, rs_congr (g := fun _ => 0 * 0) (atoms w) fun u _ => by show u.1 * 0 = _; grind, rs_congr (g := fun _ => 0 * 0) (ps.zip ws) fun u _ => by show u.2 * 0 = _; grind, ← rs_mul, ← rs_mul]
    grind
  | succ m =>
    have := GP_lin (w := w) (ps := ps) (ws := ws) (m := m) (by omega) (fun i hi => h i (by omega)) l 0 (by omega)
    rw [rs_congr (g := fun u => u.1 * (u.2 ^ 0 * ev l u.2)) (atoms w) fun u _ => by rw [Rat.pow_zero]; grind, this, rs_congr (g := fun x => x.2 * ev l x.1) (ps.zip ws) fun u _ => by rw [Rat.pow_zero]; grind]
    grind
theorem AF_monic {w : Wt} {ps ws : List Rat} {k : Nat} (hk : k ≤ 12) (h : ∀ i, i < k → GP w ps ws i = 0) {r : List Rat} (hl : r.length = k) : AF w ps ws (r ++ [1]) = GP w ps ws k := by
  have z := AF_low (w := w) (ps := ps) (ws := ws) (by omega) h (Nat.le_of_eq hl)
  unfold AF at z ⊢
  unfold GP
  have e : ∀ x : Rat, ev (r ++ [1]) x = ev r x + x ^ k := fun x => by
    rw [ev_app, hl]
    show ev r x + x ^ k * (1 + x * 0) = _
    grind
  rw [WS_atoms w (by rw [List.length_append, List.length_singleton]; omega), PS_atoms w hk]
  rw [WS_atoms w (by omega)] at z
  rw [rs_congr (g := fun u => u.1 * ev r u.2 + u.1 * u.2 ^ k) (atoms w) fun u _ => by rw [e]; grind, rs_congr (g := fun x => x.2 * ev r x.1 + x.2 * x.1 ^ k) (ps.zip ws) fun x _ => by rw [e]; grind, ← rs_add, ← rs_add]
  grind
theorem Wts_exact (w : Wt) {ps : List Rat} (ha : ps.Pairwise (· < ·)) (hl : ps.length ≤ 6) {k : Nat} (hk : k < ps.length) : GP w ps (Wts w ps) k = 0 := by
  have a := WS_exact w ha hl (g := List.replicate k 0 ++ [1]) (by rw [List.length_append, List.length_replicate, List.length_singleton]; omega)
  rw [WS_atoms w (by rw [List.length_append, List.length_replicate, List.length_singleton]; omega)] at a
  unfold GP
  rw [PS_atoms w (by omega), rs_congr (g := fun u => u.1 * ev (List.replicate k 0 ++ [1]) u.2) (atoms w) fun u _ => by rw [ev_rise], a, rs_congr (g := fun x => x.2 * x.1 ^ k) (ps.zip (Wts w ps)) fun u _ => by rw [ev_rise]]
  grind
theorem monic_rp (p : Rat) : ∀ (r : List Rat) (z : Rat), ∃ r', r'.length = r.length + 1 ∧ rp p z (r ++ [1]) = r' ++ [1]
  | [], z => ⟨[z - 1 * p], rfl, rfl⟩
  | x :: r, z => by
    obtain ⟨r', h1, h2⟩ := monic_rp p r x
    refine ⟨(z - x * p) :: r', by rw [List.length_cons, h1, List.length_cons], ?_⟩
    show (z - x * p) :: rp p x (r ++ [1]) = _
    rw [h2]
    rfl
theorem monic_WRf : ∀ (ps r : List Rat), ∃ r', r'.length = r.length + ps.length ∧ WRf ps (r ++ [1]) = r' ++ [1]
  | [], r => ⟨r, rfl, rfl⟩
  | p :: ps, r => by
    obtain ⟨r1, h1, h2⟩ := monic_rp p r 0
    obtain ⟨r', h3, h4⟩ := monic_WRf ps r1
    refine ⟨r', by rw [h3, h1, List.length_cons]; omega, ?_⟩
    show WRf ps (rp p 0 (r ++ [1])) = _
    rw [h2, h4]
theorem monic_WR (ps : List Rat) : ∃ r, r.length = ps.length ∧ WR ps = r ++ [1] := by
  obtain ⟨r, h1, h2⟩ := monic_WRf ps []
  exact ⟨r, by simpa using h1, h2⟩
theorem rs_zero {α : Type} {f : α → Rat} : ∀ l : List α, (∀ x ∈ l, f x = 0) → rs l f = 0
  | [], _ => rfl
  | x :: l, h => by
    rw [rs_cons, h x (by simp), rs_zero l fun y hy => h y (by simp [hy])]
    grind
theorem bar_gap {w : Wt} {ps : List Rat} (ha : ps.Pairwise (· < ·)) (hl : ps.length ≤ 6) : ∀ (m j : Nat), j + m = ps.length + 1 → (∀ i, i < ps.length + j → GP w ps (Wts w ps) i = 0) → (barS w m (List.replicate j 0 ++ WR ps)).map (fun d => (d.length : Int) - 2) = (fnz (GP w ps (Wts w ps)) m (ps.length + j)).map fun (k : Nat) => (k : Int) - 1
  | 0, j, _, _ => rfl
  | m + 1, j, hj, h => by
    obtain ⟨r, h1, h2⟩ := monic_WR ps
    have e : List.replicate j 0 ++ WR ps = (List.replicate j 0 ++ r) ++ [1] := by rw [h2, List.append_assoc]
    have a := AF_monic (w := w) (ps := ps) (ws := Wts w ps) (k := ps.length + j) (by omega) h (r := List.replicate j 0 ++ r) (by rw [List.length_append, List.length_replicate, h1]; omega)
    have z : rs (ps.zip (Wts w ps)) (fun x => x.2 * ev (List.replicate j 0 ++ WR ps) x.1) = 0 := rs_zero _ fun x hx => by
      have m := List.of_mem_zip (a := x.1) (b := x.2) hx
      rw [ev_app, ev_WR, prd_zero m.1, ev_repl]
      grind
    have b : WS w (List.replicate j 0 ++ WR ps) = GP w ps (Wts w ps) (ps.length + j) := by
      rw [← a, ← e]
      unfold AF
      rw [z]
      grind
    unfold barS fnz
    rw [b]
    by_cases q : GP w ps (Wts w ps) (ps.length + j) = 0
    · rw [if_pos q, if_pos q]
      exact bar_gap ha hl m (j + 1) (by omega) fun i hi => by
        by_cases c : i = ps.length + j
        · rw [c, q]
        · exact h i (by omega)
    · rw [if_neg q, if_neg q]
      show some (((List.replicate j 0 ++ WR ps).length : Int) - 2) = some (((ps.length + j : Nat) : Int) - 1)
      rw [List.length_append, List.length_replicate, WR_len]
      congr 1
      omega
theorem fnz_skip {G : Nat → Rat} {n m : Nat} (h : ∀ i, i < n → G i = 0) : fnz G (n + m) 0 = fnz G m n := by
  rw [fnz_app, fnz_none.mpr (fun j _ hj => h j (by omega))]
  show fnz G m (0 + n) = _
  rw [Nat.zero_add]
theorem bar_first {w : Wt} {ps : List Rat} (ha : ps.Pairwise (· < ·)) (hl : ps.length ≤ 6) : (barS w (ps.length + 1) (WR ps)).map (fun d => (d.length : Int) - 2) = (fnz (GP w ps (Wts w ps)) (2 * ps.length + 1) 0).map fun (k : Nat) => (k : Int) - 1 := by
  rw [show 2 * ps.length + 1 = ps.length + (ps.length + 1) by omega, fnz_skip fun i hi => Wts_exact w ha hl hi]
  exact bar_gap ha hl (ps.length + 1) 0 (by omega) fun i hi => Wts_exact w ha hl (by omega)
/-! ### orthogonal polynomials, over atoms -/
def ip (A : List (Rat × Rat)) (p q : Rat → Rat) : Rat := rs A fun u => u.1 * (p u.2 * q u.2)
theorem ip_add (A : List (Rat × Rat)) (p q r : Rat → Rat) : ip A p (fun x => q x + r x) = ip A p q + ip A p r := by
  unfold ip
  rw [rs_add]
  exact rs_congr _ fun u _ => by grind
theorem ip_mul (A : List (Rat × Rat)) (p q : Rat → Rat) (c : Rat) : ip A p (fun x => c * q x) = c * ip A p q := by
  unfold ip
  rw [rs_mul]
  exact rs_congr _ fun u _ => by grind
theorem ip_comm (A : List (Rat × Rat)) (p q : Rat → Rat) : ip A p q = ip A q p := rs_congr _ fun u _ => by grind
theorem ip_congr (A : List (Rat × Rat)) {p q p' q' : Rat → Rat} (h : ∀ x, p x * q x = p' x * q' x) : ip A p q = ip A p' q' := rs_congr _ fun u _ => by rw [h]
theorem ip_zero (A : List (Rat × Rat)) (p : Rat → Rat) {q : Rat → Rat} (h : ∀ x, q x = 0) : ip A p q = 0 := by
  have e : ip A p q = 0 * ip A p q := by
    rw [← ip_mul]
    exact ip_congr A fun x => by rw [h]; grind
  grind
def Mon (k : Nat) (p : List Rat) : Prop := ∃ r : List Rat, r.length = k ∧ p = r ++ [1]
theorem Mon.len {k : Nat} {p : List Rat} (h : Mon k p) : p.length = k + 1 := by
  obtain ⟨r, h1, rfl⟩ := h
  rw [List.length_append, h1]
  rfl
theorem ev_snoc (x : Rat) : ∀ (l : List Rat) (c : Rat), ev (l ++ [c]) x = ev l x + c * x ^ l.length
  | [], c => by
    show c + x * 0 = 0 + c * x ^ 0
    rw [Rat.pow_zero]
    grind
  | d :: l, c => by
    show d + x * ev (l ++ [c]) x = d + x * ev l x + c * x ^ (l.length + 1)
    rw [ev_snoc x l c, Rat.pow_succ]
    grind
theorem ev_zw (a : Rat) (x : Rat) : ∀ l r : List Rat, l.length = r.length → ev (List.zipWith (fun p q => p - a * q) l r) x = ev l x - a * ev r x
  | [], [], _ => by
    show (0 : Rat) = 0 - a * 0
    grind
  | p :: l, q :: r, h => by
    show p - a * q + x * ev (List.zipWith _ l r) x = p + x * ev l x - a * (q + x * ev r x)
    rw [ev_zw a x l r (by simpa using h)]
    grind
  | [], _ :: _, h => by cases h
  | _ :: _, [], h => by cases h
theorem split {k : Nat} {p f : List Rat} (hp : Mon k p) (hf : f.length ≤ k + 1) : ∃ (c : Rat) (g : List Rat), g.length ≤ k ∧ (∀ x, ev f x = c * ev p x + ev g x) ∧ (∀ f' z, f.length = k + 1 → f = f' ++ [z] → c = z) := by
  by_cases h : f.length ≤ k
  · exact ⟨0, f, h, fun x => by grind, fun f' z e _ => by omega⟩
  · obtain ⟨r, h1, rfl⟩ := hp
    rcases List.eq_nil_or_concat f with e | ⟨f', z, e⟩
    · subst e
      exact absurd (Nat.zero_le _) h
    · rw [List.concat_eq_append] at e
      subst e
      rw [List.length_append, List.length_singleton] at hf h
      refine ⟨z, List.zipWith (fun p q => p - z * q) f' r, by rw [List.length_zipWith]; omega, fun x => ?_, fun f2 z2 _ e => ?_⟩
      · rw [ev_snoc, ev_snoc, ev_zw z x f' r (by omega), show f'.length = r.length by omega]
        grind
      · have := List.append_inj' e rfl
        exact List.singleton_inj.mp this.2
def nxP (p q : List Rat) (a b : Rat) : List Rat := List.zipWith (fun u v => u - v) (rp a 0 p) (q.map (b * ·) ++ List.replicate (p.length + 1 - q.length) 0)
theorem ev_smul (b x : Rat) : ∀ l : List Rat, ev (l.map (b * ·)) x = b * ev l x
  | [] => by
    show (0 : Rat) = b * 0
    grind
  | c :: l => by
    show b * c + x * ev (l.map (b * ·)) x = b * (c + x * ev l x)
    rw [ev_smul b x l]
    grind
theorem ev_sub2 (x : Rat) : ∀ l r : List Rat, l.length = r.length → ev (List.zipWith (fun u v => u - v) l r) x = ev l x - ev r x
  | [], [], _ => by
    show (0 : Rat) = 0 - 0
    grind
  | p :: l, q :: r, h => by
    show p - q + x * ev (List.zipWith _ l r) x = p + x * ev l x - (q + x * ev r x)
    rw [ev_sub2 x l r (by simpa using h)]
    grind
  | [], _ :: _, h => by cases h
  | _ :: _, [], h => by cases h
theorem ev_nxP {p q : List Rat} (h : q.length ≤ p.length + 1) (a b x : Rat) : ev (nxP p q a b) x = (x - a) * ev p x - b * ev q x := by
  unfold nxP
  rw [ev_sub2 x _ _ (by rw [rp_len, List.length_append, List.length_map, List.length_replicate]; omega), ev_rp, ev_pad, ev_smul]
  grind
theorem zw_app (l r : List Rat) (a b : Rat) (h : l.length = r.length) : List.zipWith (fun u v => u - v) (l ++ [a]) (r ++ [b]) = List.zipWith (fun u v => u - v) l r ++ [a - b] := by
  rw [List.zipWith_append h]
  rfl
theorem rp_mon (a : Rat) : ∀ (r : List Rat) (z : Rat), ∃ r', r'.length = r.length + 1 ∧ rp a z (r ++ [1]) = r' ++ [1]
  | [], z => ⟨[z - 1 * a], rfl, by show [z - 1 * a, 1] = _; rfl⟩
  | c :: r, z => by
    obtain ⟨r', h1, h2⟩ := rp_mon a r c
    refine ⟨(z - c * a) :: r', by rw [List.length_cons, h1, List.length_cons], ?_⟩
    show (z - c * a) :: rp a c (r ++ [1]) = _
    rw [h2]
    rfl
theorem mon_nxP {k : Nat} {p q : List Rat} (hp : Mon k p) (hq : q.length ≤ k) (a b : Rat) : Mon (k + 1) (nxP p q a b) := by
  have hl := hp.len
  obtain ⟨r, h1, rfl⟩ := hp
  obtain ⟨r', h2, h3⟩ := rp_mon a r 0
  unfold nxP
  rw [h3, hl]
  have e : q.map (b * ·) ++ List.replicate (k + 1 + 1 - q.length) (0 : Rat) = (q.map (b * ·) ++ List.replicate (k + 1 - q.length) 0) ++ [0] := by
    rw [show k + 1 + 1 - q.length = (k + 1 - q.length) + 1 by omega, List.replicate_succ', List.append_assoc]
  rw [e, zw_app _ _ _ _ (by rw [List.length_append, List.length_map, List.length_replicate]; omega)]
  refine ⟨List.zipWith (fun u v => u - v) r' (q.map (b * ·) ++ List.replicate (k + 1 - q.length) 0), ?_, by rw [show (1 : Rat) - 0 = 1 by grind]⟩
  rw [List.length_zipWith, List.length_append, List.length_map, List.length_replicate]
  omega
def NN (A : List (Rat × Rat)) (p : List Rat) : Rat := ip A (ev p) (ev p)
def NX (A : List (Rat × Rat)) (p : List Rat) : Rat := ip A (ev p) (fun x => x * ev p x)
def OP (A : List (Rat × Rat)) : Nat → List Rat × List Rat × Rat
  | 0 => ([1], [], 0)
  | k + 1 => (nxP (OP A k).1 (OP A k).2.1 (NX A (OP A k).1 / NN A (OP A k).1) (if k = 0 then 0 else NN A (OP A k).1 / (OP A k).2.2), (OP A k).1, NN A (OP A k).1)
def PK (A : List (Rat × Rat)) (k : Nat) : List Rat := (OP A k).1
def aK (A : List (Rat × Rat)) (k : Nat) : Rat := NX A (PK A k) / NN A (PK A k)
def bK (A : List (Rat × Rat)) (k : Nat) : Rat := if k = 0 then 0 else NN A (PK A k) / (OP A k).2.2
theorem PK_succ (A : List (Rat × Rat)) (k : Nat) : PK A (k + 1) = nxP (PK A k) (OP A k).2.1 (aK A k) (bK A k) := rfl
theorem mon_PK (A : List (Rat × Rat)) : ∀ k : Nat, Mon k (PK A k) ∧ (OP A k).2.1.length = k
  | 0 => ⟨⟨[], rfl, rfl⟩, rfl⟩
  | k + 1 => by
    obtain ⟨h1, h2⟩ := mon_PK A k
    exact ⟨mon_nxP h1 (by rw [h2]; exact Nat.le_refl k) _ _, h1.len⟩
theorem ev_PK (A : List (Rat × Rat)) (k : Nat) (x : Rat) : ev (PK A (k + 1)) x = (x - aK A k) * ev (PK A k) x - bK A k * ev (OP A k).2.1 x := by
  obtain ⟨h1, h2⟩ := mon_PK A k
  rw [PK_succ, ev_nxP (by rw [h1.len]; omega)]
theorem orth (A : List (Rat × Rat)) : ∀ (k : Nat), (∀ j, j < k → NN A (PK A j) ≠ 0) → ∀ f : List Rat, f.length ≤ k → ip A (ev (PK A k)) (ev f) = 0
  | 0, _, f, hf => by
    have e : f = [] := List.eq_nil_of_length_eq_zero (by omega)
    subst e
    exact ip_zero A _ fun x => rfl
  | k + 1, hn, f, hf => by
    have E := orth A k fun j hj => hn j (by omega)
    have nk := hn k (by omega)
    obtain ⟨mk, lk⟩ := mon_PK A k
    have ex : ∀ q : Rat → Rat, ip A (ev (PK A (k + 1))) q = ip A (ev (PK A k)) (fun x => x * q x) - aK A k * ip A (ev (PK A k)) q - bK A k * ip A (ev (OP A k).2.1) q := fun q => by
      unfold ip
      rw [rs_mul, rs_mul]
      have s1 := rs_add (fun u : Rat × Rat => u.1 * (ev (PK A k) u.2 * (u.2 * q u.2))) (fun u => -(aK A k * (u.1 * (ev (PK A k) u.2 * q u.2)))) A
      have s2 := rs_add (fun u : Rat × Rat => u.1 * (ev (PK A k) u.2 * (u.2 * q u.2)) + -(aK A k * (u.1 * (ev (PK A k) u.2 * q u.2)))) (fun u => -(bK A k * (u.1 * (ev (OP A k).2.1 u.2 * q u.2)))) A
      have n1 := rs_mul (-1) (fun u : Rat × Rat => aK A k * (u.1 * (ev (PK A k) u.2 * q u.2))) A
      have n2 := rs_mul (-1) (fun u : Rat × Rat => bK A k * (u.1 * (ev (OP A k).2.1 u.2 * q u.2))) A
      have c1 : rs A (fun u => -1 * (aK A k * (u.1 * (ev (PK A k) u.2 * q u.2)))) = rs A fun u => -(aK A k * (u.1 * (ev (PK A k) u.2 * q u.2))) := rs_congr _ fun u _ => by grind
      have c2 : rs A (fun u => -1 * (bK A k * (u.1 * (ev (OP A k).2.1 u.2 * q u.2)))) = rs A fun u => -(bK A k * (u.1 * (ev (OP A k).2.1 u.2 * q u.2))) := rs_congr _ fun u _ => by grind
      have c3 : rs A (fun u => u.1 * (ev (PK A (k + 1)) u.2 * q u.2)) = rs A fun u => u.1 * (ev (PK A k) u.2 * (u.2 * q u.2)) + -(aK A k * (u.1 * (ev (PK A k) u.2 * q u.2))) + -(bK A k * (u.1 * (ev (OP A k).2.1 u.2 * q u.2))) := rs_congr _ fun u _ => by rw [ev_PK]; grind
      rw [c3]
      grind
    -- against itself
    have s1 : ip A (ev (PK A (k + 1))) (ev (PK A k)) = 0 := by
      rw [ex]
      have z : bK A k * ip A (ev (OP A k).2.1) (ev (PK A k)) = 0 := by
        rw [ip_comm, E _ (by rw [lk]; exact Nat.le_refl k)]
        grind
      rw [z]
      show NX A (PK A k) - NX A (PK A k) / NN A (PK A k) * NN A (PK A k) - 0 = 0
      grind
    obtain ⟨c, g, hg, eg, _⟩ := split mk hf
    have r1 : ip A (ev (PK A (k + 1))) (ev f) = c * ip A (ev (PK A (k + 1))) (ev (PK A k)) + ip A (ev (PK A (k + 1))) (ev g) := by
      rw [← ip_mul, ← ip_add]
      exact ip_congr A fun x => by rw [eg]
    rw [r1, s1]
    cases k with
    | zero =>
      have e : g = [] := List.eq_nil_of_length_eq_zero (by omega)
      subst e
      rw [show ip A (ev (PK A (0 + 1))) (ev []) = 0 from ip_zero A _ fun x => rfl]
      grind
    | succ k =>
      have E0 := orth A k fun j hj => hn j (by omega)
      have n0 := hn k (by omega)
      obtain ⟨mk0, lk0⟩ := mon_PK A k
      have pv : (OP A (k + 1)).2.1 = PK A k := rfl
      have pn : (OP A (k + 1)).2.2 = NN A (PK A k) := rfl
      -- against the one ahead
      have s2 : ip A (ev (PK A (k + 1 + 1))) (ev (PK A k)) = 0 := by
        rw [ex, E (PK A k) (by rw [mk0.len]; omega), pv]
        obtain ⟨c2, g2, hg2, eg2, ec2⟩ := split mk (f := 0 :: PK A k) (by rw [List.length_cons, mk0.len]; omega)
        have c21 : c2 = 1 := by
          obtain ⟨r, hr, er⟩ := mk0
          exact ec2 (0 :: r) 1 (by rw [List.length_cons, er, List.length_append, hr]; rfl) (by rw [er]; rfl)
        have t : ip A (ev (PK A (k + 1))) (fun x => x * ev (PK A k) x) = NN A (PK A (k + 1)) := by
          have e1 : ip A (ev (PK A (k + 1))) (fun x => x * ev (PK A k) x) = ip A (ev (PK A (k + 1))) (fun x => c2 * ev (PK A (k + 1)) x + ev g2 x) := ip_congr A fun x => by
            have := eg2 x
            have e2 : ev (0 :: PK A k) x = 0 + x * ev (PK A k) x := rfl
            rw [e2] at this
            rw [← this]
            grind
          rw [e1, ip_add, ip_mul, E g2 hg2, c21]
          show 1 * NN A (PK A (k + 1)) + 0 = _
          grind
        rw [t]
        show NN A (PK A (k + 1)) - aK A (k + 1) * 0 - bK A (k + 1) * NN A (PK A k) = 0
        unfold bK
        rw [if_neg (by omega), pn]
        grind
      obtain ⟨d, h, hh, eh, _⟩ := split mk0 hg
      have s3 : ip A (ev (PK A (k + 1 + 1))) (ev h) = 0 := by
        rw [ex, E h (by omega), pv, E0 h hh]
        have t : ip A (ev (PK A (k + 1))) (fun x => x * ev h x) = 0 := by
          rw [← E (0 :: h) (by rw [List.length_cons]; omega)]
          exact ip_congr A fun x => by
            show _ = ev (PK A (k + 1)) x * (0 + x * ev h x)
            grind
        rw [t]
        grind
      have r2 : ip A (ev (PK A (k + 1 + 1))) (ev g) = d * ip A (ev (PK A (k + 1 + 1))) (ev (PK A k)) + ip A (ev (PK A (k + 1 + 1))) (ev h) := by
        rw [← ip_mul, ← ip_add]
        exact ip_congr A fun x => by rw [eh]
      rw [r2, s2, s3]
      grind
/-! ### enough atoms -/
def More (A : List (Rat × Rat)) (k : Nat) : Prop := ∃ qs : List Rat, qs.Pairwise (· ≠ ·) ∧ k < qs.length ∧ ∀ q ∈ qs, ∃ u ∈ A, u.2 = q
theorem vanish {A : List (Rat × Rat)} (pos : ∀ u ∈ A, 0 < u.1) {p : List Rat} (h : ip A (ev p) (ev p) = 0) : ∀ u ∈ A, ev p u.2 = 0 := fun u hu => by
  have nn := rs_nn (f := fun u : Rat × Rat => u.1 * (ev p u.2 * ev p u.2)) A fun u hu => Rat.mul_nonneg (Rat.le_of_lt (pos u hu)) (sq_nn _)
  have z := nn.2 h u hu
  have p0 := pos u hu
  grind
theorem zero_of {A : List (Rat × Rat)} {k : Nat} (m : More A k) {p : List Rat} (hl : p.length ≤ k + 1) (h : ∀ u ∈ A, ev p u.2 = 0) : p = List.replicate p.length 0 := by
  obtain ⟨qs, h1, h2, h3⟩ := m
  refine same_poly h1 (by rw [List.length_replicate]) (by omega) fun q hq => ?_
  obtain ⟨u, hu, rfl⟩ := h3 q hq
  rw [h u hu]
  have := ev_pad u.2 p.length []
  rw [List.nil_append] at this
  rw [this]
  rfl
theorem NN_ne {A : List (Rat × Rat)} (pos : ∀ u ∈ A, 0 < u.1) {k : Nat} (m : More A k) {p : List Rat} (hp : Mon k p) : NN A p ≠ 0 := fun h => by
  have z := zero_of m (by rw [hp.len]; exact Nat.le_refl _) (vanish pos h)
  obtain ⟨r, _, rfl⟩ := hp
  have one : (1 : Rat) ∈ List.replicate (r ++ [1]).length (0 : Rat) := by
    rw [← z]
    simp
  have := (List.mem_replicate.mp one).2
  grind
theorem NN_nn {A : List (Rat × Rat)} (pos : ∀ u ∈ A, 0 < u.1) (p : List Rat) : 0 ≤ NN A p := (rs_nn (f := fun u : Rat × Rat => u.1 * (ev p u.2 * ev p u.2)) A fun u hu => Rat.mul_nonneg (Rat.le_of_lt (pos u hu)) (sq_nn _)).1
theorem More.le {A : List (Rat × Rat)} {j k : Nat} (m : More A k) (h : j ≤ k) : More A j := by
  obtain ⟨qs, h1, h2, h3⟩ := m
  exact ⟨qs, h1, by omega, h3⟩
theorem more_st {w : Wt} (g : Good w) (h : w.2 ≠ []) {k : Nat} (hk : k ≤ 12) : More (atoms w) k := by
  cases hw : w.2 with
  | nil => exact absurd hw h
  | cons s l =>
    have hs := g.ss s (by rw [hw]; exact List.mem_cons_self ..)
    have dn : ((s.2.1 - s.1 : Int) : Rat) ≠ 0 := intc_ne (by omega)
    refine ⟨(atS s).map (·.2), ?_, ?_, fun q hq => ?_⟩
    · have q := QN_nodup
      unfold List.Nodup at q
      unfold atS
      rw [List.map_map]
      rw [List.pairwise_map] at q ⊢
      refine q.imp fun {a b} hab e => hab ?_
      have e' : (s.1 : Rat) + ((s.2.1 - s.1 : Int) : Rat) * a.2 = (s.1 : Rat) + ((s.2.1 - s.1 : Int) : Rat) * b.2 := e
      grind
    · have : ((atS s).map (·.2)).length = 13 := by
        unfold atS
        rw [List.length_map, List.length_map]
        rfl
      omega
    · obtain ⟨u, hu, rfl⟩ := List.mem_map.mp hq
      refine ⟨u, ?_, rfl⟩
      unfold atoms
      rw [hw]
      exact List.mem_append_right _ (List.mem_flatMap.mpr ⟨s, List.mem_cons_self .., hu⟩)
theorem more_ms {w : Wt} (h : MsOk w.1) {k : Nat} (hk : k < w.1.length) : More (atoms w) k := by
  refine ⟨w.1.map fun m => (m.1 : Rat), ?_, by rw [List.length_map]; exact hk, fun q hq => ?_⟩
  · have a := h.asc
    rw [List.pairwise_map] at a ⊢
    exact a.imp fun {x y} hxy e => by
      have := Rat.intCast_inj.mp e
      omega
  · obtain ⟨m, hm, rfl⟩ := List.mem_map.mp hq
    refine ⟨((m.2 : Rat), (m.1 : Rat)), ?_, rfl⟩
    unfold atoms
    exact List.mem_append_left _ (List.mem_map.mpr ⟨m, hm, rfl⟩)
def Cnt (w : Wt) (k : Nat) : Prop := k ≤ 6 ∧ (w.2 ≠ [] ∨ k ≤ w.1.length)
theorem Cnt.more {w : Wt} (ok : WOk w) {j k : Nat} (c : Cnt w k) (h : j < k) : More (atoms w) j := by
  rcases c.2 with q | q
  · exact more_st ok.good q (by have := c.1; omega)
  · exact more_ms ok.ms (by omega)
theorem Cnt.nn {w : Wt} (ok : WOk w) {j k : Nat} (c : Cnt w k) (h : j < k) : NN (atoms w) (PK (atoms w) j) ≠ 0 := NN_ne (atoms_pos ok.good) (c.more ok h) (mon_PK _ j).1
theorem Cnt.orth {w : Wt} (ok : WOk w) {k : Nat} (c : Cnt w k) {f : List Rat} (h : f.length ≤ k) : ip (atoms w) (ev (PK (atoms w) k)) (ev f) = 0 := L.orth _ k (fun _ hj => c.nn ok hj) f h
theorem nd_lenG {α : Type} [DecidableEq α] : ∀ (l r : List α), l.Nodup → (∀ x ∈ l, x ∈ r) → l.length ≤ r.length
  | [], r, _, _ => Nat.zero_le _
  | x :: l, r, h, k => by
    obtain ⟨h1, h2⟩ := List.nodup_cons.mp h
    have hx := k x (List.mem_cons_self ..)
    have := nd_lenG l (r.erase x) h2 fun y hy => (List.mem_erase_of_ne (fun e => h1 (by rw [← e]; exact hy))).mpr (k y (List.mem_cons_of_mem _ hy))
    rw [List.length_erase_of_mem hx] at this
    have := List.length_pos_of_mem hx
    rw [List.length_cons]
    omega
def bx (T : Nat) : Nat → List (List Int)
  | 0 => [[]]
  | n + 1 => (List.range (T + 1)).flatMap fun (a : Nat) => (bx T n).map fun v => (a : Int) :: v
theorem bx_len (T : Nat) : ∀ n, (bx T n).length = (T + 1) ^ n
  | 0 => rfl
  | n + 1 => by
    show ((List.range (T + 1)).flatMap _).length = _
    rw [List.length_flatMap]
    have e : (List.range (T + 1)).map (fun a => ((bx T n).map fun v => ((a : Nat) : Int) :: v).length) = List.replicate (T + 1) ((T + 1) ^ n) := by
      refine List.eq_replicate_iff.mpr ⟨by rw [List.length_map, List.length_range], fun x hx => ?_⟩
      obtain ⟨a, _, rfl⟩ := List.mem_map.mp hx
      rw [List.length_map, bx_len T n]
    rw [e, List.sum_replicate_nat, Nat.pow_succ, Nat.mul_comm]
theorem bx_mem (T : Nat) : ∀ (n : Nat) (v : List Int), v ∈ bx T n ↔ v.length = n ∧ ∀ x ∈ v, 0 ≤ x ∧ x ≤ T
  | 0, v => by
    show v ∈ [[]] ↔ _
    rw [List.mem_singleton]
    constructor
    · rintro rfl
      exact ⟨rfl, fun x h => by cases h⟩
    · intro h
      exact List.eq_nil_of_length_eq_zero h.1
  | n + 1, v => by
    show v ∈ (List.range (T + 1)).flatMap _ ↔ _
    rw [List.mem_flatMap]
    constructor
    · rintro ⟨a, ha, hv⟩
      obtain ⟨u, hu, rfl⟩ := List.mem_map.mp hv
      have := List.mem_range.mp ha
      obtain ⟨h1, h2⟩ := (bx_mem T n u).mp hu
      refine ⟨by rw [List.length_cons, h1], fun x hx => ?_⟩
      rcases List.mem_cons.mp hx with rfl | hx
      · omega
      · exact h2 x hx
    · rintro ⟨h1, h2⟩
      cases v with
      | nil => cases h1
      | cons x u =>
        have hx := h2 x (List.mem_cons_self ..)
        refine ⟨x.toNat, List.mem_range.mpr (by omega), List.mem_map.mpr ⟨u, (bx_mem T n u).mpr ⟨by simpa using h1, fun y hy => h2 y (List.mem_cons_of_mem _ hy)⟩, ?_⟩⟩
        rw [show ((x.toNat : Nat) : Int) = x by omega]
theorem bx_nodup (T : Nat) : ∀ n, (bx T n).Nodup
  | 0 => by
    show [([] : List Int)].Nodup
    simp
  | n + 1 => by
    show ((List.range (T + 1)).flatMap fun a => (bx T n).map fun v => ((a : Nat) : Int) :: v).Nodup
    unfold List.Nodup
    rw [List.pairwise_flatMap]
    refine ⟨fun a _ => ?_, ?_⟩
    · rw [List.pairwise_map]
      have h := bx_nodup T n
      unfold List.Nodup at h
      exact h.imp fun {x y} hxy e => hxy (List.cons.inj e).2
    · have h := List.nodup_range (n := T + 1)
      unfold List.Nodup at h
      refine h.imp fun {x y} hxy u hu v hv e => hxy ?_
      obtain ⟨u', _, rfl⟩ := List.mem_map.mp hu
      obtain ⟨v', _, rfl⟩ := List.mem_map.mp hv
      have := (List.cons.inj e).1
      omega
theorem collide {α β : Type} [DecidableEq α] [DecidableEq β] {f : α → β} {l : List α} {r : List β} (h : l.Nodup) (hm : ∀ x ∈ l, f x ∈ r) (hl : r.length < l.length) : ∃ x ∈ l, ∃ y ∈ l, x ≠ y ∧ f x = f y := by
  refine Classical.byContradiction fun no => ?_
  have inj : ∀ x ∈ l, ∀ y ∈ l, x ≠ y → f x ≠ f y := fun x hx y hy n e => no ⟨x, hx, y, hy, n, e⟩
  have nd : (l.map f).Nodup := by
    unfold List.Nodup at h ⊢
    rw [List.pairwise_map]
    exact h.imp_of_mem fun {a b} ha hb n => inj a ha b hb n
  have := nd_lenG _ r nd fun y hy => by
    obtain ⟨x, hx, rfl⟩ := List.mem_map.mp hy
    exact hm x hx
  rw [List.length_map] at this
  omega
def dot : List Int → List Int → Int
  | a :: r, x :: v => a * x + dot r v
  | _, _ => 0
theorem dot_le {B T : Nat} : ∀ (r v : List Int), (∀ a ∈ r, a.natAbs ≤ B) → (∀ x ∈ v, 0 ≤ x ∧ x ≤ T) → (dot r v).natAbs ≤ v.length * (B * T)
  | [], v, _, _ => by
    show (0 : Int).natAbs ≤ _
    exact Nat.zero_le _
  | a :: r, [], _, _ => by
    show (0 : Int).natAbs ≤ _
    exact Nat.zero_le _
  | a :: r, x :: v, h, k => by
    have ih := dot_le r v (fun y hy => h y (List.mem_cons_of_mem _ hy)) fun y hy => k y (List.mem_cons_of_mem _ hy)
    have h1 := h a (List.mem_cons_self ..)
    have h2 := k x (List.mem_cons_self ..)
    show (a * x + dot r v).natAbs ≤ (v.length + 1) * (B * T)
    have m : (a * x).natAbs ≤ B * T := by
      rw [Int.natAbs_mul]
      exact Nat.mul_le_mul h1 (by omega)
    have t := Int.natAbs_add_le (a * x) (dot r v)
    rw [Nat.succ_mul]
    omega
theorem dot_sub : ∀ (r u v : List Int), u.length = v.length → dot r (List.zipWith (· - ·) u v) = dot r u - dot r v
  | [], u, v, _ => by
    show (0 : Int) = 0 - 0
    rfl
  | a :: r, [], [], _ => by
    show (0 : Int) = 0 - 0
    rfl
  | a :: r, x :: u, y :: v, h => by
    show a * (x - y) + dot r (List.zipWith (· - ·) u v) = a * x + dot r u - (a * y + dot r v)
    rw [dot_sub r u v (by simpa using h), Int.mul_sub]
    omega
  | a :: r, [], _ :: _, h => by cases h
  | a :: r, _ :: _, [], h => by cases h
theorem zw_ne : ∀ (u v : List Int), u.length = v.length → u ≠ v → ∃ x ∈ List.zipWith (· - ·) u v, x ≠ 0
  | [], [], _, h => absurd rfl h
  | x :: u, y :: v, h, n => by
    by_cases e : x = y
    · obtain ⟨z, hz, nz⟩ := zw_ne u v (by simpa using h) fun e2 => n (by rw [e, e2])
      exact ⟨z, List.mem_cons_of_mem _ hz, nz⟩
    · exact ⟨x - y, List.mem_cons_self .., by omega⟩
  | [], _ :: _, h, _ => by cases h
  | _ :: _, [], h, _ => by cases h
theorem zw_le {T : Nat} : ∀ (u v : List Int), (∀ x ∈ u, 0 ≤ x ∧ x ≤ T) → (∀ x ∈ v, 0 ≤ x ∧ x ≤ T) → ∀ x ∈ List.zipWith (· - ·) u v, x.natAbs ≤ T
  | [], _, _, _, x, h => by cases h
  | _ :: _, [], _, _, x, h => by cases h
  | a :: u, b :: v, h, k, x, hx => by
    have h1 := h a (List.mem_cons_self ..)
    have h2 := k b (List.mem_cons_self ..)
    rcases List.mem_cons.mp hx with rfl | hx
    · show (a - b).natAbs ≤ T
      omega
    · exact zw_le u v (fun y hy => h y (List.mem_cons_of_mem _ hy)) (fun y hy => k y (List.mem_cons_of_mem _ hy)) x hx
theorem siegel {B : Nat} {rows : List (List Int)} {n : Nat} (hn : n = rows.length + 1) (h : ∀ r ∈ rows, ∀ a ∈ r, a.natAbs ≤ B) : ∃ d : List Int, d.length = n ∧ (∃ x ∈ d, x ≠ 0) ∧ (∀ x ∈ d, x.natAbs ≤ (2 * (n * B) + 1) ^ rows.length) ∧ ∀ r ∈ rows, dot r d = 0 := by
  generalize hT : (2 * (n * B) + 1) ^ rows.length = T
  have t1 : 1 ≤ T := by
    rw [← hT]
    exact Nat.one_le_pow _ _ (by omega)
  have S0 : ∀ v ∈ bx T n, ∀ r ∈ rows, (dot r v).natAbs ≤ n * (B * T) := fun v hv r hr => by
    obtain ⟨h1, h2⟩ := (bx_mem T n v).mp hv
    have := dot_le r v (h r hr) h2
    rw [h1] at this
    exact this
  have hm : ∀ v ∈ bx T n, (rows.map fun r => dot r v + ((n * (B * T) : Nat) : Int)) ∈ bx (2 * (n * (B * T))) rows.length := fun v hv => by
    refine (bx_mem _ _ _).mpr ⟨by rw [List.length_map], fun x hx => ?_⟩
    obtain ⟨r, hr, rfl⟩ := List.mem_map.mp hx
    have := S0 v hv r hr
    omega
  have lt : (bx (2 * (n * (B * T))) rows.length).length < (bx T n).length := by
    rw [bx_len, bx_len, hn, Nat.pow_succ, ← hn]
    have e : 2 * (n * (B * T)) + 1 ≤ (2 * (n * B) + 1) * T := by
      rw [Nat.add_mul, Nat.one_mul]
      have : 2 * (n * (B * T)) = 2 * (n * B) * T := by rw [Nat.mul_assoc 2, Nat.mul_assoc n]
      omega
    have a := Nat.pow_le_pow_left e rows.length
    rw [Nat.mul_pow, hT] at a
    have b : T * T ^ rows.length = T ^ rows.length * T := Nat.mul_comm _ _
    have c : T ^ rows.length * T ≤ (T + 1) ^ rows.length * T := Nat.mul_le_mul_right _ (Nat.pow_le_pow_left (by omega) _)
    have d : 0 < (T + 1) ^ rows.length := Nat.pow_pos (by omega)
    have f : (T + 1) ^ rows.length * (T + 1) = (T + 1) ^ rows.length * T + (T + 1) ^ rows.length := Nat.mul_succ ..
    omega
  obtain ⟨u, hu, v, hv, ne, e⟩ := collide (bx_nodup T n) hm lt
  obtain ⟨u1, u2⟩ := (bx_mem T n u).mp hu
  obtain ⟨v1, v2⟩ := (bx_mem T n v).mp hv
  refine ⟨List.zipWith (· - ·) u v, by rw [List.length_zipWith]; omega, zw_ne u v (by omega) ne, zw_le u v u2 v2, fun r hr => ?_⟩
  rw [dot_sub r u v (by omega)]
  have := List.map_inj_left.mp e r hr
  omega
/-! ### whole sums of powers -/
def PI (w : Wt) (k : Nat) : Int := 27720 * (w.1.map (mI k)).sum + 27720 / ((k : Int) + 1) * (w.2.map (sI k)).sum
theorem PI_PS (w : Wt) {k : Nat} (h : k ≤ 11) : PS w k = (PI w k : Rat) / ((27720 : Int) : Rat) := by
  have e : 27720 / ((k : Int) + 1) * ((k : Int) + 1) = 27720 := by
    have : k = 0 ∨ k = 1 ∨ k = 2 ∨ k = 3 ∨ k = 4 ∨ k = 5 ∨ k = 6 ∨ k = 7 ∨ k = 8 ∨ k = 9 ∨ k = 10 ∨ k = 11 := by omega
    rcases this with rfl | rfl | rfl | rfl | rfl | rfl | rfl | rfl | rfl | rfl | rfl | rfl <;> decide
  have n1 := intc_ne (n := (k : Int) + 1) (by omega)
  unfold PS PI
  generalize 27720 / ((k : Int) + 1) = q at *
  have e2 : ((q * ((k : Int) + 1) : Int) : Rat) = ((27720 : Int) : Rat) := by rw [e]
  push_cast at *
  grind
theorem PI_lt {w : Wt} (g : Good w) {k : Nat} (h : k ≤ 11) : (PI w k).natAbs < 2 ^ 87 := by
  have a : (w.1.map (mI k)).sum.natAbs < 2 ^ 67 := by
    refine up_lt (sum_lt (a := 61) _ fun x hx => ?_) (by rw [List.length_map]; have := g.lm; omega)
    obtain ⟨m, hm, rfl⟩ := List.mem_map.mp hx
    have q := g.ms m hm
    exact mul_lt (a := 5) (b := 56) (by omega) (up_lt (pow_lt (b := 5) (by omega) k) (by omega)) (by decide)
  have b : (w.2.map (sI k)).sum.natAbs < 2 ^ 71 := by
    refine up_lt (sum_lt (a := 67) _ fun x hx => ?_) (by rw [List.length_map]; have := g.ls; omega)
    obtain ⟨s, hs, rfl⟩ := List.mem_map.mp hx
    have q := g.ss s hs
    have p1 : (s.2.1 ^ (k + 1)).natAbs < 2 ^ 61 := up_lt (pow_lt (b := 5) (by omega) (k + 1)) (by omega)
    have p2 : (s.1 ^ (k + 1)).natAbs < 2 ^ 61 := up_lt (pow_lt (b := 5) (by omega) (k + 1)) (by omega)
    exact mul_lt (a := 5) (b := 62) (by omega) (sub_lt p1 p2 (by decide) (by decide)) (by decide)
  have c : (27720 / ((k : Int) + 1)).natAbs < 2 ^ 15 := by
    have : 27720 / ((k : Int) + 1) ≤ 27720 := Int.ediv_le_self _ (by decide)
    have : 0 ≤ 27720 / ((k : Int) + 1) := Int.ediv_nonneg (by decide) (by omega)
    have : (2 : Nat) ^ 15 = 32768 := by decide
    omega
  exact add_lt (mul_lt (a := 15) (by decide) a (Nat.le_refl _)) (mul_lt c b (Nat.le_refl _)) (by decide) (by decide)
def rowF (w : Wt) : Nat → Nat → List Int
  | _, 0 => []
  | j, n + 1 => PI w j :: rowF w (j + 1) n
theorem rowF_mem (w : Wt) : ∀ (n j : Nat), ∀ a ∈ rowF w j n, ∃ i, a = PI w i ∧ i < j + n
  | 0, j, a, h => by cases h
  | n + 1, j, a, h => by
    rcases List.mem_cons.mp h with rfl | h
    · exact ⟨j, rfl, by omega⟩
    · obtain ⟨i, e, hi⟩ := rowF_mem w n (j + 1) a h
      exact ⟨i, e, by omega⟩
theorem dot_rowF (w : Wt) : ∀ (d : List Int) (j : Nat), j + d.length ≤ 12 → ((numL (j : Int) (toR d)).map (tW w)).sum = (dot (rowF w j d.length) d : Rat) / ((27720 : Int) : Rat)
  | [], j, _ => by
    show (0 : Rat) = ((0 : Int) : Rat) / _
    push_cast
    grind
  | x :: d, j, h => by
    rw [List.length_cons] at h
    have ih := dot_rowF w d (j + 1) (by omega)
    have e : toR (x :: d) = (x : Rat) :: toR d := rfl
    rw [e]
    unfold numL
    rw [List.map_cons, List.sum_cons, show (j : Int) + 1 = ((j + 1 : Nat) : Int) by omega, ih]
    show (x : Rat) * PS w ((j : Int)).toNat + _ = ((PI w j * x + dot (rowF w (j + 1) d.length) d : Int) : Rat) / _
    rw [Int.toNat_natCast, PI_PS w (by omega)]
    push_cast
    grind
/-! ### the sizes of the polynomials -/
theorem toR_zero {d : List Int} (h : ∀ x ∈ toR d, x = 0) : ∀ x ∈ d, x = 0 := fun x hx => by
  have : ((x : Int) : Rat) ∈ toR d := List.mem_map_of_mem hx
  have := h _ this
  exact Rat.intCast_inj.mp (show ((x : Int) : Rat) = ((0 : Int) : Rat) from this)
theorem PK_dv {w : Wt} (ok : WOk w) {k : Nat} (c : Cnt w k) : ∃ D : Int, 0 < D ∧ D.natAbs < 2 ^ 548 ∧ ∀ q ∈ PK (atoms w) k, Dv D 548 q := by
  have g := ok.good
  have k6 := c.1
  obtain ⟨mk, _⟩ := mon_PK (atoms w) k
  have hrows : ∀ r ∈ (List.range k).map (fun j => rowF w j (k + 1)), ∀ a ∈ r, a.natAbs ≤ 2 ^ 87 := fun r hr a ha => by
    obtain ⟨j, hj, rfl⟩ := List.mem_map.mp hr
    have := List.mem_range.mp hj
    obtain ⟨i, rfl, hi⟩ := rowF_mem w _ _ a ha
    exact Nat.le_of_lt (PI_lt g (by omega))
  obtain ⟨d, d1, d2, d3, d4⟩ := siegel (B := 2 ^ 87) (n := k + 1) (rows := (List.range k).map fun j => rowF w j (k + 1)) (by rw [List.length_map, List.length_range]) hrows
  rw [List.length_map, List.length_range] at d3
  have big : (2 * ((k + 1) * 2 ^ 87) + 1) ^ k < 2 ^ 548 := by
    have a : 2 * ((k + 1) * 2 ^ 87) + 1 ≤ 2 ^ 91 := by
      have : (k + 1) * 2 ^ 87 ≤ 7 * 2 ^ 87 := Nat.mul_le_mul_right _ (by omega)
      have e2 : (2 : Nat) ^ 91 = 16 * 2 ^ 87 := by decide
      have e3 := two_le 87
      rw [e2]
      generalize (2 : Nat) ^ 87 = b at *
      generalize (k + 1) * b = s at *
      omega
    have b := Nat.pow_le_pow_left a k
    rw [← Nat.pow_mul] at b
    exact Nat.lt_of_le_of_lt b (Nat.pow_lt_pow_right (by decide) (by omega))
  have d3' : ∀ x ∈ d, x.natAbs < 2 ^ 548 := fun x hx => Nat.lt_of_le_of_lt (d3 x hx) big
  -- orthogonal
  have o1 : ∀ j, j < k → rs (atoms w) (fun u => u.1 * (u.2 ^ j * ev (toR d) u.2)) = 0 := fun j hj => by
    have z := dot_rowF w d j (by omega)
    rw [d1, d4 _ (List.mem_map.mpr ⟨j, List.mem_range.mpr hj, rfl⟩)] at z
    have lr : (toR d).length = k + 1 := by unfold toR; rw [List.length_map, d1]
    have y := WS_from w (toR d) j (by omega)
    rw [z] at y
    have e : rs (atoms w) (fun u => u.1 * u.2 ^ j * ev (toR d) u.2) = rs (atoms w) (fun u => u.1 * (u.2 ^ j * ev (toR d) u.2)) := rs_congr _ fun u _ => by grind
    rw [← e, ← y]
    push_cast
    grind
  have o2 : ∀ f : List Rat, f.length ≤ k → ip (atoms w) (ev (toR d)) (ev f) = 0 := fun f hf => by
    have := comb (atoms w) (ev (toR d)) k o1 f 0 (by omega)
    refine Eq.trans (rs_congr _ fun u _ => ?_) this
    rw [Rat.pow_zero]
    grind
  -- the last one is not 0
  rcases List.eq_nil_or_concat d with e | ⟨d', z, e⟩
  · rw [e] at d1; cases d1
  rw [List.concat_eq_append] at e
  have ld' : d'.length = k := by
    rw [e, List.length_append, List.length_singleton] at d1
    omega
  have er : toR d = toR d' ++ [(z : Rat)] := by rw [e]; unfold toR; rw [List.map_append]; rfl
  have lr' : (toR d').length = k := by unfold toR; rw [List.length_map, ld']
  have pos := atoms_pos g
  have zero_low : ∀ g' : List Rat, g'.length = k → ip (atoms w) (ev g') (ev g') = 0 → g' = List.replicate k 0 := fun g' hg hz => by
    cases k with
    | zero => exact List.eq_nil_of_length_eq_zero hg
    | succ k =>
      have := zero_of (c.more ok (Nat.lt_succ_self k)) (by omega) (vanish pos hz)
      rw [hg] at this
      exact this
  have zn : z ≠ 0 := fun z0 => by
    subst z0
    have ee : ∀ x, ev (toR d) x = ev (toR d') x := fun x => by
      rw [er, ev_snoc]
      push_cast
      grind
    have q := o2 (toR d') (by omega)
    rw [ip_congr (p' := ev (toR d')) (q' := ev (toR d')) _ fun x => by rw [ee]] at q
    have r := zero_low _ lr' q
    obtain ⟨x, hx, nx⟩ := d2
    rw [e] at hx
    rcases List.mem_append.mp hx with hx | hx
    · refine nx (toR_zero (d := d') (fun y hy => ?_) x hx)
      rw [r] at hy
      exact (List.mem_replicate.mp hy).2
    · exact nx (List.mem_singleton.mp hx)
  have znr : (z : Rat) ≠ 0 := intc_ne zn
  -- the polynomial is d by its last
  obtain ⟨r, hr, epk⟩ := mk
  have key : r = (toR d').map fun y => y / (z : Rat) := by
    have o3 : ∀ f : List Rat, f.length ≤ k → ip (atoms w) (ev (List.zipWith (fun u v => u - v) r ((toR d').map fun y => y / (z : Rat)))) (ev f) = 0 := fun f hf => by
      have a := c.orth ok hf
      have b := o2 f hf
      have e3 : ∀ x, ev (List.zipWith (fun u v => u - v) r ((toR d').map fun y => y / (z : Rat))) x = ev (PK (atoms w) k) x + (-(1 / (z : Rat))) * ev (toR d) x := fun x => by
        have e4 : (toR d').map (fun y => y / (z : Rat)) = (toR d').map ((1 / (z : Rat)) * ·) := List.map_congr_left fun y _ => by grind
        rw [ev_sub2 x _ _ (by rw [List.length_map]; omega), e4, ev_smul, epk, er, ev_snoc, ev_snoc, hr, lr']
        grind
      rw [ip_comm, ip_congr (p' := ev f) (q' := fun x => ev (PK (atoms w) k) x + (-(1 / (z : Rat))) * ev (toR d) x) _ fun x => by rw [e3], ip_add, ip_mul, ip_comm, a, ip_comm, b]
      grind
    have lz : (List.zipWith (fun u v => u - v) r ((toR d').map fun y => y / (z : Rat))).length = k := by rw [List.length_zipWith, List.length_map]; omega
    have z0 := zero_low _ lz (o3 _ (by omega))
    apply List.ext_getElem (by rw [List.length_map]; omega)
    intro i h1 h2
    have t : (List.zipWith (fun u v => u - v) r ((toR d').map fun y => y / (z : Rat)))[i]'(by omega) = 0 := by
      simp only [z0, List.getElem_replicate]
    rw [List.getElem_zipWith] at t
    grind
  have ev1 : (1 : Rat) = (z : Rat) / (z : Rat) := by grind
  have allq : ∀ q ∈ PK (atoms w) k, ∃ x : Int, q = (x : Rat) / (z : Rat) ∧ x.natAbs < 2 ^ 548 := fun q hq => by
    rw [epk] at hq
    rcases List.mem_append.mp hq with hq | hq
    · rw [key] at hq
      obtain ⟨y, hy, rfl⟩ := List.mem_map.mp hq
      obtain ⟨x, hx, rfl⟩ := List.mem_map.mp hy
      exact ⟨x, rfl, d3' x (by rw [e]; exact List.mem_append_left _ hx)⟩
    · rw [List.mem_singleton.mp hq]
      exact ⟨z, ev1, d3' z (by rw [e]; simp)⟩
  have zlt := d3' z (by rw [e]; simp)
  by_cases zp : 0 < z
  · exact ⟨z, zp, zlt, fun q hq => allq q hq⟩
  · refine ⟨-z, by omega, by rw [Int.natAbs_neg]; exact zlt, fun q hq => ?_⟩
    obtain ⟨x, e1, e2⟩ := allq q hq
    refine ⟨-x, ?_, by rw [Int.natAbs_neg]; exact e2⟩
    rw [e1]
    push_cast
    grind
/-! ### climbing -/
theorem dv_add {D : Int} {a b n : Nat} {p q : Rat} (ha : Dv D a p) (hb : Dv D b q) (h : a < n) (h' : b < n) : Dv D n (p + q) := by
  obtain ⟨x, rfl, hx⟩ := ha
  obtain ⟨y, rfl, hy⟩ := hb
  refine ⟨x + y, ?_, add_lt hx hy h h'⟩
  push_cast
  grind
theorem dv_mul {D E : Int} {a b : Nat} {p q : Rat} (hD : D ≠ 0) (hE : E ≠ 0) (ha : Dv D a p) (hb : Dv E b q) : Dv (D * E) (a + b) (p * q) := by
  obtain ⟨x, rfl, hx⟩ := ha
  obtain ⟨y, rfl, hy⟩ := hb
  have n1 := intc_ne hD
  have n2 := intc_ne hE
  refine ⟨x * y, ?_, mul_lt hx hy (Nat.le_refl _)⟩
  push_cast
  grind
theorem dv_quo {D : Int} {a b n : Nat} {p q : Rat} (hD : D ≠ 0) (ha : Dv D a p) (hb : Dv D b q) (hq : q ≠ 0) (h : a ≤ n) (h' : b ≤ n) : Sq n (p / q) := by
  obtain ⟨x, rfl, hx⟩ := ha
  obtain ⟨y, rfl, hy⟩ := hb
  have n1 := intc_ne hD
  have ny : y ≠ 0 := fun z => hq (by rw [z]; push_cast; grind)
  have n2 := intc_ne ny
  have e : ((x : Rat) / (D : Rat)) / ((y : Rat) / (D : Rat)) = (x : Rat) / (y : Rat) := by grind
  rw [e]
  exact sq_any ny (up_lt hx h) (up_lt hy h')
theorem ev_set (x v : Rat) : ∀ (l : List Rat) (i : Nat), i < l.length → ev (l.set i v) x = ev l x + (v - l.getD i 0) * x ^ i
  | [], i, h => by cases h
  | c :: l, 0, _ => by
    show v + x * ev l x = c + x * ev l x + (v - c) * x ^ 0
    rw [Rat.pow_zero]
    grind
  | c :: l, i + 1, h => by
    show c + x * ev (l.set i v) x = c + x * ev l x + (v - l.getD i 0) * x ^ (i + 1)
    rw [ev_set x v l i (by simpa using h), Rat.pow_succ]
    grind
theorem mul_inner {D : Int} (hD0 : 0 < D) (hD : D.natAbs < 2 ^ 548) {c : Rat} (hc : Dv D 548 c) (i : Nat) {f : List (Int × Int) → Int × (Int × Int) → Mm (List (Int × Int))}
    (hf : ∀ b x, f b x = (getM b ((i : Int) + x.1)).bd fun i87 => (times (fr c) (x.2)).bd fun b92 => (plus (i87) (b92)).bd fun b99 => (setM b ((i : Int) + x.1) b99).bd fun m106 => Mm.ok m106) :
    ∀ (qs : List Rat) (j e : Nat) (r : List Rat), i + j + qs.length ≤ r.length → (∀ q ∈ qs, Dv D 548 q) → (∀ y ∈ r, Dv (D * D) e y) → 1097 ≤ e → e + qs.length ≤ 1200 → ∃ r', foldM f (r.map fr) (numL (j : Int) (qs.map fr)) = .ok (r'.map fr) ∧ r'.length = r.length ∧ (∀ x, ev r' x = ev r x + c * x ^ (i + j) * ev qs x) ∧ ∀ y ∈ r', Dv (D * D) (e + qs.length) y
  | [], j, e, r, _, _, hr, _, _ => ⟨r, rfl, rfl, fun x => by
      show _ = ev r x + c * x ^ (i + j) * 0
      grind, hr⟩
  | q :: qs, j, e, r, hl, hq, hr, he, he2 => by
    rw [List.length_cons] at hl he2
    have hD2 : (D * D).natAbs < 2 ^ 1096 := mul_lt hD hD (by decide)
    have hD20 : 0 < D * D := Int.mul_pos hD0 hD0
    have hij : i + j < r.length := by omega
    have hrm : r[i + j] ∈ r := List.getElem_mem hij
    have dv := hr _ hrm
    have dq := hq q (List.mem_cons_self ..)
    have dp : Dv (D * D) 1096 (c * q) := dv_mul (by omega) (by omega) hc dq
    have gd : r.getD (i + j) 0 = r[i + j] := by rw [List.getD_eq_getElem?_getD, List.getElem?_eq_getElem hij]; rfl
    have e1 : (i : Int) + (j : Int) = ((i + j : Nat) : Int) := by omega
    have step : f (r.map fr) ((j : Int), fr q) = .ok ((r.set (i + j) (r[i + j] + c * q)).map fr) := by
      rw [hf]
      show (getM (r.map fr) ((i : Int) + (j : Int))).bd _ = _
      rw [e1, getM_map (List.getElem?_eq_getElem hij), bdo]
      show (times (fr c) (fr q)).bd _ = _
      rw [times_ok (hc.sq hD0 hD) (dq.sq hD0 hD) (by decide), bdo, plus_ok (dv.sq hD20 (Nat.lt_of_lt_of_le hD2 (Nat.pow_le_pow_right (by decide) (by omega)))) (dp.sq hD20 hD2) (by omega), bdo, setM_ok _ (by omega) (by rw [List.length_map]; omega), bdo, Int.toNat_natCast, List.map_set]
    obtain ⟨r', h1, h2, h3, h4⟩ := mul_inner hD0 hD hc i hf qs (j + 1) (e + 1) (r.set (i + j) (r[i + j] + c * q)) (by rw [List.length_set]; omega) (fun y hy => hq y (List.mem_cons_of_mem _ hy)) (fun y hy => by
      rcases List.mem_or_eq_of_mem_set hy with hy | rfl
      · exact (hr y hy).up (by omega)
      · exact dv_add dv dp (by omega) (by omega)) (by omega) (by omega)
    refine ⟨r', ?_, by rw [h2, List.length_set], fun x => ?_, fun y hy => (h4 y hy).up (by rw [List.length_cons]; omega)⟩
    · rw [List.map_cons]
      unfold numL foldM
      rw [step, bdo, show (j : Int) + 1 = ((j + 1 : Nat) : Int) by omega]
      exact h1
    · rw [h3 x, ev_set x _ r _ hij, gd]
      show _ = ev r x + c * x ^ (i + j) * (q + x * ev qs x)
      rw [show i + (j + 1) = i + j + 1 by omega, Rat.pow_succ]
      grind
theorem mul_outer {D : Int} (hD0 : 0 < D) (hD : D.natAbs < 2 ^ 548) {qs : List Rat} (hq : ∀ q ∈ qs, Dv D 548 q) (q6 : qs.length ≤ 7) (q0 : 0 < qs.length) {f : List (Int × Int) → Int × (Int × Int) → Mm (List (Int × Int))}
    (hf : ∀ b x, f b x = (foldM (fun (b58 : (List (Int × Int))) (x59 : (Int × (Int × Int))) => (getM b58 (x.1 + x59.1)).bd fun i87 => (times (x.2) (x59.2)).bd fun b92 => (plus (i87) (b92)).bd fun b99 => (setM b58 (x.1 + x59.1) b99).bd fun m106 => Mm.ok m106) b (numL 0 (qs.map fr))).bd fun b75 => Mm.ok b75) :
    ∀ (ps : List Rat) (i e : Nat) (r : List Rat), i + ps.length + qs.length ≤ r.length + 1 → (∀ p ∈ ps, Dv D 548 p) → (∀ y ∈ r, Dv (D * D) e y) → 1097 ≤ e → e + 7 * ps.length ≤ 1200 → ∃ r', foldM f (r.map fr) (numL (i : Int) (ps.map fr)) = .ok (r'.map fr) ∧ r'.length = r.length ∧ (∀ x, ev r' x = ev r x + x ^ i * ev ps x * ev qs x) ∧ ∀ y ∈ r', Dv (D * D) (e + 7 * ps.length) y
  | [], i, e, r, _, _, hr, _, _ => ⟨r, rfl, rfl, fun x => by
      show _ = ev r x + x ^ i * 0 * ev qs x
      grind, hr⟩
  | p :: ps, i, e, r, hl, hp, hr, he, he2 => by
    rw [List.length_cons] at hl he2
    obtain ⟨r1, a1, a2, a3, a4⟩ := mul_inner hD0 hD (hp p (List.mem_cons_self ..)) i (fun _ _ => rfl) qs 0 e r (by omega) hq hr he (by omega)
    have step : f (r.map fr) ((i : Int), fr p) = .ok (r1.map fr) := by
      rw [hf]
      refine (congrArg (fun m => Mm.bd m _) a1).trans ?_
      rfl
    obtain ⟨r', h1, h2, h3, h4⟩ := mul_outer hD0 hD hq q6 q0 hf ps (i + 1) (e + 7) r1 (by omega) (fun y hy => hp y (List.mem_cons_of_mem _ hy)) (fun y hy => (a4 y hy).up (by omega)) (by omega) (by omega)
    refine ⟨r', ?_, by omega, fun x => ?_, fun y hy => (h4 y hy).up (by rw [List.length_cons]; omega)⟩
    · rw [List.map_cons]
      unfold numL foldM
      rw [step, bdo, show (i : Int) + 1 = ((i + 1 : Nat) : Int) by omega]
      exact h1
    · rw [h3 x, a3 x]
      show _ = ev r x + x ^ i * (p + x * ev ps x) * ev qs x
      rw [Nat.add_zero, Rat.pow_succ]
      grind
theorem multiplied_ok {D : Int} (hD0 : 0 < D) (hD : D.natAbs < 2 ^ 548) {p : List Rat} (hp : ∀ q ∈ p, Dv D 548 q) (p6 : p.length ≤ 7) (p0 : 0 < p.length) : ∃ M : List Rat, multiplied (p.map fr) (p.map fr) = .ok (M.map fr) ∧ M.length + 1 = p.length + p.length ∧ (∀ x, ev M x = ev p x * ev p x) ∧ ∀ y ∈ M, Dv (D * D) 1150 y := by
  obtain ⟨r', h1, h2, h3, h4⟩ := mul_outer hD0 hD hp p6 p0 (fun _ _ => rfl) p 0 1097 (List.replicate (p.length + p.length - 1) 0) (by rw [List.length_replicate]; omega) hp (fun y hy => by rw [(List.mem_replicate.mp hy).2]; exact dv_zero) (by omega) (by omega)
  rw [List.length_replicate] at h2
  rw [show ((0 : Nat) : Int) = 0 from rfl] at h1
  refine ⟨r', ?_, by omega, fun x => ?_, fun y hy => (h4 y hy).up (by omega)⟩
  · unfold multiplied
    rw [List.length_map, show (p.length : Int) + (p.length : Int) - 1 = ((p.length + p.length - 1 : Nat) : Int) by omega, rep0 _ (by omega), bdo, enumL_eq]
    refine (congrArg (fun m => Mm.bd m _) h1).trans ?_
    rfl
  · rw [h3 x, Rat.pow_zero]
    have := ev_pad x (p.length + p.length - 1) []
    rw [List.nil_append] at this
    rw [this]
    show (0 : Rat) + 1 * ev p x * ev p x = _
    grind
theorem added_upD {B : Int} {b e : Nat} (hB0 : 0 < B) (hB : B.natAbs < 2 ^ b) (hbe : b ≤ e) (l : List Rat) (h : ∀ q ∈ l, Dv B e q) (hl : 2 * (e + l.length) + 2 < 8990) : added_up (l.map fr) = .ok (fr l.sum) ∧ Dv B (e + l.length) l.sum := by
  have k : ∀ (l : List Rat) (acc : Rat) (n : Nat), (∀ q ∈ l, Dv B e q) → Dv B (e + n) acc → 2 * (e + n + l.length) + 2 < 8990 → foldM (fun (b4 : (Int × Int)) (x5 : (Int × Int)) => (plus (b4) (x5)).bd fun b19 => Mm.ok b19) (fr acc) (l.map fr) = .ok (fr (acc + l.sum)) ∧ Dv B (e + n + l.length) (acc + l.sum) := by
    intro l
    induction l with
    | nil =>
      intro acc n _ ha _
      have e1 : acc + ([] : List Rat).sum = acc := by
        show acc + 0 = acc
        grind
      rw [e1]
      exact ⟨rfl, ha⟩
    | cons q l ih =>
      intro acc n hq ha hs
      rw [List.length_cons] at hs
      have dq := hq q (List.mem_cons_self ..)
      have B2 : ∀ m, e ≤ m → B.natAbs < 2 ^ m := fun m hm => Nat.lt_of_lt_of_le hB (Nat.pow_le_pow_right (by decide) (by omega))
      obtain ⟨h1, h2⟩ := ih (acc + q) (n + 1) (fun y hy => hq y (List.mem_cons_of_mem _ hy)) (dv_add ha dq (by omega) (by omega)) (by omega)
      have e1 : acc + (q :: l).sum = acc + q + l.sum := by
        rw [List.sum_cons]
        grind
      rw [e1]
      refine ⟨?_, h2.up (by rw [List.length_cons]; omega)⟩
      rw [List.map_cons]
      unfold foldM
      rw [plus_ok (ha.sq hB0 (B2 _ (by omega))) (dq.sq hB0 (B2 _ (by omega))) (by omega), bdo, bdo]
      exact h1
  obtain ⟨h1, h2⟩ := k l 0 0 h dv_zero (by omega)
  rw [zero_add'] at h1 h2
  refine ⟨?_, h2⟩
  unfold added_up
  rw [← fr_zero]
  refine (congrArg (fun m => Mm.bd m _) h1).trans ?_
  rfl
theorem weighedD_ok {w : Wt} (g : Good w) {B : Int} {b e : Nat} (hB0 : 0 < B) (hB : B.natAbs < 2 ^ b) (hbe : b ≤ e) {M : List Rat} (hM : ∀ y ∈ M, Dv B e y) (hl : M.length ≤ 12) (he : e ≤ 4000) : weighed w (M.map fr) = .ok (fr (WS w M)) ∧ Dv (B * 27720) (e + 87 + M.length) (WS w M) := by
  have each : ∀ x ∈ numL 0 M, (0 ≤ x.1 ∧ x.1 ≤ 11) ∧ Dv B e x.2 ∧ Dv (B * 27720) (e + 87) (tW w x) := fun x hx => by
    obtain ⟨a, b, m⟩ := numL_mem M 0 x hx
    have s1 := hM _ m
    have hi : x.1.toNat ≤ 11 := by omega
    refine ⟨by omega, s1, ?_⟩
    unfold tW
    exact dv_mul (by omega) (by decide) s1 ⟨_, PI_PS w hi, PI_lt g hi⟩
  have ln : ((numL 0 M).map (tW w)).length = M.length := by rw [List.length_map, numL_len]
  obtain ⟨A, A2⟩ := added_upD (B := B * 27720) (b := b + 15) (e := e + 87) (Int.mul_pos hB0 (by decide)) (mul_lt hB (by decide) (Nat.le_refl _)) (by omega) ((numL 0 M).map (tW w)) (fun q hq => by
    obtain ⟨y, hy, rfl⟩ := List.mem_map.mp hq
    exact (each y hy).2.2) (by rw [ln]; omega)
  rw [ln] at A2
  refine ⟨?_, A2⟩
  unfold weighed
  rw [enumL_eq, numL_map, guard_ok (by rw [List.length_map, numL_len]; omega), bdo, mapMm_map, mapMm_eq (g := fun x => fr (tW w x)) _ fun x hx => ?_, bdo]
  · have e1 : (numL 0 M).map (fun x => fr (tW w x)) = ((numL 0 M).map (tW w)).map fr := by
      rw [List.map_map]
      rfl
    rw [e1, A, bdo]
    rfl
  · obtain ⟨a, d, _⟩ := each x hx
    show (power_sum w x.1).bd _ = _
    rw [power_sum_ok g a.1 (by omega), bdo]
    show (times (fr x.2) _).bd _ = _
    rw [times_ok (d.sq hB0 (Nat.lt_of_lt_of_le hB (Nat.pow_le_pow_right (by decide) hbe))) (sq_PS12 g (by omega)) (by omega), bdo]
    rfl
theorem rp_sq {p : Rat} {a b : Nat} (hp : Sq b p) : ∀ (l : List Rat) (z : Rat), Sq a z → Sqs a l → Sqs (2 * a + b + 1) (rp p z l)
  | [], z, hz, _, q, hq => by
    rw [List.mem_singleton.mp hq]
    exact hz.up (by omega)
  | x :: l, z, hz, hl, q, hq => by
    have hx := hl x (List.mem_cons_self ..)
    rcases List.mem_cons.mp hq with rfl | hq
    · exact sq_subB hz (sq_mul hx hp (Nat.le_refl _)) (by omega)
    · exact rp_sq hp l x hx (fun y hy => hl y (List.mem_cons_of_mem _ hy)) q hq
theorem zw_zipS : ∀ l r : List Rat, (l.zip r).map (fun y => y.1 - y.2) = List.zipWith (fun u v => u - v) l r
  | [], r => rfl
  | _ :: _, [] => rfl
  | a :: l, b :: r => by
    show (a - b) :: (l.zip r).map _ = (a - b) :: List.zipWith _ l r
    rw [zw_zipS l r]
theorem next_rung_ok {p q : List Rat} {a b : Rat} (hp : Sqs 548 p) (hq : Sqs 548 q) (ha : Sq 1300 a) (hb : Sq 2600 b) (hl : q.length ≤ p.length) (h7 : p.length ≤ 7) : next_rung (p.map fr) (q.map fr) (fr a, fr b) = .ok ((nxP p q a b).map fr) := by
  have rl : (rp a 0 p).length = p.length + 1 := rp_len a p 0
  have rs_ := rp_sq ha p 0 (zero_sqn (by decide)) hp
  have qs_ : Sqs 3148 (q.map (b * ·)) := fun y hy => by
    obtain ⟨z, hz, rfl⟩ := List.mem_map.mp hy
    exact sq_mul hb (hq z hz) (by decide)
  unfold next_rung
  show ((with_root (p.map fr) (fr a)).bd _) = _
  rw [with_root_ok ha hp (by decide) (by decide) (by omega), bdo, guard_ok (by rw [List.length_map]; omega), bdo, mapMm_map, mapMm_eq (g := fun y => fr (b * y)) _ fun y hy => ?_, bdo]
  · have e1 : q.map (fun y => fr (b * y)) = (q.map (b * ·)).map fr := by rw [List.map_map]; rfl
    rw [e1, List.length_map, List.length_map, List.length_map, rl, show ((p.length + 1 : Nat) : Int) - (q.length : Int) = ((p.length + 1 - q.length : Nat) : Int) by omega, rep0 _ (by omega), bdo, guard_ok (by rw [List.length_map, List.length_replicate]; omega), bdo, ← List.map_append, List.zip_map, guard_ok (by rw [List.length_map, List.length_zip]; omega), bdo, mapMm_map, mapMm_eq (g := fun y => fr (y.1 - y.2)) _ fun y hy => ?_, bdo]
    · congr 1
      unfold nxP
      rw [← zw_zipS, List.map_map]
      rfl
    · have m := List.of_mem_zip (a := y.1) (b := y.2) hy
      have s1 := rs_ _ m.1
      have s2 : Sq 3148 y.2 := by
        rcases List.mem_append.mp m.2 with z | z
        · exact qs_ _ z
        · rw [(List.mem_replicate.mp z).2]
          exact zero_sqn (by decide)
      show (minus (fr y.1) (fr y.2)).bd _ = _
      rw [minus_ok s1 s2 (by decide), bdo]
  · show (times (fr b) (fr y)).bd _ = _
    rw [times_ok hb (hq y hy) (by decide), bdo]
def SC (w : Wt) (k : Nat) : List (Int × Int) × (Int × Int) × List ((Int × Int) × (Int × Int)) × List (List (Int × Int)) :=
  ((OP (atoms w) k).2.1.map fr, fr (OP (atoms w) k).2.2, (List.range k).map (fun j => (fr (aK (atoms w) j), fr (bK (atoms w) j))), (List.range (k + 1)).map fun j => (PK (atoms w) j).map fr)
theorem NN_facts {w : Wt} (ok : WOk w) {k : Nat} (c : Cnt w (k + 1)) : ∃ D : Int, 0 < D ∧ Dv D 1260 (NN (atoms w) (PK (atoms w) k)) ∧ Dv D 1260 (NX (atoms w) (PK (atoms w) k)) ∧ Sq 1260 (NN (atoms w) (PK (atoms w) k)) ∧ Sq 1260 (NX (atoms w) (PK (atoms w) k)) ∧
    ∃ M : List Rat, multiplied ((PK (atoms w) k).map fr) ((PK (atoms w) k).map fr) = .ok (M.map fr) ∧ M.length ≤ 11 ∧ weighed w (M.map fr) = .ok (fr (NN (atoms w) (PK (atoms w) k))) ∧ weighed w ([((0, 1) : Int × Int)] ++ M.map fr) = .ok (fr (NX (atoms w) (PK (atoms w) k))) := by
  have g := ok.good
  have k5 : k ≤ 5 := by have := c.1; omega
  have c' : Cnt w k := ⟨by omega, c.2.imp (fun h => h) fun h => by omega⟩
  obtain ⟨D, d0, d1, d2⟩ := PK_dv ok c'
  have lk := (mon_PK (atoms w) k).1.len
  obtain ⟨M, m1, m2, m3, m4⟩ := multiplied_ok d0 d1 d2 (by omega) (by omega)
  have D0 : 0 < D * D := Int.mul_pos d0 d0
  have D2 : (D * D).natAbs < 2 ^ 1096 := mul_lt d1 d1 (by decide)
  obtain ⟨w1, w2⟩ := weighedD_ok g (B := D * D) (b := 1096) (e := 1150) D0 D2 (by decide) m4 (by omega) (by decide)
  obtain ⟨x1, x2⟩ := weighedD_ok g (B := D * D) (b := 1096) (e := 1150) D0 D2 (by decide) (M := 0 :: M) (fun y hy => by
    rcases List.mem_cons.mp hy with rfl | hy
    · exact dv_zero
    · exact m4 y hy) (by rw [List.length_cons]; omega) (by decide)
  have e1 : WS w M = NN (atoms w) (PK (atoms w) k) := by
    rw [WS_atoms w (by omega)]
    exact rs_congr _ fun u _ => by rw [m3]
  have e2 : WS w (0 :: M) = NX (atoms w) (PK (atoms w) k) := by
    rw [WS_atoms w (by rw [List.length_cons]; omega)]
    refine rs_congr _ fun u _ => ?_
    show u.1 * (0 + u.2 * ev M u.2) = _
    rw [m3]
    grind
  rw [e1] at w1 w2
  rw [e2] at x1 x2
  have B0 : 0 < D * D * 27720 := Int.mul_pos D0 (by decide)
  have B1 : (D * D * 27720).natAbs < 2 ^ 1260 := up_lt (mul_lt D2 (b := 15) (by decide) (Nat.le_refl _)) (by decide)
  rw [List.length_cons] at x2
  have w3 := w2.up (b := 1260) (by omega)
  have x3 := x2.up (b := 1260) (by omega)
  refine ⟨D * D * 27720, B0, w3, x3, w3.sq B0 B1, x3.sq B0 B1, M, m1, by omega, w1, ?_⟩
  rw [List.map_cons, fr_zero] at x1
  exact x1
theorem PK_sq {w : Wt} (ok : WOk w) {k : Nat} (c : Cnt w k) : Sqs 548 (PK (atoms w) k) := fun q hq => by
  obtain ⟨D, d0, d1, d2⟩ := PK_dv ok c
  exact (d2 q hq).sq d0 d1
theorem aK_sq {w : Wt} (ok : WOk w) {k : Nat} (c : Cnt w (k + 1)) : Sq 1260 (aK (atoms w) k) := by
  obtain ⟨D, d0, h1, h2, _⟩ := NN_facts ok c
  exact dv_quo (by omega) h2 h1 (c.nn ok (Nat.lt_succ_self k)) (Nat.le_refl _) (Nat.le_refl _)
theorem Cnt.pred {w : Wt} {k : Nat} (c : Cnt w (k + 1)) : Cnt w k := ⟨by have := c.1; omega, c.2.imp (fun h => h) fun h => by omega⟩
theorem bK_sq {w : Wt} (ok : WOk w) {k : Nat} (c : Cnt w (k + 1)) : Sq 2520 (bK (atoms w) k) := by
  unfold bK
  cases k with
  | zero => exact zero_sqn (by decide)
  | succ k =>
    rw [if_neg (by omega)]
    obtain ⟨_, _, _, _, h1, _⟩ := NN_facts ok c
    obtain ⟨_, _, _, _, h2, _⟩ := NN_facts ok c.pred
    exact sq_divB h1 h2 (c.pred.nn ok (Nat.lt_succ_self k)) (by decide)
theorem climb_step {w : Wt} (ok : WOk w) {k : Nat} (c : Cnt w (k + 1)) {f : List (Int × Int) × (Int × Int) × List ((Int × Int) × (Int × Int)) × List (List (Int × Int)) → Int → Mm (List (Int × Int) × (Int × Int) × List ((Int × Int) × (Int × Int)) × List (List (Int × Int)))}
    (hf : ∀ b x, f b x = (getM b.2.2.2 (-(1 : Int))).bd fun i61 => (multiplied (i61) (i61)).bd fun b66 => (weighed (w) (b66)).bd fun b73 => (guardM ([((0, 1) : (Int × Int))].length + b66.length ≤ 100000)).bd fun _ => (weighed (w) (([((0, 1) : (Int × Int))] ++ b66))).bd fun b90 => (over (b90) (b73)).bd fun b97 => (cond (decide ((b.2.2.1.length : Int) > (0 : Int))) ((over (b73) (b.2.1)).bd fun b110 => Mm.ok b110) (Mm.ok ((0, 1) : (Int × Int)))).bd fun b104 => (guardM (b.2.2.1.length < 100000)).bd fun _ => (getM (b.2.2.1 ++ [(b97, b104)]) (-(1 : Int))).bd fun i128 => (next_rung (i61) (b.1) (i128)).bd fun b133 => (guardM (b.2.2.2.length < 100000)).bd fun _ => Mm.ok (i61, b73, (b.2.2.1 ++ [(b97, b104)]), (b.2.2.2 ++ [b133]))) (x : Int) : f (SC w k) x = .ok (SC w (k + 1)) := by
  have k5 : k ≤ 5 := by have := c.1; omega
  obtain ⟨D, d0, _, _, sn, sx, M, m1, m2, m3, m4⟩ := NN_facts ok c
  have nz := c.nn ok (Nat.lt_succ_self k)
  have r1 : (SC w k).2.2.2 = ((List.range k).map fun j => (PK (atoms w) j).map fr) ++ [(PK (atoms w) k).map fr] := by
    show (List.range (k + 1)).map _ = _
    rw [List.range_succ, List.map_append]
    rfl
  have tl : (SC w k).2.2.1.length = k := by
    show ((List.range k).map _).length = k
    rw [List.length_map, List.length_range]
  have bk : cond (decide (((SC w k).2.2.1.length : Int) > (0 : Int))) ((over (fr (NN (atoms w) (PK (atoms w) k))) ((SC w k).2.1)).bd fun b110 => Mm.ok b110) (Mm.ok ((0, 1) : (Int × Int))) = .ok (fr (bK (atoms w) k)) := by
    rw [tl]
    unfold bK
    cases k with
    | zero => rw [if_pos rfl, fr_zero]; rfl
    | succ k =>
      obtain ⟨_, _, _, _, h2, _⟩ := NN_facts ok c.pred
      rw [if_neg (by omega), cT (decide_eq_true (by omega))]
      show (over (fr (NN (atoms w) (PK (atoms w) (k + 1)))) (fr (NN (atoms w) (PK (atoms w) k)))).bd _ = _
      rw [over_ok sn h2 (c.pred.nn ok (Nat.lt_succ_self k)) (by decide), bdo]
      rfl
  have ml : (M.map fr).length = M.length := List.length_map ..
  have qs : Sqs 548 (OP (atoms w) k).2.1 := by
    cases k with
    | zero => exact fun q hq => by cases hq
    | succ k => exact PK_sq ok c.pred.pred
  have nx := next_rung_ok (PK_sq ok c.pred) qs ((aK_sq ok c).up (by decide)) ((bK_sq ok c).up (n := 2600) (by decide)) (by rw [(mon_PK (atoms w) k).2, (mon_PK (atoms w) k).1.len]; omega) (by rw [(mon_PK (atoms w) k).1.len]; omega)
  rw [hf, r1, getM_last, bdo, m1, bdo, m3, bdo, guard_ok (by rw [ml]; show 1 + M.length ≤ 100000; omega), bdo, m4, bdo, over_ok sx sn nz (by decide), bdo, bk, bdo, guard_ok (by rw [tl]; omega), bdo, getM_last, bdo]
  show (next_rung ((PK (atoms w) k).map fr) ((OP (atoms w) k).2.1.map fr) (fr (aK (atoms w) k), fr (bK (atoms w) k))).bd _ = _
  rw [nx, bdo, guard_ok (by rw [List.length_append, List.length_map, List.length_range, List.length_singleton]; omega), bdo]
  congr 1
  show (_, _, (List.range k).map _ ++ [_], _) = SC w (k + 1)
  unfold SC
  rw [List.range_succ (n := k), List.map_append, List.range_succ (n := k + 1), List.map_append, List.range_succ (n := k), List.map_append]
  rfl
theorem climbed_ok {w : Wt} (ok : WOk w) {n : Nat} (c : Cnt w n) : climbed w (n : Int) = .ok ((List.range (n + 1)).map (fun j => (PK (atoms w) j).map fr), (List.range n).map (fun j => (fr (aK (atoms w) j), fr (bK (atoms w) j)))) := by
  have n6 := c.1
  unfold climbed
  rw [rangeM_ok (by omega), bdo, Int.toNat_natCast]
  have F : ∀ (m k : Nat), k + m = n → foldM (fun (b27 : ((List (Int × Int)) × (Int × Int) × (List ((Int × Int) × (Int × Int))) × (List (List (Int × Int))))) (x28 : Int) => (getM b27.2.2.2 (-(1 : Int))).bd fun i61 => (multiplied (i61) (i61)).bd fun b66 => (weighed (w) (b66)).bd fun b73 => (guardM ([((0, 1) : (Int × Int))].length + b66.length ≤ 100000)).bd fun _ => (weighed (w) (([((0, 1) : (Int × Int))] ++ b66))).bd fun b90 => (over (b90) (b73)).bd fun b97 => (cond (decide ((b27.2.2.1.length : Int) > (0 : Int))) ((over (b73) (b27.2.1)).bd fun b110 => Mm.ok b110) (Mm.ok ((0, 1) : (Int × Int)))).bd fun b104 => (guardM (b27.2.2.1.length < 100000)).bd fun _ => (getM (b27.2.2.1 ++ [(b97, b104)]) (-(1 : Int))).bd fun i128 => (next_rung (i61) (b27.1) (i128)).bd fun b133 => (guardM (b27.2.2.2.length < 100000)).bd fun _ => Mm.ok (i61, b73, (b27.2.2.1 ++ [(b97, b104)]), (b27.2.2.2 ++ [b133]))) (SC w k) (rangeL (k : Int) m) = .ok (SC w n) := by
    intro m
    induction m with
    | zero => intro k hk; rw [show k = n by omega]; rfl
    | succ m ih =>
      intro k hk
      have ck : Cnt w (k + 1) := ⟨by omega, c.2.imp (fun h => h) fun h => by omega⟩
      rw [rangeL_succ]
      unfold foldM
      refine (congrArg (fun z => Mm.bd z _) (climb_step ok ck (fun _ _ => rfl) (k : Int))).trans ?_
      rw [bdo, show (k : Int) + 1 = ((k + 1 : Nat) : Int) by omega]
      exact ih (k + 1) (by omega)
  have f0 := F n 0 (by omega)
  have s0 : SC w 0 = ([], ((0, 1) : Int × Int), [], [[((1, 1) : Int × Int)]]) := by
    unfold SC
    show (([] : List (Int × Int)), fr 0, ([] : List ((Int × Int) × (Int × Int))), [[fr 1]]) = _
    rw [fr_zero, fr_one]
  rw [s0] at f0
  refine (congrArg (fun z => Mm.bd z _) f0).trans ?_
  rfl
theorem check_count_ok {w : Wt} {n : Nat} (c : Cnt w n) : check_count w (n : Int) 0 = .ok () := by
  have n6 := c.1
  unfold check_count
  rw [check_within_ok (by omega) (by omega), bdo]
  have e : cond (decide ((w.2.length : Int) = 0)) (Mm.ok (decide ((w.1.length : Int) < (n : Int)))) (Mm.ok false) = Mm.ok false := by
    rcases c.2 with h | h
    · have := List.length_pos_iff.mpr h
      rw [cF (decide_eq_false (by omega))]
    · rw [decide_eq_false (show ¬ (w.1.length : Int) < (n : Int) by omega)]
      cases decide ((w.2.length : Int) = 0) <;> rfl
  rw [e, bdo, cF rfl]
theorem steps_ok {w : Wt} (ok : WOk w) {n : Nat} (c : Cnt w n) : steps w (n : Int) = .ok ((List.range n).map fun j => (fr (aK (atoms w) j), fr (bK (atoms w) j))) := by
  unfold steps
  rw [check_count_ok c, bdo, climbed_ok ok c, bdo]
/-! ### the rule at the roots -/
theorem zip_zero {ps ws : List Rat} {f : Rat → Rat} (h : ∀ p ∈ ps, f p = 0) : rs (ps.zip ws) (fun x => x.2 * f x.1) = 0 := by
  have e : rs (ps.zip ws) (fun x => x.2 * f x.1) = 0 * rs (ps.zip ws) (fun x => x.2 * f x.1) := by
    rw [rs_mul]
    refine rs_congr _ fun x hx => ?_
    rw [h _ (List.of_mem_zip (a := x.1) (b := x.2) hx).1]
    grind
  grind
theorem ev_shift (x : Rat) (p : List Rat) : ∀ j : Nat, ev (List.replicate j 0 ++ p) x = x ^ j * ev p x
  | 0 => by
    rw [Rat.pow_zero]
    show ev p x = _
    grind
  | j + 1 => by
    rw [List.replicate_succ, List.cons_append]
    show 0 + x * ev (List.replicate j 0 ++ p) x = _
    rw [ev_shift x p j, Rat.pow_succ]
    grind
theorem gauss {w : Wt} (ok : WOk w) {n : Nat} (c : Cnt w n) {ps : List Rat} (ha : ps.Pairwise (· < ·)) (hl : ps.length = n) (hr : ∀ p ∈ ps, ev (PK (atoms w) n) p = 0) : ∀ k, k < 2 * n → GP w ps (Wts w ps) k = 0 := by
  have n6 := c.1
  have lk := (mon_PK (atoms w) n).1.len
  intro k
  induction k using Nat.strongRecOn with
  | ind k ih =>
    intro hk
    by_cases h : k < n
    · exact Wts_exact w ha (by omega) (by omega)
    · obtain ⟨j, rfl⟩ : ∃ j, k = j + n := ⟨k - n, by omega⟩
      obtain ⟨r, hr', er⟩ := (mon_PK (atoms w) n).1
      have m := AF_monic (w := w) (ps := ps) (ws := Wts w ps) (k := j + n) (by omega) (fun i hi => ih i hi (by omega)) (r := List.replicate j 0 ++ r) (by rw [List.length_append, List.length_replicate, hr'])
      rw [← m, List.append_assoc, ← er]
      unfold AF
      rw [WS_atoms w (by rw [List.length_append, List.length_replicate, lk]; omega), zip_zero (f := fun x => ev (List.replicate j 0 ++ PK (atoms w) n) x) (fun p hp => by rw [ev_shift, hr p hp]; grind)]
      have o := c.orth ok (f := List.replicate j 0 ++ [1]) (by rw [List.length_append, List.length_replicate]; show j + 1 ≤ n; omega)
      have e : rs (atoms w) (fun u => u.1 * ev (List.replicate j 0 ++ PK (atoms w) n) u.2) = ip (atoms w) (ev (PK (atoms w) n)) (ev (List.replicate j 0 ++ [1])) := rs_congr _ fun u _ => by
        rw [ev_shift, ev_shift]
        show u.1 * (u.2 ^ j * ev (PK (atoms w) n) u.2) = u.1 * (ev (PK (atoms w) n) u.2 * (u.2 ^ j * (1 + u.2 * 0)))
        grind
      rw [e, o]
      grind
theorem GP_bil {w : Wt} {ps ws : List Rat} {m : Nat} (hm : m ≤ 12) (h : ∀ k, k ≤ m → GP w ps ws k = 0) (g : List Rat) : ∀ (f : List Rat) (k : Nat), k + f.length + g.length ≤ m + 2 → rs (atoms w) (fun u => u.1 * (u.2 ^ k * (ev f u.2 * ev g u.2))) = rs (ps.zip ws) fun x => x.2 * (x.1 ^ k * (ev f x.1 * ev g x.1))
  | [], k, _ => by
    rw [rs_congr (g := fun _ => 0 * 0) _ fun u _ => by show u.1 * (u.2 ^ k * (0 * ev g u.2)) = _; grind, ← rs_mul, rs_congr (g := fun _ => 0 * 0) (ps.zip ws) fun u _ => by show u.2 * (u.1 ^ k * (0 * ev g u.1)) = _; grind, ← rs_mul]
    grind
  | c :: f, k, hk => by
    rw [List.length_cons] at hk
    have ih := GP_bil hm h g f (k + 1) (by omega)
    have z := GP_lin hm h g k (by omega)
    have e1 : rs (atoms w) (fun u => u.1 * (u.2 ^ k * (ev (c :: f) u.2 * ev g u.2))) = c * rs (atoms w) (fun u => u.1 * (u.2 ^ k * ev g u.2)) + rs (atoms w) (fun u => u.1 * (u.2 ^ (k + 1) * (ev f u.2 * ev g u.2))) := by
      rw [rs_mul, rs_add]
      refine rs_congr _ fun u _ => ?_
      show u.1 * (u.2 ^ k * ((c + u.2 * ev f u.2) * ev g u.2)) = _
      rw [Rat.pow_succ]
      grind
    have e2 : rs (ps.zip ws) (fun x => x.2 * (x.1 ^ k * (ev (c :: f) x.1 * ev g x.1))) = c * rs (ps.zip ws) (fun x => x.2 * (x.1 ^ k * ev g x.1)) + rs (ps.zip ws) (fun x => x.2 * (x.1 ^ (k + 1) * (ev f x.1 * ev g x.1))) := by
      rw [rs_mul, rs_add]
      refine rs_congr _ fun u _ => ?_
      show u.2 * (u.1 ^ k * ((c + u.1 * ev f u.1) * ev g u.1)) = _
      rw [Rat.pow_succ]
      grind
    rw [e1, e2, ih, z]
theorem zip_one {ps ws : List Rat} {f : Rat → Rat} {i : Nat} (hi : i < ps.length) (hl : ws.length = ps.length) (h1 : f ps[i] = 1) (h0 : ∀ j (h : j < ps.length), j ≠ i → f ps[j] = 0) : rs (ps.zip ws) (fun x => x.2 * f x.1) = ws[i]'(by omega) := by
  have k : ∀ (a b : List Rat) (m : Nat), (∀ j (h : j < a.length), j + m ≠ i → f a[j] = 0) → (∀ (h : i - m < a.length), m ≤ i → f (a[i - m]) = 1) → b.length = a.length → rs (a.zip b) (fun x => x.2 * f x.1) = if h : m ≤ i ∧ i - m < b.length then b[i - m]'h.2 else 0 := by
    intro a
    induction a with
    | nil =>
      intro b m _ _ hb
      have : b = [] := List.eq_nil_of_length_eq_zero hb
      subst this
      rw [dif_neg (by simp)]
      rfl
    | cons x a ih =>
      intro b m h0 h1 hb
      cases b with
      | nil => cases hb
      | cons y b =>
        have hb' : b.length = a.length := by simpa using hb
        have ih' := ih b (m + 1) (fun j h hn => by
          have := h0 (j + 1) (by rw [List.length_cons]; omega) (by omega)
          rw [List.getElem_cons_succ] at this
          exact this) (fun h hm => by
          have := h1 (by rw [List.length_cons]; omega) (by omega)
          have e2 : i - m = (i - (m + 1)) + 1 := by omega
          simp only [e2, List.getElem_cons_succ] at this
          exact this) hb'
        rw [List.zip_cons_cons, rs_cons, ih']
        show y * f x + _ = _
        by_cases e : m = i
        · subst e
          have fx := h1 (by rw [List.length_cons]; omega) (Nat.le_refl _)
          simp only [Nat.sub_self, List.getElem_cons_zero] at fx
          rw [fx, dif_neg (by omega), dif_pos ⟨Nat.le_refl _, by rw [List.length_cons]; omega⟩]
          simp only [Nat.sub_self, List.getElem_cons_zero]
          grind
        · have fx := h0 0 (by rw [List.length_cons]; omega) (by omega)
          rw [List.getElem_cons_zero] at fx
          rw [fx]
          by_cases q : m + 1 ≤ i ∧ i - (m + 1) < b.length
          · rw [dif_pos q, dif_pos ⟨by omega, by rw [List.length_cons]; omega⟩]
            have : (y :: b)[i - m]'(by rw [List.length_cons]; omega) = b[i - (m + 1)]'q.2 := by
              have e2 : i - m = (i - (m + 1)) + 1 := by omega
              simp only [e2, List.getElem_cons_succ]
            rw [this]
            grind
          · rw [dif_neg q, dif_neg (by rw [List.length_cons]; omega)]
            grind
  have := k ps ws 0 (fun j h hn => h0 j h (by omega)) (fun h _ => h1) hl
  rw [this, dif_pos ⟨Nat.zero_le _, by omega⟩]
  rfl
theorem gauss_pos {w : Wt} (ok : WOk w) {n : Nat} (c : Cnt w n) {ps : List Rat} (ha : ps.Pairwise (· < ·)) (hl : ps.length = n) (hr : ∀ p ∈ ps, ev (PK (atoms w) n) p = 0) : ∀ q ∈ Wts w ps, 0 < q := fun q hq => by
  have n6 := c.1
  have pos := atoms_pos ok.good
  obtain ⟨i, hi, rfl⟩ := List.mem_iff_getElem.mp hq
  have wl := Wts_len w ps
  have hi' : i < ps.length := by omega
  have lb := LB_len (ps := ps) hi'
  have m1 : 2 * n - 1 ≤ 12 := by omega
  have z := GP_bil (w := w) (ps := ps) (ws := Wts w ps) (m := 2 * n - 1) m1 (fun k hk => gauss ok c ha hl hr k (by omega)) (LB ps i) (LB ps i) 0 (by omega)
  have o1 := ev_LB_self ha hi'
  have e2 : rs (ps.zip (Wts w ps)) (fun x => x.2 * (x.1 ^ 0 * (ev (LB ps i) x.1 * ev (LB ps i) x.1))) = (Wts w ps)[i] := by
    refine zip_one (f := fun x => x ^ 0 * (ev (LB ps i) x * ev (LB ps i) x)) hi' wl ?_ fun j h hn => ?_
    · show ps[i] ^ 0 * (ev (LB ps i) ps[i] * ev (LB ps i) ps[i]) = 1
      rw [o1, Rat.pow_zero]
      grind
    · show ps[j] ^ 0 * (ev (LB ps i) ps[j] * ev (LB ps i) ps[j]) = 0
      rw [ev_LB_other h hn]
      grind
  rw [e2] at z
  have e1 : rs (atoms w) (fun u => u.1 * (u.2 ^ 0 * (ev (LB ps i) u.2 * ev (LB ps i) u.2))) = ip (atoms w) (ev (LB ps i)) (ev (LB ps i)) := rs_congr _ fun u _ => by rw [Rat.pow_zero]; grind
  rw [e1] at z
  have nn := NN_nn pos (LB ps i)
  have nz : ip (atoms w) (ev (LB ps i)) (ev (LB ps i)) ≠ 0 := fun h => by
    have r := zero_of (c.more ok (j := n - 1) (by omega)) (by omega) (vanish pos h)
    have : ev (LB ps i) ps[i] = 0 := by
      rw [r]
      have := ev_pad ps[i] (LB ps i).length []
      rw [List.nil_append] at this
      rw [this]
      rfl
    rw [o1] at this
    grind
  have nn' : 0 ≤ ip (atoms w) (ev (LB ps i)) (ev (LB ps i)) := nn
  rw [z] at nn' nz
  grind
theorem few_roots {w : Wt} {n : Nat} {ps : List Rat} (ha : ps.Pairwise (· ≠ ·)) (hr : ∀ p ∈ ps, ev (PK (atoms w) n) p = 0) : ps.length ≤ n := Classical.byContradiction fun h => by
  have mk := (mon_PK (atoms w) n).1
  have z := same_poly ha (l := PK (atoms w) n) (r := List.replicate (PK (atoms w) n).length 0) (by rw [List.length_replicate]) (by rw [mk.len]; omega) fun p hp => by
    have := ev_pad p (PK (atoms w) n).length []
    rw [List.nil_append] at this
    rw [hr p hp, this]
    rfl
  obtain ⟨r, _, er⟩ := mk
  have one : (1 : Rat) ∈ PK (atoms w) n := by rw [er]; simp
  rw [z] at one
  have := (List.mem_replicate.mp one).2
  grind
theorem mass_roots {w : Wt} (ok : WOk w) (h2 : w.2 = []) : ∀ u ∈ atoms w, ev (PK (atoms w) w.1.length) u.2 = 0 := by
  have c : Cnt w w.1.length := ⟨ok.good.lm, .inr (Nat.le_refl _)⟩
  have pos := atoms_pos ok.good
  have ea : ∀ u ∈ atoms w, u.2 ∈ w.1.map fun m => (m.1 : Rat) := fun u hu => by
    unfold atoms at hu
    rw [h2, List.flatMap_nil, List.append_nil] at hu
    obtain ⟨m, hm, rfl⟩ := List.mem_map.mp hu
    exact List.mem_map_of_mem hm
  obtain ⟨r, hr, er⟩ := monic_WR (w.1.map fun m => (m.1 : Rat))
  rw [List.length_map] at hr
  have mk := (mon_PK (atoms w) w.1.length).1
  obtain ⟨r', hr', er'⟩ := mk
  have vW : ∀ u ∈ atoms w, ev (WR (w.1.map fun m => (m.1 : Rat))) u.2 = 0 := fun u hu => by
    rw [ev_WR]
    exact prd_zero (ea u hu)
  have eg : ∀ x, ev (List.zipWith (fun a b => a - b) r' r) x = ev (PK (atoms w) w.1.length) x - ev (WR (w.1.map fun m => (m.1 : Rat))) x := fun x => by
    rw [ev_sub2 x _ _ (by omega), er', er, ev_snoc, ev_snoc, hr, hr']
    grind
  have lz : (List.zipWith (fun a b => a - b) r' r).length = w.1.length := by rw [List.length_zipWith]; omega
  have z : ip (atoms w) (ev (List.zipWith (fun a b => a - b) r' r)) (ev (List.zipWith (fun a b => a - b) r' r)) = 0 := by
    have o := c.orth ok (f := List.zipWith (fun a b => a - b) r' r) (by omega)
    rw [← o]
    refine rs_congr _ fun u hu => ?_
    rw [eg, vW u hu]
    grind
  intro u hu
  have v := vanish pos z u hu
  rw [eg, vW u hu] at v
  grind
theorem asc_same : ∀ {l r : List Int}, l.Pairwise (· < ·) → r.Pairwise (· < ·) → (∀ x, x ∈ l ↔ x ∈ r) → l = r
  | [], [], _, _, _ => rfl
  | [], b :: r, _, _, h => absurd ((h b).mpr (List.mem_cons_self ..)) (by simp)
  | a :: l, [], _, _, h => absurd ((h a).mp (List.mem_cons_self ..)) (by simp)
  | a :: l, b :: r, h1, h2, h => by
    obtain ⟨p1, p2⟩ := List.pairwise_cons.mp h1
    obtain ⟨q1, q2⟩ := List.pairwise_cons.mp h2
    have ab : a = b := by
      have m1 := (h a).mp (List.mem_cons_self ..)
      have m2 := (h b).mpr (List.mem_cons_self ..)
      rcases List.mem_cons.mp m1 with e | e
      · exact e
      · rcases List.mem_cons.mp m2 with e2 | e2
        · exact e2.symm
        · have := q1 a e
          have := p1 b e2
          omega
    subst ab
    congr 1
    refine asc_same p2 q2 fun x => ?_
    constructor
    · intro hx
      have := p1 x hx
      rcases List.mem_cons.mp ((h x).mp (List.mem_cons_of_mem _ hx)) with e | e
      · omega
      · exact e
    · intro hx
      have := q1 x hx
      rcases List.mem_cons.mp ((h x).mpr (List.mem_cons_of_mem _ hx)) with e | e
      · omega
      · exact e
/-! ### small words of laws -/
theorem rep_fr (j : Nat) (p : List Rat) : List.replicate j ((0 : Int), (1 : Int)) ++ p.map fr = (List.replicate j 0 ++ p).map fr := by
  rw [List.map_append, List.map_replicate, fr_zero]
theorem rep_sq {j : Nat} {p : List Rat} {c : Nat} (h : Sqs c p) (h0 : 0 < c) : Sqs c (List.replicate j 0 ++ p) := fun q hq => by
  rcases List.mem_append.mp hq with z | z
  · rw [(List.mem_replicate.mp z).2]; exact zero_sqn h0
  · exact h q z
theorem getD_some {l : List Rat} {j : Nat} (h : j < l.length) : l[j]? = some (l.getD j 0) := by
  rw [List.getD_eq_getElem?_getD, List.getElem?_eq_getElem h]
  rfl
theorem flat_oneF {α : Type} (a : α) : ∀ n : Nat, (List.replicate n [a]).flatten = List.replicate n a
  | 0 => rfl
  | n + 1 => by rw [List.replicate_succ, List.flatten_cons, flat_oneF a n]; rfl
theorem range_at {α : Type} {f : Nat → α} {n k : Nat} (h : k < n) : ((List.range n).map f)[k]? = some (f k) := by
  rw [List.getElem?_map, List.getElem?_range h]
  rfl
theorem Yes.when7 {α : Type} {c : Bool} {a b : Mm α} {p : α → Prop} (h : c = true → Yes a p) (k : c = false → Yes b p) : Yes (cond c a b) p := by
  cases c with
  | true => exact h rfl
  | false => exact k rfl
theorem foldL_go {α S R : Type} {f : S → α → Mm (Fl R S)} {l : List α} {s s' : S} (G : Nat → S) (hs : G 0 = s) (he : G l.length = s') (h : ∀ (k : Nat) x, l[k]? = some x → f (G k) x = .ok (.go (G (k + 1)))) : foldL f s l = .ok (.go s') := by
  subst hs he
  have key : ∀ (r : List α) (k : Nat), (∀ (j : Nat) x, r[j]? = some x → f (G (k + j)) x = .ok (.go (G (k + j + 1)))) → foldL f (G k) r = .ok (.go (G (k + r.length))) := by
    intro r
    induction r with
    | nil => intro k _; rfl
    | cons x r ih =>
      intro k hk
      unfold foldL
      have h0 : f (G k) x = .ok (.go (G (k + 1))) := hk 0 x rfl
      rw [h0, bdo]
      have := ih (k + 1) fun j y hy => by
        have := hk (j + 1) y hy
        rw [show k + (j + 1) = k + 1 + j by omega] at this
        exact this
      rw [List.length_cons, show k + (r.length + 1) = k + 1 + r.length by omega]
      exact this
  have := key l 0 fun j x hx => by
    rw [Nat.zero_add]
    exact h j x hx
  rw [Nat.zero_add] at this
  exact this
theorem rng_at {n k : Nat} {x : Int} (h : (rangeL 0 n)[k]? = some x) : x = (k : Int) ∧ k < n := by
  have a := rangeL_at h
  have b := (List.getElem?_eq_some_iff.mp h).1
  rw [rangeL_len] at b
  exact ⟨by omega, b⟩
theorem el_go {S R β : Type} {s : S} {f : S → Mm β} {g : R → Mm β} : (Fl.go (R := R) s).el f g = f s := rfl
theorem WS_rise {w : Wt} {j : Nat} {p : List Rat} (h : j + p.length ≤ 13) : WS w (List.replicate j 0 ++ p) = ip (atoms w) (ev p) (ev (List.replicate j 0 ++ [1])) := by
  rw [WS_atoms w (by rw [List.length_append, List.length_replicate]; omega)]
  refine rs_congr _ fun u _ => ?_
  have e1 : ∀ (j : Nat) (p : List Rat) (x : Rat), ev (List.replicate j 0 ++ p) x = x ^ j * ev p x := by
    intro j
    induction j with
    | zero => intro p x; rw [Rat.pow_zero]; show ev p x = _; grind
    | succ j ih =>
      intro p x
      rw [List.replicate_succ, List.cons_append]
      show 0 + x * ev (List.replicate j 0 ++ p) x = _
      rw [ih, Rat.pow_succ]
      grind
  rw [e1, e1]
  show u.1 * (u.2 ^ j * ev p u.2) = u.1 * (ev p u.2 * (u.2 ^ j * (1 + u.2 * 0)))
  grind
theorem WS_low {w : Wt} (ok : WOk w) {k j : Nat} (c : Cnt w k) (h : j < k) : WS w (List.replicate j 0 ++ PK (atoms w) k) = 0 := by
  have := c.1
  have := (mon_PK (atoms w) k).1.len
  rw [WS_rise (by omega)]
  exact c.orth ok (by rw [List.length_append, List.length_replicate]; show j + 1 ≤ k; omega)
theorem WS_norm {w : Wt} (ok : WOk w) {k : Nat} (c : Cnt w k) : WS w (List.replicate k 0 ++ PK (atoms w) k) = NN (atoms w) (PK (atoms w) k) := by
  have := c.1
  have mk := (mon_PK (atoms w) k).1
  have := mk.len
  rw [WS_rise (by omega)]
  obtain ⟨d, g, hg, eg, ed⟩ := split mk (f := List.replicate k 0 ++ [1]) (by rw [List.length_append, List.length_replicate]; exact Nat.le_refl _)
  have d1 := ed (List.replicate k 0) 1 (by rw [List.length_append, List.length_replicate]; rfl) rfl
  rw [ip_congr (p' := ev (PK (atoms w) k)) (q' := fun x => d * ev (PK (atoms w) k) x + ev g x) _ fun x => by rw [eg], ip_add, ip_mul, c.orth ok hg, d1]
  show 1 * NN _ _ + 0 = _
  grind
/-! ### determinants by their first rows -/
def dropAt {α : Type} (j : Nat) (l : List α) : List α := l.take j ++ l.drop (j + 1)
def altS (f : Nat → Rat) : Nat → List Rat → Rat
  | _, [] => 0
  | j, x :: l => (if j % 2 = 0 then x * f j else -(x * f j)) + altS f (j + 1) l
def DTn : Nat → List (List Rat) → Rat
  | 0, _ => 1
  | n + 1, rows => altS (fun j => DTn n (rows.tail.map (dropAt j))) 0 (rows.headD [])
theorem altS_app (f : Nat → Rat) : ∀ (l r : List Rat) (j : Nat), altS f j (l ++ r) = altS f j l + altS f (j + l.length) r
  | [], r, j => by
    show altS f j r = 0 + altS f (j + 0) r
    rw [Nat.add_zero]
    grind
  | x :: l, r, j => by
    show _ + altS f (j + 1) (l ++ r) = _ + altS f (j + 1) l + altS f (j + (l.length + 1)) r
    rw [altS_app f l r (j + 1), show j + 1 + l.length = j + (l.length + 1) by omega]
    grind
theorem altS_congr {f g : Nat → Rat} : ∀ (l : List Rat) (j : Nat), (∀ i, j ≤ i → i < j + l.length → f i = g i) → altS f j l = altS g j l
  | [], _, _ => rfl
  | x :: l, j, h => by
    show (if j % 2 = 0 then x * f j else -(x * f j)) + _ = (if j % 2 = 0 then x * g j else -(x * g j)) + _
    rw [h j (Nat.le_refl _) (by rw [List.length_cons]; omega), altS_congr l (j + 1) fun i h1 h2 => h i (by omega) (by rw [List.length_cons]; omega)]
theorem altS_lin {f g : Nat → Rat} (t : Rat) : ∀ (l : List Rat) (j : Nat), altS (fun i => f i + t * g i) j l = altS f j l + t * altS g j l
  | [], _ => by
    show (0 : Rat) = 0 + t * 0
    grind
  | x :: l, j => by
    show (if j % 2 = 0 then x * (f j + t * g j) else -(x * (f j + t * g j))) + altS _ (j + 1) l = (if j % 2 = 0 then x * f j else -(x * f j)) + altS f (j + 1) l + t * ((if j % 2 = 0 then x * g j else -(x * g j)) + altS g (j + 1) l)
    rw [altS_lin t l (j + 1)]
    split <;> grind
theorem dropAt_len {α : Type} {j : Nat} {l : List α} (h : j < l.length) : (dropAt j l).length + 1 = l.length := by
  unfold dropAt
  rw [List.length_append, List.length_take, List.length_drop]
  omega
theorem dropAt_lt {α : Type} {j : Nat} {l : List α} {x : α} (h : j < l.length) : dropAt j (l ++ [x]) = dropAt j l ++ [x] := by
  unfold dropAt
  rw [List.take_append_of_le_length (by omega), List.drop_append_of_le_length (by omega), List.append_assoc]
theorem dropAt_end {α : Type} (l : List α) (x : α) : dropAt l.length (l ++ [x]) = l := by
  unfold dropAt
  rw [List.take_left, List.drop_eq_nil_of_le (by rw [List.length_append, List.length_singleton]; exact Nat.le_refl _), List.append_nil]
theorem dropAt_last {α : Type} {j : Nat} {l : List α} (h : j + 1 < l.length) : dropAt j l.dropLast = (dropAt j l).dropLast := by
  rcases List.eq_nil_or_concat l with e | ⟨m, x, e⟩
  · subst e; cases h
  · rw [List.concat_eq_append] at e
    subst e
    rw [List.length_append, List.length_singleton] at h
    rw [dropAt_lt (by omega), List.dropLast_concat, List.dropLast_concat]
theorem dropAt_mem {α : Type} {j : Nat} {l : List α} {x : α} (h : x ∈ dropAt j l) : x ∈ l := by
  unfold dropAt at h
  rcases List.mem_append.mp h with h | h
  · exact List.mem_of_mem_take h
  · exact List.mem_of_mem_drop h
theorem corner (t : Rat) : ∀ (n : Nat) (init : List (List Rat)) (last : List Rat), init.length = n → last.length = n → (∀ r ∈ init, r.length = n + 1) → DTn (n + 1) (init ++ [last ++ [t]]) = DTn (n + 1) (init ++ [last ++ [0]]) + t * DTn n (init.map List.dropLast)
  | 0, init, last, h1, h2, _ => by
    have e1 := List.eq_nil_of_length_eq_zero h1
    have e2 := List.eq_nil_of_length_eq_zero h2
    subst e1 e2
    show (t * 1 + 0 : Rat) = 0 * 1 + 0 + t * 1
    grind
  | n + 1, [], last, h1, _, _ => by cases h1
  | n + 1, r :: init, last, h1, h2, h3 => by
    rw [List.length_cons] at h1
    have lr := h3 r (List.mem_cons_self ..)
    have li : ∀ x ∈ init, x.length = n + 2 := fun x hx => h3 x (List.mem_cons_of_mem _ hx)
    have split : ∀ s : Rat, DTn (n + 2) (r :: init ++ [last ++ [s]]) = altS (fun j => DTn (n + 1) ((init ++ [last ++ [s]]).map (dropAt j))) 0 r := fun s => rfl
    rw [split, split]
    rcases List.eq_nil_or_concat r with e | ⟨r', x, e⟩
    · subst e; cases lr
    · rw [List.concat_eq_append] at e
      subst e
      rw [List.length_append, List.length_singleton] at lr
      have lr' : r'.length = n + 1 := by omega
      rw [altS_app, altS_app, Nat.zero_add]
      have low : ∀ s : Rat, ∀ i, i < n + 1 → (init ++ [last ++ [s]]).map (dropAt i) = init.map (dropAt i) ++ [dropAt i last ++ [s]] := fun s i hi => by
        rw [List.map_append]
        show _ ++ [dropAt i (last ++ [s])] = _
        rw [dropAt_lt (by omega)]
      have e1 : altS (fun j => DTn (n + 1) ((init ++ [last ++ [t]]).map (dropAt j))) 0 r' = altS (fun j => DTn (n + 1) ((init ++ [last ++ [0]]).map (dropAt j)) + t * DTn n ((init.map List.dropLast).map (dropAt j))) 0 r' := altS_congr r' 0 fun i _ hi => by
        show DTn (n + 1) ((init ++ [last ++ [t]]).map (dropAt i)) = DTn (n + 1) ((init ++ [last ++ [0]]).map (dropAt i)) + t * DTn n ((init.map List.dropLast).map (dropAt i))
        rw [low t i (by omega), low 0 i (by omega)]
        have ih := corner t n (init.map (dropAt i)) (dropAt i last) (by rw [List.length_map]; omega) (by have := dropAt_len (j := i) (l := last) (by omega); omega) (fun y hy => by
          obtain ⟨z, hz, rfl⟩ := List.mem_map.mp hy
          have := li z hz
          have := dropAt_len (j := i) (l := z) (by omega)
          omega)
        rw [ih, List.map_map, List.map_map]
        have e3 : init.map (List.dropLast ∘ dropAt i) = init.map (dropAt i ∘ List.dropLast) := List.map_congr_left fun z hz => by
          have := li z hz
          exact (dropAt_last (by omega)).symm
        rw [e3]
      have last_ : ∀ s : Rat, (init ++ [last ++ [s]]).map (dropAt r'.length) = (init.map (dropAt r'.length)) ++ [last] := fun s => by
        rw [List.map_append]
        show _ ++ [dropAt r'.length (last ++ [s])] = _
        rw [show r'.length = last.length by omega, dropAt_end]
      have e2 : altS (fun j => DTn (n + 1) ((init ++ [last ++ [t]]).map (dropAt j))) r'.length [x] = altS (fun j => DTn (n + 1) ((init ++ [last ++ [0]]).map (dropAt j))) r'.length [x] := altS_congr [x] _ fun i h1 h2 => by
        rw [List.length_singleton] at h2
        have : i = r'.length := by omega
        subst this
        show DTn (n + 1) ((init ++ [last ++ [t]]).map (dropAt r'.length)) = DTn (n + 1) ((init ++ [last ++ [0]]).map (dropAt r'.length))
        rw [last_, last_]
      rw [e1, e2, altS_lin]
      have e4 : DTn (n + 1) ((((r' ++ [x]) :: init)).map List.dropLast) = altS (fun j => DTn n ((init.map List.dropLast).map (dropAt j))) 0 r' := by
        show altS (fun j => DTn n ((init.map List.dropLast).map (dropAt j))) 0 (r' ++ [x]).dropLast = _
        rw [List.dropLast_concat]
      rw [e4]
      grind
/-! ### sizes: at most one factor is t -/
structure Bt (B : Int) (t : Rat) (a : Nat) : Prop where
  b0 : 0 < B
  bl : B.natAbs < 2 ^ 15
  ts : Sq a t
  al : a ≤ 3000
def Af (B : Int) (t : Rat) (n e : Nat) (q : Rat) : Prop := ∃ x y : Rat, q = x + t * y ∧ Dv (B ^ n) e x ∧ Dv (B ^ n) e y
theorem Bt.pw {B : Int} {t : Rat} {a : Nat} (h : Bt B t a) (n : Nat) : 0 < B ^ n ∧ (B ^ n).natAbs < 2 ^ (15 * n + 1) := ⟨pow_posZ h.b0 n, pow_ltZ h.bl n⟩
theorem Af.sq {B : Int} {t : Rat} {a n e : Nat} {q : Rat} (h : Bt B t a) (k : Af B t n e q) (he : 15 * n + 1 ≤ e) : Sq (2 * e + a + 1) q := by
  obtain ⟨x, y, rfl, hx, hy⟩ := k
  have p := h.pw n
  have pl : (B ^ n).natAbs < 2 ^ e := Nat.lt_of_lt_of_le p.2 (Nat.pow_le_pow_right (by decide) he)
  exact sq_add (hx.sq p.1 pl) (sq_mul h.ts (hy.sq p.1 pl) (Nat.le_refl _)) (by omega)
theorem Af.up {B : Int} {t : Rat} {n e f : Nat} {q : Rat} (k : Af B t n e q) (h : e ≤ f) : Af B t n f q := by
  obtain ⟨x, y, e1, hx, hy⟩ := k
  exact ⟨x, y, e1, hx.up h, hy.up h⟩
theorem dvs_add {D : Int} {a b n : Nat} {p q : Rat} (ha : Dv D a p) (hb : Dv D b q) (h : a < n) (h' : b < n) : Dv D n (p + q) := by
  obtain ⟨x, rfl, hx⟩ := ha
  obtain ⟨y, rfl, hy⟩ := hb
  refine ⟨x + y, ?_, add_lt hx hy h h'⟩
  push_cast
  grind
theorem dvs_neg {D : Int} {a : Nat} {p : Rat} (ha : Dv D a p) : Dv D a (-p) := by
  obtain ⟨x, rfl, hx⟩ := ha
  refine ⟨-x, ?_, by rw [Int.natAbs_neg]; exact hx⟩
  push_cast
  grind
theorem dvs_mul {D E : Int} {a b : Nat} {p q : Rat} (hD : D ≠ 0) (hE : E ≠ 0) (ha : Dv D a p) (hb : Dv E b q) : Dv (D * E) (a + b) (p * q) := by
  obtain ⟨x, rfl, hx⟩ := ha
  obtain ⟨y, rfl, hy⟩ := hb
  have n1 := intc_ne hD
  have n2 := intc_ne hE
  refine ⟨x * y, ?_, mul_lt hx hy (Nat.le_refl _)⟩
  push_cast
  grind
theorem Af.add {B : Int} {t : Rat} {n a b e : Nat} {p q : Rat} (hp : Af B t n a p) (hq : Af B t n b q) (h : a < e) (h' : b < e) : Af B t n e (p + q) := by
  obtain ⟨x, y, rfl, hx, hy⟩ := hp
  obtain ⟨u, v, rfl, hu, hv⟩ := hq
  exact ⟨x + u, y + v, by grind, dvs_add hx hu h h', dvs_add hy hv h h'⟩
theorem Af.neg {B : Int} {t : Rat} {n a : Nat} {p : Rat} (hp : Af B t n a p) : Af B t n a (-p) := by
  obtain ⟨x, y, rfl, hx, hy⟩ := hp
  exact ⟨-x, -y, by grind, dvs_neg hx, dvs_neg hy⟩
theorem Af.zero {B : Int} {t : Rat} {n a : Nat} : Af B t n a 0 := ⟨0, 0, by grind, dv_zero, dv_zero⟩
theorem Af.mul {B : Int} {t : Rat} {a n e : Nat} {c q : Rat} (h : Bt B t a) (hc : Dv B 87 c) (hq : Af B t n e q) : Af B t (n + 1) (e + 87) (c * q) := by
  obtain ⟨x, y, rfl, hx, hy⟩ := hq
  have nb : B ≠ 0 := by have := h.b0; omega
  have np : B ^ n ≠ 0 := by have := (h.pw n).1; omega
  have e1 : B ^ (n + 1) = B * B ^ n := by rw [Int.pow_succ, Int.mul_comm]
  refine ⟨c * x, c * y, by grind, ?_, ?_⟩
  · rw [e1, show e + 87 = 87 + e by omega]
    exact dvs_mul nb np hc hx
  · rw [e1, show e + 87 = 87 + e by omega]
    exact dvs_mul nb np hc hy
structure Mt (B : Int) (t : Rat) (n : Nat) (rows : List (List Rat)) : Prop where
  len : rows.length = n
  row : ∀ r ∈ rows, r.length = n
  ent : ∀ i (h : i < rows.length), ∀ c ∈ rows[i], Dv B 87 c ∨ (i + 1 = n ∧ c = t)
theorem Mt.minor {B : Int} {t : Rat} {n j : Nat} {r : List Rat} {rows : List (List Rat)} (h : Mt B t (n + 1) (r :: rows)) (hj : j < n + 1) : Mt B t n (rows.map (dropAt j)) := by
  have l := h.len
  rw [List.length_cons] at l
  refine ⟨by rw [List.length_map]; omega, fun x hx => ?_, fun i hi c hc => ?_⟩
  · obtain ⟨y, hy, rfl⟩ := List.mem_map.mp hx
    have := h.row y (List.mem_cons_of_mem _ hy)
    have := dropAt_len (j := j) (l := y) (by omega)
    omega
  · rw [List.length_map] at hi
    rw [List.getElem_map] at hc
    have := h.ent (i + 1) (by rw [List.length_cons]; omega) c (by rw [List.getElem_cons_succ]; exact dropAt_mem hc)
    rcases this with q | q
    · exact .inl q
    · exact .inr ⟨by omega, q.2⟩
theorem Mt.head {B : Int} {t : Rat} {n : Nat} {r : List Rat} {rows : List (List Rat)} (h : Mt B t (n + 1) (r :: rows)) : ∀ c ∈ r, Dv B 87 c ∨ (n = 0 ∧ c = t) := fun c hc => by
  rcases h.ent 0 (by rw [List.length_cons]; omega) c hc with q | q
  · exact .inl q
  · exact .inr ⟨by omega, q.2⟩
theorem head_mul {B : Int} {t : Rat} {a n : Nat} {c q : Rat} (h : Bt B t a) (hc : Dv B 87 c ∨ (n = 0 ∧ c = t)) (hq : Af B t n (100 * n + 1) q) (h1 : n = 0 → q = 1) : Af B t (n + 1) (100 * n + 88) (c * q) ∧ Sq (a + 87) c := by
  rcases hc with hc | ⟨rfl, rfl⟩
  · exact ⟨hq.mul h hc |>.up (by omega), (hc.sq h.b0 (Nat.lt_of_lt_of_le h.bl (by decide))).up (by omega)⟩
  · have q1 := h1 rfl
    subst q1
    refine ⟨⟨0, 1, by grind, dv_zero, ⟨B, ?_, by rw [show 100 * 0 + 88 = 88 by rfl]; exact Nat.lt_of_lt_of_le h.bl (by decide)⟩⟩, h.ts.up (by omega)⟩
    have := intc_ne (n := B) (by have := h.b0; omega)
    rw [show B ^ (0 + 1) = B by rw [Int.pow_succ, Int.pow_zero, Int.one_mul]]
    grind
theorem mod_two (j : Nat) : modM (j : Int) 2 = .ok ((j % 2 : Nat) : Int) := by
  rw [mod_ok (by decide)]
  rfl
def frM (rows : List (List Rat)) : List (List (Int × Int)) := rows.map (List.map fr)
theorem minor_ok {n j : Nat} (rows : List (List Rat)) (hj : j < n) (hr : ∀ r ∈ rows, r.length = n) (hn : n ≤ 1000) : mapMm (fun (x56 : (List (Int × Int))) => (guardM ((cutL x56 none (some (j : Int))).length + (cutL x56 (some ((j : Int) + (1 : Int))) none).length ≤ 100000)).bd fun _ => Mm.ok ((cutL x56 none (some (j : Int))) ++ (cutL x56 (some ((j : Int) + (1 : Int))) none))) (frM rows) = .ok (frM (rows.map (dropAt j))) := by
  unfold frM
  rw [mapMm_map, mapMm_eq (g := fun r => (dropAt j r).map fr) _ fun r h => ?_]
  · rw [List.map_map]
    rfl
  · have lr := hr r h
    rw [show (j : Int) + 1 = ((j + 1 : Nat) : Int) by omega, cut_lo _ _ (by rw [List.length_map]; omega), cut_hi _ _ (by rw [List.length_map]; omega), guard_ok (by simp only [List.length_take, List.length_drop, List.length_map]; omega), bdo]
    unfold dropAt
    rw [List.map_append, List.map_take, List.map_drop]
theorem determinant_ok {B : Int} {t : Rat} {a : Nat} (h : Bt B t a) : ∀ (n f : Nat) (rows : List (List Rat)), n < f → n ≤ 5 → Mt B t n rows → determinant f (frM rows) = .ok (fr (DTn n rows)) ∧ Af B t n (100 * n + 1) (DTn n rows) ∧ (n = 0 → DTn n rows = 1)
  | n, 0, _, hf, _, _ => absurd hf (Nat.not_lt_zero _)
  | 0, f + 1, rows, _, _, m => by
    have e := List.eq_nil_of_length_eq_zero m.len
    subst e
    refine ⟨?_, ⟨1, 0, by show (1 : Rat) = 1 + t * 0; grind, ?_, dv_zero⟩, fun _ => rfl⟩
    · rw [determinant.eq_2]
      show Mm.ok ((1, 1) : Int × Int) = Mm.ok (fr 1)
      rw [fr_one]
    · rw [Int.pow_zero]
      exact dv_one
  | n + 1, f + 1, [], _, _, m => by
    have := m.len
    cases this
  | n + 1, f + 1, r :: rows, hf, h5, m => by
    have lrs := m.len
    rw [List.length_cons] at lrs
    have lr := m.row r (List.mem_cons_self ..)
    have hd := m.head
    -- the fold over the first row
    have F : ∀ (l : List Rat) (j : Nat) (acc : Rat), j + l.length = n + 1 → (∀ c ∈ l, c ∈ r) → Af B t (n + 1) (100 * n + 88 + j) acc →
        foldM (fun (b14 : (Int × Int)) (x15 : (Int × (Int × Int))) => (guardM ((cutL (frM (r :: rows)) (some (1 : Int)) none).length ≤ 50000)).bd fun _ => (mapMm (fun (x56 : (List (Int × Int))) => (guardM ((cutL x56 none (some x15.1)).length + (cutL x56 (some (x15.1 + (1 : Int))) none).length ≤ 100000)).bd fun _ => Mm.ok ((cutL x56 none (some x15.1)) ++ (cutL x56 (some (x15.1 + (1 : Int))) none))) (cutL (frM (r :: rows)) (some (1 : Int)) none)).bd fun b55 => (determinant f (b55)).bd fun b105 => (times (x15.2) (b105)).bd fun b112 => (modM x15.1 (2 : Int)).bd fun m119 => cond (decide (m119 = (0 : Int))) ((plus (b14) (b112)).bd fun b122 => Mm.ok b122) ((minus (b14) (b112)).bd fun b129 => Mm.ok b129)) (fr acc) (numL (j : Int) (l.map fr)) = .ok (fr (acc + altS (fun j => DTn n (rows.map (dropAt j))) j l)) ∧ Af B t (n + 1) (100 * n + 89 + (n + 1)) (acc + altS (fun j => DTn n (rows.map (dropAt j))) j l) := by
      intro l
      induction l with
      | nil =>
        intro j acc hj _ ha
        have e : acc + altS (fun j => DTn n (rows.map (dropAt j))) j [] = acc := by
          show acc + 0 = acc
          grind
        rw [e]
        rw [List.length_nil] at hj
        exact ⟨rfl, ha.up (by omega)⟩
      | cons c l ih =>
        intro j acc hj hm ha
        rw [List.length_cons] at hj
        have mi := m.minor (j := j) (by omega)
        obtain ⟨d1, d2, d3⟩ := determinant_ok h n f (rows.map (dropAt j)) (by omega) (by omega) mi
        obtain ⟨p1, p2⟩ := head_mul h (hd c (hm c (List.mem_cons_self ..))) d2 d3
        have al := h.al
        have s2 := d2.sq h (by omega)
        have s3 := p1.sq h (by omega)
        have s1 := ha.sq h (by omega)
        have cut : cutL (frM (r :: rows)) (some (1 : Int)) none = frM rows := cut_hi (frM (r :: rows)) 1 (by show 1 ≤ (List.map _ _).length; rw [List.length_map, List.length_cons]; omega)
        have nx : ∀ v : Rat, Af B t (n + 1) (100 * n + 88) v → Af B t (n + 1) (100 * n + 88 + (j + 1)) (acc + v) := fun v hv => ha.add hv (by omega) (by omega)
        rw [List.map_cons]
        unfold numL foldM
        have step : ((guardM ((cutL (frM (r :: rows)) (some (1 : Int)) none).length ≤ 50000)).bd fun _ => (mapMm (fun (x56 : (List (Int × Int))) => (guardM ((cutL x56 none (some (j : Int))).length + (cutL x56 (some ((j : Int) + (1 : Int))) none).length ≤ 100000)).bd fun _ => Mm.ok ((cutL x56 none (some (j : Int))) ++ (cutL x56 (some ((j : Int) + (1 : Int))) none))) (cutL (frM (r :: rows)) (some (1 : Int)) none)).bd fun b55 => (determinant f (b55)).bd fun b105 => (times (fr c) (b105)).bd fun b112 => (modM (j : Int) (2 : Int)).bd fun m119 => cond (decide (m119 = (0 : Int))) ((plus (fr acc) (b112)).bd fun b122 => Mm.ok b122) ((minus (fr acc) (b112)).bd fun b129 => Mm.ok b129)) = .ok (fr (acc + (if j % 2 = 0 then c * DTn n (rows.map (dropAt j)) else -(c * DTn n (rows.map (dropAt j)))))) := by
          rw [cut, guard_ok (by show (List.map _ _).length ≤ 50000; rw [List.length_map]; omega), bdo, minor_ok (n := n + 1) rows (by omega) (fun x hx => m.row x (List.mem_cons_of_mem _ hx)) (by omega), bdo, d1, bdo, times_ok p2 s2 (by omega), bdo, mod_two, bdo]
          by_cases q : j % 2 = 0
          · rw [if_pos q, q]
            show (plus (fr acc) _).bd _ = _
            rw [plus_ok s1 s3 (by omega), bdo]
          · rw [if_neg q, cF (decide_eq_false (by omega)), minus_ok s1 s3 (by omega), bdo]
            congr 2
            grind
        obtain ⟨i1, i2⟩ := ih (j + 1) (acc + (if j % 2 = 0 then c * DTn n (rows.map (dropAt j)) else -(c * DTn n (rows.map (dropAt j))))) (by omega) (fun x hx => hm x (List.mem_cons_of_mem _ hx)) (by
          by_cases q : j % 2 = 0
          · rw [if_pos q]; exact nx _ p1
          · rw [if_neg q]; exact nx _ p1.neg)
        have e : acc + altS (fun j => DTn n (rows.map (dropAt j))) j (c :: l) = acc + (if j % 2 = 0 then c * DTn n (rows.map (dropAt j)) else -(c * DTn n (rows.map (dropAt j)))) + altS (fun j => DTn n (rows.map (dropAt j))) (j + 1) l := by
          show acc + ((if j % 2 = 0 then _ else _) + _) = _
          grind
        rw [e]
        refine ⟨?_, i2⟩
        refine (congrArg (fun z => Mm.bd z _) step).trans ?_
        rw [bdo, show (j : Int) + 1 = ((j + 1 : Nat) : Int) by omega]
        exact i1
    obtain ⟨f1, f2⟩ := F r 0 0 (by omega) (fun c hc => hc) Af.zero
    have e0 : (0 : Rat) + altS (fun j => DTn n (rows.map (dropAt j))) 0 r = DTn (n + 1) (r :: rows) := by
      show 0 + _ = altS (fun j => DTn n (rows.map (dropAt j))) 0 r
      grind
    rw [e0] at f1 f2
    refine ⟨?_, f2.up (by omega), fun z => by cases z⟩
    rw [determinant.eq_2, cF (decide_eq_false (by show ¬ ((List.map _ _).length : Int) = 0; rw [List.length_map, List.length_cons]; omega))]
    have g0 : getM (frM (r :: rows)) (0 : Int) = .ok (r.map fr) := getM_mid [] (frM rows) (r.map fr)
    rw [g0, bdo, enumL_eq]
    rw [fr_zero] at f1
    refine (congrArg (fun z => Mm.bd z _) f1).trans ?_
    rfl
def sqS (S : List Rat) (m : Nat) : List (List Rat) := (List.range m).map fun r => (S.drop r).take m
theorem cut_mid {α : Type} (l : List α) (i m : Nat) (h : i + m ≤ l.length) : cutL l (some (i : Int)) (some ((i : Int) + (m : Int))) = (l.drop i).take m := by
  unfold cutL
  have e1 : HT.sIx l.length 0 (some (i : Int)) = i := by
    unfold HT.sIx
    simp only
    split <;> omega
  have e2 : HT.sIx l.length l.length (some ((i : Int) + (m : Int))) = i + m := by
    unfold HT.sIx
    simp only
    split <;> omega
  rw [e1, e2, Nat.add_sub_cancel_left]
theorem square_ok {S : List Rat} {m : Nat} (h : 2 * m ≤ S.length + 1) (hm : m ≤ 1000) : square_of_sums (S.map fr) (m : Int) = .ok (frM (sqS S m)) := by
  unfold square_of_sums
  rw [rangeM_ok (by omega), bdo, Int.toNat_natCast, guard_ok (by rw [rangeL_len]; omega), bdo]
  have e : rangeL 0 m = (List.range m).map fun (i : Nat) => ((i : Nat) : Int) := by
    unfold rangeL
    exact List.map_congr_left fun i _ => Int.zero_add _
  rw [e, mapMm_map, mapMm_eq (g := fun r => ((S.drop r).take m).map fr) _ fun r hr => ?_, bdo]
  · congr 1
    unfold frM sqS
    rw [List.map_map]
    rfl
  · have := List.mem_range.mp hr
    rw [cut_mid _ _ _ (by rw [List.length_map]; omega), ← List.map_drop, ← List.map_take]
theorem sqS_at {S : List Rat} {m i : Nat} (h : i < (sqS S m).length) : (sqS S m)[i] = (S.drop i).take m := by
  simp only [sqS, List.getElem_map, List.getElem_range]
theorem sqS_len (S : List Rat) (m : Nat) : (sqS S m).length = m := by
  unfold sqS
  rw [List.length_map, List.length_range]
theorem sqS_mt {B : Int} {S : List Rat} {m : Nat} (t : Rat) (hS : ∀ c ∈ S, Dv B 87 c) (h : 2 * m ≤ S.length + 1) : Mt B t m (sqS S m) := by
  refine ⟨sqS_len S m, fun r hr => ?_, fun i hi c hc => .inl (hS c ?_)⟩
  · obtain ⟨i, hi, rfl⟩ := List.mem_map.mp hr
    have := List.mem_range.mp hi
    rw [List.length_take, List.length_drop]
    omega
  · rw [sqS_at] at hc
    exact List.mem_of_mem_drop (List.mem_of_mem_take hc)
theorem sqS_corner {S : List Rat} {h : Nat} (hl : S.length = 2 * h) (t : Rat) : sqS (S ++ [t]) (h + 1) = ((List.range h).map fun r => (S.drop r).take (h + 1)) ++ [S.drop h ++ [t]] := by
  unfold sqS
  rw [List.range_succ, List.map_append]
  congr 1
  · refine List.map_congr_left fun r hr => ?_
    have := List.mem_range.mp hr
    rw [List.drop_append_of_le_length (by omega), List.take_append_of_le_length (by rw [List.length_drop]; omega)]
  · show [((S ++ [t]).drop h).take (h + 1)] = _
    rw [List.drop_append_of_le_length (by omega), List.take_of_length_le (by rw [List.length_append, List.length_drop, List.length_singleton]; omega)]
theorem corner_S {S : List Rat} {h : Nat} (hl : S.length = 2 * h) (t : Rat) : DTn (h + 1) (sqS (S ++ [t]) (h + 1)) = DTn (h + 1) (sqS (S ++ [0]) (h + 1)) + t * DTn h (sqS S h) := by
  rw [sqS_corner hl, sqS_corner hl, corner t h _ _ (by rw [List.length_map, List.length_range]) (by rw [List.length_drop]; omega) (fun r hr => by
    obtain ⟨i, hi, rfl⟩ := List.mem_map.mp hr
    have := List.mem_range.mp hi
    rw [List.length_take, List.length_drop]
    omega), List.map_map]
  congr 3
  unfold sqS
  refine List.map_congr_left fun r hr => ?_
  have := List.mem_range.mp hr
  show ((S.drop r).take (h + 1)).dropLast = (S.drop r).take h
  rw [List.dropLast_eq_take, List.length_take, List.length_drop, List.take_take]
  congr 1
  omega
theorem sqS_pre {S : List Rat} {m : Nat} (h : 2 * m ≤ S.length + 1) (T : List Rat) : sqS (S ++ T) m = sqS S m := by
  unfold sqS
  refine List.map_congr_left fun r hr => ?_
  have := List.mem_range.mp hr
  rw [List.drop_append_of_le_length (by omega), List.take_append_of_le_length (by rw [List.length_drop]; omega)]
theorem corner_mt {B : Int} {S : List Rat} {h : Nat} (hl : S.length = 2 * h) (t : Rat) (hS : ∀ c ∈ S, Dv B 87 c) : Mt B t (h + 1) (sqS (S ++ [t]) (h + 1)) := by
  refine ⟨sqS_len _ _, fun r hr => ?_, fun i hi c hc => ?_⟩
  · obtain ⟨i, hi, rfl⟩ := List.mem_map.mp hr
    have := List.mem_range.mp hi
    rw [List.length_take, List.length_drop, List.length_append, List.length_singleton]
    omega
  · rw [sqS_len] at hi
    rw [sqS_at] at hc
    by_cases q : i < h
    · rw [List.drop_append_of_le_length (by omega), List.take_append_of_le_length (by rw [List.length_drop]; omega)] at hc
      exact .inl (hS c (List.mem_of_mem_drop (List.mem_of_mem_take hc)))
    · have : i = h := by omega
      subst this
      have := List.mem_of_mem_take hc
      rw [List.drop_append_of_le_length (by omega)] at this
      rcases List.mem_append.mp this with z | z
      · exact .inl (hS c (List.mem_of_mem_drop z))
      · exact .inr ⟨rfl, List.mem_singleton.mp z⟩
theorem sums_fold {f : Unit → Int × (Int × Int) → Mm Unit} (hf : ∀ s y, f s y = cond ((decide (y.1 = (9 : Int))) || (decide (y.2.2 = (0 : Int)))) (Mm.bad) (Mm.ok ())) : ∀ (l : List (Int × Int)) (k : Int), k + l.length ≤ 9 → (∀ x ∈ l, x.2 ≠ 0) → foldM f () (numL k l) = .ok ()
  | [], k, _, _ => rfl
  | x :: l, k, h, hn => by
    rw [List.length_cons] at h
    unfold numL foldM
    rw [hf, cF (by rw [decide_eq_false (by show ¬ k = 9; omega), decide_eq_false (hn x (List.mem_cons_self ..))]; rfl), bdo]
    exact sums_fold hf l (k + 1) (by omega) fun y hy => hn y (List.mem_cons_of_mem _ hy)
theorem checked_sums_ok {S : List Rat} {l : List (Int × Int)} {c : Nat} (hc : c < 9000) (h : All2 (fun p x => Rx c x p) S l) (h0 : 0 < S.length) (h9 : S.length ≤ 9) : checked_sums l = .ok (S.map fr) := by
  have ln := h.len
  have nz := h.right (q := fun x => x.2 ≠ 0) fun _ _ r => r.nz
  unfold checked_sums
  rw [cF (decide_eq_false (by omega)), enumL_eq, sums_fold (fun _ _ => rfl) l 0 (by omega) nz, bdo, guard_ok (by omega), bdo, h.map_eq (g := fr) fun x y _ r => by rw [lowest_x r hc, bdo], bdo]
def Ds (S : List Rat) (k : Nat) : List Rat := (List.range k).map fun i => DTn (i + 1) (sqS S (i + 1))
theorem determinants_of_ok {B : Int} {t : Rat} {a : Nat} (hb : Bt B t a) {S : List Rat} (h9 : S.length ≤ 9) (hM : ∀ m, 2 * m ≤ S.length + 1 → Mt B t m (sqS S m)) : determinants_of (S.map fr) = .ok ((Ds S ((S.length + 1) / 2)).map fr) := by
  unfold determinants_of
  rw [List.length_map, div_ok (b := 2) (by decide) (by decide) (by decide), bdo, show ((S.length : Int) + 1) / 2 = (((S.length + 1) / 2 : Nat) : Int) by omega]
  generalize hk : (S.length + 1) / 2 = k
  have rg : rangeM2 (1 : Int) ((k : Int) + (1 : Int)) = .ok (rangeL 1 k) := by
    unfold rangeM2
    rw [if_pos (by omega), show ((k : Int) + 1 - 1).toNat = k by omega]
  rw [rg, bdo, show ((k : Int) + 1 - 1).toNat = k by omega, guard_ok (by rw [rangeL_len]; omega), bdo]
  have e : rangeL 1 k = (List.range k).map fun (i : Nat) => ((i + 1 : Nat) : Int) := by
    unfold rangeL
    exact List.map_congr_left fun i _ => by omega
  rw [e, mapMm_map, mapMm_eq (g := fun i => fr (DTn (i + 1) (sqS S (i + 1)))) _ fun i hi => ?_, bdo]
  · have e2 : (List.range k).map (fun i => fr (DTn (i + 1) (sqS S (i + 1)))) = (Ds S k).map fr := by
      unfold Ds
      rw [List.map_map]
      exact List.map_congr_left fun i _ => rfl
    rw [e2]
  · have := List.mem_range.mp hi
    rw [square_ok (by omega) (by omega), bdo, (determinant_ok hb (i + 1) 6 _ (by omega) (by omega) (hM (i + 1) (by omega))).1, bdo]
/-! ### determinants by their columns -/
def sg (j : Nat) : Rat := if j % 2 = 0 then 1 else -1
theorem sg_succ (j : Nat) : sg (j + 1) = -sg j := by
  unfold sg
  by_cases h : j % 2 = 0
  · rw [if_pos h, if_neg (by omega)]
  · rw [if_neg h, if_pos (by omega)]
    decide +kernel
def Su (f : Nat → Rat) : Nat → Rat
  | 0 => 0
  | n + 1 => Su f n + f n
theorem Su_congr {f g : Nat → Rat} : ∀ n, (∀ i, i < n → f i = g i) → Su f n = Su g n
  | 0, _ => rfl
  | n + 1, h => by
    show Su f n + f n = Su g n + g n
    rw [Su_congr n fun i hi => h i (by omega), h n (by omega)]
theorem Su_lin {f g : Nat → Rat} (t : Rat) : ∀ n, Su (fun i => f i + t * g i) n = Su f n + t * Su g n
  | 0 => by
    show (0 : Rat) = 0 + t * 0
    grind
  | n + 1 => by
    show Su (fun i => f i + t * g i) n + (f n + t * g n) = Su f n + f n + t * (Su g n + g n)
    rw [Su_lin t n]
    grind
theorem Su_zero {f : Nat → Rat} : ∀ n, (∀ i, i < n → f i = 0) → Su f n = 0
  | 0, _ => rfl
  | n + 1, h => by
    show Su f n + f n = 0
    rw [Su_zero n fun i hi => h i (by omega), h n (by omega)]
    grind
theorem Su_swap {f g : Nat → Rat} {j N : Nat} (h : ∀ i, i < N → i ≠ j → i ≠ j + 1 → g i = -f i) (h1 : g j = -f (j + 1)) (h2 : g (j + 1) = -f j) : ∀ n, n ≤ N → n ≠ j + 1 → Su g n = -Su f n
  | 0, _, _ => by
    show (0 : Rat) = -0
    grind
  | n + 1, hN, hn => by
    by_cases q : n = j + 1
    · subst q
      show Su g j + g j + g (j + 1) = -(Su f j + f j + f (j + 1))
      rw [Su_swap h h1 h2 j (by omega) (by omega), h1, h2]
      grind
    · show Su g n + g n = -(Su f n + f n)
      rw [Su_swap h h1 h2 n (by omega) q, h n (by omega) (by omega) q]
      grind
def sk (j k : Nat) : Nat := if k < j then k else k + 1
def DF : Nat → (Nat → Nat → Rat) → Rat
  | 0, _ => 1
  | n + 1, c => Su (fun j => sg j * (c j 0 * DF n fun k i => c (sk j k) (i + 1))) (n + 1)
theorem DF_congr : ∀ (n : Nat) (c d : Nat → Nat → Rat), (∀ k i, k < n → i < n → c k i = d k i) → DF n c = DF n d
  | 0, _, _, _ => rfl
  | n + 1, c, d, h => Su_congr _ fun j hj => by
    show sg j * (c j 0 * DF n fun k i => c (sk j k) (i + 1)) = sg j * (d j 0 * DF n fun k i => d (sk j k) (i + 1))
    rw [h j 0 hj (by omega), DF_congr n _ (fun k i => d (sk j k) (i + 1)) fun k i hk hi => h _ _ (by unfold sk; split <;> omega) (by omega)]
def TrC (j k : Nat) : Nat := if k = j then j + 1 else if k = j + 1 then j else k
theorem DF_swap : ∀ (n : Nat) (c : Nat → Nat → Rat) (j : Nat), j + 1 < n → DF n (fun k i => c (TrC j k) i) = -DF n c
  | 0, _, _, h => by cases h
  | n + 1, c, j, h => by
    have e0 : TrC j j = j + 1 := by
      unfold TrC
      rw [if_pos rfl]
    have e1 : TrC j (j + 1) = j := by
      unfold TrC
      rw [if_neg (by omega), if_pos rfl]
    refine Su_swap (j := j) (N := n + 1) (f := fun l => sg l * (c l 0 * DF n fun k i => c (sk l k) (i + 1))) (fun l hl n1 n2 => ?_) ?_ ?_ (n + 1) (Nat.le_refl _) (by omega)
    · show sg l * (c (TrC j l) 0 * DF n fun k i => c (TrC j (sk l k)) (i + 1)) = -(sg l * (c l 0 * DF n fun k i => c (sk l k) (i + 1)))
      have e1 : TrC j l = l := by
        unfold TrC
        rw [if_neg n1, if_neg n2]
      rw [e1]
      by_cases q : l < j
      · have e2 : (fun k i => c (TrC j (sk l k)) (i + 1)) = fun k i => (fun k i => c (sk l k) (i + 1)) (TrC (j - 1) k) i := by
          funext k i
          have : TrC j (sk l k) = sk l (TrC (j - 1) k) := by
            unfold TrC sk
            repeat' split
            all_goals omega
          show c (TrC j (sk l k)) (i + 1) = c (sk l (TrC (j - 1) k)) (i + 1)
          rw [this]
        rw [e2, DF_swap n (fun k i => c (sk l k) (i + 1)) (j - 1) (by omega)]
        grind
      · have e2 : (fun k i => c (TrC j (sk l k)) (i + 1)) = fun k i => (fun k i => c (sk l k) (i + 1)) (TrC j k) i := by
          funext k i
          have : TrC j (sk l k) = sk l (TrC j k) := by
            unfold TrC sk
            repeat' split
            all_goals omega
          show c (TrC j (sk l k)) (i + 1) = c (sk l (TrC j k)) (i + 1)
          rw [this]
        rw [e2, DF_swap n (fun k i => c (sk l k) (i + 1)) j (by omega)]
        grind
    · show sg j * (c (TrC j j) 0 * DF n fun k i => c (TrC j (sk j k)) (i + 1)) = -(sg (j + 1) * (c (j + 1) 0 * DF n fun k i => c (sk (j + 1) k) (i + 1)))
      have e2 : (fun k i => c (TrC j (sk j k)) (i + 1)) = fun k i => c (sk (j + 1) k) (i + 1) := by
        funext k i
        have : TrC j (sk j k) = sk (j + 1) k := by
          unfold TrC sk
          repeat' split
          all_goals omega
        rw [this]
      rw [e0, e2, sg_succ]
      grind
    · show sg (j + 1) * (c (TrC j (j + 1)) 0 * DF n fun k i => c (TrC j (sk (j + 1) k)) (i + 1)) = -(sg j * (c j 0 * DF n fun k i => c (sk j k) (i + 1)))
      have e2 : (fun k i => c (TrC j (sk (j + 1) k)) (i + 1)) = fun k i => c (sk j k) (i + 1) := by
        funext k i
        have : TrC j (sk (j + 1) k) = sk j k := by
          unfold TrC sk
          repeat' split
          all_goals omega
        rw [this]
      rw [e1, e2, sg_succ]
      grind
theorem DF_dup (n : Nat) : ∀ (d a : Nat) (c : Nat → Nat → Rat), a + d + 1 < n → (∀ i, c a i = c (a + d + 1) i) → DF n c = 0
  | 0, a, c, h, e => by
    have s := DF_swap n c a (by omega)
    have e2 : (fun k i => c (TrC a k) i) = c := by
      funext k i
      unfold TrC
      by_cases q : k = a
      · rw [if_pos q, q, e i]
      · rw [if_neg q]
        by_cases z : k = a + 1
        · rw [if_pos z, z]
          exact e i
        · rw [if_neg z]
    rw [e2] at s
    grind
  | d + 1, a, c, h, e => by
    have s := DF_swap n c (a + d + 1) (by omega)
    have z := DF_dup n d a (fun k i => c (TrC (a + d + 1) k) i) (by omega) fun i => by
      have e1 : TrC (a + d + 1) a = a := by
        unfold TrC
        rw [if_neg (by omega), if_neg (by omega)]
      have e2 : TrC (a + d + 1) (a + d + 1) = a + (d + 1) + 1 := by
        unfold TrC
        rw [if_pos rfl]
        omega
      show c (TrC (a + d + 1) a) i = c (TrC (a + d + 1) (a + d + 1)) i
      rw [e1, e2]
      exact e i
    rw [z] at s
    grind
def UpC (c : Nat → Nat → Rat) (p : Nat) (v : Nat → Rat) : Nat → Nat → Rat := fun k i => if k = p then v i else c k i
theorem up_sk (c : Nat → Nat → Rat) (v : Nat → Rat) (p l : Nat) (h : l ≠ p) : (fun k i => UpC c p v (sk l k) (i + 1)) = UpC (fun k i => c (sk l k) (i + 1)) (if l < p then p - 1 else p) fun i => v (i + 1) := by
  funext k i
  have : sk l k = p ↔ k = (if l < p then p - 1 else p) := by
    unfold sk
    split <;> split <;> omega
  show (if sk l k = p then v (i + 1) else c (sk l k) (i + 1)) = if k = (if l < p then p - 1 else p) then v (i + 1) else c (sk l k) (i + 1)
  by_cases q : sk l k = p
  · rw [if_pos q, if_pos (this.mp q)]
  · rw [if_neg q, if_neg fun z => q (this.mpr z)]
theorem up_own (c : Nat → Nat → Rat) (v : Nat → Rat) (p : Nat) : (fun k i => UpC c p v (sk p k) (i + 1)) = fun k i => c (sk p k) (i + 1) := by
  funext k i
  have : sk p k ≠ p := by
    unfold sk
    split <;> omega
  show (if sk p k = p then _ else _) = _
  rw [if_neg this]
theorem DF_lin : ∀ (n : Nat) (c : Nat → Nat → Rat) (p : Nat) (v u : Nat → Rat) (t : Rat), p < n → DF n (UpC c p fun i => v i + t * u i) = DF n (UpC c p v) + t * DF n (UpC c p u)
  | 0, _, _, _, _, _, h => by cases h
  | n + 1, c, p, v, u, t, h => by
    refine Eq.trans (Su_congr (g := fun l => sg l * (UpC c p v l 0 * DF n fun k i => UpC c p v (sk l k) (i + 1)) + t * (sg l * (UpC c p u l 0 * DF n fun k i => UpC c p u (sk l k) (i + 1)))) (n + 1) fun l hl => ?_) (Su_lin t (n + 1))
    show sg l * (UpC c p (fun i => v i + t * u i) l 0 * DF n fun k i => UpC c p (fun i => v i + t * u i) (sk l k) (i + 1)) = _
    by_cases q : l = p
    · subst q
      rw [up_own, up_own, up_own]
      have e : ∀ w : Nat → Rat, UpC c l w l 0 = w 0 := fun w => if_pos rfl
      rw [e, e, e]
      grind
    · rw [up_sk c _ p l q, up_sk c _ p l q, up_sk c _ p l q, DF_lin n _ _ (fun i => v (i + 1)) (fun i => u (i + 1)) t (by split <;> omega)]
      have e : ∀ w : Nat → Rat, UpC c p w l 0 = c l 0 := fun w => if_neg q
      rw [e, e, e]
      grind
theorem DF_zero {n p : Nat} (c : Nat → Nat → Rat) (h : p < n) : DF n (UpC c p fun _ => 0) = 0 := by
  have e := DF_lin n c p (fun _ => 0) (fun _ => 0) 1 h
  have e2 : (fun _ : Nat => (0 : Rat) + 1 * 0) = fun _ => 0 := by
    funext i
    grind
  rw [e2] at e
  grind
theorem DF_made {n : Nat} (c : Nat → Nat → Rat) (w : Nat → Rat) : ∀ m, m ≤ n → DF (n + 1) (UpC c n fun i => Su (fun j => w j * c j i) m) = 0
  | 0, _ => DF_zero c (Nat.lt_succ_self n)
  | m + 1, h => by
    have e := DF_lin (n + 1) c n (fun i => Su (fun j => w j * c j i) m) (fun i => c m i) (w m) (Nat.lt_succ_self n)
    have d := DF_dup (n + 1) (n - m - 1) m (UpC c n fun i => c m i) (by omega) fun i => by
      unfold UpC
      rw [if_neg (by omega), if_pos (by omega)]
    rw [d, DF_made c w m (by omega)] at e
    have e2 : (0 : Rat) + w m * 0 = 0 := by grind
    rw [e2] at e
    exact e
theorem DF_made2 {n : Nat} (c : Nat → Nat → Rat) (w : Nat → Rat) (h : ∀ i, i ≤ n → c n i = Su (fun j => w j * c j i) n) : DF (n + 1) c = 0 := by
  rw [← DF_made c w n (Nat.le_refl n)]
  refine DF_congr _ _ _ fun k i hk hi => ?_
  unfold UpC
  by_cases q : k = n
  · rw [if_pos q, q, h i (by omega)]
  · rw [if_neg q]
/-! ### from lists -/
theorem altS_Su (f g : Nat → Rat) : ∀ (n : Nat), altS f 0 ((List.range n).map g) = Su (fun j => sg j * (g j * f j)) n
  | 0 => rfl
  | n + 1 => by
    rw [List.range_succ, List.map_append, altS_app, altS_Su f g n, List.length_map, List.length_range, Nat.zero_add]
    show _ + ((if n % 2 = 0 then g n * f n else -(g n * f n)) + 0) = _ + sg n * (g n * f n)
    unfold sg
    split <;> grind
theorem dropAt_map (g : Nat → Rat) (n j : Nat) (h : j < n + 1) : dropAt j ((List.range (n + 1)).map g) = (List.range n).map fun k => g (sk j k) := by
  unfold dropAt
  apply List.ext_getElem
  · rw [List.length_append, List.length_take, List.length_drop, List.length_map, List.length_range, List.length_map, List.length_range]
    omega
  · intro i h1 h2
    rw [List.length_map, List.length_range] at h2
    rw [List.getElem_map, List.getElem_range, List.getElem_append]
    unfold sk
    by_cases q : i < j
    · rw [dif_pos (by rw [List.length_take, List.length_map, List.length_range]; omega), List.getElem_take, List.getElem_map, List.getElem_range, if_pos q]
    · rw [dif_neg (by rw [List.length_take, List.length_map, List.length_range]; omega), List.getElem_drop, List.getElem_map, List.getElem_range, if_neg q]
      congr 1
      rw [List.length_take, List.length_map, List.length_range]
      omega
def mkR (n : Nat) (c : Nat → Nat → Rat) : List (List Rat) := (List.range n).map fun i => (List.range n).map fun k => c k i
theorem DT_DF : ∀ (n : Nat) (c : Nat → Nat → Rat), DTn n (mkR n c) = DF n c
  | 0, _ => rfl
  | n + 1, c => by
    have e : mkR (n + 1) c = ((List.range (n + 1)).map fun k => c k 0) :: (List.range n).map fun i => (List.range (n + 1)).map fun k => c k (i + 1) := by
      show (List.range (n + 1)).map (fun i => (List.range (n + 1)).map fun k => c k i) = _
      have : ∀ f : Nat → List Rat, (List.range (n + 1)).map f = f 0 :: (List.range n).map fun i => f (i + 1) := fun f => by
        rw [List.range_succ_eq_map, List.map_cons, List.map_map]
        rfl
      rw [this]
    rw [e]
    show altS (fun j => DTn n (((List.range n).map fun i => (List.range (n + 1)).map fun k => c k (i + 1)).map (dropAt j))) 0 ((List.range (n + 1)).map fun k => c k 0) = _
    rw [altS_Su]
    refine Su_congr _ fun j hj => ?_
    show sg j * (c j 0 * DTn n (((List.range n).map fun i => (List.range (n + 1)).map fun k => c k (i + 1)).map (dropAt j))) = _
    have e2 : (((List.range n).map fun i => (List.range (n + 1)).map fun k => c k (i + 1)).map (dropAt j)) = mkR n fun k i => c (sk j k) (i + 1) := by
      unfold mkR
      rw [List.map_map]
      refine List.map_congr_left fun i _ => ?_
      show dropAt j ((List.range (n + 1)).map fun k => c k (i + 1)) = _
      rw [dropAt_map _ _ _ hj]
    rw [e2, DT_DF n]
theorem sqS_mk {S : List Rat} {m : Nat} (h : 2 * m ≤ S.length + 1) : sqS S m = mkR m fun k i => S.getD (i + k) 0 := by
  unfold sqS mkR
  refine List.map_congr_left fun i hi => ?_
  have := List.mem_range.mp hi
  apply List.ext_getElem
  · rw [List.length_take, List.length_drop, List.length_map, List.length_range]
    omega
  · intro k h1 h2
    rw [List.length_map, List.length_range] at h2
    rw [List.getElem_take, List.getElem_drop, List.getElem_map, List.getElem_range]
    show _ = S.getD (i + k) 0
    rw [List.getD_eq_getElem?_getD, List.getElem?_eq_getElem (by omega), Option.getD_some]
/-! ### determinants of a weighting's sums -/
def PSl (w : Wt) (n : Nat) : List Rat := (List.range n).map (PS w)
theorem PSl_len (w : Wt) (n : Nat) : (PSl w n).length = n := by
  unfold PSl
  rw [List.length_map, List.length_range]
theorem PSl_at (w : Wt) {n i : Nat} (h : i < n) : (PSl w n).getD i 0 = PS w i := by
  unfold PSl
  rw [List.getD_eq_getElem?_getD, List.getElem?_map, List.getElem?_range h]
  rfl
theorem PSl_snoc (w : Wt) (n : Nat) : PSl w (n + 1) = PSl w n ++ [PS w n] := by
  unfold PSl
  rw [List.range_succ, List.map_append]
  rfl
theorem pow_addD (x : Rat) (a : Nat) : ∀ b : Nat, x ^ (a + b) = x ^ a * x ^ b
  | 0 => by
    rw [Nat.add_zero, Rat.pow_zero]
    grind
  | b + 1 => by
    rw [← Nat.add_assoc, Rat.pow_succ, Rat.pow_succ, pow_addD x a b]
    grind
theorem Su_ev {w : Wt} (i : Nat) : ∀ (n : Nat) (l : List Rat), l.length = n → i + n ≤ 13 → WS w (List.replicate i 0 ++ l) = Su (fun j => l.getD j 0 * PS w (i + j)) n
  | 0, l, h, hi => by
    have e := List.eq_nil_of_length_eq_zero h
    subst e
    rw [WS_rise (by rw [List.length_nil]; omega)]
    rw [ip_comm]
    exact ip_zero _ _ fun x => rfl
  | n + 1, l, h, hi => by
    rcases List.eq_nil_or_concat l with e | ⟨l', z, e⟩
    · subst e; cases h
    · rw [List.concat_eq_append] at e
      subst e
      rw [List.length_append, List.length_singleton] at h
      have ih := Su_ev (w := w) i n l' (by omega) (by omega)
      rw [WS_rise (by omega)] at ih
      rw [WS_rise (by rw [List.length_append, List.length_singleton]; omega)]
      have e1 : ip (atoms w) (ev (l' ++ [z])) (ev (List.replicate i 0 ++ [1])) = ip (atoms w) (ev l') (ev (List.replicate i 0 ++ [1])) + z * PS w (i + n) := by
        rw [PS_atoms w (by omega)]
        unfold ip
        rw [rs_mul, rs_add]
        refine rs_congr _ fun u _ => ?_
        rw [ev_snoc, ev_snoc, show l'.length = n by omega, List.length_replicate, pow_addD]
        have := ev_pad u.2 i []
        rw [List.nil_append] at this
        rw [this]
        show u.1 * ((ev l' u.2 + z * u.2 ^ n) * (0 + 1 * u.2 ^ i)) = u.1 * (ev l' u.2 * (0 + 1 * u.2 ^ i)) + z * (u.1 * (u.2 ^ i * u.2 ^ n))
        grind
      rw [e1, ih]
      show _ = Su (fun j => (l' ++ [z]).getD j 0 * PS w (i + j)) n + (l' ++ [z]).getD n 0 * PS w (i + n)
      have e2 : (l' ++ [z]).getD n 0 = z := by
        rw [List.getD_eq_getElem?_getD, List.getElem?_append_right (by omega), show n - l'.length = 0 by omega]
        rfl
      rw [e2]
      congr 1
      refine Su_congr _ fun j hj => ?_
      rw [List.getD_eq_getElem?_getD, List.getD_eq_getElem?_getD, List.getElem?_append_left (by omega)]
theorem rs_zero0 {α : Type} {f : α → Rat} : ∀ l : List α, (∀ x ∈ l, f x = 0) → rs l f = 0
  | [], _ => rfl
  | x :: l, h => by
    rw [rs_cons, h x (List.mem_cons_self ..), rs_zero0 l fun y hy => h y (List.mem_cons_of_mem _ hy)]
    grind
theorem van {T r : List Rat} {h : Nat} (hT : 2 * h + 1 ≤ T.length) (hr : ∀ i, i ≤ h → Su (fun j => r.getD j 0 * T.getD (i + j) 0) h + T.getD (i + h) 0 = 0) : DTn (h + 1) (sqS T (h + 1)) = 0 := by
  rw [sqS_mk (by omega), DT_DF]
  refine DF_made2 _ (fun j => -(r.getD j 0)) fun i hi => ?_
  have e := hr i hi
  have e2 : Su (fun j => -(r.getD j 0) * T.getD (i + j) 0) h = -(Su (fun j => r.getD j 0 * T.getD (i + j) 0) h) := by
    have l := Su_lin (f := fun _ => 0) (g := fun j => r.getD j 0 * T.getD (i + j) 0) (-1) h
    have z : Su (fun _ => (0 : Rat)) h = 0 := Su_zero h fun _ _ => rfl
    rw [z] at l
    rw [Su_congr (g := fun j => 0 + -1 * (r.getD j 0 * T.getD (i + j) 0)) h fun j _ => by grind, l]
    grind
  show T.getD (i + h) 0 = Su (fun j => -(r.getD j 0) * T.getD (i + j) 0) h
  rw [e2]
  grind
theorem PK_sum {w : Wt} (ok : WOk w) {h i : Nat} (c : Cnt w h) (hi : i ≤ h) : ∃ r : List Rat, r.length = h ∧ PK (atoms w) h = r ++ [1] ∧ Su (fun j => r.getD j 0 * PS w (i + j)) h + PS w (i + h) = if i = h then NN (atoms w) (PK (atoms w) h) else 0 := by
  have h6 := c.1
  obtain ⟨r, hr, er⟩ := (mon_PK (atoms w) h).1
  refine ⟨r, hr, er, ?_⟩
  have e := Su_ev (w := w) i (h + 1) (PK (atoms w) h) (mon_PK (atoms w) h).1.len (by omega)
  have e2 : Su (fun j => (PK (atoms w) h).getD j 0 * PS w (i + j)) (h + 1) = Su (fun j => r.getD j 0 * PS w (i + j)) h + PS w (i + h) := by
    show Su (fun j => (PK (atoms w) h).getD j 0 * PS w (i + j)) h + (PK (atoms w) h).getD h 0 * PS w (i + h) = _
    have e3 : (PK (atoms w) h).getD h 0 = 1 := by
      rw [er, List.getD_eq_getElem?_getD, List.getElem?_append_right (by omega), show h - r.length = 0 by omega]
      rfl
    have e4 : Su (fun j => (PK (atoms w) h).getD j 0 * PS w (i + j)) h = Su (fun j => r.getD j 0 * PS w (i + j)) h := Su_congr _ fun j hj => by
      rw [er, List.getD_eq_getElem?_getD, List.getD_eq_getElem?_getD, List.getElem?_append_left (by omega)]
    rw [e3, e4]
    grind
  rw [← e2, ← e]
  by_cases q : i = h
  · rw [if_pos q, q]
    exact WS_norm ok c
  · rw [if_neg q]
    exact WS_low ok c (by omega)
theorem corner0 {w : Wt} (ok : WOk w) {h : Nat} (c : Cnt w h) : DTn (h + 1) (sqS (PSl w (2 * h) ++ [PS w (2 * h) - NN (atoms w) (PK (atoms w) h)]) (h + 1)) = 0 := by
  obtain ⟨r, hr, er, _⟩ := PK_sum ok c (Nat.zero_le h)
  refine van (r := r) (by rw [List.length_append, PSl_len]; exact Nat.le_refl _) fun i hi => ?_
  obtain ⟨r', hr', er', s⟩ := PK_sum ok c hi
  have rr : r' = r := by
    rw [er] at er'
    exact (List.append_inj' er' rfl).1.symm
  subst rr
  have at_ : ∀ j, i + j < 2 * h → (PSl w (2 * h) ++ [PS w (2 * h) - NN (atoms w) (PK (atoms w) h)]).getD (i + j) 0 = PS w (i + j) := fun j hj => by
    rw [List.getD_eq_getElem?_getD, List.getElem?_append_left (by rw [PSl_len]; omega), ← List.getD_eq_getElem?_getD, PSl_at w hj]
  rw [Su_congr (g := fun j => r'.getD j 0 * PS w (i + j)) h fun j hj => by rw [at_ j (by omega)]]
  by_cases q : i = h
  · subst q
    rw [if_pos rfl] at s
    rw [List.getD_eq_getElem?_getD, List.getElem?_append_right (by rw [PSl_len]; omega), PSl_len, show i + i - 2 * i = 0 by omega]
    show _ + (PS w (2 * i) - _) = 0
    rw [show 2 * i = i + i by omega]
    grind
  · rw [if_neg q] at s
    rw [at_ h (by omega)]
    exact s
def Hh (w : Wt) (m : Nat) : Rat := DTn m (sqS (PSl w (2 * m)) m)
theorem sqS_PSl (w : Wt) {m n n' : Nat} (h : 2 * m ≤ n + 1) (h' : 2 * m ≤ n' + 1) : sqS (PSl w n) m = sqS (PSl w n') m := by
  rw [sqS_mk (by rw [PSl_len]; exact h), sqS_mk (by rw [PSl_len]; exact h')]
  unfold mkR
  refine List.map_congr_left fun i hi => List.map_congr_left fun k hk => ?_
  have := List.mem_range.mp hi
  have := List.mem_range.mp hk
  show (PSl w n).getD (i + k) 0 = (PSl w n').getD (i + k) 0
  rw [PSl_at w (by omega), PSl_at w (by omega)]
theorem Hh_eq (w : Wt) {m n : Nat} (h : 2 * m ≤ n + 1) : DTn m (sqS (PSl w n) m) = Hh w m := by
  unfold Hh
  rw [sqS_PSl w h (n' := 2 * m) (by omega)]
theorem corner_PS {w : Wt} (h : Nat) (t : Rat) : DTn (h + 1) (sqS (PSl w (2 * h) ++ [t]) (h + 1)) = DTn (h + 1) (sqS (PSl w (2 * h) ++ [0]) (h + 1)) + t * Hh w h := corner_S (PSl_len w (2 * h)) t
theorem Hh_succ {w : Wt} (ok : WOk w) {h : Nat} (c : Cnt w h) : Hh w (h + 1) = NN (atoms w) (PK (atoms w) h) * Hh w h := by
  have a := corner_PS (w := w) h (PS w (2 * h))
  have b := corner_PS (w := w) h (PS w (2 * h) - NN (atoms w) (PK (atoms w) h))
  rw [corner0 ok c] at b
  rw [← PSl_snoc, Hh_eq w (by omega)] at a
  rw [a]
  grind
theorem Hh_0 (w : Wt) : Hh w 0 = 1 := rfl
theorem Hh_pos {w : Wt} (ok : WOk w) : ∀ {m : Nat}, Cnt w m → 0 < Hh w m
  | 0, _ => by
    rw [Hh_0]
    decide +kernel
  | m + 1, c => by
    have c' := c.pred
    rw [Hh_succ ok c']
    have n1 := c.nn ok (Nat.lt_succ_self m)
    have n2 := NN_nn (atoms_pos ok.good) (PK (atoms w) m)
    exact Rat.mul_pos (by grind) (Hh_pos ok c')
theorem NN_end {w : Wt} (ok : WOk w) (h2 : w.2 = []) : NN (atoms w) (PK (atoms w) w.1.length) = 0 := by
  have z := mass_roots ok h2
  unfold NN ip
  exact rs_zero0 _ fun u hu => by
    rw [z u hu]
    grind
theorem Hh_zero {w : Wt} (ok : WOk w) (h2 : w.2 = []) {m : Nat} (h : w.1.length < m) (h6 : m ≤ 6) : Hh w m = 0 := by
  obtain ⟨h', rfl⟩ : ∃ h', m = h' + 1 := ⟨m - 1, by omega⟩
  rw [← Hh_eq w (n := 2 * h' + 1) (by omega)]
  obtain ⟨r, hr, er⟩ := (mon_PK (atoms w) w.1.length).1
  have z := mass_roots ok h2
  refine van (r := List.replicate (h' - w.1.length) 0 ++ r) (by rw [PSl_len]; exact Nat.le_refl _) fun i hi => ?_
  have e := Su_ev (w := w) i (h' + 1) (List.replicate (h' - w.1.length) 0 ++ PK (atoms w) w.1.length) (by rw [List.length_append, List.length_replicate, er, List.length_append, List.length_singleton]; omega) (by omega)
  rw [WS_rise (by rw [List.length_append, List.length_replicate, er, List.length_append, List.length_singleton]; omega)] at e
  have v : ip (atoms w) (ev (List.replicate (h' - w.1.length) 0 ++ PK (atoms w) w.1.length)) (ev (List.replicate i 0 ++ [1])) = 0 := by
    unfold ip
    exact rs_zero0 _ fun u hu => by
      rw [ev_shift, z u hu]
      grind
  rw [v, er, ← List.append_assoc] at e
  generalize hq : List.replicate (h' - w.1.length) 0 ++ r = q at *
  have lq : q.length = h' := by
    rw [← hq, List.length_append, List.length_replicate]
    omega
  have e2 : Su (fun j => (q ++ [1]).getD j 0 * PS w (i + j)) (h' + 1) = Su (fun j => q.getD j 0 * PS w (i + j)) h' + PS w (i + h') := by
    show Su (fun j => (q ++ [1]).getD j 0 * PS w (i + j)) h' + (q ++ [1]).getD h' 0 * PS w (i + h') = _
    have e3 : (q ++ [1]).getD h' 0 = 1 := by
      rw [List.getD_eq_getElem?_getD, List.getElem?_append_right (by omega), show h' - q.length = 0 by omega]
      rfl
    have e4 : Su (fun j => (q ++ [1]).getD j 0 * PS w (i + j)) h' = Su (fun j => q.getD j 0 * PS w (i + j)) h' := Su_congr _ fun j hj => by
      rw [List.getD_eq_getElem?_getD, List.getD_eq_getElem?_getD, List.getElem?_append_left (by omega)]
    rw [e3, e4]
    grind
  rw [e2] at e
  rw [PSl_at w (by omega), Su_congr (g := fun j => q.getD j 0 * PS w (i + j)) h' fun j hj => by rw [PSl_at w (by omega)]]
  exact e.symm
/-! ### the next least sum -/
theorem Ds_len (S : List Rat) (k : Nat) : (Ds S k).length = k := by
  unfold Ds
  rw [List.length_map, List.length_range]
theorem Ds_last {S : List Rat} {h : Nat} (h0 : 0 < h) : Ds S h = Ds S (h - 1) ++ [DTn h (sqS S h)] := by
  obtain ⟨k, rfl⟩ : ∃ k, h = k + 1 := ⟨h - 1, by omega⟩
  unfold Ds
  rw [List.range_succ, List.map_append]
  rfl
theorem b00 : Bt 27720 0 1 := ⟨by decide, by decide, zero_sq, by decide⟩
theorem dS_sq {S : List Rat} (dS : ∀ c ∈ S, Dv 27720 87 c) : Sqs 87 S := fun q hq => (dS q hq).sq (by decide) (by decide)
theorem ck_S {S : List Rat} (dS : ∀ c ∈ S, Dv 27720 87 c) (l0 : 0 < S.length) (l9 : S.length ≤ 9) : checked_sums (S.map fr) = .ok (S.map fr) := checked_sums_ok (c := 87) (by decide) (All2.self S fun q hq => rx_fr (dS_sq dS q hq)) l0 l9
theorem isl_S {S : List Rat} {h : Nat} (dS : ∀ c ∈ S, Dv 27720 87 c) (hl : S.length = 2 * h) (l9 : S.length ≤ 9) : mapMm (fun (x28 : (Int × Int)) => (is_less (((0, 1) : (Int × Int))) (x28)).bd fun b47 => Mm.ok (!b47)) ((Ds S h).map fr) = .ok ((Ds S h).map fun d => !decide (0 < d)) := by
  rw [mapMm_map, mapMm_eq (g := fun d => !decide (0 < d)) _ fun d hd => ?_]
  obtain ⟨i, hi, rfl⟩ := List.mem_map.mp hd
  have := List.mem_range.mp hi
  have sq := (determinant_ok b00 (i + 1) 6 _ (by omega) (by omega) (sqS_mt 0 dS (by omega))).2.1.sq b00 (by omega)
  have il := is_less_ok zero_sq sq (by omega)
  rw [fr_zero] at il
  rw [il, bdo]
theorem dof_S {S : List Rat} (dS : ∀ c ∈ S, Dv 27720 87 c) (l9 : S.length ≤ 9) : determinants_of (S.map fr) = .ok ((Ds S ((S.length + 1) / 2)).map fr) := determinants_of_ok b00 l9 fun m hm => sqS_mt 0 dS hm
theorem next_none {S : List Rat} {h : Nat} (dS : ∀ c ∈ S, Dv 27720 87 c) (hl : S.length = 2 * h) (h0 : 0 < h) (l9 : S.length ≤ 9) (neg : ∃ d ∈ Ds S h, ¬ 0 < d) : next_least_xm (S.map fr) = .ex ⟨8, []⟩ := by
  obtain ⟨d, hd, nd⟩ := neg
  have any : List.any ((Ds S h).map fun d => !decide (0 < d)) id = true := List.any_eq_true.mpr ⟨true, List.mem_map.mpr ⟨d, hd, by rw [decide_eq_false nd]; rfl⟩, rfl⟩
  have islx : mapMm (fun (x32 : (Int × Int)) => (noEx (is_less (((0, 1) : (Int × Int))) (x32))).bd fun b51 => Mm.ok (!b51)) ((Ds S h).map fr) = .ok ((Ds S h).map fun d => !decide (0 < d)) := (Le.mapMm (fun x => Le.bd (Le.noE _) fun _ => Le.refl _) _).h _ (isl_S dS hl l9)
  have dof := dof_S dS l9
  rw [show (S.length + 1) / 2 = h by omega] at dof
  have ckx : checked_sums_xm (S.map fr) = .ok (S.map fr) := (le_checked_sums _).h _ (ck_S dS (by omega) l9)
  have md : modM (S.length : Int) 2 = .ok ((S.length % 2 : Nat) : Int) := mod_two _
  unfold next_least_xm
  rw [ckx, bdo, List.length_map, md, bdo, cF (decide_eq_false (by omega)), dof, noEx_ok, bdo, guard_ok (by rw [List.length_map, Ds_len]; omega), bdo, islx, noEx_ok, bdo, any]
  rfl
theorem next_ok {S : List Rat} {h : Nat} (dS : ∀ c ∈ S, Dv 27720 87 c) (hl : S.length = 2 * h) (h0 : 0 < h) (l9 : S.length ≤ 9) (pos : ∀ d ∈ Ds S h, 0 < d) : next_least (S.map fr) = .ok (fr ((0 - DTn (h + 1) (sqS (S ++ [0]) (h + 1))) / DTn h (sqS S h))) ∧ Sq 1900 ((0 - DTn (h + 1) (sqS (S ++ [0]) (h + 1))) / DTn h (sqS S h)) := by
  have any : List.any ((Ds S h).map fun d => !decide (0 < d)) id = false := by
    rw [List.any_eq_false]
    intro x hx
    obtain ⟨d, hd, rfl⟩ := List.mem_map.mp hx
    rw [decide_eq_true (pos d hd)]
    simp
  have dof := dof_S dS l9
  rw [show (S.length + 1) / 2 = h by omega] at dof
  have isl := isl_S dS hl l9
  have md : modM (S.length : Int) 2 = .ok ((S.length % 2 : Nat) : Int) := mod_two _
  have dh := Ds_last (S := S) h0
  have hpos : 0 < DTn h (sqS S h) := pos _ (by rw [dh]; simp)
  have c0 := corner_mt hl 0 dS
  obtain ⟨q1, q2, _⟩ := determinant_ok b00 (h + 1) 6 _ (by omega) (by omega) c0
  have sq0 := q2.sq b00 (by omega)
  obtain ⟨_, q3, _⟩ := determinant_ok b00 h 6 _ (by omega) (by omega) (sqS_mt 0 dS (by omega))
  have sqh := q3.sq b00 (by omega)
  generalize hD0 : DTn (h + 1) (sqS (S ++ [0]) (h + 1)) = D0 at *
  generalize hDh : DTn h (sqS S h) = Dh at *
  have nz : Dh ≠ 0 := fun z => by rw [z] at hpos; exact absurd hpos (by decide)
  have s00 : Sq (2 * (100 * (h + 1) + 1) + 1 + 1 + 1 + 1) (0 - D0) := sq_subB zero_sq sq0 (by omega)
  refine ⟨?_, sq_divB s00 sqh nz (by omega)⟩
  unfold next_least
  rw [ck_S dS (by omega) l9, bdo, List.length_map, md, bdo, cF (decide_eq_false (by omega)), dof, bdo, guard_ok (by rw [List.length_map, Ds_len]; omega), bdo, isl, bdo, any, cond_false, guard_ok (by rw [List.length_append, List.length_map]; show _ + 1 ≤ 100000; omega), bdo, List.length_map, Ds_len]
  have e : S.map fr ++ ((0, 1) : Int × Int) :: [] = (S ++ [0]).map fr := by rw [List.map_append, List.map_cons, fr_zero]; rfl
  have ms := minus_ok zero_sq sq0 (by omega)
  rw [fr_zero] at ms
  rw [e, show (h : Int) + 1 = ((h + 1 : Nat) : Int) by omega, square_ok (by rw [List.length_append, List.length_singleton]; omega) (by omega), bdo, q1, bdo, ms, bdo, dh, List.map_append]
  show (getM (_ ++ [fr Dh]) (-(1 : Int))).bd _ = _
  rw [getM_last, bdo, over_ok s00 sqh nz (by omega), bdo]
/-! ### k12 -/
theorem fil_none {α : Type} {f : α → Mm (Option α)} : ∀ l : List α, (∀ x ∈ l, f x = .ok none) → filMm f l = .ok []
  | [], _ => rfl
  | x :: l, h => by
    unfold filMm
    rw [h x (List.mem_cons_self ..), bdo, fil_none l fun y hy => h y (List.mem_cons_of_mem _ hy), bdo]
    rfl
theorem law_true (scr : List Int) (hscr : scr.length ≤ 63) : law scr = .ok true := by
  suffices h : Yes (law scr) (fun b => b = true) by
    obtain ⟨b, e, rfl⟩ := h
    exact e
  unfold law
  refine law_parts_ok.bd fun b1 hb1 => ?_
  obtain ⟨w, st⟩ := b1
  obtain ⟨⟨ok, l3⟩, _⟩ := hb1
  dsimp only at ok l3 ⊢
  refine .eq (law_weighting_okA ok) ?_
  have g := ok.good
  have lm := g.lm
  obtain ⟨n, hn, cn, few, n1⟩ : ∃ n : Nat, cond (!(decide (w.2 = []))) (Mm.ok (9 : Int)) (Mm.ok (w.1.length : Int)) = .ok (n : Int) ∧ (∀ k, k ≤ n → k ≤ 6 → Cnt w k) ∧ (n < 9 → w.2 = [] ∧ w.1.length = n) ∧ 1 ≤ n := by
    by_cases e : w.2 = []
    · refine ⟨w.1.length, by rw [decide_eq_true e]; rfl, fun k h1 h2 => ⟨h2, .inr h1⟩, fun _ => ⟨e, rfl⟩, ?_⟩
      rcases ok.ne with z | z
      · exact List.length_pos_iff.mpr z
      · exact absurd e z
    · exact ⟨9, by rw [decide_eq_false e]; rfl, fun k h1 h2 => ⟨h2, .inl e⟩, fun h => absurd h (by decide), by decide⟩
  refine .eq hn ?_
  have ps : ∀ k : Nat, k ≤ 9 → power_sums w (k : Int) = .ok ((PSl w k).map fr) := fun k hk => by
    rw [power_sums_ok g (by omega) (by omega), Int.toNat_natCast]
    unfold PSl rangeL
    rw [List.map_map, List.map_map]
    refine congrArg Mm.ok (List.map_congr_left fun i _ => ?_)
    show fr (PS w (0 + (i : Int)).toNat) = fr (PS w i)
    rw [show (0 + (i : Int)).toNat = i by omega]
  have dv : ∀ k, k ≤ 9 → ∀ c ∈ PSl w k, Dv 27720 87 c := fun k hk c hc => by
    obtain ⟨i, hi, rfl⟩ := List.mem_map.mp hc
    have := List.mem_range.mp hi
    exact ⟨_, PI_PS w (by omega), PI_lt g (by omega)⟩
  have p9 := ps 9 (Nat.le_refl _)
  refine .eq p9 ?_
  have hsq : ∀ m, m ≤ 5 → Sq 1010 (Hh w m) := fun m hm => by
    have := (determinant_ok b00 m 6 _ (by omega) (by omega) (sqS_mt (m := m) 0 (dv 9 (Nat.le_refl _)) (by rw [PSl_len]; omega))).2.1.sq b00 (by omega)
    rw [Hh_eq w (by omega)] at this
    exact this.up (by omega)
  have dts : determinants ((PSl w 9).map fr) = .ok ((List.range 5).map fun (i : Nat) => fr (Hh w (i + 1))) := by
    unfold determinants
    rw [ck_S (dv 9 (Nat.le_refl _)) (by rw [PSl_len]; decide) (by rw [PSl_len]; decide), bdo, dof_S (dv 9 (Nat.le_refl _)) (by rw [PSl_len]; decide), bdo, PSl_len]
    unfold Ds
    rw [List.map_map]
    refine congrArg Mm.ok (List.map_congr_left fun i hi => ?_)
    have := List.mem_range.mp hi
    show fr (DTn (i + 1) (sqS (PSl w 9) (i + 1))) = _
    rw [Hh_eq w (by omega)]
  refine .eq dts ?_
  have hpos : ∀ m, m ≤ n → m ≤ 6 → 0 < Hh w m := fun m h1 h2 => Hh_pos ok (cn m h1 h2)
  have hzero : ∀ m, n < m → m ≤ 6 → Hh w m = 0 := fun m h1 h2 => by
    obtain ⟨f1, f2⟩ := few (by omega)
    exact Hh_zero ok f1 (by omega) h2
  have dat : ∀ i : Nat, i < 5 → getM ((List.range 5).map fun (i : Nat) => fr (Hh w (i + 1))) (i : Int) = .ok (fr (Hh w (i + 1))) := fun i hi => getM_nat (range_at hi)
  refine .eq (rangeM_ok (n := 5) (by decide)) (.guard (by rw [rangeL_len]; decide) ?_)
  refine .eq (fil_none _ fun x hx => ?_) ?_
  · obtain ⟨i, hi, rfl⟩ := List.mem_map.mp hx
    have hi5 := List.mem_range.mp hi
    show (getM _ ((0 : Int) + (i : Int))).bd _ = _
    rw [Int.zero_add]
    rw [dat i hi5, bdo]
    by_cases q : i < n
    · have p := num_pos' (hpos (i + 1) (by omega) (by omega))
      rw [cF (c := !(decide ((decide ((fr (Hh w (i + 1))).1 > 0)) = (decide ((i : Int) < (n : Int)))))) (by rw [decide_eq_true (show (fr (Hh w (i + 1))).1 > 0 from p), decide_eq_true (show (i : Int) < (n : Int) by omega)]; rfl), cF (decide_eq_false (by omega)), bdo, bdo]
      rfl
    · have z := hzero (i + 1) (by omega) (by omega)
      rw [z, cF (c := !(decide ((decide ((fr (0 : Rat)).1 > 0)) = (decide ((i : Int) < (n : Int)))))) (by rw [decide_eq_false (show ¬ (i : Int) < (n : Int) by omega)]; rfl), cT (decide_eq_true (by omega))]
      rfl
  rw [cF (c := !(decide (([] : List Int) = []))) rfl]
  have r14 : rangeM2 (1 : Int) (5 : Int) = .ok (rangeL 1 4) := rfl
  refine .eq r14 ?_
  refine Yes.eq (a := Fl.go st) ?_ ?_
  · refine foldL_go (fun _ => st) rfl rfl fun k x hx => ?_
    have hk : k < 4 := by
      have := (List.getElem?_eq_some_iff.mp hx).1
      rw [rangeL_len] at this
      exact this
    have ex : x = ((k + 1 : Nat) : Int) := by
      unfold rangeL at hx
      rw [show ((5 : Int) - 1).toNat = 4 from rfl, range_at hk] at hx
      injection hx with hx
      omega
    subst ex
    have m2 : mulM (2 : Int) ((k + 1 : Nat) : Int) = .ok ((2 * (k + 1) : Nat) : Int) := by
      rw [mul_ok (a := 2) (b := 5) (by decide) (by show ((k + 1 : Nat) : Int).natAbs < 32; omega) (by decide)]
      congr 1
    have lS := PSl_len w (2 * (k + 1))
    have dS := dv (2 * (k + 1)) (by omega)
    rw [m2, bdo, ps _ (by omega), bdo]
    have dd : ∀ i, i < k + 1 → DTn (i + 1) (sqS (PSl w (2 * (k + 1))) (i + 1)) = Hh w (i + 1) := fun i hi => Hh_eq w (by omega)
    by_cases q : n < k + 1
    · have nn := next_none dS lS (by omega) (by omega) ⟨Hh w (k + 1), List.mem_map.mpr ⟨k, List.mem_range.mpr (by omega), dd k (by omega)⟩, by rw [hzero _ q (by omega)]; decide⟩
      rw [cT (decide_eq_true (by omega)), nn]
      rfl
    · obtain ⟨no, sno⟩ := next_ok dS lS (by omega) (by omega) fun d hd => by
        obtain ⟨i, hi, rfl⟩ := List.mem_map.mp hd
        have := List.mem_range.mp hi
        rw [dd i this]
        exact hpos _ (by omega) (by omega)
      have c := cn (k + 1) (by omega) (by omega)
      have hp := hpos (k + 1) (by omega) (by omega)
      have hd : DTn (k + 1) (sqS (PSl w (2 * (k + 1))) (k + 1)) = Hh w (k + 1) := rfl
      have cc := corner_PS (w := w) (k + 1) (PS w (2 * (k + 1)) - NN (atoms w) (PK (atoms w) (k + 1)))
      rw [corner0 ok c] at cc
      have ev : (0 - DTn (k + 1 + 1) (sqS (PSl w (2 * (k + 1)) ++ [0]) (k + 1 + 1))) / DTn (k + 1) (sqS (PSl w (2 * (k + 1))) (k + 1)) = PS w (2 * (k + 1)) - NN (atoms w) (PK (atoms w) (k + 1)) := by
        rw [hd]
        grind
      rw [ev] at no sno
      have sps : Sq 87 (PS w (2 * (k + 1))) := Dv.sq ⟨_, PI_PS w (by omega), PI_lt g (by omega)⟩ (by decide) (by decide)
      have nn := NN_nn (atoms_pos g) (PK (atoms w) (k + 1))
      have pw := power_sum_ok g (p := ((2 * (k + 1) : Nat) : Int)) (by omega) (by omega)
      rw [Int.toNat_natCast] at pw
      rw [cF (decide_eq_false (by omega)), no, bdo, bdo, pw, bdo, law_is_less_ok sps sno (by omega), bdo]
      have le : ¬ PS w (2 * (k + 1)) < PS w (2 * (k + 1)) - NN (atoms w) (PK (atoms w) (k + 1)) := by grind
      have eqs : decide (fr (PS w (2 * (k + 1)) - NN (atoms w) (PK (atoms w) (k + 1))) = fr (PS w (2 * (k + 1)))) = decide (((k + 1 : Nat) : Int) = (n : Int)) := by
        by_cases z : k + 1 = n
        · obtain ⟨f1, f2⟩ := few (by omega)
          have e := NN_end ok f1
          rw [f2, ← z] at e
          rw [decide_eq_true (show ((k + 1 : Nat) : Int) = (n : Int) by omega), e]
          exact decide_eq_true (by congr 1; grind)
        · have c2 := cn (k + 1 + 1) (by omega) (by omega)
          have nz := c2.nn ok (Nat.lt_succ_self (k + 1))
          rw [decide_eq_false (show ¬ ((k + 1 : Nat) : Int) = (n : Int) by omega)]
          exact decide_eq_false fun e => nz (by have := fr_inj e; grind)
      rw [decide_eq_false le, eqs, decide_eq_true (show decide (((k + 1 : Nat) : Int) = (n : Int)) = decide (((k + 1 : Nat) : Int) = (n : Int)) from rfl)]
      rfl
  rw [el_go]
  have mn : minI (n : Int) 5 = ((min n 5 : Nat) : Int) := by
    unfold minI
    split <;> omega
  obtain ⟨L, hL⟩ : ∃ L, min n 5 = L + 1 := ⟨min n 5 - 1, by omega⟩
  have L4 : L ≤ 4 := by omega
  have Ln : L + 1 ≤ n := by omega
  rw [mn, hL, show ((L + 1 : Nat) : Int) + 1 = ((L + 2 : Nat) : Int) by omega]
  have r2 : rangeM2 (2 : Int) ((L + 2 : Nat) : Int) = .ok (rangeL 2 L) := by
    unfold rangeM2
    rw [if_pos (by omega), show (((L + 2 : Nat) : Int) - 2).toNat = L by omega]
  refine .eq r2 ?_
  rw [show (((L + 2 : Nat) : Int) - 2).toNat = L by omega]
  refine .guard (by rw [rangeL_len]; omega) ?_
  have rt : mapMm (fun (x255 : Int) => (steps w x255).bd fun b274 => (getM b274 (-(1 : Int))).bd fun i285 => Mm.ok i285.2) (rangeL 2 L) = .ok ((List.range L).map fun (i : Nat) => fr (bK (atoms w) (i + 1))) := by
    have e : rangeL 2 L = (List.range L).map fun (i : Nat) => ((i + 2 : Nat) : Int) := by
      unfold rangeL
      exact List.map_congr_left fun i _ => by omega
    rw [e, mapMm_map]
    refine mapMm_eq _ fun i hi => ?_
    have := List.mem_range.mp hi
    rw [steps_ok ok (cn (i + 2) (by omega) (by omega)), bdo, List.range_succ, List.map_append]
    show (getM (_ ++ [(fr (aK (atoms w) (i + 1)), fr (bK (atoms w) (i + 1)))]) (-(1 : Int))).bd _ = _
    rw [getM_last, bdo]
  refine .eq rt ?_
  rw [List.length_map, List.length_range]
  refine .eq (rangeM_ok (by omega)) ?_
  rw [Int.toNat_natCast]
  refine Yes.eq (a := Fl.go st) ?_ (.ok rfl)
  refine foldL_go (fun _ => st) rfl rfl fun k x hx => ?_
  obtain ⟨rfl, hk⟩ := rng_at hx
  have bef : cond (decide ((k : Int) > 0)) ((getM ((List.range 5).map fun (i : Nat) => fr (Hh w (i + 1))) ((k : Int) - 1)).bd fun i340 => Mm.ok i340) (Mm.ok ((1 : Int), (1 : Int))) = .ok (fr (Hh w k)) := by
    cases k with
    | zero =>
      rw [Hh_0, fr_one]
      rfl
    | succ k =>
      rw [cT (decide_eq_true (by omega)), show ((k + 1 : Nat) : Int) - 1 = (k : Int) by omega, dat k (by omega), bdo]
  have bat : getM ((List.range L).map fun (i : Nat) => fr (bK (atoms w) (i + 1))) (k : Int) = .ok (fr (bK (atoms w) (k + 1))) := getM_nat (range_at hk)
  have c2 := cn (k + 2) (by omega) (by omega)
  have sb : Sq 2520 (bK (atoms w) (k + 1)) := bK_sq ok c2
  have s1 := hsq (k + 1) (by omega)
  have s2 := hsq (k + 2) (by omega)
  have s0 := hsq k (by omega)
  rw [bef, bdo, bat, bdo, dat k (by omega), bdo, bdo, law_mul_ok s1 s1 (by decide), bdo, law_mul_ok sb (sq_mul s1 s1 (Nat.le_refl _)) (by decide), bdo, show (k : Int) + 1 = ((k + 1 : Nat) : Int) by omega, dat (k + 1) (by omega), bdo, law_mul_ok s2 s0 (by decide), bdo]
  have eq : bK (atoms w) (k + 1) * (Hh w (k + 1) * Hh w (k + 1)) = Hh w (k + 1 + 1) * Hh w k := by
    have h1 := Hh_succ ok (cn (k + 1) (by omega) (by omega))
    have h2 := Hh_succ ok (cn k (by omega) (by omega))
    have nz := (cn (k + 1) (by omega) (by omega)).nn ok (Nat.lt_succ_self k)
    have eb : bK (atoms w) (k + 1) = NN (atoms w) (PK (atoms w) (k + 1)) / NN (atoms w) (PK (atoms w) k) := rfl
    rw [h1, h2, eb]
    grind
  rw [eq, cF (c := !(decide (fr (Hh w (k + 1 + 1) * Hh w k) = fr (Hh w (k + 1 + 1) * Hh w k)))) (by rw [decide_eq_true rfl]; rfl)]
end L

theorem PySem.Challenge.cw_fewreadings_k12_true_weightings_have_goo_holds : PySem.Challenge.rw_fewreadings_k12_true_weightings_have_goo.Holds := by
  exact L.of_law L.law_true
