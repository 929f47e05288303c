import PyProof.Rows.All
import Wide.All
import OpenK.AllK
import Wide.FinOn
import HandS.ForMost
import HandS.ForExc
import HandS.Walk
import HandS.Wide
import HandS.Evl
import HandS.Deep
import HandS.Gcd
import HandS.TupAny
import HandS.Strs
import HandS.Defaults
import KE.GoesMore
import HandS.IsInst
import HandS.Property
import HandS.SetFor
import HandS.Head0
import HandS.Head1
import HandS.Head2
import HandS.HeadEnd
import HandS.HeadHook1
import HandS.HeadHook2
import HandS.HeadNt
import HandS.Ends
import HandS.Head3
import HandS.Star
import HandS.Style
import HandS.Iter
import HandS.List
import KE.GoesZip
import KE.GoesEnum
import HandS.Zip
import HandS.Conv
import HandS.TupMul
import HandS.OwnEq
import HandS.More
import HandS.Codes
import HandS.ExcOwn
import HandS.ExcInit
import HandS.TryMany
import HandS.FStr
import HandS.Nested
import KE.KExcSuper
import HandS.ExcField
import PyProof.StrLaws
import PySem.Challenge.RW_fewreadings_k45_codes_rejected
set_option Elab.async false
set_option linter.all false
set_option maxRecDepth 100000
set_option maxHeartbeats 4000000
namespace Wk
open PySem L2 Evl

/-! ### outcomes -/
structure Er where
  c : Nat
  fs : List Int
inductive Mm (α : Type) where
  | ok (a : α)
  | ex (e : Er)
  | bad
def Mm.bd {α β : Type} (m : Mm α) (f : α → Mm β) : Mm β := match m with
  | .ok a => f a
  | .ex e => .ex e
  | .bad => .bad
def Out {α : Type} (m : Mm α) (p : α → Prop) (q : Er → Prop) : Prop := match m with
  | .ok a => p a
  | .ex e => q e
  | .bad => False
/-- what holds of an outcome -/
structure Post {α : Type} (m : Mm α) (p : α → Prop) (q : Er → Prop) : Prop where
  h : Out m p q
section
variable {α β : Type} {m : Mm α} {f : α → Mm β} {p : α → Prop} {r : β → Prop} {q : Er → Prop}
theorem post_bd (h : Post (m.bd f) r q) : Post m (fun a => Post (f a) r q) q := by
  cases m with
  | ok a => exact ⟨⟨h.h⟩⟩
  | ex e => exact ⟨h.h⟩
  | bad => exact ⟨h.h⟩
theorem Post.mono {p' : α → Prop} {q' : Er → Prop} (h : Post m p q) (hp : ∀ a, p a → p' a) (hq : ∀ e, q e → q' e) : Post m p' q' := by
  cases m with
  | ok a => exact ⟨hp a h.h⟩
  | ex e => exact ⟨hq e h.h⟩
  | bad => exact ⟨h.h⟩
theorem Post.of_ok {a : α} (e : m = .ok a) (h : p a) : Post m p q := by
  rw [e]; exact ⟨h⟩
theorem Post.elim {C : Prop} (h : Post (Mm.bad : Mm α) p q) : C := h.h.elim
theorem post_ok {a : α} (h : Post (.ok a) p q) : p a := h.h
end
@[simp] theorem bd_ok {α β : Type} (a : α) (f : α → Mm β) : (Mm.ok a).bd f = f a := rfl
@[simp] theorem bd_ex {α β : Type} (e : Er) (f : α → Mm β) : (Mm.ex e : Mm α).bd f = .ex e := rfl
@[simp] theorem bd_bad {α β : Type} (f : α → Mm β) : (Mm.bad : Mm α).bd f = .bad := rfl
def guardM (c : Prop) [Decidable c] : Mm Unit := if c then .ok () else .bad
instance {i j : Int} : Decidable (CMulW i j) := by unfold CMulW; exact inferInstance
instance {i j : Int} : Decidable (CDivW i j) := by unfold CDivW; exact inferInstance
def CDv (_ j : Int) : Prop := j ≠ 0 ∧ j.natAbs.log2 < 9000
instance {i j : Int} : Decidable (CDv i j) := by unfold CDv; exact inferInstance
def mulM (i j : Int) : Mm Int := if CMulW i j then .ok (i * j) else .bad
def divM (i j : Int) : Mm Int := if CDv i j then .ok (i.fdiv j) else .bad
def modM (i j : Int) : Mm Int := if j ≠ 0 then .ok (i.fmod j) else .bad
def getM {α : Type} (xs : List α) (i : Int) : Mm α := match atI xs i with
  | some a => .ok a
  | none => .bad
section
variable {β : Type} {f : Int → Mm β} {r : β → Prop} {q : Er → Prop} {i j : Int}
theorem post_mul (h : Post ((mulM i j).bd f) r q) : ∃ m, CMulW i j ∧ i * j = m ∧ Post (f m) r q := by
  unfold mulM at h
  split at h
  · exact ⟨_, ‹_›, rfl, ⟨h.h⟩⟩
  · exact h.h.elim
theorem post_div (h : Post ((divM i j).bd f) r q) : ∃ m, CDv i j ∧ i.fdiv j = m ∧ Post (f m) r q := by
  unfold divM at h
  split at h
  · exact ⟨_, ‹_›, rfl, ⟨h.h⟩⟩
  · exact h.h.elim
theorem post_mod (h : Post ((modM i j).bd f) r q) : ∃ m, j ≠ 0 ∧ i.fmod j = m ∧ Post (f m) r q := by
  unfold modM at h
  split at h
  · exact ⟨_, ‹_›, rfl, ⟨h.h⟩⟩
  · exact h.h.elim
theorem post_get {α : Type} {xs : List α} {f : α → Mm β} (h : Post ((getM xs i).bd f) r q) : ∃ a, atI xs i = some a ∧ Post (f a) r q := by
  unfold getM at h
  split at h
  · exact ⟨_, ‹_›, ⟨h.h⟩⟩
  · exact h.h.elim
theorem post_guard {c : Prop} [Decidable c] {f : Unit → Mm β} (h : Post ((guardM c).bd f) r q) : c ∧ Post (f ()) r q := by
  unfold guardM at h
  split at h
  · exact ⟨‹_›, ⟨h.h⟩⟩
  · exact h.h.elim
end
section
variable {X : Cx}
theorem op_divM : OpR X (binaryOp .FloorDiv) (fun x y H Q => ∃ i j m, x = .int i ∧ y = .int j ∧ CDv i j ∧ i.fdiv j = m ∧ Q (.int m) H) := by
  intro pins s σ H x y v u Q I rx ry h
  obtain ⟨i, j, m, rfl, rfl, c, rfl, q⟩ := h
  exact (opI (C := CDv) (g := fun i j => i.fdiv j) fun i j _ _ _ _ _ hc q => PyProof.Rows.floordiv_int hc.1 q (.inl (PyProof.noPylong_of_log2 hc.2))) pins s σ H _ _ v u Q I rx ry ⟨i, j, rfl, rfl, c, q⟩
theorem op_mulM : OpR X (binaryOp .Mult) (fun x y H Q => ∃ i j m, x = .int i ∧ y = .int j ∧ CMulW i j ∧ i * j = m ∧ Q (.int m) H) := by
  intro pins s σ H x y v u Q I rx ry h
  obtain ⟨i, j, m, rfl, rfl, c, rfl, q⟩ := h
  exact op_mulW pins s σ H _ _ v u Q I rx ry ⟨i, j, rfl, rfl, c, q⟩
theorem op_modM : OpR X (binaryOp .Mod) (fun x y H Q => ∃ i j m, x = .int i ∧ y = .int j ∧ j ≠ 0 ∧ i.fmod j = m ∧ Q (.int m) H) := by
  intro pins s σ H x y v u Q I rx ry h
  obtain ⟨i, j, m, rfl, rfl, c, rfl, q⟩ := h
  exact op_modN pins s σ H _ _ v u Q I rx ry ⟨i, j, rfl, rfl, c, q⟩
theorem pe_gint {x : Str} {i : Int} {pos : Pos} (h : ∃ t, X.mg x = some (.int i t)) (hg : Gl X x := by rfl) (hd : (x == ("__debug__" : Str)) = false := by decide) : PE X (.Name x pos) (tC (.int i)) := by
  obtain ⟨t, h⟩ := h
  exact pe_glob hg h ⟨t, rfl⟩ hd
theorem pe_gref {x : Str} {a : Addr} {pos : Pos} (h : X.mg x = some (.ref a)) (hg : Gl X x := by rfl) (hd : (x == ("__debug__" : Str)) = false := by decide) : PE X (.Name x pos) (tC (.ref a)) := pe_glob hg h rfl hd
end

/-! ### heaps: F what is fixed, H all -/
structure Gm (M : List Addr) (F H F' H' : Hp) : Prop where
  f : Ex F F'
  s : Ex F' H'
  h : ∀ a o, a ∉ M → H a = some o → H' a = some o
  n : ∀ a o, H a = some o → F a = none → F' a = none
  m : ∀ a o, H a = some o → ∃ o', H' a = some o'
section
variable {M : List Addr} {F H F1 H1 F2 H2 : Hp}
theorem Gm.refl (e : Ex F H) : Gm M F H F H := ⟨Ex.refl _, e, fun _ _ _ h => h, fun _ _ _ h => h, fun _ o h => ⟨o, h⟩⟩
theorem Gm.trans (a : Gm M F H F1 H1) (b : Gm M F1 H1 F2 H2) : Gm M F H F2 H2 :=
  ⟨a.f.trans b.f, b.s, fun x o hx h => b.h x o hx (a.h x o hx h), fun x o h hf => by
    obtain ⟨o', h'⟩ := a.m x o h
    exact b.n x o' h' (a.n x o h hf), fun x o h => by
    obtain ⟨o', h'⟩ := a.m x o h
    exact b.m x o' h'⟩
theorem Gm.up (a : Gm [] F H F1 H1) : Gm M F H F1 H1 := ⟨a.f, a.s, fun x o _ h => a.h x o (by simp) h, a.n, a.m⟩
/-- an owned object of the caller's that the callee leaves -/
theorem Gm.own (a : Gm M F H F1 H1) {p : Addr} {o : HO} (hp : p ∉ M) (h : H p = some o) (f : F p = none) : H1 p = some o ∧ F1 p = none := ⟨a.h p o hp h, a.n p o h f⟩
theorem Gm.fresh (a : Gm M F H F1 H1) {p : Addr} (h : H1 p = none) : H p = none := by
  cases e : H p with
  | none => rfl
  | some o =>
    obtain ⟨o', h'⟩ := a.m p o e
    rw [h] at h'
    cases h'
/-- a new fixed object -/
theorem Gm.new (e : Ex F H) {p : Addr} {o : HO} (h : H p = none) : Gm M F H (upd F p o) (upd H p o) := by
  have hf : F p = none := by
    cases q : F p with
    | none => rfl
    | some u => rw [e p u q] at h; cases h
  refine ⟨Ex.new hf, fun a u ha => ?_, fun a u _ ha => ?_, fun a u ha hn => ?_, fun a u ha => ?_⟩
  · by_cases q : a = p
    · subst q; rw [upd_same] at ha ⊢; exact ha
    · rw [upd_ne q] at ha ⊢; exact e a u ha
  · rw [upd_ne (ne_of_none ha h)]; exact ha
  · rw [upd_ne (ne_of_none ha h)]; exact hn
  · exact ⟨u, by rw [upd_ne (ne_of_none ha h)]; exact ha⟩
/-- a new object that may change -/
theorem Gm.newM (e : Ex F H) {p : Addr} {o : HO} (h : H p = none) : Gm M F H F (upd H p o) := by
  refine ⟨Ex.refl _, fun a u ha => ?_, fun a u _ ha => ?_, fun a u ha hn => hn, fun a u ha => ?_⟩
  · rw [upd_ne (ne_of_none (e a u ha) h)]; exact e a u ha
  · rw [upd_ne (ne_of_none ha h)]; exact ha
  · exact ⟨u, by rw [upd_ne (ne_of_none ha h)]; exact ha⟩
/-- an own object changes -/
theorem Gm.put (e : Ex F H) {p : Addr} {o u : HO} (h : H p = some u) (hf : F p = none) : Gm (p :: M) F H F (upd H p o) := by
  refine ⟨Ex.refl _, fun a u ha => ?_, fun a u hM ha => ?_, fun a u ha hn => hn, fun a u ha => ?_⟩
  · have q : a ≠ p := fun q => by rw [q, hf] at ha; cases ha
    rw [upd_ne q]; exact e a u ha
  · have q : a ≠ p := fun q => hM (by rw [q]; simp)
    rw [upd_ne q]; exact ha
  · by_cases q : a = p
    · subst q; exact ⟨o, upd_same⟩
    · exact ⟨u, by rw [upd_ne q]; exact ha⟩
/-- a change of an object that is younger than F0 H0 -/
theorem Gm.putYoung {F0 H0 : Hp} (g : Gm M F0 H0 F H) {p : Addr} {o u : HO} (h : H p = some u) (hf : F p = none) (h0 : H0 p = none) : Gm M F0 H0 F (upd H p o) := by
  refine ⟨g.f, fun a u ha => ?_, fun a u hM ha => ?_, g.n, fun a u ha => ?_⟩
  · have q : a ≠ p := fun q => by rw [q, hf] at ha; cases ha
    rw [upd_ne q]; exact g.s a u ha
  · have q : a ≠ p := fun q => by rw [q, h0] at ha; cases ha
    rw [upd_ne q]; exact g.h a u hM ha
  · by_cases q : a = p
    · subst q; exact ⟨o, upd_same⟩
    · obtain ⟨o', h'⟩ := g.m a u ha
      exact ⟨o', by rw [upd_ne q]; exact h'⟩
/-- an own young object is fixed -/
theorem Gm.fix {F0 H0 : Hp} (g : Gm M F0 H0 F H) {p : Addr} {o : HO} (h : H p = some o) (hf : F p = none) (h0 : H0 p = none) : Gm M F0 H0 (upd F p o) H := by
  refine ⟨fun a u ha => ?_, fun a u ha => ?_, g.h, fun a u ha hn => ?_, g.m⟩
  · have q : a ≠ p := fun q => by
      have z := g.f a u ha
      rw [q, hf] at z; cases z
    rw [upd_ne q]; exact g.f a u ha
  · by_cases q : a = p
    · subst q; rw [upd_same] at ha; rw [h]; exact ha
    · rw [upd_ne q] at ha; exact g.s a u ha
  · have q : a ≠ p := fun q => by rw [q, h0] at ha; cases ha
    rw [upd_ne q]; exact g.n a u ha hn
end

/-- what follows an answer -/
def Ret (M : List Addr) (F H : Hp) (S : Hp → Hp → V → Prop) (Q : VK) : Prop := ∀ v F' H', Gm M F H F' H' → S F' H' v → Q v H'
theorem Ret.then_ {M : List Addr} {F H F1 H1 : Hp} {S : Hp → Hp → V → Prop} {Q : VK} (k : Ret M F H S Q) (g : Gm M F H F1 H1) : Ret M F1 H1 S Q := fun v F' H' g' s => k v F' H' (g.trans g') s

/-! ### data -/
mutual
inductive Dq (K : PySem.W.Frag) (H : Hp) : V → PyData → Prop
  | non : Dq K H .non .none
  | bl (b : Bool) : Dq K H (.bl b) (.bool b)
  | int (i : Int) : Dq K H (.int i) (.int i)
  | str (x : Str) : Dq K H (.str x) (.str x)
  | lst {a : Addr} {xs : List V} {ds : List PyData} : H a = some (.lst xs) → DqAll K H xs ds → Dq K H (.ref a) (.list ds)
  | tup {a : Addr} {xs : List V} {ds : List PyData} : SqT K H a xs → DqAll K H xs ds → Dq K H (.ref a) (.tuple ds)
inductive DqAll (K : PySem.W.Frag) (H : Hp) : List V → List PyData → Prop
  | nil : DqAll K H [] []
  | cons {v : V} {vs : List V} {d : PyData} {ds : List PyData} : Dq K H v d → DqAll K H vs ds → DqAll K H (v :: vs) (d :: ds)
end
section
variable {K : PySem.W.Frag} {F F' H H' : Hp}
mutual
theorem dp_mono (e : Ex F F') : ∀ (d : PyData) (v : V), Dq K F v d → Dq K F' v d
  | .none, _, .non => .non
  | .bool _, _, .bl b => .bl b
  | .int _, _, .int i => .int i
  | .str _, _, .str x => .str x
  | .list ds, _, .lst h a => .lst (e _ _ h) (dpAll_mono e ds _ a)
  | .tuple ds, _, .tup h a => .tup (ex_t e h) (dpAll_mono e ds _ a)
  | .dict _, _, h => by cases h
theorem dpAll_mono (e : Ex F F') : ∀ (ds : List PyData) (vs : List V), DqAll K F vs ds → DqAll K F' vs ds
  | [], _, .nil => .nil
  | d :: ds, _, .cons h a => .cons (dp_mono e d _ h) (dpAll_mono e ds _ a)
end
mutual
theorem dq_dp : ∀ (d : PyData) (v : V), Dq K F v d → Dp K F v d
  | .none, _, .non => .non
  | .bool _, _, .bl b => .bl b
  | .int _, _, .int i => .int i
  | .str _, _, .str x => .str x
  | .list ds, _, .lst h a => .lst (sq_of h) (dqAll_dp ds _ a)
  | .tuple ds, _, .tup h a => .tup h (dqAll_dp ds _ a)
  | .dict _, _, h => by cases h
theorem dqAll_dp : ∀ (ds : List PyData) (vs : List V), DqAll K F vs ds → DpAll K F vs ds
  | [], _, .nil => .nil
  | d :: ds, _, .cons h a => .cons (dq_dp d _ h) (dqAll_dp ds _ a)
end
theorem _root_.Wk.Dq.dp {v : V} {d : PyData} (h : Dq K F v d) (e : Ex F F') : Dp K F' v d := dq_dp d v (dp_mono e d v h)
theorem _root_.Wk.Dq.up {v : V} {d : PyData} (h : Dq K F v d) (e : Ex F F') : Dq K F' v d := dp_mono e d v h
theorem _root_.Wk.DqAll.up {v : List V} {d : List PyData} (h : DqAll K F v d) (e : Ex F F') : DqAll K F' v d := dpAll_mono e d v h
theorem _root_.Wk.DqAll.len {vs : List V} {ds : List PyData} (h : DqAll K F vs ds) : vs.length = ds.length := by
  induction ds generalizing vs with
  | nil => cases h; rfl
  | cons d ds ih => cases h with | cons h a => simp [ih a]
theorem _root_.Wk.DqAll.get {vs : List V} {ds : List PyData} (h : DqAll K F vs ds) : ∀ {i : Nat} {d : PyData}, ds[i]? = some d → ∃ v, vs[i]? = some v ∧ Dq K F v d := by
  induction ds generalizing vs with
  | nil => intro i d e; simp at e
  | cons d ds ih =>
    cases h with
    | cons h a =>
      intro i x e
      cases i with
      | zero => simp at e; subst e; exact ⟨_, rfl, h⟩
      | succ i => simpa using ih a (by simpa using e)
theorem _root_.Wk.DqAll.getV {vs : List V} {ds : List PyData} (h : DqAll K F vs ds) : ∀ {i : Nat} {v : V}, vs[i]? = some v → ∃ d, ds[i]? = some d ∧ Dq K F v d := by
  induction ds generalizing vs with
  | nil => cases h; intro i d e; simp at e
  | cons d ds ih =>
    cases h with
    | cons h a =>
      intro i x e
      cases i with
      | zero => simp at e; subst e; exact ⟨_, rfl, h⟩
      | succ i => simpa using ih a (by simpa using e)
theorem _root_.Wk.DqAll.app {vs ws : List V} {ds es : List PyData} (h : DqAll K F vs ds) (h2 : DqAll K F ws es) : DqAll K F (vs ++ ws) (ds ++ es) := by
  induction ds generalizing vs with
  | nil => cases h; exact h2
  | cons d ds ih => cases h with | cons h a => exact .cons h (ih a)
theorem _root_.Wk.DqAll.take {vs : List V} {ds : List PyData} (h : DqAll K F vs ds) : ∀ n, DqAll K F (vs.take n) (ds.take n) := by
  induction ds generalizing vs with
  | nil => cases h; intro n; simp; exact .nil
  | cons d ds ih =>
    cases h with
    | cons h a =>
      intro n
      cases n with
      | zero => exact .nil
      | succ n => exact .cons h (ih a n)
theorem _root_.Wk.DqAll.drop {vs : List V} {ds : List PyData} (h : DqAll K F vs ds) : ∀ n, DqAll K F (vs.drop n) (ds.drop n) := by
  induction ds generalizing vs with
  | nil => cases h; intro n; simp; exact .nil
  | cons d ds ih =>
    cases h with
    | cons h a =>
      intro n
      cases n with
      | zero => exact .cons h a
      | succ n => exact ih a n
theorem dp_int {v : V} {i : Int} (h : Dq K F v (.int i)) : v = .int i := by cases h; rfl
theorem dp_bl {v : V} {b : Bool} (h : Dq K F v (.bool b)) : v = .bl b := by cases h; rfl
theorem dp_non {v : V} (h : Dq K F v .none) : v = .non := by cases h; rfl
theorem dp_str {v : V} {x : Str} (h : Dq K F v (.str x)) : v = .str x := by cases h; rfl
theorem dp_lst {v : V} {ds : List PyData} (h : Dq K F v (.list ds)) : ∃ p xs, v = .ref p ∧ F p = some (.lst xs) ∧ DqAll K F xs ds := by
  cases h with | lst h a => exact ⟨_, _, rfl, h, a⟩
theorem dp_tup {v : V} {ds : List PyData} (h : Dq K F v (.tuple ds)) : ∃ p xs, v = .ref p ∧ SqT K F p xs ∧ DqAll K F xs ds := by
  cases h with | tup h a => exact ⟨_, _, rfl, h, a⟩
theorem dp_tup2 {v : V} {d e : PyData} (h : Dq K F v (.tuple [d, e])) : ∃ p x y, v = .ref p ∧ SqT K F p [x, y] ∧ Dq K F x d ∧ Dq K F y e := by
  obtain ⟨p, xs, rfl, hs, a⟩ := dp_tup h
  cases a with | cons h1 a => cases a with | cons h2 a => cases a; exact ⟨p, _, _, rfl, hs, h1, h2⟩
theorem dp_tup3 {v : V} {d e f : PyData} (h : Dq K F v (.tuple [d, e, f])) : ∃ p x y z, v = .ref p ∧ SqT K F p [x, y, z] ∧ Dq K F x d ∧ Dq K F y e ∧ Dq K F z f := by
  obtain ⟨p, xs, rfl, hs, a⟩ := dp_tup h
  cases a with | cons h1 a => cases a with | cons h2 a => cases a with | cons h3 a => cases a; exact ⟨p, _, _, _, rfl, hs, h1, h2, h3⟩
end

/-! ### new tuples, new lists -/
section
variable {K : PySem.W.Frag} {M : List Addr} {F H : Hp} {Q : VK} {xs : List V} {ds : List PyData}
theorem new_tup (e : Ex F H) (a : DqAll K F xs ds) (hl : xs.length ≤ 100000) (k : Ret M F H (fun F' _ v => Dq K F' v (.tuple ds)) Q) : xs.length ≤ sizeLine ∧ ∀ p, H p = none → Q (.ref p) (upd H p (.tup xs)) :=
  ⟨sz_of hl, fun p hp => by
    have g : Gm M F H (upd F p (.tup xs)) (upd H p (.tup xs)) := Gm.new e hp
    exact k _ _ _ g (.tup (st_of upd_same) (a.up g.f))⟩
theorem new_lst (e : Ex F H) (a : DqAll K F xs ds) (hl : xs.length ≤ 100000) (k : Ret M F H (fun F' _ v => Dq K F' v (.list ds)) Q) : xs.length ≤ sizeLine ∧ ∀ p, H p = none → Q (.ref p) (upd H p (.lst xs)) :=
  ⟨sz_of hl, fun p hp => by
    have g : Gm M F H (upd F p (.lst xs)) (upd H p (.lst xs)) := Gm.new e hp
    exact k _ _ _ g (.lst upd_same (a.up g.f))⟩
end

/-! ### encoders -/
def eN (_ : Unit) : PyData := .none
def e2 {α β : Type} (f : α → PyData) (g : β → PyData) (p : α × β) : PyData := .tuple [f p.1, g p.2]
def e1 {α : Type} (f : α → PyData) (p : α) : PyData := .tuple [f p]
def e3 {α β γ : Type} (f : α → PyData) (g : β → PyData) (h : γ → PyData) (p : α × β × γ) : PyData := .tuple [f p.1, g p.2.1, h p.2.2]
def eL {α : Type} (f : α → PyData) (l : List α) : PyData := .list (l.map f)
def eV {α : Type} (f : α → PyData) (l : List α) : PyData := .tuple (l.map f)
def eO {α : Type} (f : α → PyData) (o : Option α) : PyData := match o with
  | none => .none
  | some a => f a
/-- data of a depth at most n whose equality is that of the values -/
structure Sh {α : Type} [DecidableEq α] (f : α → PyData) (n : Nat) : Prop where
  lay : ∀ a, (f a).canLay0 = true
  dep : ∀ a, (f a).depth ≤ n
  eq : ∀ a b, PyData.eqv (f a) (f b) = decide (a = b)
section
variable {α β γ : Type} [DecidableEq α] [DecidableEq β] [DecidableEq γ] {f : α → PyData} {g : β → PyData} {h : γ → PyData} {n m k : Nat}
theorem Sh.shaped (s : Sh f n) (hn : n ≤ 64 := by decide) (a : α) : SeqAt.shaped (f a) = true := by
  unfold SeqAt.shaped
  rw [s.lay a, Bool.true_and]
  exact decide_eq_true (Nat.le_trans (s.dep a) hn)
theorem sh_int : Sh PyData.int 0 := ⟨fun _ => by simp [PyData.canLay0], fun _ => by simp [PyData.depth], fun a b => by simp only [PyData.eqv]; exact Bool.eq_iff_iff.mpr (by simp)⟩
theorem sh_bool : Sh PyData.bool 0 := ⟨fun _ => by simp [PyData.canLay0], fun _ => by simp [PyData.depth], fun a b => by simp only [PyData.eqv]; exact Bool.eq_iff_iff.mpr (by simp)⟩
theorem sh_n : Sh eN 0 := ⟨fun _ => by simp [eN, PyData.canLay0], fun _ => by simp [eN, PyData.depth], fun a b => by simp [eN, PyData.eqv]⟩
theorem sh_e2 (a : Sh f n) (b : Sh g m) : Sh (e2 f g) (max n m + 1) := ⟨fun x => by simp [e2, PyData.canLay0, PyData.canLayAll0, a.lay, b.lay], fun x => by
    have := a.dep x.1
    have := b.dep x.2
    simp [e2, PyData.depth, PyData.depthAll]
    omega, fun x y => by
    obtain ⟨x1, x2⟩ := x
    obtain ⟨y1, y2⟩ := y
    simp only [e2, PyData.eqv, PyData.eqvAll, a.eq, b.eq]
    exact Bool.eq_iff_iff.mpr (by simp)⟩
theorem sh_e3 (a : Sh f n) (b : Sh g m) (c : Sh h k) : Sh (e3 f g h) (max (max n m) k + 1) := ⟨fun x => by simp [e3, PyData.canLay0, PyData.canLayAll0, a.lay, b.lay, c.lay], fun x => by
    have := a.dep x.1
    have := b.dep x.2.1
    have := c.dep x.2.2
    simp [e3, PyData.depth, PyData.depthAll]
    omega, fun x y => by
    obtain ⟨x1, x2, x3⟩ := x
    obtain ⟨y1, y2, y3⟩ := y
    simp only [e3, PyData.eqv, PyData.eqvAll, a.eq, b.eq, c.eq]
    exact Bool.eq_iff_iff.mpr (by simp)⟩
theorem lay_map (a : Sh f n) : ∀ l : List α, PyData.canLayAll0 (l.map f) = true
  | [] => by simp [PyData.canLayAll0]
  | x :: l => by simp [PyData.canLayAll0, a.lay, lay_map a l]
theorem dep_map (a : Sh f n) : ∀ l : List α, PyData.depthAll (l.map f) ≤ n
  | [] => by simp [PyData.depthAll]
  | x :: l => by
    have := a.dep x
    have := dep_map a l
    simp [PyData.depthAll]
    omega
theorem eqv_map (a : Sh f n) : ∀ l r : List α, PyData.eqvAll (l.map f) (r.map f) = decide (l = r)
  | [], [] => by simp [PyData.eqvAll]
  | [], _ :: _ => by simp [PyData.eqvAll]
  | _ :: _, [] => by simp [PyData.eqvAll]
  | x :: l, y :: r => by
    simp only [List.map_cons, PyData.eqvAll, a.eq, eqv_map a l r]
    exact Bool.eq_iff_iff.mpr (by simp)
theorem sh_eL (a : Sh f n) : Sh (eL f) (n + 1) := ⟨fun l => by simp [eL, PyData.canLay0, lay_map a l], fun l => by
    have := dep_map a l
    simp [eL, PyData.depth]
    omega, fun l r => by simp only [eL, PyData.eqv]; exact eqv_map a l r⟩
theorem sh_eV (a : Sh f n) : Sh (eV f) (n + 1) := ⟨fun l => by simp [eV, PyData.canLay0, lay_map a l], fun l => by
    have := dep_map a l
    simp [eV, PyData.depth]
    omega, fun l r => by simp only [eV, PyData.eqv]; exact eqv_map a l r⟩
end
/-! == and != of such data -/
section
variable {X : Cx} {α : Type} [DecidableEq α] {f : α → PyData} {n : Nat}
def rEqM (K : PySem.W.Frag) (f : α → PyData) : R2 := fun x y H Q => ∃ a b : α, Dp K H x (f a) ∧ Dp K H y (f b) ∧ Q (.bl (decide (a = b))) H
def rNeM (K : PySem.W.Frag) (f : α → PyData) : R2 := fun x y H Q => ∃ a b : α, Dp K H x (f a) ∧ Dp K H y (f b) ∧ Q (.bl (!decide (a = b))) H
theorem op_eqM (s : Sh f n) (hu : X.A.units + 64 < cLine) (hn : n ≤ 64 := by decide) : OpR X (compareOp .Eq) (rEqM X.K f) := by
  intro pins st σ H x y v u Q I rx ry h
  obtain ⟨a, b, ha, hb, q⟩ := h
  exact op_eqD hu pins st σ H x y v u Q I rx ry ⟨f a, f b, ha, hb, s.shaped hn a, s.shaped hn b, by rw [s.eq]; exact q⟩
theorem op_neM (s : Sh f n) (hu : X.A.units + 64 < cLine) (hn : n ≤ 64 := by decide) : OpR X (compareOp .NotEq) (rNeM X.K f) := by
  intro pins st σ H x y v u Q I rx ry h
  obtain ⟨a, b, ha, hb, q⟩ := h
  exact op_neD hu pins st σ H x y v u Q I rx ry ⟨f a, f b, ha, hb, s.shaped hn a, s.shaped hn b, by rw [s.eq]; exact q⟩
end
end Wk

set_option Elab.async false
set_option linter.all false
set_option maxRecDepth 100000
set_option maxHeartbeats 4000000
namespace Wk
open PySem L2 Evl

/-! ### defs that are known -/
structure Kn (P : Program) (w : World) (K : PySem.W.Frag) (mg : Str → Option Value) (base : Heap) (x : Str) (k : Nat) (ps : List Str) (sp : Sp) : Prop where
  ex : ∃ f fd, FnOk P w K mg base CX0 k f fd ps sp ∧ mg x = some (.ref f) ∧ PySem.W.keepIn K (.ref f) = true ∧ Binds K fd ps []
section
variable {X : Cx} {x : Str} {k : Nat} {ps : List Str} {sp : Sp} {p pos : Pos} {e : Expr} {es : List Expr} {t : TA}
theorem pe_kn (G : Kn X.prog X.w X.K X.mg X.base x k ps sp) (hr : Room k X.A) (ha : PA X (e :: es) t) (hg : Gl X x := by rfl) (hdb : (x == ("__debug__" : Str)) = false := by decide)
    (he : starEach (e :: es) X.env = (false, eval e X.env) :: starEach es X.env := by rfl) (hpl : (backTo pos (starEach es X.env)).any (·.1) = false := by rfl) : PE X (.Call (.Name x p) (e :: es) [] pos) (tCall sp [] E0 t) := by
  obtain ⟨f, fd, F, hm, hk, hb⟩ := G.ex
  exact pe_call F hr hg hm hk hb .nil pass0 ha hdb he hpl
theorem pe_kn0 (G : Kn X.prog X.w X.K X.mg X.base x k ps sp) (hr : Room k X.A) (hg : Gl X x := by rfl) (hdb : (x == ("__debug__" : Str)) = false := by decide) : PE X (.Call (.Name x p) [] [] pos) (tCall sp [] E0 tNil) := by
  obtain ⟨f, fd, F, hm, hk, hb⟩ := G.ex
  exact pe_call0 F hr hg hm hk hb .nil pass0 hdb
end

/-! ### the row of draws -/
structure Rw where
  pos : Int
  seed : Int
  left : Int
/-- the row at ra: the script at sc, ints n -/
def RowAt (K : PySem.W.Frag) (sc ra : Addr) (scr : List Int) (F H : Hp) (st : Rw) : Prop :=
  H ra = some (.lst [.ref sc, .int st.pos, .int st.seed, .int st.left]) ∧ F ra = none ∧ SqL K F sc (scr.map V.int)
theorem RowAt.keep {K : PySem.W.Frag} {sc ra : Addr} {scr : List Int} {F H F' H' : Hp} {st : Rw} (w : RowAt K sc ra scr F H st) (g : Gm [] F H F' H') : RowAt K sc ra scr F' H' st :=
  ⟨(g.own (by simp) w.1 w.2.1).1, (g.own (by simp) w.1 w.2.1).2, ex_l g.f w.2.2⟩

/-! ### loops -/
inductive Fl (R S : Type) where
  | go (s : S)
  | brk (s : S)
  | ret (r : R)
def foldM {α S : Type} (f : S → α → Mm S) : S → List α → Mm S
  | s, [] => .ok s
  | s, x :: xs => (f s x).bd fun s' => foldM f s' xs
/-- a loop that may be left -/
def foldL {α R S : Type} (f : S → α → Mm (Fl R S)) : S → List α → Mm (Fl R S)
  | s, [] => .ok (.go s)
  | s, x :: xs => (f s x).bd fun o => match o with
    | .go s' => foldL f s' xs
    | .brk s' => .ok (.go s')
    | .ret r => .ok (.ret r)
def Fl.el {R S β : Type} (o : Fl R S) (go : S → Mm β) (ret : R → Mm β) : Mm β := match o with
  | .go s => go s
  | .brk s => go s
  | .ret r => ret r
def foldW {S : Type} (c : S → Mm Bool) (f : S → Mm S) : Nat → S → Mm S
  | 0, _ => .bad
  | n + 1, s => (c s).bd fun b => match b with
    | true => (f s).bd fun s' => foldW c f n s'
    | false => .ok s
theorem post_assoc {α β γ : Type} {m : Mm α} {f : α → Mm β} {g : β → Mm γ} {p : γ → Prop} {q : Er → Prop} (h : Post ((m.bd f).bd g) p q) : Post (m.bd fun a => (f a).bd g) p q := by
  cases m <;> exact ⟨h.h⟩
section
variable {K : PySem.W.Frag} {M : List Addr} {F H : Hp} {σ : L2.St} {D : Ends} {g : TG} {tb : TS} {α β S : Type} {xs : List V} {l : List α} {step : S → α → Mm S} {rest : S → Mm β} {ok : β → Prop} {ex : Er → Prop} {s0 : S} {J : It} {n : Nat} {G : Hp → Prop} {Y : Nat → Hp → V → Hp → Prop}
/-- a for over anything that walks, no way out but by its end; Z: what a turn finds of the i-th item -/
theorem for_mir (w : Walk J n G Y) (I : S → Hp → Hp → L2.St → Prop) (k : Post ((foldM step s0 l).bd rest) ok ex) (e : Ex F H) (h0 : I s0 F H σ) (hn : l.length = n) (hG : ∀ F' H', Gm M F H F' H' → G H')
    (hb : ∀ i s x v σ' F' H' H'' , Gm M F H F' H' → I s F' H' σ' → l[i]? = some x → Y i H' v H'' → ∀ nx : L2.St → Hp → Prop,
      Post (step s x) (fun s' => ∀ σ2 F2 H2, Gm M F H F2 H2 → I s' F2 H2 σ2 → nx σ2 H2) ex → g v σ' H'' fun σ2 H2 => tb { D with nx := nx, ct := nx, bk := D.nx } σ2 H2)
    (kk : ∀ s σ' F' H', Gm M F H F' H' → I s F' H' σ' → Post (rest s) ok ex → D.nx σ' H') :
    ∃ W : Nat → Nat → L2.St → Hp → Prop, (∃ m, W 0 m σ H) ∧ ∀ i m σ H, W i m σ H →
      (J.stop i H ∧ D.nx σ H) ∨ (J.go i H ∧ ∃ N : L2.St → Hp → Prop, (∀ σ' H', N σ' H' → ∃ m', m' < m ∧ W (i + 1) m' σ' H') ∧ ∀ x H', J.yld i H x H' → g x σ H' fun σ2 H2 => tb { D with nx := N, ct := N, bk := D.nx } σ2 H2) := by
  refine for_it w (fun i σ' H' => ∃ s F', Gm M F H F' H' ∧ I s F' H' σ' ∧ Post ((foldM step s (l.drop i)).bd rest) ok ex) ⟨s0, F, Gm.refl e, h0, k⟩ (fun i σ' H' _ ⟨s, F', g', _, _⟩ => hG F' H' g') ?_ ?_
  · rintro i v σ' H' H'' hi ⟨s, F', g', i', k'⟩ y
    have hl : i < l.length := by omega
    have e1 : l.drop i = l[i] :: l.drop (i + 1) := List.drop_eq_getElem_cons hl
    rw [e1] at k'
    have k2 := post_bd (post_assoc k')
    exact hb i s l[i] v σ' F' H' H'' g' i' (List.getElem?_eq_getElem hl) y _ (k2.mono (fun s' q σ2 F2 H2 g2 i2 => ⟨s', F2, g2, i2, q⟩) fun _ z => z)
  · rintro σ' H' ⟨s, F', g', i', k'⟩
    rw [← hn, List.drop_length] at k'
    exact kk s σ' F' H' g' i' ⟨k'.h⟩
/-- the same with ways out: brk, ret -/
theorem for_mirL {R : Type} {stepL : S → α → Mm (Fl R S)} {rest : S → Mm β} {ret : R → Mm β} (w : Walk J n G Y) (I : S → Hp → Hp → L2.St → Prop) (k : Post ((foldL stepL s0 l).bd fun o => o.el rest ret) ok ex) (e : Ex F H) (h0 : I s0 F H σ) (hn : l.length = n) (hG : ∀ F' H', Gm M F H F' H' → G H')
    (hb : ∀ i s x v σ' F' H' H'' , Gm M F H F' H' → I s F' H' σ' → l[i]? = some x → Y i H' v H'' → ∀ nx : L2.St → Hp → Prop,
      Post (stepL s x) (fun o => match o with
        | .go s' => ∀ σ2 F2 H2, Gm M F H F2 H2 → I s' F2 H2 σ2 → nx σ2 H2
        | .brk s' => ∀ σ2 F2 H2, Gm M F H F2 H2 → I s' F2 H2 σ2 → D.nx σ2 H2
        | .ret r => Post (ret r) ok ex) ex → g v σ' H'' fun σ2 H2 => tb { D with nx := nx, ct := nx, bk := D.nx } σ2 H2)
    (kk : ∀ s σ' F' H', Gm M F H F' H' → I s F' H' σ' → Post (rest s) ok ex → D.nx σ' H') :
    ∃ W : Nat → Nat → L2.St → Hp → Prop, (∃ m, W 0 m σ H) ∧ ∀ i m σ H, W i m σ H →
      (J.stop i H ∧ D.nx σ H) ∨ (J.go i H ∧ ∃ N : L2.St → Hp → Prop, (∀ σ' H', N σ' H' → ∃ m', m' < m ∧ W (i + 1) m' σ' H') ∧ ∀ x H', J.yld i H x H' → g x σ H' fun σ2 H2 => tb { D with nx := N, ct := N, bk := D.nx } σ2 H2) := by
  refine for_it w (fun i σ' H' => ∃ s F', Gm M F H F' H' ∧ I s F' H' σ' ∧ Post ((foldL stepL s (l.drop i)).bd fun o => o.el rest ret) ok ex) ⟨s0, F, Gm.refl e, h0, k⟩ (fun i σ' H' _ ⟨s, F', g', _, _⟩ => hG F' H' g') ?_ ?_
  · rintro i v σ' H' H'' hi ⟨s, F', g', i', k'⟩ y
    have hl : i < l.length := by omega
    have e1 : l.drop i = l[i] :: l.drop (i + 1) := List.drop_eq_getElem_cons hl
    rw [e1] at k'
    have k2 := post_bd (post_assoc k')
    refine hb i s l[i] v σ' F' H' H'' g' i' (List.getElem?_eq_getElem hl) y _ (k2.mono (fun o q => ?_) fun _ z => z)
    cases o with
    | go s' => exact fun σ2 F2 H2 g2 i2 => ⟨s', F2, g2, i2, ⟨q.h⟩⟩
    | brk s' => exact fun σ2 F2 H2 g2 i2 => kk s' σ2 F2 H2 g2 i2 ⟨q.h⟩
    | ret r => exact ⟨q.h⟩
  · rintro σ' H' ⟨s, F', g', i', k'⟩
    rw [← hn, List.drop_length] at k'
    exact kk s σ' F' H' g' i' ⟨k'.h⟩
/-- a while -/
theorem while_mir {c : TT} {cM : S → Mm Bool} {bM : S → Mm S} {N : Nat} (I : S → Hp → Hp → L2.St → Prop) (k : Post ((foldW cM bM N s0).bd rest) ok ex) (e : Ex F H) (h0 : I s0 F H σ)
    (hc : ∀ s σ' F' H', Gm M F H F' H' → I s F' H' σ' → ∀ Q : Bool → Hp → Prop, Post (cM s) (fun b => ∀ F2 H2, Gm M F H F2 H2 → I s F2 H2 σ' → Q b H2) ex → c σ' H' Q)
    (hb : ∀ s σ' F' H', Gm M F H F' H' → I s F' H' σ' → ∀ nx : L2.St → Hp → Prop, Post (bM s) (fun s' => ∀ σ2 F2 H2, Gm M F H F2 H2 → I s' F2 H2 σ2 → nx σ2 H2) ex → tb { D with nx := nx, ct := nx, bk := D.nx } σ' H')
    (kk : ∀ s σ' F' H', Gm M F H F' H' → I s F' H' σ' → Post (rest s) ok ex → D.nx σ' H') : tWhile c tb D σ H := by
  refine ⟨fun m σ' H' => ∃ s F', Gm M F H F' H' ∧ I s F' H' σ' ∧ Post ((foldW cM bM m s).bd rest) ok ex, ⟨N, s0, F, Gm.refl e, h0, k⟩, ?_⟩
  rintro m σ' H' ⟨s, F', g', i', k'⟩
  cases m with
  | zero => exact k'.h.elim
  | succ m =>
    refine hc s σ' F' H' g' i' _ ((post_bd (post_assoc k')).mono (fun b q F2 H2 g2 i2 => ?_) fun _ z => z)
    cases b with
    | false => exact kk s σ' F2 H2 g2 i2 ⟨q.h⟩
    | true =>
      refine ⟨fun σ2 H2 => ∃ s F', Gm M F H F' H2 ∧ I s F' H2 σ2 ∧ Post ((foldW cM bM m s).bd rest) ok ex, fun σ2 H2 ⟨s', F3, z⟩ => ⟨m, Nat.lt_succ_self _, s', F3, z⟩, ?_⟩
      exact hb s σ' F2 H2 g2 i2 _ ((post_bd (post_assoc (Post.mk q.h))).mono (fun s' q' σ2 F3 H3 g3 i3 => ⟨s', F3, g3, i3, q'⟩) fun _ z => z)
end

/-! ### comprehensions -/
def noEx {α : Type} (m : Mm α) : Mm α := match m with
  | .ex _ => .bad
  | .ok a => .ok a
  | .bad => .bad
theorem post_noEx {α : Type} {m : Mm α} {p : α → Prop} {q q' : Er → Prop} (h : Post (noEx m) p q) : Post m p q' := by
  cases m with
  | ok a => exact ⟨h.h⟩
  | ex e => exact h.h.elim
  | bad => exact h.h.elim
/-- the elements in turn; a state goes through; none: left out -/
def compM {α γ S : Type} (f : S → α → Mm (Option γ × S)) : S → List α → Mm (List γ × S)
  | s, [] => .ok ([], s)
  | s, x :: xs => (f s x).bd fun o => (compM f o.2 xs).bd fun r => .ok (o.1.toList ++ r.1, r.2)
section
variable {K : PySem.W.Frag} {M : List Addr} {F H : Hp} {σ : L2.St} {g : TG} {tt : TT} {te : TE} {vs : List Nat} {α β γ S : Type} {l : List α} {f : S → α → Mm (Option γ × S)} {rest : List γ × S → Mm β} {ok : β → Prop} {ex : Er → Prop} {s0 : S} {J : It} {n : Nat} {G : Hp → Prop} {Y : Nat → Hp → V → Hp → Prop} {Q : VK}
theorem comp_post {acc : List γ} {s : S} {l : List α} {rest : List γ × S → Mm β} : ∀ {ok : β → Prop} {ex : Er → Prop} {f : S → α → Mm (Option γ × S)} {x : α},
    Post (((compM f s (x :: l)).bd fun r => rest (acc ++ r.1, r.2))) ok ex → Post (f s x) (fun o => Post ((compM f o.2 l).bd fun r => rest ((acc ++ o.1.toList) ++ r.1, r.2)) ok ex) ex := by
  intro ok ex f x h
  have h1 := post_bd (post_assoc h)
  refine h1.mono (fun o q => ?_) fun _ z => z
  have h2 := post_assoc q
  simpa only [bd_ok, List.append_assoc] using h2
/-- what a comprehension's state asks of its word: a younger object may change, may be fixed -/
structure Stab (I : S → Hp → Hp → Prop) (H : Hp) : Prop where
  put : ∀ s F' H' D xs, I s F' H' → H D = none → I s F' (upd H' D (.lst xs))
  fix : ∀ s F' H' D xs, I s F' H' → H D = none → F' D = none → I s (upd F' D (.lst xs)) H'
/-- a comprehension: enc: how an element is told -/
theorem lc_mir (w : Walk J n G Y) (en : γ → PyData) (I : S → Hp → Hp → Prop) (k : Post ((compM f s0 l).bd rest) ok ex) (e : Ex F H) (h0 : I s0 F H) (st : Stab I H) (hn : l.length = n) (hz : l.length ≤ 50000) (hG : ∀ F' H', Gm M F H F' H' → G H')
    (hM : ∀ D, H D = none → D ∉ M)
    (hb : ∀ i s x v F' H' H'', Gm M F H F' H' → I s F' H' → l[i]? = some x → Y i H' v H'' → ∀ Q : Option V → Hp → Prop,
      Post (f s x) (fun o => ∀ F2 H2 v, Gm M F' H' F2 H2 → I o.2 F2 H2 → (match o.1 with
        | some y => ∃ u, v = some u ∧ Dq K F2 u (en y)
        | none => v = none) → Q v H2) (fun _ => False) →
      g v (wipe σ vs) H'' fun σ2 H2 => wipe σ2 vs = wipe σ vs ∧ tt σ2 H2 fun b H3 => if b = true then te σ2 H3 fun y H4 => Q (some y) H4 else Q none H3)
    (hx : ∀ e, ¬ ex e)
    (kk : ∀ (r : List γ × S) v F' H', Gm M F H F' H' → I r.2 F' H' → Dq K F' v (.list (r.1.map en)) → Post (rest r) ok ex → Q v H') :
    ∀ D, H D = none → ∃ W : Nat → Nat → Hp → Prop, (∃ m, W 0 m (upd H D (.lst []))) ∧ ∀ i m H, W i m H →
      (J.stop i H ∧ Q (.ref D) H) ∨ (J.go i H ∧ ∃ Nx : Hp → Prop, (∀ H', Nx H' → ∃ m', m' < m ∧ W (i + 1) m' H') ∧ ∀ x H', J.yld i H x H' → g x (wipe σ vs) H' fun σ2 H2 => wipe σ2 vs = wipe σ vs ∧ tt σ2 H2 fun b H3 =>
        if b = true then te σ2 H3 fun y H4 => ∃ acc, H4 D = some (.lst acc) ∧ acc.length < sizeLine ∧ Nx (upd H4 D (.lst (acc ++ [y]))) else Nx H3) := by
  intro D hD
  have k0 : Post ((compM f s0 (l.drop 0)).bd fun r => rest ([] ++ r.1, r.2)) ok ex := by simpa using k
  refine lc_it w (fun i H' => ∃ (s : S) (acc : List γ) (xs : List V) (F' : Hp), Gm M F H F' H' ∧ I s F' H' ∧ H' D = some (.lst xs) ∧ F' D = none ∧ DqAll K F' xs (acc.map en) ∧ xs.length ≤ i ∧ Post ((compM f s (l.drop i)).bd fun r => rest (acc ++ r.1, r.2)) ok ex)
    ⟨s0, [], [], F, Gm.newM e hD, st.put s0 F H D _ h0 hD, upd_same, ?_, .nil, Nat.le_refl _, k0⟩ (fun i H' _ ⟨s, acc, xs, F', g', _⟩ => hG F' H' g') ?_ ?_
  · cases q : F D with
    | none => rfl
    | some u => rw [e D u q] at hD; cases hD
  · rintro i v H' H'' hi ⟨s, acc, xs, F', g', i', hL, fL, ha, hlen, k'⟩ y
    have hl : i < l.length := by omega
    have e1 : l.drop i = l[i] :: l.drop (i + 1) := List.drop_eq_getElem_cons hl
    rw [e1] at k'
    have k2 := comp_post k'
    have hDM : D ∉ M := hM D hD
    have z := hb i s l[i] v F' H' H'' g' i' (List.getElem?_eq_getElem hl) y (fun o H4 => match o with
      | some y => ∃ acc', H4 D = some (.lst acc') ∧ acc'.length < sizeLine ∧ ∃ (s : S) (acc : List γ) (xs : List V) (F' : Hp), Gm M F H F' (upd H4 D (.lst (acc' ++ [y]))) ∧ I s F' (upd H4 D (.lst (acc' ++ [y]))) ∧ (upd H4 D (.lst (acc' ++ [y]))) D = some (.lst xs) ∧ F' D = none ∧ DqAll K F' xs (acc.map en) ∧ xs.length ≤ i + 1 ∧ Post ((compM f s (l.drop (i + 1))).bd fun r => rest (acc ++ r.1, r.2)) ok ex
      | none => ∃ (s : S) (acc : List γ) (xs : List V) (F' : Hp), Gm M F H F' H4 ∧ I s F' H4 ∧ H4 D = some (.lst xs) ∧ F' D = none ∧ DqAll K F' xs (acc.map en) ∧ xs.length ≤ i + 1 ∧ Post ((compM f s (l.drop (i + 1))).bd fun r => rest (acc ++ r.1, r.2)) ok ex)
      (k2.mono (fun o q F2 H2 v2 g2 i2 hv => ?_) fun e z => (hx e z).elim)
    · exact z
    · obtain ⟨h2L, f2L⟩ := g2.own hDM hL fL
      obtain ⟨o1, o2⟩ := o
      cases o1 with
      | some y =>
        obtain ⟨u, rfl, hu⟩ := hv
        refine ⟨xs, h2L, sz_lt (by omega), o2, acc ++ [y], xs ++ [u], F2, ?_, st.put _ _ _ _ _ i2 hD, upd_same, f2L, ?_, ?_, ?_⟩
        · exact (g'.trans g2).putYoung h2L f2L hD
        · rw [List.map_append]; exact (ha.up g2.f).app (.cons hu .nil)
        · rw [List.length_append, List.length_singleton]; omega
        · simpa using q
      | none =>
        subst hv
        refine ⟨o2, acc, xs, F2, g'.trans g2, i2, h2L, f2L, ha.up g2.f, by omega, ?_⟩
        simpa using q
  · rintro H' ⟨s, acc, xs, F', g', i', hL, fL, ha, hlen, k'⟩
    rw [← hn, List.drop_length] at k'
    have up : Ex F' (upd F' D (.lst xs)) := Ex.new fL
    exact kk (acc, s) _ (upd F' D (.lst xs)) H' (g'.fix hL fL hD) (st.fix _ _ _ _ _ i' hD fL) (.lst upd_same (ha.up up)) (by simpa [compM] using k')
theorem stab_row {K : PySem.W.Frag} {sc ra : Addr} {scr : List Int} {F H : Hp} {st : Rw} (w : RowAt K sc ra scr F H st) : Stab (fun s F H => RowAt K sc ra scr F H s) H := by
  have ne : ∀ D, H D = none → ra ≠ D := fun D hD q => by
    have z := w.1
    rw [q, hD] at z
    cases z
  refine ⟨fun s F' H' D xs i hD => ⟨?_, i.2.1, i.2.2⟩, fun s F' H' D xs i hD hf => ⟨i.1, ?_, ex_l (Ex.new hf) i.2.2⟩⟩
  · rw [upd_ne (ne D hD)]; exact i.1
  · rw [upd_ne (ne D hD)]; exact i.2.1
theorem stab_t {H : Hp} : Stab (fun (_ : Unit) _ _ => True) H := ⟨fun _ _ _ _ _ _ _ => trivial, fun _ _ _ _ _ _ _ _ => trivial⟩
theorem row_notM {K : PySem.W.Frag} {sc ra : Addr} {scr : List Int} {F H : Hp} {st : Rw} (w : RowAt K sc ra scr F H st) : ∀ D, H D = none → D ∉ [ra] := fun D hD q => by
  have z := w.1
  have e : D = ra := by simpa using q
  rw [← e, hD] at z
  cases z
end
end Wk

set_option Elab.async false
set_option linter.all false
set_option maxRecDepth 100000
set_option maxHeartbeats 4000000
namespace Wk
open PySem L2 Evl
/-! ### what follows, under a name -/
def QK (Q : VK) : VK := fun v H => Q v H
def tQ (te : TE) : TE := fun σ H Q => te σ H (QK Q)
section
variable {X : Cx} {x : Expr} {te : TE} {st : Stmt} {g : TG}
theorem pe_q (h : PE X x te) : PE X x (tQ te) := ⟨fun pins s σ H Q I q => h.run pins s σ H (QK Q) I q⟩
theorem ps_q (h : PS X st (tAsg te g)) : PS X st (tAsg (tQ te) g) := ⟨fun pins s σ H D I q => h.run pins s σ H D I q⟩
end
/-! ### joins -/
section
variable {M : List Addr} {F H : Hp} {σ : L2.St} {D : Ends} {α β : Type} {c a b : Bool} {A B : Prop} {X Y : Mm β} {rest : β → Mm α} {ok : α → Prop} {ex : Er → Prop} {Q : VK} {ta tb : TE} {tu tw : TS}
theorem cs {X Y : Mm α} (k : Post (cond c X Y) ok ex) (h1 : c = true → Post X ok ex → A) (h2 : c = false → Post Y ok ex → B) : if c = true then A else B := by
  cases c with
  | true => rw [if_pos rfl]; exact h1 rfl ⟨k.h⟩
  | false => rw [if_neg Bool.false_ne_true]; exact h2 rfl ⟨k.h⟩
theorem or_j {Q : Bool → Hp → Prop} {u : TT} (hu : a = false → ∀ Q' : Bool → Hp → Prop, Q' b H → u σ H Q') (k : Q (a || b) H) : if a = true then Q true H else u σ H Q := by
  cases a with
  | true => rw [if_pos rfl]; exact k
  | false => rw [if_neg Bool.false_ne_true]; exact hu rfl Q k
theorem and_j {Q : Bool → Hp → Prop} {u : TT} (hu : a = true → ∀ Q' : Bool → Hp → Prop, Q' b H → u σ H Q') (k : Q (a && b) H) : if a = true then u σ H Q else Q false H := by
  cases a with
  | true => rw [if_pos rfl]; exact hu rfl Q k
  | false => rw [if_neg Bool.false_ne_true]; exact k
theorem orV_j {u : TE} (hu : a = false → ∀ Q' : VK, Q' (.bl b) H → u σ H Q') (k : Q (.bl (a || b)) H) : if a = true then Q (.bl true) H else u σ H Q := by
  cases a with
  | true => rw [if_pos rfl]; exact k
  | false => rw [if_neg Bool.false_ne_true]; exact hu rfl Q k
theorem andV_j {u : TE} (hu : a = true → ∀ Q' : VK, Q' (.bl b) H → u σ H Q') (k : Q (.bl (a && b)) H) : if a = true then u σ H Q else Q (.bl false) H := by
  cases a with
  | true => rw [if_pos rfl]; exact hu rfl Q k
  | false => rw [if_neg Bool.false_ne_true]; exact k
/-- the second operand wants outcomes of its own -/
theorem or_jM {Q : Bool → Hp → Prop} {u : TT} {Y : Mm Bool} {rest : Bool → Mm α} (e : Ex F H) (k : Post ((cond a (.ok true) Y).bd rest) ok ex) (hu : a = false → ∀ Q' : Bool → Hp → Prop, Post Y (fun b => ∀ F' H', Gm M F H F' H' → Q' b H') ex → u σ H Q')
    (kk : ∀ b F' H', Gm M F H F' H' → Post (rest b) ok ex → Q b H') : if a = true then Q true H else u σ H Q := by
  cases a with
  | true => rw [if_pos rfl]; exact kk true F H (Gm.refl e) ⟨k.h⟩
  | false => rw [if_neg Bool.false_ne_true]; exact hu rfl Q ((post_bd k).mono (fun b q F' H' g => kk b F' H' g q) fun _ z => z)
theorem and_jM {Q : Bool → Hp → Prop} {u : TT} {Y : Mm Bool} {rest : Bool → Mm α} (e : Ex F H) (k : Post ((cond a Y (.ok false)).bd rest) ok ex) (hu : a = true → ∀ Q' : Bool → Hp → Prop, Post Y (fun b => ∀ F' H', Gm M F H F' H' → Q' b H') ex → u σ H Q')
    (kk : ∀ b F' H', Gm M F H F' H' → Post (rest b) ok ex → Q b H') : if a = true then u σ H Q else Q false H := by
  cases a with
  | false => rw [if_neg Bool.false_ne_true]; exact kk false F H (Gm.refl e) ⟨k.h⟩
  | true => rw [if_pos rfl]; exact hu rfl Q ((post_bd k).mono (fun b q F' H' g => kk b F' H' g q) fun _ z => z)
/-- a value by a condition -/
theorem if_jM (S : β → Hp → Hp → V → Prop) (k : Post ((cond c X Y).bd rest) ok ex)
    (ha : c = true → ∀ Q' : VK, Post X (fun b => Ret M F H (S b) Q') ex → ta σ H Q') (hb : c = false → ∀ Q' : VK, Post Y (fun b => Ret M F H (S b) Q') ex → tb σ H Q')
    (kk : ∀ b v F' H', Gm M F H F' H' → S b F' H' v → Post (rest b) ok ex → Q v H') : if c = true then ta σ H Q else tb σ H Q := by
  cases c with
  | true => rw [if_pos rfl]; exact ha rfl Q ((post_bd k).mono (fun b q v F' H' g s => kk b v F' H' g s q) fun _ z => z)
  | false => rw [if_neg Bool.false_ne_true]; exact hb rfl Q ((post_bd k).mono (fun b q v F' H' g s => kk b v F' H' g s q) fun _ z => z)
/-- an if whose ways go on -/
theorem ifs_jM (I : β → Hp → Hp → L2.St → Prop) (k : Post ((cond c X Y).bd rest) ok ex)
    (ha : c = true → ∀ nx : L2.St → Hp → Prop, Post X (fun b => ∀ σ' F' H', Gm M F H F' H' → I b F' H' σ' → nx σ' H') ex → tu { D with nx := nx } σ H)
    (hb : c = false → ∀ nx : L2.St → Hp → Prop, Post Y (fun b => ∀ σ' F' H', Gm M F H F' H' → I b F' H' σ' → nx σ' H') ex → tw { D with nx := nx } σ H)
    (kk : ∀ b σ' F' H', Gm M F H F' H' → I b F' H' σ' → Post (rest b) ok ex → D.nx σ' H') : if c = true then tu D σ H else tw D σ H := by
  cases c with
  | true => rw [if_pos rfl]; exact ha rfl D.nx ((post_bd k).mono (fun b q σ' F' H' g s => kk b σ' F' H' g s q) fun _ z => z)
  | false => rw [if_neg Bool.false_ne_true]; exact hb rfl D.nx ((post_bd k).mono (fun b q σ' F' H' g s => kk b σ' F' H' g s q) fun _ z => z)
end
/-! ### items of data -/
section
variable {K : PySem.W.Frag} {F : Hp} {α : Type} {f : α → PyData} {l : List α} {vs : List V} {a : α} {i : Int}
theorem atI_at {α : Type} {xs : List α} {i : Int} {a : α} (h : atI xs i = some a) : ∃ j, ixN xs.length i = some j ∧ xs[j]? = some a := by
  unfold atI at h
  cases e : ixN xs.length i with
  | none => rw [e] at h; cases h
  | some j => rw [e] at h; exact ⟨j, rfl, h⟩
theorem dq_at (ha : DqAll K F vs (l.map f)) (h : atI l i = some a) : ∃ v, atI vs i = some v ∧ Dq K F v (f a) := by
  obtain ⟨j, hj, hg⟩ := atI_at h
  have hl : vs.length = l.length := by rw [ha.len, List.length_map]
  obtain ⟨v, hv, hd⟩ := ha.get (i := j) (d := f a) (by rw [List.getElem?_map, hg]; rfl)
  refine ⟨v, ?_, hd⟩
  unfold atI
  rw [hl, hj]
  exact hv
theorem atI_ints {l : List Int} (h : atI l i = some a') : atI (l.map V.int) i = some (V.int a') := by
  obtain ⟨j, hj, hg⟩ := atI_at h
  unfold atI
  rw [List.length_map, hj]
  show (l.map V.int)[j]? = _
  rw [List.getElem?_map, hg]
  rfl
end
/-! ### heaps, more -/
section
variable {M : List Addr} {F H F1 H1 F0 H0 : Hp}
/-- behind a loop that may change the younger object at p -/
theorem Gm.young {p : Addr} (g : Gm M F0 H0 F H) (h0 : H0 p = none) (g2 : Gm (p :: M) F H F1 H1) : Gm M F0 H0 F1 H1 :=
  ⟨g.f.trans g2.f, g2.s, fun a o hM h => g2.h a o (fun q => by
      rcases List.mem_cons.mp q with q | q
      · rw [q, h0] at h; cases h
      · exact hM q) (g.h a o hM h), fun a o h hn => by
    obtain ⟨o', h'⟩ := g.m a o h
    exact g2.n a o' h' (g.n a o h hn), fun a o h => by
    obtain ⟨o', h'⟩ := g.m a o h
    exact g2.m a o' h'⟩
theorem Gm.putIn (g : Gm M F0 H0 F H) {p : Addr} {o u : HO} (hp : p ∈ M) (h : H p = some u) (hf : F p = none) : Gm M F0 H0 F (upd H p o) := by
  refine ⟨g.f, fun a u ha => ?_, fun a u hM ha => ?_, g.n, fun a u ha => ?_⟩
  · have q : a ≠ p := fun q => by rw [q, hf] at ha; cases ha
    rw [upd_ne q]; exact g.s a u ha
  · have q : a ≠ p := fun q => hM (by rw [q]; exact hp)
    rw [upd_ne q]; exact g.h a u hM ha
  · by_cases q : a = p
    · subst q; exact ⟨o, upd_same⟩
    · obtain ⟨o', h'⟩ := g.m a u ha
      exact ⟨o', by rw [upd_ne q]; exact h'⟩
end
/-! ### built-ins by name -/
structure Bi (mg : Str → Option Value) : Prop where
  len : mg "len" = none
  int : mg "int" = none
  bool : mg "bool" = none
  str : mg "str" = none
  abs : mg "abs" = none
  sum : mg "sum" = none
  min : mg "min" = none
  max : mg "max" = none
  list : mg "list" = none
  tuple : mg "tuple" = none
  set : mg "set" = none
  dict : mg "dict" = none
  sorted : mg "sorted" = none
  range : mg "range" = none
  enumerate : mg "enumerate" = none
  zip : mg "zip" = none
  reversed : mg "reversed" = none
  isinstance : mg "isinstance" = none
end Wk

set_option Elab.async false
set_option linter.all false
set_option maxRecDepth 100000
set_option maxHeartbeats 4000000
namespace Wk
open PySem L2 Evl
theorem Gm.weak {M M' : List Addr} {F H F' H' : Hp} (g : Gm M F H F' H') (h : ∀ a, a ∈ M → a ∈ M') : Gm M' F H F' H' := ⟨g.f, g.s, fun a o hM e => g.h a o (fun q => hM (h a q)) e, g.n, g.m⟩
/-! ### ranges -/
def rangeL (lo : Int) (n : Nat) : List Int := (List.range n).map fun (i : Nat) => lo + (i : Int)
def rangeM (j : Int) : Mm (List Int) := if -(2 ^ 62) ≤ j ∧ j < 2 ^ 62 then .ok (rangeL 0 j.toNat) else .bad
def rangeM2 (i j : Int) : Mm (List Int) := if -(2 ^ 62) ≤ i ∧ i < 2 ^ 62 ∧ -(2 ^ 62) ≤ j ∧ j < 2 ^ 62 then .ok (rangeL i (j - i).toNat) else .bad
section
variable {β : Type} {r : β → Prop} {q : Er → Prop} {i j : Int} {f : List Int → Mm β}
theorem post_range (h : Post ((rangeM j).bd f) r q) : (-(2 ^ 62) ≤ j ∧ j < 2 ^ 62) ∧ Post (f (rangeL 0 j.toNat)) r q := by
  unfold rangeM at h
  split at h
  · exact ⟨‹_›, ⟨h.h⟩⟩
  · exact h.h.elim
theorem post_range2 (h : Post ((rangeM2 i j).bd f) r q) : (-(2 ^ 62) ≤ i ∧ i < 2 ^ 62 ∧ -(2 ^ 62) ≤ j ∧ j < 2 ^ 62) ∧ Post (f (rangeL i (j - i).toNat)) r q := by
  unfold rangeM2 at h
  split at h
  · exact ⟨‹_›, ⟨h.h⟩⟩
  · exact h.h.elim
end
/-! ### fors over data, one form -/
/-- what a for or a comprehension walks over, as a list of data; R: what stands of an item -/
structure Wlk (M : List Addr) (F H : Hp) (J : It) {α : Type} (l : List α) (R : Hp → V → α → Prop) : Prop where
  ex : ∃ (n : Nat) (G : Hp → Prop) (Y : Nat → Hp → V → Hp → Prop), Walk J n G Y ∧ l.length = n ∧ (∀ F' H', Gm M F H F' H' → G H') ∧
    ∀ i x v F' H' H'', Gm M F H F' H' → l[i]? = some x → Y i H' v H'' → ∃ F'', Gm [] F' H' F'' H'' ∧ R F'' v x
section
variable {K : PySem.W.Frag} {M : List Addr} {F H : Hp} {σ : L2.St} {D : Ends} {g : TG} {tb : TS} {α β S : Type} {xs ys : List V} {l : List α} {step : S → α → Mm S} {rest : S → Mm β} {ok : β → Prop} {ex : Er → Prop} {s0 : S} {J : It} {R : Hp → V → α → Prop} {en : α → PyData} {a b : Addr}
theorem wlk_list (e : Ex F H) (h : F a = some (.lst xs)) (da : DqAll K F xs (l.map en)) : Wlk M F H (Itl K a) l (fun F v x => Dq K F v (en x)) := by
  refine ⟨_, _, _, walk_list (K := K) (a := a) (xs := xs), by rw [da.len, List.length_map], fun F' H' g' => sq_of (g'.s _ _ (g'.f _ _ h)), fun i x v F' H' H'' g' hx y => ?_⟩
  obtain ⟨rfl, hv⟩ := y
  obtain ⟨d, hd, hq⟩ := (da.up g'.f).getV hv
  rw [List.getElem?_map, hx] at hd
  cases hd
  exact ⟨F', Gm.refl g'.s, hq⟩
theorem wlk_tup (e : Ex F H) (h : SqT K F a xs) (da : DqAll K F xs (l.map en)) : Wlk M F H (Itt K a) l (fun F v x => Dq K F v (en x)) := by
  refine ⟨_, _, _, walk_tup (K := K) (a := a) (xs := xs), by rw [da.len, List.length_map], fun F' H' g' => ex_t g'.s (ex_t g'.f h), fun i x v F' H' H'' g' hx y => ?_⟩
  obtain ⟨rfl, hv⟩ := y
  obtain ⟨d, hd, hq⟩ := (da.up g'.f).getV hv
  rw [List.getElem?_map, hx] at hd
  cases hd
  exact ⟨F', Gm.refl g'.s, hq⟩
theorem rangeL_at {lo : Int} {n i : Nat} {x : Int} (h : (rangeL lo n)[i]? = some x) : x = lo + i := by
  unfold rangeL at h
  rw [List.getElem?_map] at h
  cases e : (List.range n)[i]? with
  | none => rw [e] at h; cases h
  | some j =>
    rw [e] at h
    obtain ⟨h1, h2⟩ := List.getElem?_eq_some_iff.mp e
    rw [List.getElem_range] at h2
    subst h2
    exact (Option.some.inj h).symm
theorem wlk_range {lo : Int} {n : Nat} : Wlk M F H (Itr lo n) (rangeL lo n) (fun _ v x => v = V.int x) := by
  refine ⟨_, _, _, walk_range (lo := lo) (n := n), by simp [rangeL], fun _ _ _ => trivial, fun i x v F' H' H'' g' hx y => ?_⟩
  obtain ⟨rfl, hv⟩ := y
  rw [rangeL_at hx]
  exact ⟨F', Gm.refl g'.s, hv⟩
theorem wlk_rev (e : Ex F H) (h : F a = some (.lst xs)) (da : DqAll K F xs (l.map en)) : Wlk M F H (Itv K a xs.length) l.reverse (fun F v x => Dq K F v (en x)) := by
  have hl : xs.length = l.length := by rw [da.len, List.length_map]
  refine ⟨_, _, _, walk_rev (K := K) (a := a) (xs := xs), by rw [List.length_reverse, hl], fun F' H' g' => sq_of (g'.s _ _ (g'.f _ _ h)), fun i x v F' H' H'' g' hx y => ?_⟩
  obtain ⟨rfl, hv⟩ := y
  obtain ⟨d, hd, hq⟩ := (da.up g'.f).getV hv
  have hi : i < l.reverse.length := (List.getElem?_eq_some_iff.mp hx).1
  rw [List.length_reverse] at hi
  rw [List.getElem?_reverse hi] at hx
  rw [List.getElem?_map, hl, hx] at hd
  cases hd
  exact ⟨F', Gm.refl g'.s, hq⟩
/-- enumerate: the items (i, x) -/
def enumL {α : Type} (l : List α) : List (Int × α) := (rangeL 0 l.length).zip l
theorem wlk_enum (e : Ex F H) (h : F a = some (.lst xs)) (da : DqAll K F xs (l.map en)) : Wlk M F H (Ite K a) (enumL l) (fun F v x => Dq K F v (e2 PyData.int en x)) := by
  have hl : xs.length = l.length := by rw [da.len, List.length_map]
  refine ⟨_, _, _, walk_enum (K := K) (a := a) (xs := xs), by simp [enumL, rangeL, hl], fun F' H' g' => sq_of (g'.s _ _ (g'.f _ _ h)), fun i x v F' H' H'' g' hx y => ?_⟩
  obtain ⟨T, u, w, rfl, hT, rfl, h1, h2⟩ := y
  obtain ⟨d, hd, hq⟩ := (da.up g'.f).getV h2
  obtain ⟨x1, x2⟩ := x
  unfold enumL at hx
  rw [List.getElem?_zip_eq_some] at hx
  obtain ⟨hx1, hx2⟩ := hx
  have e1 := rangeL_at hx1
  simp only at e1 hx2
  rw [List.getElem?_map, hx2] at hd
  cases hd
  cases h1
  have g2 : Gm [] F' H' (upd F' T (.tup [V.int (i : Nat), w])) (upd H' T (.tup [V.int (i : Nat), w])) := Gm.new g'.s hT
  refine ⟨_, g2, .tup (st_of upd_same) (.cons ?_ (.cons (hq.up g2.f) .nil))⟩
  rw [e1, Int.zero_add]
  exact .int _
theorem wlk_zip {α' : Type} {l' : List α'} {en' : α' → PyData} (e : Ex F H) (h : F a = some (.lst xs)) (da : DqAll K F xs (l.map en)) (h' : F b = some (.lst ys)) (da' : DqAll K F ys (l'.map en')) : Wlk M F H (Itz K a b) (l.zip l') (fun F v x => Dq K F v (e2 en en' x)) := by
  have hl : xs.length = l.length := by rw [da.len, List.length_map]
  have hl' : ys.length = l'.length := by rw [da'.len, List.length_map]
  refine ⟨_, _, _, walk_zip (K := K) (a := a) (b := b) (xs := xs) (ys := ys) rfl, by simp [hl, hl'], fun F' H' g' => ⟨sq_of (g'.s _ _ (g'.f _ _ h)), sq_of (g'.s _ _ (g'.f _ _ h'))⟩, fun i x v F' H' H'' g' hx y => ?_⟩
  obtain ⟨T, u, w, rfl, hT, rfl, h1, h2⟩ := y
  obtain ⟨d, hd, hq⟩ := (da.up g'.f).getV h1
  obtain ⟨d', hd', hq'⟩ := (da'.up g'.f).getV h2
  obtain ⟨x1, x2⟩ := x
  rw [List.getElem?_zip_eq_some] at hx
  obtain ⟨hx1, hx2⟩ := hx
  simp only at hx1 hx2
  rw [List.getElem?_map, hx1] at hd
  rw [List.getElem?_map, hx2] at hd'
  cases hd
  cases hd'
  have g2 : Gm [] F' H' (upd F' T (.tup [u, w])) (upd H' T (.tup [u, w])) := Gm.new g'.s hT
  exact ⟨_, g2, .tup (st_of upd_same) (.cons (hq.up g2.f) (.cons (hq'.up g2.f) .nil))⟩
/-- a for with no way out but its end -/
theorem for_m (w : Wlk M F H J l R) (I : S → Hp → Hp → L2.St → Prop) (k : Post ((foldM step s0 l).bd rest) ok ex) (e : Ex F H) (h0 : I s0 F H σ)
    (hb : ∀ s x v σ' F1 H1 F2 H2, Gm M F H F1 H1 → I s F1 H1 σ' → Gm [] F1 H1 F2 H2 → R F2 v x → ∀ nx : L2.St → Hp → Prop,
      Post (step s x) (fun s' => ∀ σ2 F3 H3, Gm M F H F3 H3 → I s' F3 H3 σ2 → nx σ2 H3) ex → g v σ' H2 fun σ2 H3 => tb { D with nx := nx, ct := nx, bk := D.nx } σ2 H3)
    (kk : ∀ s σ' F' H', Gm M F H F' H' → I s F' H' σ' → Post (rest s) ok ex → D.nx σ' H') :
    ∃ W : Nat → Nat → L2.St → Hp → Prop, (∃ m, W 0 m σ H) ∧ ∀ i m σ H, W i m σ H →
      (J.stop i H ∧ D.nx σ H) ∨ (J.go i H ∧ ∃ N : L2.St → Hp → Prop, (∀ σ' H', N σ' H' → ∃ m', m' < m ∧ W (i + 1) m' σ' H') ∧ ∀ x H', J.yld i H x H' → g x σ H' fun σ2 H2 => tb { D with nx := N, ct := N, bk := D.nx } σ2 H2) := by
  obtain ⟨n, G, Y, w, hn, hG, hY⟩ := w.ex
  refine for_mir w I k e h0 hn hG (fun i s x v σ' F' H' H'' g' i' hx y nx k' => ?_) kk
  obtain ⟨F'', g2, r⟩ := hY i x v F' H' H'' g' hx y
  exact hb s x v σ' F' H' F'' H'' g' i' g2 r nx k'
theorem for_mL {R' : Type} {stepL : S → α → Mm (Fl R' S)} {ret : R' → Mm β} (w : Wlk M F H J l R) (I : S → Hp → Hp → L2.St → Prop) (k : Post ((foldL stepL s0 l).bd fun o => o.el rest ret) ok ex) (e : Ex F H) (h0 : I s0 F H σ)
    (hb : ∀ s x v σ' F1 H1 F2 H2, Gm M F H F1 H1 → I s F1 H1 σ' → Gm [] F1 H1 F2 H2 → R F2 v x → ∀ nx : L2.St → Hp → Prop,
      Post (stepL s x) (fun o => match o with
        | .go s' => ∀ σ2 F3 H3, Gm M F H F3 H3 → I s' F3 H3 σ2 → nx σ2 H3
        | .brk s' => ∀ σ2 F3 H3, Gm M F H F3 H3 → I s' F3 H3 σ2 → D.nx σ2 H3
        | .ret r => Post (ret r) ok ex) ex → g v σ' H2 fun σ2 H3 => tb { D with nx := nx, ct := nx, bk := D.nx } σ2 H3)
    (kk : ∀ s σ' F' H', Gm M F H F' H' → I s F' H' σ' → Post (rest s) ok ex → D.nx σ' H') :
    ∃ W : Nat → Nat → L2.St → Hp → Prop, (∃ m, W 0 m σ H) ∧ ∀ i m σ H, W i m σ H →
      (J.stop i H ∧ D.nx σ H) ∨ (J.go i H ∧ ∃ N : L2.St → Hp → Prop, (∀ σ' H', N σ' H' → ∃ m', m' < m ∧ W (i + 1) m' σ' H') ∧ ∀ x H', J.yld i H x H' → g x σ H' fun σ2 H2 => tb { D with nx := N, ct := N, bk := D.nx } σ2 H2) := by
  obtain ⟨n, G, Y, w, hn, hG, hY⟩ := w.ex
  refine for_mirL w I k e h0 hn hG (fun i s x v σ' F' H' H'' g' i' hx y nx k' => ?_) kk
  obtain ⟨F'', g2, r⟩ := hY i x v F' H' H'' g' hx y
  exact hb s x v σ' F' H' F'' H'' g' i' g2 r nx k'
end
/-! ### comprehensions, three forms -/
theorem tYes_of {σ : L2.St} {H : Hp} {Q : Bool → Hp → Prop} (h : Q true H) : tYes σ H Q := h
def GMon (g : TG) : Prop := ∀ (v : V) (σ1 : L2.St) (H1 : Hp) (Q Q' : L2.St → Hp → Prop), (∀ s h, Q s h → Q' s h) → g v σ1 H1 Q → g v σ1 H1 Q'
def GsMon (g : TGs) : Prop := ∀ (v : List V) (σ1 : L2.St) (H1 : Hp) (Q Q' : L2.St → Hp → Prop), (∀ s h, Q s h → Q' s h) → g v σ1 H1 Q → g v σ1 H1 Q'
theorem gm_name {i : Nat} : GMon (gName i) := fun _ _ _ _ _ h q => h _ _ q
theorem gms_nil : GsMon gNil := fun _ _ _ _ _ h q => ⟨q.1, h _ _ q.2⟩
theorem gms_cons {t : TG} {u : TGs} (a : GMon t) (b : GsMon u) : GsMon (gCons t u) := fun _ _ _ _ _ h q => by
  obtain ⟨v, r, e, z⟩ := q
  exact ⟨v, r, e, a _ _ _ _ _ (fun s h' z' => b _ _ _ _ _ h z') z⟩
theorem gm_tup {K : PySem.W.Frag} {n : Nat} {t : TGs} (a : GsMon t) : GMon (gTup K n t) := fun _ _ _ _ _ h q => by
  obtain ⟨p, xs, e1, e2, e3, z⟩ := q
  exact ⟨p, xs, e1, e2, e3, a _ _ _ _ _ h z⟩

def mapMm {α γ : Type} (f : α → Mm γ) : List α → Mm (List γ)
  | [] => .ok []
  | x :: xs => (f x).bd fun y => (mapMm f xs).bd fun ys => .ok (y :: ys)
def filMm {α γ : Type} (f : α → Mm (Option γ)) : List α → Mm (List γ)
  | [] => .ok []
  | x :: xs => (f x).bd fun y => (filMm f xs).bd fun ys => .ok (y.toList ++ ys)
def mapSt {α γ S : Type} (f : S → α → Mm (γ × S)) : S → List α → Mm (List γ × S)
  | s, [] => .ok ([], s)
  | s, x :: xs => (f s x).bd fun y => (mapSt f y.2 xs).bd fun ys => .ok (y.1 :: ys.1, ys.2)
theorem bd_assoc {α β γ : Type} (m : Mm α) (f : α → Mm β) (g : β → Mm γ) : (m.bd f).bd g = m.bd fun a => (f a).bd g := by cases m <;> rfl
theorem bd_id {α : Type} (m : Mm α) : m.bd Mm.ok = m := by cases m <;> rfl
theorem filMm_comp {α γ : Type} (f : α → Mm (Option γ)) : ∀ l : List α, filMm f l = (compM (fun (_ : Unit) x => (f x).bd fun o => .ok (o, ())) () l).bd fun r => .ok r.1
  | [] => rfl
  | x :: xs => by
    simp only [filMm, compM, filMm_comp f xs, bd_assoc, bd_ok]
theorem mapMm_comp {α γ : Type} (f : α → Mm γ) : ∀ l : List α, mapMm f l = (compM (fun (_ : Unit) x => (f x).bd fun o => .ok (some o, ())) () l).bd fun r => .ok r.1
  | [] => rfl
  | x :: xs => by
    simp only [mapMm, compM, mapMm_comp f xs, bd_assoc, bd_ok, Option.toList, List.cons_append, List.nil_append]
theorem mapSt_comp {α γ S : Type} (f : S → α → Mm (γ × S)) : ∀ (s : S) (l : List α), mapSt f s l = compM (fun s x => (f s x).bd fun o => .ok (some o.1, o.2)) s l
  | _, [] => rfl
  | s, x :: xs => by
    simp only [mapSt, compM, bd_assoc, bd_ok, Option.toList, List.cons_append, List.nil_append]
    congr 1
    funext o
    rw [mapSt_comp f o.2 xs]
section
variable {K : PySem.W.Frag} {M : List Addr} {F H : Hp} {σ : L2.St} {g : TG} {tt : TT} {te : TE} {vs : List Nat} {α β γ S : Type} {l : List α} {ok : β → Prop} {ex : Er → Prop} {s0 : S} {J : It} {R : Hp → V → α → Prop} {Q : VK}
theorem lc_map {f : α → Mm γ} {rest : List γ → Mm β} (w : Wlk M F H J l R) (en : γ → PyData) (k : Post ((mapMm f l).bd rest) ok ex) (e : Ex F H) (hz : l.length ≤ 50000) (hM : ∀ D, H D = none → D ∉ M)
    (hb : ∀ x v F1 H1 F2 H2, Gm M F H F1 H1 → Gm [] F1 H1 F2 H2 → R F2 v x → ∀ Q : VK, Post (f x) (fun y => Ret M F1 H1 (fun F3 _ u => Dq K F3 u (en y)) Q) (fun _ => False) →
      g v (wipe σ vs) H2 fun σ2 H3 => wipe σ2 vs = wipe σ vs ∧ te σ2 H3 Q)
    (hx : ∀ e, ¬ ex e) (kk : ∀ (r : List γ) v F' H', Gm M F H F' H' → Dq K F' v (eL en r) → Post (rest r) ok ex → Q v H') (mono : GMon g) :
    ∀ D, H D = none → ∃ W : Nat → Nat → Hp → Prop, (∃ m, W 0 m (upd H D (.lst []))) ∧ ∀ i m H, W i m H →
      (J.stop i H ∧ Q (.ref D) H) ∨ (J.go i H ∧ ∃ Nx : Hp → Prop, (∀ H', Nx H' → ∃ m', m' < m ∧ W (i + 1) m' H') ∧ ∀ x H', J.yld i H x H' → g x (wipe σ vs) H' fun σ2 H2 => wipe σ2 vs = wipe σ vs ∧ tYes σ2 H2 fun b H3 =>
        if b = true then te σ2 H3 fun y H4 => ∃ acc, H4 D = some (.lst acc) ∧ acc.length < sizeLine ∧ Nx (upd H4 D (.lst (acc ++ [y]))) else Nx H3) := by
  obtain ⟨n, G, Y, w, hn, hG, hY⟩ := w.ex
  rw [mapMm_comp, bd_assoc] at k
  refine lc_mir w en (fun _ _ _ => True) k e trivial stab_t hn hz hG hM (fun i s x v F' H' H'' g' _ hx y Q' k' => ?_) hx (fun r v F' H' g' _ d k' => kk r.1 v F' H' g' d k')
  obtain ⟨F'', g2, r⟩ := hY i x v F' H' H'' g' hx y
  refine mono _ _ _ _ _ (fun σ2 H3 z => ⟨z.1, ?_⟩) (hb x v F' H' F'' H'' g' g2 r (fun u H4 => Q' (some u) H4) ((post_bd k').mono (fun y q u F3 H3 g3 d => q.h F3 H3 _ g3 trivial ⟨u, rfl, d⟩) fun _ z => z))
  exact tYes_of (iteT z.2)
theorem lc_st {f : Rw → α → Mm (γ × Rw)} {s0 : Rw} {rest : List γ × Rw → Mm β} {sc ra : Addr} {scr : List Int} (w : Wlk [ra] F H J l R) (en : γ → PyData) (k : Post ((mapSt f s0 l).bd rest) ok ex) (e : Ex F H) (hz : l.length ≤ 50000) (h0 : RowAt K sc ra scr F H s0)
    (hb : ∀ s x v F1 H1 F2 H2, Gm [ra] F H F1 H1 → RowAt K sc ra scr F1 H1 s → Gm [] F1 H1 F2 H2 → R F2 v x → ∀ Q : VK, Post (f s x) (fun y => Ret [ra] F1 H1 (fun F3 H3 u => Dq K F3 u (en y.1) ∧ RowAt K sc ra scr F3 H3 y.2) Q) (fun _ => False) →
      g v (wipe σ vs) H2 fun σ2 H3 => wipe σ2 vs = wipe σ vs ∧ te σ2 H3 Q)
    (hx : ∀ e, ¬ ex e) (kk : ∀ (r : List γ × Rw) v F' H', Gm [ra] F H F' H' → Dq K F' v (eL en r.1) ∧ RowAt K sc ra scr F' H' r.2 → Post (rest r) ok ex → Q v H') (mono : GMon g) :
    ∀ D, H D = none → ∃ W : Nat → Nat → Hp → Prop, (∃ m, W 0 m (upd H D (.lst []))) ∧ ∀ i m H, W i m H →
      (J.stop i H ∧ Q (.ref D) H) ∨ (J.go i H ∧ ∃ Nx : Hp → Prop, (∀ H', Nx H' → ∃ m', m' < m ∧ W (i + 1) m' H') ∧ ∀ x H', J.yld i H x H' → g x (wipe σ vs) H' fun σ2 H2 => wipe σ2 vs = wipe σ vs ∧ tYes σ2 H2 fun b H3 =>
        if b = true then te σ2 H3 fun y H4 => ∃ acc, H4 D = some (.lst acc) ∧ acc.length < sizeLine ∧ Nx (upd H4 D (.lst (acc ++ [y]))) else Nx H3) := by
  obtain ⟨n, G, Y, w, hn, hG, hY⟩ := w.ex
  rw [mapSt_comp] at k
  refine lc_mir w en (fun s F H => RowAt K sc ra scr F H s) k e h0 (stab_row h0) hn hz hG (row_notM h0) (fun i s x v F' H' H'' g' i' hx y Q' k' => ?_) hx (fun r v F' H' g' i' d k' => kk r v F' H' g' ⟨d, i'⟩ k')
  obtain ⟨F'', g2, r⟩ := hY i x v F' H' H'' g' hx y
  refine mono _ _ _ _ _ (fun σ2 H3 z => ⟨z.1, ?_⟩) (hb s x v F' H' F'' H'' g' i' g2 r (fun u H4 => Q' (some u) H4) ((post_bd k').mono (fun y q u F3 H3 g3 d => q.h F3 H3 _ g3 d.2 ⟨u, rfl, d.1⟩) fun _ z => z))
  exact tYes_of (iteT z.2)
end
end Wk

set_option Elab.async false
set_option linter.all false
set_option maxRecDepth 100000
set_option maxHeartbeats 4000000
namespace Wk
open PySem L2 Evl
theorem units_of {k : Nat} {A : Around} (r : Room k A) : A.units + 64 < cLine := r.units
theorem units_of2 {k : Nat} {A : Around} (r : Room k A) : A.units + 65 < cLine := by have := r.un; omega
def absI (i : Int) : Int := if i < 0 then -i else i
def maxI (i j : Int) : Int := if j > i then j else i
def minI (i j : Int) : Int := if j < i then j else i
theorem decV_int {i j : Int} : decide (V.int i = V.int j) = decide (i = j) := Bool.eq_iff_iff.mpr (by simp)
theorem decV_bl {i j : Bool} : decide (V.bl i = V.bl j) = decide (i = j) := Bool.eq_iff_iff.mpr (by simp)
theorem decV_str {i j : Str} : decide (V.str i = V.str j) = decide (i = j) := Bool.eq_iff_iff.mpr (by simp)
section
variable {K : PySem.W.Frag} {M : List Addr} {F F' H H' : Hp} {Q : VK} {α : Type} {en : α → PyData} {l l' : List α} {xs ys : List V} {a b p : Addr} {v : V} {ds : List PyData}
theorem none_O {o : Option α} (h : Dq K F v (eO en o)) (hn : ∀ a, en a ≠ .none := by intro a; exact fun h => nomatch h) : decide (v = .non) = o.isNone := by
  cases o with
  | none => cases h; rfl
  | some a =>
    refine decide_eq_false fun q => ?_
    subst q
    have h2 : Dq K F V.non (en a) := h
    have := hn a
    cases e : en a with
    | none => exact this e
    | _ => rw [e] at h2; cases h2
theorem chain_j {a b : Bool} {Q : VK} {σ : L2.St} {u : TE} {g : V → Hp → VK → Prop} (hu : a = true → ∀ Q' : VK, Q' (.bl b) H → u σ H fun w H' => g w H' Q') (k : Q (.bl (a && b)) H) :
    if a = true then u σ H (fun w H' => g w H' Q) else Q (.bl false) H := by
  cases a with
  | true => rw [if_pos rfl]; exact hu rfl Q k
  | false => rw [if_neg Bool.false_ne_true]; exact k
theorem len_all (h : DqAll K F xs (l.map en)) : (xs.length : Int) = (l.length : Int) := by rw [h.len, List.length_map]
theorem all_ints {l : List Int} (h : DqAll K F xs (l.map PyData.int)) : xs = l.map V.int := by
  induction l generalizing xs with
  | nil => cases h; rfl
  | cons i l ih => cases h with | cons h1 h2 => cases h1; rw [ih h2]; rfl
theorem ints_all : ∀ l : List Int, DqAll K F (l.map V.int) (l.map PyData.int)
  | [] => .nil
  | i :: l => .cons (.int i) (ints_all l)
theorem cat_len {l l' : List α} (h : DqAll K F xs (l.map en)) (h' : DqAll K F ys (l'.map en)) (hl : l.length + l'.length ≤ 100000) : xs.length + ys.length ≤ sizeLine := sz_of (by
  have := h.len
  have := h'.len
  rw [List.length_map] at *
  omega)
theorem new_lstC {l l' : List α} (e : Ex F H) (h : DqAll K F xs (l.map en)) (h' : DqAll K F ys (l'.map en)) (k : Ret M F H (fun F' _ v => Dq K F' v (eL en (l ++ l'))) Q) : ∀ p, H p = none → Q (.ref p) (upd H p (.lst (xs ++ ys))) := fun p hp => by
  have g : Gm M F H (upd F p (.lst (xs ++ ys))) (upd H p (.lst (xs ++ ys))) := Gm.new e hp
  refine k _ _ _ g (.lst upd_same ?_)
  rw [List.map_append]
  exact (h.app h').up g.f
/-- tuple + tuple -/
def rCatM (K : PySem.W.Frag) : R2 := rCatA K
theorem op_catM {X : Cx} : OpR X (binaryOp .Add) (rCatM X.K) := op_catA
theorem cat_tup {l l' : List α} (e : Ex F H) (s : SqT K F a xs) (h : DqAll K F xs (l.map en)) (s' : SqT K F b ys) (h' : DqAll K F ys (l'.map en)) (hl : l.length + l'.length ≤ 100000) (k : Ret M F H (fun F' _ v => Dq K F' v (eV en (l ++ l'))) Q) : rCatM K (.ref a) (.ref b) H Q := by
  refine ⟨a, b, xs, ys, rfl, rfl, ex_t e s, ex_t e s', cat_len h h' hl, fun q => ?_, fun _ q => ?_, fun _ _ p hp => ?_⟩
  · have hl0 : l = [] := by
      have := h.len
      rw [q, List.length_map] at this
      exact List.length_eq_zero_iff.mp this.symm
    exact k _ _ _ (Gm.refl e) (by rw [hl0]; exact .tup s' h')
  · have hl0 : l' = [] := by
      have := h'.len
      rw [q, List.length_map] at this
      exact List.length_eq_zero_iff.mp this.symm
    exact k _ _ _ (Gm.refl e) (by rw [hl0, List.append_nil]; exact .tup s h)
  · have g : Gm M F H (upd F p (.tup (xs ++ ys))) (upd H p (.tup (xs ++ ys))) := Gm.new e hp
    refine k _ _ _ g (.tup (st_of upd_same) ?_)
    rw [List.map_append]
    exact (h.app h').up g.f
/-- slices -/
def cutL {α : Type} (l : List α) (lo hi : Option Int) : List α := (l.drop (HT.sIx l.length 0 lo)).take (HT.sIx l.length l.length hi - HT.sIx l.length 0 lo)
theorem cut_all {lo hi : Option Int} (h : DqAll K F xs (l.map en)) : DqAll K F (cutV xs lo hi) ((cutL l lo hi).map en) := by
  have hl : xs.length = l.length := by rw [h.len, List.length_map]
  unfold cutV cutL
  rw [hl, List.map_take, List.map_drop]
  exact (h.drop _).take _
theorem cut_lst {lo hi : Option Int} (e : Ex F H) (s : F a = some (.lst xs)) (h : DqAll K F xs (l.map en)) (k : Ret M F H (fun F' _ v => Dq K F' v (eL en (cutL l lo hi))) Q) : rSlL K (.ref a) lo hi H Q :=
  ⟨a, xs, rfl, sq_of (e _ _ s), fun p hp => by
    have g : Gm M F H (upd F p (.lst (cutV xs lo hi))) (upd H p (.lst (cutV xs lo hi))) := Gm.new e hp
    exact k _ _ _ g (.lst upd_same ((cut_all h).up g.f))⟩
theorem sl_tupM {X : Cx} : SlR X (rSlA X.K) := sl_tupA
theorem cut_whole {α : Type} {l : List α} {lo hi : Option Int} (h : HT.sIx l.length 0 lo = 0 ∧ HT.sIx l.length l.length hi = l.length) : cutL l lo hi = l := by
  unfold cutL
  rw [h.1, h.2, List.drop_zero, Nat.sub_zero, List.take_length]
theorem cut_tup {lo hi : Option Int} (e : Ex F H) (s : SqT K F a xs) (h : DqAll K F xs (l.map en)) (k : Ret M F H (fun F' _ v => Dq K F' v (eV en (cutL l lo hi))) Q) : rSlA K (.ref a) lo hi H Q := by
  have hl : xs.length = l.length := by rw [h.len, List.length_map]
  refine ⟨a, xs, rfl, ex_t e s, fun q => ?_, fun _ p hp => ?_⟩
  · rw [hl] at q
    refine k _ _ _ (Gm.refl e) ?_
    rw [cut_whole q]
    exact .tup s h
  · have g : Gm M F H (upd F p (.tup (cutV xs lo hi))) (upd H p (.tup (cutV xs lo hi))) := Gm.new e hp
    exact k _ _ _ g (.tup (st_of upd_same) ((cut_all h).up g.f))
/-- list(x), tuple(x) -/
theorem to_LL (e : Ex F H) (s : F a = some (.lst xs)) (h : DqAll K F xs (l.map en)) (k : Ret M F H (fun F' _ v => Dq K F' v (eL en l)) Q) : ∃ p ys, [V.ref a] = [.ref p] ∧ (SqL K H p ys ∨ SqT K H p ys) ∧ ∀ l, H l = none → Q (.ref l) (upd H l (.lst ys)) :=
  ⟨a, xs, rfl, .inl (sq_of (e _ _ s)), fun p hp => by
    have g : Gm M F H (upd F p (.lst xs)) (upd H p (.lst xs)) := Gm.new e hp
    exact k _ _ _ g (.lst upd_same (h.up g.f))⟩
theorem to_LV (e : Ex F H) (s : SqT K F a xs) (h : DqAll K F xs (l.map en)) (k : Ret M F H (fun F' _ v => Dq K F' v (eL en l)) Q) : ∃ p ys, [V.ref a] = [.ref p] ∧ (SqL K H p ys ∨ SqT K H p ys) ∧ ∀ l, H l = none → Q (.ref l) (upd H l (.lst ys)) :=
  ⟨a, xs, rfl, .inr (ex_t e s), fun p hp => by
    have g : Gm M F H (upd F p (.lst xs)) (upd H p (.lst xs)) := Gm.new e hp
    exact k _ _ _ g (.lst upd_same (h.up g.f))⟩
theorem to_VL (e : Ex F H) (s : F a = some (.lst xs)) (h : DqAll K F xs (l.map en)) (k : Ret M F H (fun F' _ v => Dq K F' v (eV en l)) Q) :
    ∃ p ys, [V.ref a] = [.ref p] ∧ ((SqL K H p ys ∧ ∀ l, H l = none → Q (.ref l) (upd H l (.tup ys))) ∨ (SqT K H p ys ∧ Q (.ref p) H)) :=
  ⟨a, xs, rfl, .inl ⟨sq_of (e _ _ s), fun p hp => by
    have g : Gm M F H (upd F p (.tup xs)) (upd H p (.tup xs)) := Gm.new e hp
    exact k _ _ _ g (.tup (st_of upd_same) (h.up g.f))⟩⟩
theorem to_VV (e : Ex F H) (s : SqT K F a xs) (h : DqAll K F xs (l.map en)) (k : Ret M F H (fun F' _ v => Dq K F' v (eV en l)) Q) :
    ∃ p ys, [V.ref a] = [.ref p] ∧ ((SqL K H p ys ∧ ∀ l, H l = none → Q (.ref l) (upd H l (.tup ys))) ∨ (SqT K H p ys ∧ Q (.ref p) H)) :=
  ⟨a, xs, rfl, .inr ⟨ex_t e s, k _ _ _ (Gm.refl e) (.tup s h)⟩⟩
/-- of an own list -/
theorem to_VO (e : Ex F H) (o : H a = some (.lst xs)) (h : DqAll K F xs (l.map en)) (k : Ret M F H (fun F' _ v => Dq K F' v (eV en l)) Q) :
    ∃ p ys, [V.ref a] = [.ref p] ∧ ((SqL K H p ys ∧ ∀ l, H l = none → Q (.ref l) (upd H l (.tup ys))) ∨ (SqT K H p ys ∧ Q (.ref p) H)) :=
  ⟨a, xs, rfl, .inl ⟨sq_of o, fun p hp => by
    have g : Gm M F H (upd F p (.tup xs)) (upd H p (.tup xs)) := Gm.new e hp
    exact k _ _ _ g (.tup (st_of upd_same) (h.up g.f))⟩⟩
/-- a new own list -/
theorem new_own (e : Ex F H) (h : DqAll K F xs ds) (hl : xs.length ≤ 100000) (k : ∀ p H', Gm [] F H F H' → H p = none → (H' p = some (.lst xs) ∧ F p = none) → Q (.ref p) H') : xs.length ≤ sizeLine ∧ ∀ p, H p = none → Q (.ref p) (upd H p (.lst xs)) :=
  ⟨sz_of hl, fun p hp => k p _ (Gm.newM e hp) hp ⟨upd_same, by
    cases q : F p with
    | none => rfl
    | some u => rw [e p u q] at hp; cases hp⟩⟩
theorem own_sz (h : DqAll K F xs (l.map en)) (hl : l.length < 100000) : xs.length < sizeLine := sz_lt (by rw [h.len, List.length_map]; exact hl)
theorem RowAt.put {sc ra : Addr} {scr : List Int} {st : Rw} {o : HO} (w : RowAt K sc ra scr F H st) (h : ra ≠ p) : RowAt K sc ra scr F (upd H p o) st := ⟨by rw [upd_ne h]; exact w.1, w.2.1, w.2.2⟩
theorem RowAt.fix {sc ra : Addr} {scr : List Int} {st : Rw} {o : HO} (w : RowAt K sc ra scr F H st) (h : ra ≠ p) (u : Ex F (upd F p o)) : RowAt K sc ra scr (upd F p o) H st := ⟨w.1, by rw [upd_ne h]; exact w.2.1, ex_l u w.2.2⟩
end
section
variable {X : Cx}
theorem call_lenM : CallR X (.builtin "len") (fun xs H Q => ∃ p ys n, xs = [.ref p] ∧ (SqL X.K H p ys ∨ SqT X.K H p ys) ∧ (ys.length : Int) = n ∧ Q (.int n) H) := by
  intro pins s σ H vs us Q I r h
  obtain ⟨p, ys, n, rfl, hq, rfl, q⟩ := h
  exact call_len_seq pins s σ H _ us Q I r ⟨p, ys, rfl, hq, q⟩
theorem call_intM : CallR X (.type "int") (fun xs H Q => ∃ i, xs = [.int i] ∧ Q (.int i) H) := by
  intro pins s σ H vs us Q I r h
  exact call_int1 pins s σ H vs us Q I r (.inl h)
section
variable {α : Type} [DecidableEq α] {f : α → PyData} {n : Nat}
def hasM {α : Type} [DecidableEq α] (l : List α) (a : α) : Bool := l.contains a
def rInM (K : PySem.W.Frag) (f : α → PyData) : R2 := fun x y H Q => ∃ (a : α) (l : List α), Dp K H x (f a) ∧ Dp K H y (eL f l) ∧ Q (.bl (hasM l a)) H
def rNotInM (K : PySem.W.Frag) (f : α → PyData) : R2 := fun x y H Q => ∃ (a : α) (l : List α), Dp K H x (f a) ∧ Dp K H y (eL f l) ∧ Q (.bl (!hasM l a)) H
theorem any_eqv (s : Sh f n) (a : α) (l : List α) : (l.map f).any (fun z => PyData.eqv z (f a)) = l.contains a := by
  induction l with
  | nil => rfl
  | cons b l ih =>
    rw [List.map_cons, List.any_cons, ih, List.contains_cons, s.eq]
    congr 1
    exact Bool.eq_iff_iff.mpr (by simp only [decide_eq_true_eq, beq_iff_eq]; exact ⟨Eq.symm, Eq.symm⟩)
theorem op_inM (s : Sh f n) (hu : X.A.units + 65 < cLine) (hn : n + 1 ≤ 64 := by decide) : OpR X (compareOp .In) (rInM X.K f) := by
  intro pins st σ H x y v u Q I rx ry h
  obtain ⟨a, l, ha, hl, q⟩ := h
  refine op_inD hu pins st σ H x y v u Q I rx ry ⟨f a, l.map f, ha, hl, s.shaped (by omega) a, (sh_eL s).shaped hn l, ?_⟩
  rw [any_eqv s]
  exact q
theorem op_notInM (s : Sh f n) (hu : X.A.units + 65 < cLine) (hn : n + 1 ≤ 64 := by decide) : OpR X (compareOp .NotIn) (rNotInM X.K f) := by
  intro pins st σ H x y v u Q I rx ry h
  obtain ⟨a, l, ha, hl, q⟩ := h
  refine op_notInD hu pins st σ H x y v u Q I rx ry ⟨f a, l.map f, ha, hl, s.shaped (by omega) a, (sh_eL s).shaped hn l, ?_⟩
  rw [any_eqv s]
  exact q
end
end
end Wk

set_option Elab.async false
set_option linter.all false
set_option maxRecDepth 100000
set_option maxHeartbeats 4000000
namespace Wk
open PySem L2 Evl PySem.Spec PyProof.Rows
/-! ### enumerate of a tuple -/
theorem meets_enT (a : Addr) (its : Array Value) :
    Meets (Builtin.«enumerate.__new__» ⟨[.type "enumerate", .ref a], []⟩) (fun _ R z => z.heap.IsTuple a its ∧
      R (.ok (.ret (.ref (z.heap.push { cls := .type "tuple_iterator", data := .fields #[.ref a, .int 0 0] }).objs.size)))
        { z with heap := (z.heap.push { cls := .type "tuple_iterator", data := .fields #[.ref a, .int 0 0] }).push { cls := .type "enumerate", data := .fields #[.none, .bool false, .ref z.heap.objs.size, rawInt 0, .none, .none] } }) :=
  .of_wp fun prog w A R z h => by
    obtain ⟨hp, ge, dr, tk, os⟩ := z
    obtain ⟨ht, h⟩ := h
    have sub := sub_enumerate
    have ht' : Heap.IsTuple (Shared.heap ⟨hp, ge, dr, tk, os⟩) a its := ht
    obtain ⟨⟨c, dd, dt, sl⟩, hl, hc, n, hd⟩ := ht
    replace hc : c = .type "tuple" := hc
    replace hd : dt = .seq its n := hd
    subst hc hd
    wp_walk using AutoSeq1.wpAny_loadPart' hl
    refine wpAny_stack_any fun st => wpAny_pure ?_
    split
    · rename_i c _ _ _ _ _
      cases (c == Value.type "enumerate")
      all_goals
        wp_walk using AutoSeq1.wpAny_loadPart' hl, wpAny_pyIter_tuple ht'
        exact ⟨_, rfl, h⟩
    · wp_walk using AutoSeq1.wpAny_loadPart' hl, wpAny_pyIter_tuple ht'
      exact ⟨_, rfl, h⟩
section
variable {prog : Program} {w : World} {A : Around} {E : Value → Shared → Prop} {z : Shared}
theorem call_enT {a : Addr} {its : Array Value} {Q : Value → Shared → Prop} (ht : z.heap.IsTuple a its)
    (h : ∀ h', IsEnum h' (z.heap.objs.size + 1) z.heap.objs.size 0 .none → h'.IsTupleIter z.heap.objs.size a 0 → h'.objs.size = z.heap.objs.size + 2 →
      (∀ c o, z.heap.get? c = some o → h'.get? c = some o) → Q (.ref (z.heap.objs.size + 1)) { z with heap := h' }) :
    wpAny (model prog w) A (call (.type "enumerate") [.ref a]) Q E z := by
  refine callType_new F.called_enumerate (by decide) (F.typeCall_enumerate_1 _) (F.newCall_enumerate_1 _) (fun ob => F.args_object_init_2 ob _) F.entry_enumerate_new (meets_enT a its) ⟨ht, ?_⟩
  have sz : (z.heap.push { cls := .type "tuple_iterator", data := .fields #[.ref a, .int 0 0] }).objs.size = z.heap.objs.size + 1 := Heap.size_push ..
  show _ ∧ _
  rw [sz]
  have en : IsEnum ((z.heap.push { cls := .type "tuple_iterator", data := .fields #[.ref a, .int 0 0] }).push
      { cls := .type "enumerate", data := .fields #[.none, .bool false, .ref z.heap.objs.size, rawInt 0, .none, .none] }) (z.heap.objs.size + 1) z.heap.objs.size 0 .none := by
    have q := Heap.get?_push_size (z.heap.push { cls := .type "tuple_iterator", data := .fields #[.ref a, .int 0 0] })
      (o := { cls := .type "enumerate", data := .fields #[.none, .bool false, .ref z.heap.objs.size, rawInt 0, .none, .none] }) rfl
    rw [sz] at q
    exact q
  exact ⟨⟨_, en, rfl⟩, h _ en ⟨_, Heap.get?_push_of_some _ (Heap.get?_push_size _ rfl), rfl, rfl⟩ (by rw [Heap.size_push, sz]) fun c o x => Heap.get?_push_of_some _ (Heap.get?_push_of_some _ x)⟩
end
theorem end_enT {prog : Program} {w : World} {A : Around} {E : Value → Shared → Prop} {z : Shared} {e it a : Addr} {i : Nat} {its : Array Value} {old : Value} {Q : Option Value → Shared → Prop} (hh : A.handled = none)
    (he : IsEnum z.heap e it i old) (hit : z.heap.IsTupleIter it a i) (ht : z.heap.IsTuple a its) (hx : its[i]? = none)
    (hQ : ∀ h', Heap.ExtBut it z.heap h' → Q none { z with heap := h' }) : wpAny (model prog w) A (pyNext (.ref e)) Q E z := by
  have ty : z.TypeIs (.ref e) "enumerate" := ⟨_, he, rfl⟩
  unfold pyNext
  refine wpAny_bind (wpAny_attempt (wpAny_callSpecial?_slot (name := Str.ofString "__next__") ty F.slot_enumerate_next (wpAny_call_entry F.slot_enumerate_next ty F.entry_enumerate_next ?_ (F.args_enumerate_next_1 _))))
  show wpAny _ _ (field (.ref e) 2 >>= _) _ _ _
  refine wpAny_bind (wpAny_field he rfl (x := .ref it) rfl ?_)
  refine wpAny_bind (wpAny_nextOf_tuple_end hh hit ht hx fun h' x he' hx' => ?_)
  obtain ⟨o, ho, hc⟩ := hx'
  exact wpAny_bind (wpAny_isInstance (T := "StopIteration") (b := true) ⟨o, ho, hc⟩ isSubtype_stop (wpAny_pure (hQ _ he')))
/-- the tuple at a, each item in a new pair -/
def IteT (K : PySem.W.Frag) (a : Addr) : It :=
  ⟨fun i H => ∃ (xs : List V) (x : V), SqT K H a xs ∧ xs[i]? = some x, fun i H v H' => ∃ T x, v = .ref T ∧ H T = none ∧ H' = upd H T (.tup [.int (i : Nat), x]) ∧ ∀ xs, SqT K H a xs → xs[i]? = some x, fun i H => ∃ xs : List V, SqT K H a xs ∧ xs.length ≤ i⟩
theorem turn_enT {P : Program} {w : World} {K : PySem.W.Frag} {es : List Expr} {kk : Nat} {tp : Pos} (a e it : Addr) (hai : a ≠ it) :
    Turn P w K (.Tuple es kk tp) (IteT K a) [e, it] e (fun i h => (∃ old, IsEnum h e it ((i : Nat) : Int) old) ∧ h.IsTupleIter it a i ∧ e ≠ it) where
  mem := by simp
  obj := fun i h st b hb => by
    obtain ⟨⟨old, he⟩, ⟨o, ho, hc, hd⟩, _⟩ := st
    rcases (show b = e ∨ b = it by simpa using hb) with q | q
    · rw [q]
      exact ⟨_, he, fun v q => nomatch q⟩
    · rw [q]
      exact ⟨o, ho, fun v q => by rw [hd] at q; cases q⟩
  keep := fun i h h' st k => by
    obtain ⟨⟨old, he⟩, hi, hne⟩ := st
    exact ⟨⟨old, k e (by simp) _ he⟩, hi.at fun o q => k it (by simp) o q, hne⟩
  item := by
    intro X hP hw hK hc i pins s σ H E I hf st hg
    subst hP hw hK
    obtain ⟨⟨old, he⟩, hit, hne⟩ := st
    obtain ⟨xs, x, hq, hx⟩ := hg
    obtain ⟨its, rv, p, hz⟩ := I.tuple hq
    obtain ⟨u, hu, ru⟩ := rv.get hx
    have le : e < s.heap.objs.size := Heap.lt_size he
    have li : it < s.heap.objs.size := by
      obtain ⟨_, q, _⟩ := hit
      exact Heap.lt_size q
    have pT : s.heap.IsTuple a its.toArray := p
    have D := (Draws.tuple (prog := X.prog) (w := X.w) (A := X.A.in1) (show X.A.in1.handled = none from I.ok.hd hc) it a hai its.toArray)
    have hi : i < its.toArray.size := by
      have := (List.getElem?_eq_some_iff.mp hu).1
      simpa using this
    have hnm : e ∉ [it, a] := fun hm => by
      rcases (show e = it ∨ e = a by simpa using hm) with q | q
      · exact hne q
      · obtain ⟨o1, q1, c1, _⟩ := pT
        rw [← q, he] at q1
        cases q1
        exact nomatch (show Value.type "enumerate" = Value.type "tuple" from c1) 
    refine wpAny_pyNext_enum_itemD D he ⟨hit, pT⟩ hi hne hnm fun y h' tk hy ho ht' hT hsz hk => ?_
    · have ey : u = y := by
        have hu' : its.toArray[i]? = some u := by simpa using hu
        rw [hy] at hu'
        exact (Option.some.inj hu').symm
      subst ey
      obtain ⟨hit', _⟩ := ht'
      refine ⟨_, rfl, wpAny_letOwnedTupleGo_enum (s := { s with heap := h', toks := tk + 1 }) ho fun h'' he' sb => ?_⟩
      have hT2 : h''.get? s.heap.objs.size = some { cls := .type "tuple", data := .seq #[.int i tk, u] } := (sb.2 _ (Nat.ne_of_gt le)).trans hT
      have new : ObjOk X.prog X.w (upd H s.heap.objs.size (.tup [.int (i : Nat), x])) h'' s.heap.objs.size (.tup [.int (i : Nat), x]) :=
        ⟨by show 2 ≤ sizeLine; decide, [.int i tk, u], .cons ⟨_, rfl⟩ (.cons ru .nil), ⟨_, hT2, rfl, _, rfl⟩⟩
      have J : Inv X pins σ (upd H s.heap.objs.size (.tup [.int (i : Nat), x])) { s with heap := h'', toks := tk + 1 } :=
        I.turnedNew (ch := [e, it]) (fun b ob hb q => (sb.2 b (fun q2 => hb (by simp [q2]))).trans (hk b ob (fun q2 => hb (by simp [q2])) (fun q2 => hb (by simp [q2])) q)) hf (Nat.le_refl _) new
      refine ⟨.ref s.heap.objs.size, _, J, rfl, ⟨_, x, rfl, I.hok.fresh (Nat.le_refl _), rfl, fun ys hy => by rw [I.tuple_inj hy hq]; exact hx⟩, ⟨⟨u, ?_⟩, hit'.at fun o q => (sb.2 it (Ne.symm hne)).trans q, hne⟩, fun b hb => ?_⟩
      · have e1 : ((i + 1 : Nat) : Int) = (i : Int) + 1 := by omega
        rw [e1]
        exact he'
      · have lb : b < s.heap.objs.size := by
          rcases (show b = e ∨ b = it by simpa using hb) with q | q
          · rw [q]; exact le
          · rw [q]; exact li
        rw [upd_ne (Nat.ne_of_lt lb)]
        exact (hf b hb).1
  done := by
    intro X hP hw hK hc i pins s σ H E I hf st hg
    subst hP hw hK
    obtain ⟨⟨old, he⟩, hit, hne⟩ := st
    obtain ⟨xs, hq, hx⟩ := hg
    obtain ⟨its, rv, p, hz⟩ := I.tuple hq
    obtain ⟨f0, f1, f2, f3, f4, f5⟩ := hf it (by simp)
    have hl := rv.length
    have pT : s.heap.IsTuple a its.toArray := p
    refine end_enT (I.ok.hd hc) he hit pT (by simp; omega) fun h' eb => ⟨rfl, I.turned (t' := s.toks) (fun b o hb q => eb b o hb q) f0 f1 f3 f4 f5⟩
  self := fun A i s Q E st h => by
    obtain ⟨⟨_, he⟩, _⟩ := st
    exact wpAny_pyIter_enum he h
def iEnT (K : PySem.W.Frag) (ta : TA) : TI := fun σ H R => ta σ H fun vs H1 => ∃ a xs, vs = [.ref a] ∧ SqT K H1 a xs ∧ R (IteT K a) H1
theorem pi_enumT {X : Cx} {e : Expr} {ta : TA} {p pos tp : Pos} {es : List Expr} {kk : Nat} (hg : Gl X "enumerate") (hm : X.mg "enumerate" = none) (ha : PA X [e] ta) (hs : starEach [e] X.env = [(false, eval e X.env)] := by rfl) :
    PI X (.Tuple es kk tp) (.Call (.Name "enumerate" p) [e] [] pos) (iEnT X.K ta) := by
  refine ⟨fun pins s σ H R I h => ?_⟩
  refine Call_ (ld_blt I hg hm boot_enumerate (PyProof.Rows.callWith_type1 (thn (ha.run pos pins s σ H _ I h) fun us s1 hh => ?_) hs rfl))
  obtain ⟨vs, H1, I1, r1, a, xs, ex, hq, q⟩ := hh
  subst ex
  cases r1 with
  | cons r rr =>
    cases rr
    cases r
    obtain ⟨its, rv, p', hz⟩ := I1.tuple hq
    have pT : s1.heap.IsTuple a its.toArray := p'
    have la : a < s1.heap.objs.size := by
      obtain ⟨o, q, _⟩ := pT
      exact Heap.lt_size q
    refine call_enT pT fun h' he hit hsz hk => wpAny_pyIter_enum he ?_
    have I2 : Inv X pins σ H1 { s1 with heap := h' } := I1.kept (t' := s1.toks) hk
    refine ⟨s1.heap.objs.size + 1, [s1.heap.objs.size + 1, s1.heap.objs.size], _, _, H1, rfl, I2, turn_enT a (s1.heap.objs.size + 1) s1.heap.objs.size (Nat.ne_of_lt la), ⟨⟨.none, he⟩, hit, Nat.succ_ne_self _⟩, fun b hb => ?_, q⟩
    have hle : s1.heap.objs.size ≤ b := by
      rcases (show b = s1.heap.objs.size + 1 ∨ b = s1.heap.objs.size by simpa using hb) with z | z
      · rw [z]; exact Nat.le_succ _
      · rw [z]; exact Nat.le_refl _
    exact I1.fpOk hle (I1.hok.fresh hle)
section
variable {K : PySem.W.Frag} {M : List Addr} {F H : Hp} {α : Type} {xs : List V} {l : List α} {en : α → PyData} {a : Addr}
theorem wlk_enumT (e : Ex F H) (h : SqT K F a xs) (da : DqAll K F xs (l.map en)) : Wlk M F H (IteT K a) (enumL l) (fun F v x => Dq K F v (e2 PyData.int en x)) := by
  have hl : xs.length = l.length := by rw [da.len, List.length_map]
  refine ⟨xs.length, fun H => SqT K H a xs, YPair (fun i => some (.int (i : Nat))) (fun i => xs[i]?), ⟨fun i _ hi q => ⟨xs, xs[i], q, by simp [hi]⟩, fun _ q => ⟨xs, q, Nat.le_refl _⟩, fun i H v H' _ q y => ?_⟩, by simp [enumL, rangeL, hl], fun F' H' g' => ex_t g'.s (ex_t g'.f h), fun i x v F' H' H'' g' hx y => ?_⟩
  · obtain ⟨T, x, h1, h2, h3, h4⟩ := y
    exact ⟨T, .int (i : Nat), x, h1, h2, h3, rfl, h4 xs q⟩
  · obtain ⟨T, u, w, rfl, hT, rfl, h1, h2⟩ := y
    obtain ⟨d, hd, hq⟩ := (da.up g'.f).getV h2
    obtain ⟨x1, x2⟩ := x
    unfold enumL at hx
    rw [List.getElem?_zip_eq_some] at hx
    obtain ⟨hx1, hx2⟩ := hx
    have e1 := rangeL_at hx1
    simp only at e1 hx2
    rw [List.getElem?_map, hx2] at hd
    cases hd
    cases h1
    have g2 : Gm [] F' H' (upd F' T (.tup [V.int (i : Nat), w])) (upd H' T (.tup [V.int (i : Nat), w])) := Gm.new g'.s hT
    refine ⟨_, g2, .tup (st_of upd_same) (.cons ?_ (.cons (hq.up g2.f) .nil))⟩
    rw [e1, Int.zero_add]
    exact .int _
end
end Wk

set_option Elab.async false
set_option linter.all false
set_option maxRecDepth 100000
set_option maxHeartbeats 4000000
namespace Wk
open PySem L2 Evl PySem.Spec PyProof.Rows
/-! ### set(a list of ints), sorted -/
abbrev emS (w : World) : Obj := { cls := .type "set", dict := none, data := .set #[] 0 (.fresh 0 0 (!w.params.followText "set-order")) }
section
variable {P : Program} {w : World} {A : Around} {E : Value → Shared → Prop} {z : Shared}
theorem call_set_li {u : Addr} {its : Array Value} (ks : List Int) {Q : Value → Shared → Prop} (hh : A.handled = none) (hl : z.heap.IsList u its) (hit : IntsAre its.toList ks) (hb : ks.length + 1 < scanBound)
    (h : ∀ (h' : Heap) (tk c : Nat), SetR w h' z.heap.objs.size (fun j => decide (j ∈ ks)) c → c ≤ ks.length → (∀ b o, z.heap.get? b = some o → h'.get? b = some o) → Q (.ref z.heap.objs.size) { z with heap := h', toks := tk }) :
    wpAny (model P w) A (call (.type "set") [.ref u]) Q E z := by
  have sz : its.size = ks.length := by
    have q := IntsAre.length hit
    rwa [Array.length_toList] at q
  obtain ⟨c, tl, hmro⟩ := F.called_set.mro
  have made := F.called_set.made
  have sub := F.called_set.sub
  refine wpAny_call (codeAny_of_tree ?_); (show wpAny _ _ (callAny (.type "set") _) _ _ _)
  refine wpAny_pure ⟨Code.quiet_builtin _ (by decide +kernel), codeAny_builtin F.entry_type_call ?_⟩; rw [Around.under_plain (weight_type_call_type "set" [.ref u] []) rfl]
  have n1 := F.called_set.notType
  have n2 := F.called_set.canCreate
  have n3 := F.typeCall_set_1 (.ref u)
  repeat (any_goals (first | assumption | wp_step))
  refine codeAny_mono (code_set_led1 (.ref u) (E := E) (Q₁ := fun ob z1 => ob = .ref z.heap.objs.size ∧ z1 = { z with heap := z.heap.push (emS w) }) ⟨rfl, rfl⟩) fun r z1 hr => ?_
  cases r with
  | error e => exact hr
  | ok fl =>
    cases fl with
    | ret ob =>
      obtain ⟨rfl, rfl⟩ := hr
      have atS : (z.heap.push (emS w)).get? z.heap.objs.size = some (emS w) := Heap.get?_push_size _ rfl
      have tyS : Shared.TypeIs { z with heap := z.heap.push (emS w) } (.ref z.heap.objs.size) "set" := ⟨_, atS, rfl⟩
      have i1 := F.called_set.init.lookup
      have i2 := F.called_set.init.bind (.ref z.heap.objs.size)
      repeat (any_goals (first | assumption | wp_step))
      refine codeAny_mono (codeAny_call_builtin (R := wants (fun r z2 => r = .none ∧ ∃ h' tk c, z2 = { z with heap := h', toks := tk } ∧ SetR w h' z.heap.objs.size (fun j => decide (j ∈ ks)) c ∧ c ≤ ks.length ∧
          (∀ b o, z.heap.get? b = some o → h'.get? b = some o)) E) F.called_set.init.plain F.entry_set_init (check_set_init_1 tyS ?_)) fun r2 z2 hr2 => ?_
      · obtain ⟨ol, hol, hcl, nl, hdl⟩ := hl
        obtain ⟨oc, od, dt, sl⟩ := ol
        simp only at hcl hdl
        subst hcl
        subst hdl
        have atU : (z.heap.push (emS w)).get? u = some { cls := .type "list", dict := od, data := .seq its nl, slots := sl } := Heap.get?_push_of_some _ hol
        have no1 := F.sub_list_set
        have no2 := F.sub_list_frozenset
        have no3 : (Value.type "list" == Value.type "dict") = false := by decide
        have isl : (z.heap.push (emS w)).IsList u its := ⟨_, atU, rfl, nl, rfl⟩
        unfold Builtin.«set.__init__» noKeywords Builtin.Frozenset.updateFrom
        generalize hPI : pyIter = pI
        wp_walk
        subst hPI
        refine wpAny_pyIter_list isl ?_
        refine wpAny_bind (wpAny_runValue ?_)
        have lu : u < z.heap.objs.size := Heap.lt_size hol
        have h3 : A.in1.in1.in1.handled = none := by simp [hh]
        have ux : u ≠ (z.heap.push (emS w)).objs.size := by rw [Heap.size_push]; exact Nat.ne_of_lt (Nat.lt_succ_of_lt lu)
        have nf : z.heap.objs.size ∉ [(z.heap.push (emS w)).objs.size, u] := by
          rw [Heap.size_push]
          simp only [List.mem_cons, List.mem_singleton, List.not_mem_nil, or_false, not_or]
          exact ⟨Nat.ne_of_lt (Nat.lt_succ_self _), Nat.ne_of_gt lu⟩
        have val : ∀ (i : Nat) (v : Value), its[i]? = some v → ∃ k t, ks[i]? = some k ∧ v = .int k t := fun i v hv => by
          have hi : i < ks.length := by rw [← sz]; exact (Array.getElem?_eq_some_iff.mp hv).1
          obtain ⟨t, e⟩ := PyProof.Rows.IntsAre.int_at hit i v (by rw [Array.getElem?_toList]; exact hv)
          refine ⟨ks[i], t, List.getElem?_eq_getElem hi, ?_⟩
          rw [e, List.getD_eq_getElem?_getD, List.getElem?_eq_getElem hi]
          all_goals rfl
        refine set_update_ints ((Walks.list h3 _ u ux its).toS) z.heap.objs.size nf ks sz hb val (its.size - 0) 0 _ (by omega) (Nat.zero_le _) ⟨⟨_, Heap.get?_push_size _ rfl, rfl, rfl⟩, (isl.push _)⟩ ?a0 ?a1
        case a0 =>
          have q : ((z.heap.push (emS w)).push { cls := .type "list_iterator", data := .fields #[.ref u, .int 0 0] }).get? z.heap.objs.size = some (emS w) := Heap.get?_push_of_some _ atS
          exact ⟨0, Nat.le_refl 0, setR_new_at q⟩
        case a1 =>
          intro z3 c' hm hc' hS'
          obtain ⟨h', g2, d', tk', os'⟩ := z3
          have eg : g2 = z.gens := hm.gens
          have ed : d' = z.drawn := hm.drawn
          have eo : os' = z.os := hm.os
          subst eg; subst ed; subst eo
          (show wpAny _ _ _ _ _ _); refine wpAny_pure ?_
          show wpAny _ _ (ret Value.none) _ _ _
          rw [sz] at hc'
          refine wpAny_pure ⟨rfl, h', tk', c', rfl, hS', hc', fun b o e => ?_⟩
          have b0 : b < z.heap.objs.size := Heap.lt_size e
          have b2 : b ≠ (z.heap.push (emS w)).objs.size := by rw [Heap.size_push]; exact Nat.ne_of_lt (Nat.lt_succ_of_lt b0)
          exact hm.heap b o (by simp only [List.mem_cons, List.mem_singleton, List.not_mem_nil, or_false, not_or]; exact ⟨Nat.ne_of_lt b0, b2⟩) (Heap.get?_push_of_some _ (Heap.get?_push_of_some _ e))
      · cases r2 with
        | error e => exact hr2
        | ok f2 => cases f2 with
          | ret r =>
            obtain ⟨rfl, h', tk, c', rfl, hS', hc', hk'⟩ := hr2
            repeat (any_goals (first | assumption | wp_step))
            exact h h' tk c' hS' hc' hk'
          | _ => exact False.elim hr2
    | _ => exact False.elim hr
end
end Wk

set_option Elab.async false
set_option linter.all false
set_option maxRecDepth 100000
set_option maxHeartbeats 4000000
namespace Wk
open PySem L2 Evl PySem.Spec PyProof.Rows
section
variable {X : Cx}
/-- set(a list of ints) -/
def rSetM (w : World) (K : PySem.W.Frag) : List V → Hp → VK → Prop := fun vs H Q => ∃ (a : Addr) (ns : List Int), vs = [.ref a] ∧ SqL K H a (ns.map V.int) ∧ ns.length < 64 ∧
  ∀ p c, H p = none → c ≤ ns.length → Q (.ref p) (upd H p (SetO w p (fun j => decide (j ∈ ns)) c))
theorem cr_setM (hcalm : X.calm = true) : CallR X (.type "set") (rSetM X.w X.K) := by
  intro pins s σ H vs us Q I r h
  obtain ⟨a, ns, rfl, hq, h64, q⟩ := h
  cases r with
  | cons r rr =>
    cases rr
    cases r
    obtain ⟨its, rv, pl, hz⟩ := I.list hq
    refine call_set_li ns (I.ok.hd hcalm) pl.isList (by simpa using rv.ints) (by unfold scanBound; omega) fun h' tk c hS hc hk => ?_
    have J : Inv X pins σ (upd H s.heap.objs.size (SetO X.w s.heap.objs.size (fun j => decide (j ∈ ns)) c)) { s with heap := h', toks := tk } := I.laid hk (Nat.le_refl _) (setO_new hS)
    exact ⟨.ref s.heap.objs.size, _, J, rfl, q _ c (I.hok.fresh (Nat.le_refl _)) hc⟩
end
/-! ### a sorted set -/
def insU (x : Int) : List Int → List Int
  | [] => [x]
  | y :: l => if x < y then x :: y :: l else if x = y then y :: l else y :: insU x l
def sortedSet (l : List Int) : List Int := l.foldr insU []
theorem mem_insU (x k : Int) : ∀ l, k ∈ insU x l ↔ k = x ∨ k ∈ l
  | [] => by simp [insU]
  | y :: l => by
    unfold insU
    split
    · simp
    · split
      · rename_i h
        subst h
        simp
      · simp only [List.mem_cons, mem_insU x k l]
        constructor
        · rintro (h | h | h)
          · exact .inr (.inl h)
          · exact .inl h
          · exact .inr (.inr h)
        · rintro (h | h | h)
          · exact .inr (.inl h)
          · exact .inl h
          · exact .inr (.inr h)
theorem asc_insU (x : Int) : ∀ l : List Int, l.Pairwise (· < ·) → (insU x l).Pairwise (· < ·)
  | [], _ => by simp [insU]
  | y :: l, h => by
    obtain ⟨h1, h2⟩ := List.pairwise_cons.mp h
    unfold insU
    split
    · rename_i q
      refine List.pairwise_cons.mpr ⟨fun a ha => ?_, h⟩
      rcases List.mem_cons.mp ha with e | e
      · rw [e]; exact q
      · exact Int.lt_trans q (h1 a e)
    · split
      · exact h
      · refine List.pairwise_cons.mpr ⟨fun a ha => ?_, asc_insU x l h2⟩
        rcases (mem_insU x a l).mp ha with e | e
        · rw [e]; omega
        · exact h1 a e
theorem mem_sortedSet (k : Int) : ∀ l : List Int, k ∈ sortedSet l ↔ k ∈ l
  | [] => by simp [sortedSet]
  | x :: l => by
    show k ∈ insU x (sortedSet l) ↔ _
    rw [mem_insU, mem_sortedSet k l, List.mem_cons]
theorem asc_sortedSet : ∀ l : List Int, (sortedSet l).Pairwise (· < ·)
  | [] => List.Pairwise.nil
  | x :: l => asc_insU x _ (asc_sortedSet l)
/-- two ascending lists of the same members are one -/
theorem asc_unique : ∀ l r : List Int, l.Pairwise (· < ·) → r.Pairwise (· < ·) → (∀ k, k ∈ l ↔ k ∈ r) → l = r
  | [], [], _, _, _ => rfl
  | [], y :: r, _, _, h => absurd ((h y).mpr (List.mem_cons_self ..)) (by simp)
  | x :: l, [], _, _, h => absurd ((h x).mp (List.mem_cons_self ..)) (by simp)
  | x :: l, y :: r, hl, hr, h => by
    obtain ⟨l1, l2⟩ := List.pairwise_cons.mp hl
    obtain ⟨r1, r2⟩ := List.pairwise_cons.mp hr
    have e : x = y := by
      have hx : x = y ∨ x ∈ r := List.mem_cons.mp ((h x).mp (List.mem_cons_self ..))
      have hy : y = x ∨ y ∈ l := List.mem_cons.mp ((h y).mpr (List.mem_cons_self ..))
      rcases hx with q | q
      · exact q
      · rcases hy with q' | q'
        · exact q'.symm
        · have := r1 x q
          have := l1 y q'
          omega
    subst e
    rw [asc_unique l r l2 r2 fun k => ?_]
    constructor
    · intro hk
      rcases List.mem_cons.mp ((h k).mp (List.mem_cons_of_mem _ hk)) with q | q
      · have := l1 k hk
        omega
      · exact q
    · intro hk
      rcases List.mem_cons.mp ((h k).mpr (List.mem_cons_of_mem _ hk)) with q | q
      · have := r1 k hk
        omega
      · exact q
section
variable {K : PySem.W.Frag} {M : List Addr} {F H : Hp} {Q : VK} {w : World} {a : Addr} {l : List Int}
theorem sorted_set (e : Ex F H) (s : F a = some (.lst (l.map V.int))) (hl : l.length < 64) (k : Ret M F H (fun F' _ v => Dq K F' v (eL PyData.int (sortedSet l))) Q) :
    ∃ (a' : Addr) (ns : List Int), [V.ref a] = [.ref a'] ∧ SqL K H a' (ns.map V.int) ∧ ns.length < 64 ∧ ∀ p c, H p = none → c ≤ ns.length → rSortedSet w [.ref p] (upd H p (SetO w p (fun j => decide (j ∈ ns)) c)) Q := by
  refine ⟨a, l, rfl, sq_of (e _ _ s), hl, fun p c hp hc => ⟨p, _, c, rfl, upd_same, by omega, fun ns q asc mem _ hq => ?_⟩⟩
  have g1 : Gm M F H (upd F p (SetO w p (fun j => decide (j ∈ l)) c)) (upd H p (SetO w p (fun j => decide (j ∈ l)) c)) := Gm.new e hp
  have g2 : Gm M (upd F p (SetO w p (fun j => decide (j ∈ l)) c)) (upd H p (SetO w p (fun j => decide (j ∈ l)) c)) _ _ := Gm.new (o := .lst (ns.map V.int)) g1.s hq
  have en : ns = sortedSet l := asc_unique ns _ asc (asc_sortedSet l) fun j => by
    rw [mem, mem_sortedSet]
    simp
  refine k _ _ _ (g1.trans g2) ?_
  rw [← en]
  exact .lst upd_same (ints_all ns)
end
end Wk

set_option Elab.async false
set_option linter.all false
set_option maxRecDepth 100000
set_option maxHeartbeats 1000000
namespace Wk
open PySem L2 Evl
theorem Gm.youngs {F0 H0 : Hp} {M : List Addr} {F H F1 H1 : Hp} (ps : List Addr) (g : Gm M F0 H0 F H) (h0 : ∀ p ∈ ps, H0 p = none) (g2 : Gm (ps ++ M) F H F1 H1) : Gm M F0 H0 F1 H1 :=
  ⟨g.f.trans g2.f, g2.s, fun a o hM h => g2.h a o (fun q => by
      rcases List.mem_append.mp q with q | q
      · rw [h0 a q] at h; cases h
      · exact hM q) (g.h a o hM h), fun a o h hn => by
    obtain ⟨o', h'⟩ := g.m a o h
    exact g2.n a o' h' (g.n a o h hn), fun a o h => by
    obtain ⟨o', h'⟩ := g.m a o h
    exact g2.m a o' h'⟩
/-! ### a draw -/
def seedN (s c : Int) : Int := (s * 48271 + c + 11) % 2147483647
def takenA (scr : List Int) (st : Rw) (many : Int) : Mm (Int × Rw) :=
  if 0 < many ∧ many < 1073741824 ∧ 0 ≤ st.seed ∧ st.seed < 2147483647 ∧ 0 ≤ st.pos ∧ st.pos < 1000000 then
    if st.left > 0 then .ok (st.left % many, ⟨st.pos, st.seed, st.left / many⟩)
    else match scr[st.pos.toNat]? with
      | none => .ok ((seedN st.seed 0 / 7) % many, ⟨st.pos + 1, seedN st.seed 0, st.left⟩)
      | some c => .ok (c % many, ⟨st.pos + 1, seedN st.seed c, if c ≥ 10 ^ 18 then c / many else 0⟩)
  else .bad
def takenB (scr : List Int) (st : Rw) (many : Int) : Mm (Int × Rw) :=
  if 0 < many ∧ many < 1073741824 ∧ 0 ≤ st.seed ∧ st.seed < 2147483647 ∧ 0 ≤ st.pos ∧ st.pos < 1000000 then
    if st.left > 0 then .ok (st.left % many, ⟨st.pos, st.seed, st.left / many⟩)
    else match scr[st.pos.toNat]? with
      | none => .ok ((seedN st.seed 0 / 7) % many, ⟨st.pos + 1, seedN st.seed 0, st.left⟩)
      | some c => .ok (c % many, ⟨st.pos + 1, seedN st.seed c, if c ≥ 10 ^ 18 then c / many else st.left⟩)
  else .bad
def spTaken (tk : List Int → Rw → Int → Mm (Int × Rw)) (K : PySem.W.Frag) : Sp := fun vs H Q _ => ∃ (F : Hp) (sc ra : Addr) (scr : List Int) (st : Rw) (many : Int), vs = [.ref ra, .int many] ∧ Ex F H ∧ RowAt K sc ra scr F H st ∧
  Post (tk scr st many) (fun r => Ret [ra] F H (fun F' H' v => v = .int r.1 ∧ RowAt K sc ra scr F' H' r.2) Q) (fun _ => False)
theorem iteP {c : Bool} {A B : Prop} (h : c = true) (a : A) : if c = true then A else B := by rw [if_pos h]; exact a
theorem iteN {c : Bool} {A B : Prop} (h : c = false) (b : B) : if c = true then A else B := by rw [h, if_neg Bool.false_ne_true]; exact b
theorem cmul_small {i j : Int} (h : i.natAbs < 2 ^ 62) (h' : j.natAbs < 2 ^ 62) : CMulW i j := wide_mul h h' (by decide) (by decide) (by decide)
theorem fmod_pos {i j : Int} (h : 0 < j) : i.fmod j = i % j := Int.fmod_eq_emod_of_nonneg _ (Int.le_of_lt h)
theorem fdiv_pos {i j : Int} (h : 0 < j) : i.fdiv j = i / j := Int.fdiv_eq_ediv_of_nonneg _ (Int.le_of_lt h)
/-- pick one of a list -/
def pickM {α : Type} (tk : List Int → Rw → Int → Mm (Int × Rw)) (scr : List Int) (st : Rw) (l : List α) : Mm (α × Rw) := (tk scr st (l.length : Int)).bd fun b => (getM l b.1).bd fun a => .ok (a, b.2)
def spPick (tk : List Int → Rw → Int → Mm (Int × Rw)) (K : PySem.W.Frag) : Sp := fun vs H Q _ => ∃ (F : Hp) (sc ra : Addr) (scr : List Int) (st : Rw) (α : Type) (en : α → PyData) (v : V) (l : List α), vs = [.ref ra, v] ∧ Ex F H ∧ RowAt K sc ra scr F H st ∧ Dq K F v (eL en l) ∧
  Post (pickM tk scr st l) (fun r => Ret [ra] F H (fun F' H' v => Dq K F' v (en r.1) ∧ RowAt K sc ra scr F' H' r.2) Q) (fun _ => False)
end Wk

set_option Elab.async false
set_option linter.all false
set_option maxRecDepth 100000
set_option maxHeartbeats 1000000
namespace Wk
open PySem L2 Evl
theorem notM_nil {H : Hp} : ∀ D, H D = none → D ∉ ([] : List Addr) := fun _ _ => by simp
theorem notM_cons {H : Hp} {p : Addr} {o : HO} {M : List Addr} (h : H p = some o) (k : ∀ D, H D = none → D ∉ M) : ∀ D, H D = none → D ∉ p :: M := fun D hD q => by
  rcases List.mem_cons.mp q with q | q
  · rw [q, h] at hD; cases hD
  · exact k D hD q
/-! ### own lists whose place is open -/
section
variable {M ps : List Addr} {F0 H0 F H F1 H1 : Hp} {p : Addr} {o u : HO}
theorem Gm.putOr (g : Gm M F0 H0 F H) (y : p ∈ M ∨ H0 p = none) (h : H p = some u) (hf : F p = none) : Gm M F0 H0 F (upd H p o) := by
  rcases y with y | y
  · exact g.putIn y h hf
  · exact g.putYoung h hf y
theorem Gm.outs (ps : List Addr) (hy : ∀ p ∈ ps, p ∈ M ∨ H0 p = none) (g : Gm M F0 H0 F H) (g2 : Gm (ps ++ M) F H F1 H1) : Gm M F0 H0 F1 H1 :=
  ⟨g.f.trans g2.f, g2.s, fun a o hM h => g2.h a o (fun q => by
      rcases List.mem_append.mp q with q | q
      · rcases hy a q with z | z
        · exact hM z
        · rw [z] at h; cases h
      · exact hM q) (g.h a o hM h), fun a o h hn => by
    obtain ⟨o', h'⟩ := g.m a o h
    exact g2.n a o' h' (g.n a o h hn), fun a o h => by
    obtain ⟨o', h'⟩ := g.m a o h
    exact g2.m a o' h'⟩
theorem out_y (hy : ∀ p ∈ ps, p ∈ M ∨ H0 p = none) (g : Gm M F0 H0 F H) (y : p ∈ ps ++ M ∨ H p = none) : p ∈ M ∨ H0 p = none := by
  rcases y with y | y
  · rcases List.mem_append.mp y with q | q
    · exact hy p q
    · exact .inl q
  · exact .inr (g.fresh y)
theorem y_ra {ra : Addr} (y : p ∈ [ra] ∨ H0 p = none) (n : ra ≠ p) : H0 p = none := by
  rcases y with y | y
  · exact absurd (List.mem_singleton.mp y).symm n
  · exact y
theorem y_no (y : p ∈ ([] : List Addr) ∨ H0 p = none) : H0 p = none := by
  rcases y with y | y
  · cases y
  · exact y
end
section
variable {K : PySem.W.Frag} {F H : Hp} {Q : VK} {xs ys : List V} {α : Type} {en : α → PyData} {l l' : List α} {a b : Addr}
theorem own_of (e : Ex F H) (k : ∀ p H', Gm [] F H F H' → H p = none → (H' p = some (.lst xs) ∧ F p = none) → Q (.ref p) H') : ∀ p, H p = none → Q (.ref p) (upd H p (.lst xs)) := fun p hp => k p _ (Gm.newM e hp) hp ⟨upd_same, by
    cases q : F p with
    | none => rfl
    | some u => rw [e p u q] at hp; cases hp⟩
/-- list(x) that may change -/
theorem to_own (e : Ex F H) (s : SqL K H a xs ∨ SqT K H a xs) (k : ∀ p H', Gm [] F H F H' → H p = none → (H' p = some (.lst xs) ∧ F p = none) → Q (.ref p) H') : ∃ p ys, [V.ref a] = [.ref p] ∧ (SqL K H p ys ∨ SqT K H p ys) ∧ ∀ l, H l = none → Q (.ref l) (upd H l (.lst ys)) :=
  ⟨a, xs, rfl, s, own_of e k⟩
end
/-! ### isinstance of an int -/
section
variable {X : Cx}
theorem call_isiI : CallR X (.builtin "isinstance") (fun xs H Q => ∃ (i : Int) (n : String) (b : Bool), xs = [.int i, .ty n] ∧ ((n = "int" ∧ b = true) ∨ (n = "bool" ∧ b = false)) ∧ Q (.bl b) H) := by
  intro pins s σ H vs us Q I r h
  obtain ⟨i, n, b, rfl, hn, q⟩ := h
  rcases hn with ⟨rfl, rfl⟩ | ⟨rfl, rfl⟩
  · exact call_isi pins s σ H _ us Q I r ⟨_, _, _, _, true, rfl, .ty _, .base (.int i), kit_ty (by decide +kernel), q⟩
  · exact call_isi pins s σ H _ us Q I r ⟨_, _, _, _, false, rfl, .ty _, .base (.int i), kit_ty (by decide +kernel), q⟩
end
/-! ### tuples of unlike items, empty or not -/
section
variable {K : PySem.W.Frag} {M : List Addr} {F H : Hp} {Q : VK} {α β : Type} {en : α → PyData} {en' : β → PyData} {l : List α} {l' : List β} {xs ys : List V} {a b : Addr}
theorem cat_tupD (e : Ex F H) (s : SqT K F a xs) (h : DqAll K F xs (l.map en)) (s' : SqT K F b ys) (h' : DqAll K F ys (l'.map en')) (hl : l.length + l'.length ≤ 100000) (k : Ret M F H (fun F' _ v => Dq K F' v (.tuple (l.map en ++ l'.map en'))) Q) : rCatM K (.ref a) (.ref b) H Q := by
  have n1 : xs.length = l.length := by rw [h.len, List.length_map]
  have n2 : ys.length = l'.length := by rw [h'.len, List.length_map]
  refine ⟨a, b, xs, ys, rfl, rfl, ex_t e s, ex_t e s', sz_of (by omega), fun q => ?_, fun _ q => ?_, fun _ _ p hp => ?_⟩
  · subst q
    have hl0 : l = [] := List.length_eq_zero_iff.mp n1.symm
    exact k _ _ _ (Gm.refl e) (by rw [hl0]; exact .tup s' h')
  · subst q
    have hl0 : l' = [] := List.length_eq_zero_iff.mp n2.symm
    exact k _ _ _ (Gm.refl e) (by rw [hl0, List.map_nil, List.append_nil]; exact .tup s h)
  · have g : Gm M F H (upd F p (.tup (xs ++ ys))) (upd H p (.tup (xs ++ ys))) := Gm.new e hp
    exact k _ _ _ g (.tup (st_of upd_same) ((h.app h').up g.f))
end
section
variable {X : Cx} {α β : Type} [DecidableEq α] [DecidableEq β] {f : α → PyData} {g : β → PyData} {n m : Nat}
theorem lay_app : ∀ (l r : List PyData), PyData.canLayAll0 l = true → PyData.canLayAll0 r = true → PyData.canLayAll0 (l ++ r) = true
  | [], r, _, h => h
  | x :: l, r, h, h' => by
    simp only [PyData.canLayAll0, Bool.and_eq_true] at h
    simp only [List.cons_append, PyData.canLayAll0, Bool.and_eq_true]
    exact ⟨h.1, lay_app l r h.2 h'⟩
theorem dep_app : ∀ (l r : List PyData) (k : Nat), PyData.depthAll l ≤ k → PyData.depthAll r ≤ k → PyData.depthAll (l ++ r) ≤ k
  | [], r, _, _, h => h
  | x :: l, r, k, h, h' => by
    simp only [PyData.depthAll] at h
    simp only [List.cons_append, PyData.depthAll]
    have := dep_app l r k (by omega) h'
    omega
theorem shaped_cat (s : Sh f n) (s' : Sh g m) (l : List α) (r : List β) (h : max n m + 1 ≤ 64 := by decide) : SeqAt.shaped (.tuple (l.map f ++ r.map g)) = true := by
  unfold SeqAt.shaped
  have d := dep_app (l.map f) (r.map g) (max n m) (Nat.le_trans (dep_map s l) (Nat.le_max_left ..)) (Nat.le_trans (dep_map s' r) (Nat.le_max_right ..))
  simp only [PyData.canLay0, lay_app _ _ (lay_map s l) (lay_map s' r), PyData.depth, Bool.true_and]
  exact decide_eq_true (by omega)
/-- t != (), t == () -/
def rNilM (K : PySem.W.Frag) (neg : Bool) : R2 := fun x y H Q => ∃ (ds : List PyData) (b : Bool), Dp K H x (.tuple ds) ∧ Dp K H y (.tuple []) ∧ SeqAt.shaped (.tuple ds) = true ∧ ds.isEmpty = b ∧ Q (.bl (if neg = true then !b else b)) H
theorem eqv_nil (ds : List PyData) : PyData.eqv (.tuple ds) (.tuple []) = ds.isEmpty := by
  cases ds <;> rfl
theorem op_neNil (hu : X.A.units + 64 < cLine) : OpR X (compareOp .NotEq) (rNilM X.K true) := by
  intro pins st σ H x y v u Q I rx ry h
  obtain ⟨ds, b, hd, he, sd, rfl, q⟩ := h
  exact op_neD hu pins st σ H x y v u Q I rx ry ⟨.tuple ds, .tuple [], hd, he, sd, by decide, by rw [eqv_nil]; exact q⟩
theorem op_eqNil (hu : X.A.units + 64 < cLine) : OpR X (compareOp .Eq) (rNilM X.K false) := by
  intro pins st σ H x y v u Q I rx ry h
  obtain ⟨ds, b, hd, he, sd, rfl, q⟩ := h
  exact op_eqD hu pins st σ H x y v u Q I rx ry ⟨.tuple ds, .tuple [], hd, he, sd, by decide, by rw [eqv_nil]; exact q⟩
theorem isEmpty_cat (l : List α) (r : List β) : (l.map f ++ r.map g).isEmpty = (l.isEmpty && r.isEmpty) := by
  cases l <;> cases r <;> rfl
end
/-! ### weightings -/
abbrev Ms := List (Int × Int)
abbrev Ss := List (Int × Int × Int)
abbrev Wt := Ms × Ss
abbrev eM : Ms → PyData := eV (e2 PyData.int PyData.int)
abbrev eS : Ss → PyData := eV (e3 PyData.int PyData.int PyData.int)
def wf (m s : V) : List (Str × V) := putF "_stretches" s (putF "_masses" m [])
theorem wf_eq (m s : V) : wf m s = ([("_masses", m), ("_stretches", s)] : List (Str × V)) := by
  have n : ¬ (("_masses" : Str) = "_stretches") := by decide +kernel
  show (if ("_masses" : Str) = "_stretches" then [(("_masses" : Str), s)] else (("_masses" : Str), m) :: putF "_stretches" s []) = ([("_masses", m), ("_stretches", s)] : List (Str × V))
  rw [if_neg n]
  rfl
theorem wf_m (m s : V) : (wf m s).lookup ("_masses" : Str) = some m := by
  unfold wf
  rw [lookup_putF, if_neg (by decide +kernel), lookup_putF, if_pos rfl]
theorem wf_s (m s : V) : (wf m s).lookup ("_stretches" : Str) = some s := by
  unfold wf
  rw [lookup_putF, if_pos rfl]
/-- v is a weighting that stands fixed -/
structure IsW (K : PySem.W.Frag) (C : Addr) (F : Hp) (v : V) (w : Wt) : Prop where
  ex : ∃ a dx m s, v = .ref a ∧ F a = some (.ins C dx (wf m s)) ∧ Dq K F m (eM w.1) ∧ Dq K F s (eS w.2)
theorem IsW.up {K : PySem.W.Frag} {C : Addr} {F F' : Hp} {v : V} {w : Wt} (h : IsW K C F v w) (e : Ex F F') : IsW K C F' v w := by
  obtain ⟨a, dx, m, s, rfl, h1, h2, h3⟩ := h.ex
  exact ⟨a, dx, m, s, rfl, e _ _ h1, h2.up e, h3.up e⟩
/-- a property of a class, by its name and its field -/
structure KnP (P : Program) (w : World) (K : PySem.W.Frag) (mg : Str → Option Value) (base : Heap) (C : Addr) (f fld : Str) : Prop where
  ex : ∃ p g fd, PropOf K C f p g ∧ FnOk P w K mg base CX0 1 g fd ["self"] (getSp C fld) ∧ Binds K fd ["self"] []
  cl : Cls K C
section
variable {X : Cx} {C : Addr} {f fld : Str} {e : Expr} {ta : TE} {pos : Pos}
theorem pe_propK (G : KnP X.prog X.w X.K X.mg X.base C f fld) (hr : Room 2 X.A) (he : PE X e ta) (hab : attributeBase e f X.env (eval e X.env) = eval e X.env := by rfl) : PE X (.Attribute e f pos) (tProp C (getSp C fld) [] E0 ta) := by
  obtain ⟨p, g, fd, hp, F, hb⟩ := G.ex
  exact pe_prop he G.cl hp F hr hb .nil pass0 hab
end
/-- a class that is called: by the name x its __init__ with the promise sp -/
structure KnC (P : Program) (w : World) (K : PySem.W.Frag) (mg : Str → Option Value) (base : Heap) (CX : CXT) (x : Str) (C : Addr) (k : Nat) (ps : List Str) (sp : Sp) : Prop where
  ex : ∃ f fd, Mk K C f ∧ FnOk P w K mg base CX k f fd ps sp ∧ Binds K fd ps []
  mg : mg x = some (.ref C)
section
variable {X : Cx} {C : Addr} {x : Str} {k : Nat} {ps : List Str} {sp : Sp} {e : Expr} {es : List Expr} {t : TA} {p pos : Pos} {CX : CXT} {E : XK}
theorem pe_knC (G : KnC X.prog X.w X.K X.mg X.base CX x C k ps sp) (hr : Room (k + 1) X.A) (hx : Passes CX X E) (ha : PA X (e :: es) t) (hg : Gl X x := by rfl) (hdb : (x == ("__debug__" : Str)) = false := by decide)
    (he : starEach (e :: es) X.env = (false, eval e X.env) :: starEach es X.env := by rfl) (hpl : (backTo pos (starEach es X.env)).any (·.1) = false := by rfl) : PE X (.Call (.Name x p) (e :: es) [] pos) (tMake C sp [] E t) := by
  obtain ⟨f, fd, M, F, hb⟩ := G.ex
  exact pe_make M F hr hg G.mg hb .nil hx ha hdb he hpl
end
/-- Weighting.__init__: chk tells whether the parts may be so -/
def spW0 (chk : Ms → Ss → Mm Wt) (K : PySem.W.Frag) (C : Addr) : Sp := fun vs H Q _ => ∃ (F : Hp) (x dx : Addr) (vm vs' : V) (m : Ms) (s : Ss), vs = [.ref x, vm, vs'] ∧ Ex F H ∧ H x = some (.ins C dx []) ∧ F x = none ∧
  Dq K F vm (eM m) ∧ Dq K F vs' (eS s) ∧ Post (chk m s) (fun w => ∀ F' H' a b, Gm [x] F H F' H' → H' x = some (.ins C dx (wf a b)) → F' x = none → Dq K F' a (eM w.1) → Dq K F' b (eS w.2) → Q .non H') (fun _ => False)
theorem make_W {chk : Ms → Ss → Mm Wt} {K : PySem.W.Frag} {C : Addr} {F H : Hp} {vm vs : V} {m : Ms} {s : Ss} {Q : VK} {E : XK} (e : Ex F H) (hm : Dq K F vm (eM m)) (hs : Dq K F vs (eS s))
    (k : Post (chk m s) (fun w => Ret [] F H (fun F' _ v => IsW K C F' v w) Q) (fun _ => False)) :
    ∀ x dx, H x = none → H dx = none → dx ≠ x → spW0 chk K C (.ref x :: ([vm, vs] ++ [])) (upd (upd H dx (.own x)) x (.ins C dx [])) (fun v H2 => v = .non ∧ Q (.ref x) H2) E := by
  intro x dx hx hdx hne
  have g1 : Gm [] F H (upd F dx (.own x)) (upd H dx (.own x)) := Gm.new e hdx
  have hx1 : (upd H dx (.own x)) x = none := by rw [upd_ne hne.symm]; exact hx
  have g2 : Gm [] (upd F dx (.own x)) (upd H dx (.own x)) (upd F dx (.own x)) (upd (upd H dx (.own x)) x (.ins C dx [])) := Gm.newM g1.s hx1
  have fx : (upd F dx (.own x)) x = none := by
    cases q : (upd F dx (.own x)) x with
    | none => rfl
    | some u => rw [g1.s _ _ q] at hx1; cases hx1
  refine ⟨upd F dx (.own x), x, dx, vm, vs, m, s, rfl, g2.s, upd_same, fx, hm.up g1.f, hs.up g1.f, k.mono (fun w k F' H' a b g h1 h2 ha hb => ⟨rfl, ?_⟩) fun _ z => z⟩
  have gg : Gm [] F H F' H' := by
    refine Gm.young (g1.trans g2) hx g
  have g3 := gg.fix h1 h2 hx
  have up : Ex F' (upd F' x (.ins C dx (wf a b))) := Ex.new h2
  exact k _ _ _ g3 ⟨x, dx, a, b, rfl, upd_same, ha.up up, hb.up up⟩
end Wk

set_option Elab.async false
set_option linter.all false
namespace Wk
open PySem L2 Evl
theorem new_row {K : PySem.W.Frag} {H : Hp} {sc : Addr} {scr : List Int} {Q : VK} (hs : SqL K H sc (scr.map V.int)) (k : ∀ ra H', Ex H H' → RowAt K sc ra scr H H' ⟨0, 0, 0⟩ → Q (.ref ra) H') : [V.ref sc, V.int 0, V.int 0, V.int 0].length ≤ sizeLine ∧ ∀ p, H p = none → Q (.ref p) (upd H p (.lst [V.ref sc, V.int 0, V.int 0, V.int 0])) :=
  ⟨sz_of (by show 4 ≤ 100000; decide), fun p hp => k p _ (Ex.new hp) ⟨upd_same, hp, hs⟩⟩
end Wk

set_option Elab.async false
set_option linter.all false
set_option maxRecDepth 100000
set_option maxHeartbeats 2000000
namespace Wk
open PySem PySem.W L2 He
/-! ### properties by their names -/
def propG (x f : Str) (K : Frag) : Addr := match recIn K (ma K (ga K x) f) "property" with
  | some (.ref g :: _) => g
  | _ => 0
def propB (x f : Str) (K : Frag) : Bool := eqO (findIn K (.ref (ga K x)) f) (some (some (.ref (ma K (ga K x) f)))) && (eqO (specialIn K (.ref (ma K (ga K x) f)) "__get__") (some (some (.builtin "property.__get__"))) &&
  (decide (takesIn K (.ref (ma K (ga K x) f)) = some true) && (match recIn K (ma K (ga K x) f) "property" with
    | some (.ref _ :: _) => true
    | _ => false)))
theorem propB_ok {K : Frag} {x f : Str} (h : propB x f K = true) : PropOf K (ga K x) f (ma K (ga K x) f) (propG x f K) := by
  obtain ⟨h1, h⟩ := ba h
  obtain ⟨h2, h⟩ := ba h
  obtain ⟨h3, h4⟩ := ba h
  refine ⟨eqO_ok h1, eqO_ok h2, of_decide_eq_true h3, ?_⟩
  unfold propG
  split at h4
  · rename_i g r e
    exact ⟨r, by rw [e]⟩
  · cases h4
/-- a def of a class -/
def initAt (x m : Str) (K : Frag) : Addr := ma K (ga K x) m
/-- a name that is a built-in function -/
def bltB (x : Str) (id : String) (K : Frag) : Bool := eqO (nsIn K mainGlobals x) (some (some (.builtin id)))
theorem bltB_ok {K : Frag} {h : Heap} {mg : Str → Option Value} (X : K.In h) (G : h.Ns mainGlobals mg) {x : Str} {id : String} (c : bltB x id K = true) : mg x = some (.builtin id) := mg_of X G (eqO_ok c)
/-! ### the Hook: facts, defs, what else a Bool tells -/
def obsX (fa : List Fa) (fn : List He5.DefA) (ex : Frag → Bool) (K : Frag) : He.AlD := ((fa.all fun f => f.ok K) && ((fn.all fun d => d.ok K) && ex K), fn.map fun d => He5.fnA K (d.at_ K))
def valX (fn : List He5.DefA) : He.AlD := (true, fn.map He5.DefA.val)
def SaysX (fa : List Fa) (fn : List He5.DefA) (ex : Frag → Bool) (K : Frag) : Prop := obsX fa fn ex K = valX fn
def obsXG (n : Nat) (fa : List Fa) (fn : List He5.DefA) (ex : Frag → Bool) (g : Addr → Option Obj) : He.AlD := obsX fa fn ex (frG g (He5.asA g n))
def hookX (n : Nat) (fa : List Fa) (fn : List He5.DefA) (ex : Frag → Bool) : PySem.W.Hook where
  α := He.AlD
  obs := fun s => obsXG n fa fn ex s.heap.get?
  val := fun _ => valX fn
  says := fun _ h => ∃ K : Frag, K.In h ∧ SaysX fa fn ex K
  of := fun _ _ e => ⟨_, frG_in, e⟩
  keeps := fun _ _ _ ⟨K, hK, c⟩ k => ⟨K, Frag.In.keeps hK k, c⟩
theorem obsXG_eq {n : Nat} {fa : List Fa} {fn : List He5.DefA} {ex : Frag → Bool} {g : Addr → Option Obj} {s : Shared} (h : ∀ a, g a = s.heap.get? a) : obsXG n fa fn ex g = (hookX n fa fn ex).obs s := by
  have e : g = s.heap.get? := funext h
  rw [e] <;> rfl
section
variable {fa : List Fa} {fn : List He5.DefA} {ex : Frag → Bool} {K : Frag}
theorem SaysX.bool (c : SaysX fa fn ex K) : (((fa.all fun f => f.ok K) && ((fn.all fun d => d.ok K) && ex K)) : Bool) = true := congrArg (fun z : He.AlD => z.1) c
theorem SaysX.fact (c : SaysX fa fn ex K) (i : Nat) {f : Fa} (h : fa[i]? = some f := by rfl) : f.ok K = true :=
  List.all_eq_true.mp (ba c.bool).1 f (List.mem_of_getElem? h)
theorem SaysX.ext (c : SaysX fa fn ex K) : ex K = true := (ba (ba c.bool).2).2
theorem SaysX.def_ (c : SaysX fa fn ex K) (i : Nat) {d : He5.DefA} (h : fn[i]? = some d := by rfl) : ∃ fd, L2.FunD K d.name d.qual d.params d.body d.scope (d.dvs K) (d.kws K) (d.at_ K) fd := by
  have c2 := (ba (ba c.bool).2).1
  have e : fn.map (fun d => He5.fnA K (d.at_ K)) = fn.map He5.DefA.val := congrArg (fun z : He.AlD => z.2) c
  have e2 : (fn.map fun d => He5.fnA K (d.at_ K))[i]? = (fn.map He5.DefA.val)[i]? := by rw [e]
  rw [List.getElem?_map, List.getElem?_map, h] at e2
  exact He5.DefA.funD (Option.some.inj e2) (List.all_eq_true.mp c2 d (List.mem_of_getElem? h))
end
/-- a global's def -/
def gAt (x : Str) (K : Frag) : Addr := ga K x
theorem knP_of {P : Program} {w : World} {K : Frag} {mg : Str → Option Value} {base : Heap} {x f fld qual : Str} {params : Arguments} {body : List Stmt} {scope : Scope} {fd : FuncData} {p1 p2 p3 : Pos} (hp : propB x f K = true) (cl : Cls K (ga K x)) (n : NoAttr K (ga K x) fld)
    (F : FunD K f qual params body scope [] [] (propG x f K) fd) (S : FnScope ["self"] ["self"] scope) (hb : body = [.Return (some (.Attribute (.Name "self" p1) fld p2)) p3])
    (bi : ∀ (kV doc pm : Value) (an : Option Addr) (cdv ct : Value) (us : List Value), us.length = 1 → bindArgs (PySem.W.fnOf f qual params body scope .none kV doc pm an cdv ct) ⟨us, []⟩ = pure ([("self" : Str)].zip us)) : KnP P w K mg base (ga K x) f fld := by
  have b := F.bindsN (ps := ["self"]) bi
  obtain ⟨oc, od, dV, kV, doc, pm, an, cdv, ct, osl, rfl, lk, hcd, _, _⟩ := F.ex
  exact ⟨⟨_, _, _, propB_ok hp, fn_getter lk hcd S rfl hb cl n, b⟩, cl⟩
end Wk

set_option Elab.async false
set_option linter.all false
set_option maxRecDepth 100000
namespace Wk
open PySem L2
/-! ### outcomes that are values -/
def Yes {α : Type} (m : Mm α) (p : α → Prop) : Prop := ∃ a, m = .ok a ∧ p a
section
variable {α β γ S : Type} {m : Mm α} {f : α → Mm β} {p : α → Prop} {q : β → Prop}
theorem Yes.ok {a : α} (h : p a) : Yes (.ok a) p := ⟨a, rfl, h⟩
theorem Yes.bd (h : Yes m p) (k : ∀ a, p a → Yes (f a) q) : Yes (m.bd f) q := by
  obtain ⟨a, rfl, h⟩ := h
  exact k a h
theorem Yes.eq {a : α} (h : m = .ok a) (k : Yes (f a) q) : Yes (m.bd f) q := by
  subst h
  exact k
theorem Yes.mono {p' : α → Prop} (h : Yes m p) (k : ∀ a, p a → p' a) : Yes m p' := by
  obtain ⟨a, e, h⟩ := h
  exact ⟨a, e, k a h⟩
theorem Yes.guard {c : Prop} [Decidable c] {f : Unit → Mm β} (h : c) (k : Yes (f ()) q) : Yes ((guardM c).bd f) q := by
  unfold guardM
  rw [if_pos h]
  exact k
theorem bd_eq {a : α} (h : m = .ok a) : m.bd f = f a := by subst h; rfl
theorem bd_guard {c : Prop} [Decidable c] {f : Unit → Mm β} (h : c) : (guardM c).bd f = f () := by unfold guardM; rw [if_pos h]; rfl
theorem mapMm_eq {f : α → Mm γ} {g : α → γ} : ∀ l : List α, (∀ x ∈ l, f x = .ok (g x)) → mapMm f l = .ok (l.map g)
  | [], _ => rfl
  | x :: l, h => by
    unfold mapMm
    rw [h x (List.mem_cons_self ..), mapMm_eq l fun y hy => h y (List.mem_cons_of_mem _ hy)]
    rfl
theorem foldM_eq {f : S → α → Mm S} {g : S → α → S} (I : S → List α → Prop) : ∀ (l : List α) (s : S), I s l → (∀ s x l, I s (x :: l) → f s x = .ok (g s x) ∧ I (g s x) l) → foldM f s l = .ok (l.foldl g s)
  | [], s, _, _ => rfl
  | x :: l, s, h, k => by
    obtain ⟨e, h2⟩ := k s x l h
    unfold foldM
    rw [e]
    exact foldM_eq I l _ h2 k
theorem yes_fold {f : S → α → Mm S} (I : S → List α → Prop) : ∀ (l : List α) (s : S), I s l → (∀ s x l, I s (x :: l) → Yes (f s x) fun s' => I s' l) → Yes (foldM f s l) fun s' => I s' []
  | [], s, h, _ => ⟨s, rfl, h⟩
  | x :: l, s, h, k => by
    obtain ⟨s', e, h2⟩ := k s x l h
    unfold foldM
    rw [e]
    exact yes_fold I l s' h2 k
inductive All2 {α γ : Type} (p : α → γ → Prop) : List α → List γ → Prop
  | nil : All2 p [] []
  | cons {x : α} {y : γ} {l : List α} {r : List γ} : p x y → All2 p l r → All2 p (x :: l) (y :: r)
theorem All2.len {p : α → γ → Prop} {l : List α} {r : List γ} (h : All2 p l r) : r.length = l.length := by
  induction h with
  | nil => rfl
  | cons _ _ ih => simp [ih]
theorem All2.right {p : α → γ → Prop} {q : γ → Prop} {l : List α} {r : List γ} (h : All2 p l r) (k : ∀ x y, p x y → q y) : ∀ y ∈ r, q y := by
  induction h with
  | nil => simp
  | cons a _ ih =>
    intro y hy
    rcases List.mem_cons.mp hy with rfl | hy
    · exact k _ _ a
    · exact ih y hy
theorem All2.fst {g : γ → α} {p : α → γ → Prop} {l : List α} {r : List γ} (h : All2 p l r) (k : ∀ x y, p x y → g y = x) : r.map g = l := by
  induction h with
  | nil => rfl
  | cons a _ ih => rw [List.map_cons, k _ _ a, ih]
theorem yes_mapSt {f : S → α → Mm (γ × S)} (I : S → Prop) (p : α → γ → Prop) : ∀ (l : List α) (s : S), I s → (∀ s x, x ∈ l → I s → Yes (f s x) fun y => p x y.1 ∧ I y.2) → Yes (mapSt f s l) fun r => All2 p l r.1 ∧ I r.2
  | [], s, h, _ => ⟨_, rfl, .nil, h⟩
  | x :: l, s, h, k => by
    obtain ⟨y, e, h1, h2⟩ := k s x (List.mem_cons_self ..) h
    obtain ⟨r, e2, h3, h4⟩ := yes_mapSt I p l y.2 h2 fun s z hz => k s z (List.mem_cons_of_mem _ hz)
    unfold mapSt
    rw [e]
    show Yes ((mapSt f y.2 l).bd _) _
    rw [e2]
    exact ⟨_, rfl, .cons h1 h3, h4⟩
end
theorem range_ok {j : Int} (h : -(2 ^ 62) ≤ j) (h2 : j < 2 ^ 62) : rangeM j = .ok (rangeL 0 j.toNat) := by unfold rangeM; rw [if_pos ⟨h, h2⟩]
theorem mul_ok {i j : Int} {a b : Nat} (ha : i.natAbs < 2 ^ a) (hb : j.natAbs < 2 ^ b) (h : a + b ≤ 900000) : mulM i j = .ok (i * j) := by
  unfold mulM
  refine if_pos (wide_mul (a := a + 1) (b := b + 1) ?_ ?_ (by omega) (by omega) (by omega))
  · rw [Nat.pow_succ]; omega
  · rw [Nat.pow_succ]; omega
theorem div_any {i j : Int} {b : Nat} (h : j ≠ 0) (hb : j.natAbs < 2 ^ b) (h2 : b < 9000) : divM i j = .ok (i.fdiv j) := by
  unfold divM
  have hb' : j.natAbs < 2 ^ (b + 1) := by rw [Nat.pow_succ]; omega
  exact if_pos ⟨h, Nat.lt_of_lt_of_le (PySem.Flt.log2_lt_of (by omega) hb') (by omega)⟩
theorem div_ok {i j : Int} {b : Nat} (h : 0 < j) (hb : j.natAbs < 2 ^ b) (h2 : b < 9000) : divM i j = .ok (i / j) := by
  rw [div_any (by omega) hb h2, Int.fdiv_eq_ediv_of_nonneg _ (Int.le_of_lt h)]
theorem mod_ok {i j : Int} (h : 0 < j) : modM i j = .ok (i % j) := by
  unfold modM
  rw [if_pos (by omega), Int.fmod_eq_emod_of_nonneg _ (Int.le_of_lt h)]
theorem mod_ne {i j : Int} (h : j ≠ 0) : modM i j = .ok (i.fmod j) := by
  unfold modM
  rw [if_pos h]
/-! ### fractions -/
def fr (q : Rat) : Int × Int := (q.num, (q.den : Int))
def Sq (n : Nat) (q : Rat) : Prop := q.num.natAbs < 2 ^ n ∧ q.den < 2 ^ n
theorem fr_nat (a : Int) {d : Nat} (h : d ≠ 0) : fr ((a : Rat) / (d : Rat)) = (a / ((Nat.gcd a.natAbs d : Nat) : Int), ((d / Nat.gcd a.natAbs d : Nat) : Int)) := by
  unfold fr
  rw [← Rat.mkRat_eq_div, Rat.num_mkRat, Rat.den_mkRat, if_neg h, if_neg h, Nat.gcd_comm]
theorem fr_int (a : Int) {b : Int} (h : 0 < b) : fr ((a : Rat) / (b : Rat)) = (a / ((Nat.gcd a.natAbs b.natAbs : Nat) : Int), b / ((Nat.gcd a.natAbs b.natAbs : Nat) : Int)) := by
  obtain ⟨d, rfl⟩ := Int.eq_ofNat_of_zero_le (Int.le_of_lt h)
  have hd : d ≠ 0 := by omega
  have := fr_nat a hd
  rw [Int.natAbs_natCast, ← Int.natCast_ediv]
  exact this
theorem gcd_pos_int {a b : Int} (h : 0 < b) : 0 < ((Nat.gcd a.natAbs b.natAbs : Nat) : Int) := by
  have : 0 < Nat.gcd a.natAbs b.natAbs := Nat.gcd_pos_of_pos_right _ (by omega)
  omega
theorem gcd_le_int {a b : Int} (h : 0 < b) : ((Nat.gcd a.natAbs b.natAbs : Nat) : Int).natAbs ≤ b.natAbs := by
  rw [Int.natAbs_natCast]
  exact Nat.gcd_le_right _ (by omega)
theorem den_posI (q : Rat) : 0 < (q.den : Int) := by
  have := q.den_nz
  omega
theorem fr_val (q : Rat) : ((fr q).1 : Rat) / ((fr q).2 : Rat) = q := by
  have h := Rat.mkRat_eq_div q.num q.den
  rw [Rat.mkRat_self] at h
  unfold fr
  rw [show (((q.den : Nat) : Int) : Rat) = ((q.den : Nat) : Rat) from rfl]
  exact h.symm
theorem sq_div {n : Nat} {a b : Int} (h : 0 < b) (ha : a.natAbs < 2 ^ n) (hb : b.natAbs < 2 ^ n) : Sq n ((a : Rat) / (b : Rat)) := by
  have e := fr_int a h
  unfold fr at e
  simp only [Prod.mk.injEq] at e
  obtain ⟨e1, e2⟩ := e
  unfold Sq
  have g0 := gcd_pos_int (a := a) h
  constructor
  · rw [e1]
    exact Nat.lt_of_le_of_lt (Int.natAbs_ediv_le_natAbs _ _) ha
  · have : ((a : Rat) / (b : Rat)).den = (((a : Rat) / (b : Rat)).den : Int).natAbs := by omega
    rw [this, e2]
    exact Nat.lt_of_le_of_lt (Int.natAbs_ediv_le_natAbs _ _) hb
theorem two_le (n : Nat) : 1 ≤ 2 ^ n := Nat.one_le_two_pow
theorem add_lt {x y : Int} {a b n : Nat} (ha : x.natAbs < 2 ^ a) (hb : y.natAbs < 2 ^ b) (h : a < n) (h' : b < n) : (x + y).natAbs < 2 ^ n := by
  have e1 : 2 ^ a ≤ 2 ^ (n - 1) := Nat.pow_le_pow_right (by decide) (by omega)
  have e2 : 2 ^ b ≤ 2 ^ (n - 1) := Nat.pow_le_pow_right (by decide) (by omega)
  have e3 : 2 ^ n = 2 * 2 ^ (n - 1) := by
    rw [← Nat.pow_succ']
    congr 1
    omega
  omega
theorem sub_lt {x y : Int} {a b n : Nat} (ha : x.natAbs < 2 ^ a) (hb : y.natAbs < 2 ^ b) (h : a < n) (h' : b < n) : (x - y).natAbs < 2 ^ n := by
  have := add_lt (x := x) (y := -y) ha (by omega) h h'
  rwa [Int.sub_eq_add_neg]
theorem mul_lt {x y : Int} {a b n : Nat} (ha : x.natAbs < 2 ^ a) (hb : y.natAbs < 2 ^ b) (h : a + b ≤ n) : (x * y).natAbs < 2 ^ n :=
  Nat.lt_of_lt_of_le (wide_lt ha hb) (Nat.pow_le_pow_right (by decide) h)
theorem up_lt {x : Int} {a n : Nat} (ha : x.natAbs < 2 ^ a) (h : a ≤ n) : x.natAbs < 2 ^ n := Nat.lt_of_lt_of_le ha (Nat.pow_le_pow_right (by decide) h)
theorem Sq.up {q : Rat} {a n : Nat} (h : Sq a q) (l : a ≤ n) : Sq n q := ⟨up_lt h.1 l, Nat.lt_of_lt_of_le h.2 (Nat.pow_le_pow_right (by decide) l)⟩
theorem Sq.d {q : Rat} {a : Nat} (h : Sq a q) : ((q.den : Nat) : Int).natAbs < 2 ^ a := by rw [Int.natAbs_natCast]; exact h.2
theorem rat_add (p q : Rat) : p + q = ((p.num * (q.den : Int) + q.num * (p.den : Int) : Int) : Rat) / (((p.den : Int) * (q.den : Int) : Int) : Rat) := by
  have a := fr_val p
  have b := fr_val q
  unfold fr at a b
  have x : ((p.den : Int) : Rat) ≠ 0 := by
    have := den_posI p
    intro z
    have := Rat.intCast_inj.mp (show ((p.den : Int) : Rat) = ((0 : Int) : Rat) from z)
    omega
  have y : ((q.den : Int) : Rat) ≠ 0 := by
    have := den_posI q
    intro z
    have := Rat.intCast_inj.mp (show ((q.den : Int) : Rat) = ((0 : Int) : Rat) from z)
    omega
  push_cast
  push_cast at a b x y
  grind
theorem rat_mul (p q : Rat) : p * q = ((p.num * q.num : Int) : Rat) / (((p.den : Int) * (q.den : Int) : Int) : Rat) := by
  have a := fr_val p
  have b := fr_val q
  unfold fr at a b
  push_cast
  push_cast at a b
  grind
theorem rat_div (p q : Rat) : p / q = ((p.num * (q.den : Int) : Int) : Rat) / (((p.den : Int) * q.num : Int) : Rat) := by
  have a := fr_val p
  have b := fr_val q
  unfold fr at a b
  push_cast
  push_cast at a b
  grind
theorem sq_add {p q : Rat} {a b n : Nat} (ha : Sq a p) (hb : Sq b q) (h : a + b < n) : Sq n (p + q) := by
  rw [rat_add]
  refine sq_div (Int.mul_pos (den_posI p) (den_posI q)) ?_ (mul_lt ha.d hb.d (by omega))
  exact add_lt (mul_lt ha.1 hb.d (Nat.le_refl _)) (mul_lt hb.1 ha.d (Nat.le_refl _)) (by omega) (by omega)
theorem sq_mul {p q : Rat} {a b n : Nat} (ha : Sq a p) (hb : Sq b q) (h : a + b ≤ n) : Sq n (p * q) := by
  rw [rat_mul]
  exact sq_div (Int.mul_pos (den_posI p) (den_posI q)) (mul_lt ha.1 hb.1 h) (mul_lt ha.d hb.d h)
theorem num_pos' {q : Rat} (h : 0 < q) : 0 < q.num := by
  have := Rat.num_nonneg (q := q)
  have h1 : 0 ≤ q.num := this.mpr (Rat.le_of_lt h)
  have h2 : q.num ≠ 0 := fun z => by
    have : q = 0 := Rat.num_eq_zero.mp z
    rw [this] at h
    exact absurd h (by decide)
  omega
theorem sq_quo {p q : Rat} {a b n : Nat} (ha : Sq a p) (hb : Sq b q) (hq : 0 < q) (h : a + b ≤ n) : Sq n (p / q) := by
  rw [rat_div]
  exact sq_div (Int.mul_pos (den_posI p) (num_pos' hq)) (mul_lt ha.1 hb.d h) (mul_lt ha.d hb.1 h)
theorem fr_inj {p q : Rat} (h : fr p = fr q) : p = q := by
  have a := fr_val p
  rw [h, fr_val] at a
  exact a.symm
end Wk

set_option Elab.async false
set_option linter.all false
set_option maxRecDepth 100000
namespace Wk
open PySem L2 Evl
section
variable {K : PySem.W.Frag} {M : List Addr} {F F' H H' : Hp} {Q : VK} {α : Type} {en : α → PyData} {l l' : List α} {xs ys : List V} {a b p : Addr} {v : V} {ds : List PyData}
/-! ### None or a value -/
theorem sh_eO [DecidableEq α] {f : α → PyData} {n : Nat} (s : Sh f n) (h1 : ∀ a, PyData.eqv .none (f a) = false := by intro a; rfl) (h2 : ∀ a, PyData.eqv (f a) .none = false := by intro a; rfl) : Sh (eO f) (n + 1) :=
  ⟨fun o => by cases o with
    | none => rfl
    | some a => exact s.lay a, fun o => by cases o with
    | none => simp [eO, PyData.depth]
    | some a => exact Nat.le_succ_of_le (s.dep a), fun o o' => by
      cases o with
      | none => cases o' with
        | none => simp [eO, PyData.eqv]
        | some b => rw [show eO f none = .none from rfl, show eO f (some b) = f b from rfl, h1]; simp
      | some a => cases o' with
        | none => rw [show eO f none = .none from rfl, show eO f (some a) = f a from rfl, h2]; simp
        | some b => rw [show eO f (some a) = f a from rfl, show eO f (some b) = f b from rfl, s.eq]; simp⟩
theorem isN_go {o : Option α} {Q : VK} (h : Dq K F v (eO en o)) (q : Q (.bl o.isNone) H) (hn : ∀ a, en a ≠ .none := by intro a; exact fun h => nomatch h) : (fun (x : V) (H1 : Hp) => Q (.bl (decide (x = V.non))) H1) v H := by
  show Q (.bl (decide (v = V.non))) H
  rw [none_O h hn]
  exact q
def getO {α : Type} (o : Option α) : Mm α := match o with
  | some a => .ok a
  | none => .bad
theorem post_getO {β : Type} {f : α → Mm β} {r : β → Prop} {q : Er → Prop} {o : Option α} (h : Post ((getO o).bd f) r q) : ∃ a, o = some a ∧ Post (f a) r q := by
  cases o with
  | none => exact h.h.elim
  | some a => exact ⟨a, rfl, ⟨h.h⟩⟩
theorem dq_some {o : Option α} {x : α} (d : Dq K F v (eO en o)) (h : o = some x) : Dq K F v (en x) := by
  subst h
  exact d
/-! ### a list display with a list in it -/
theorem new_star {pre : List V} {pm : List α} (e : Ex F H) (a : DqAll K F pre (pm.map en)) (b : DqAll K F xs (l.map en)) (hl : pm.length + l.length ≤ 100000) (k : Ret M F H (fun F' _ v => Dq K F' v (eL en (pm ++ l))) Q) :
    (pre ++ (xs ++ [])).length ≤ sizeLine ∧ ∀ p, H p = none → Q (.ref p) (upd H p (.lst (pre ++ (xs ++ [])))) := by
  rw [List.append_nil]
  refine new_lst e (ds := (pm ++ l).map en) ?_ ?_ k
  · rw [List.map_append]
    exact a.app b
  · rw [List.length_append, a.len, b.len, List.length_map, List.length_map]
    exact hl
/-- a tuple of any values -/
theorem new_tupR (e : Ex F H) (hl : xs.length ≤ 100000) (k : ∀ p F' H', Gm M F H F' H' → SqT K F' p xs → Q (.ref p) H') : xs.length ≤ sizeLine ∧ ∀ p, H p = none → Q (.ref p) (upd H p (.tup xs)) :=
  ⟨sz_of hl, fun p hp => k p _ _ (Gm.new e hp) (st_of upd_same)⟩
/-! ### an item is set -/
def setM {α : Type} (l : List α) (i : Int) (v : α) : Mm (List α) := match ixN l.length i with
  | some j => .ok (l.set j v)
  | none => .bad
theorem post_set {β : Type} {f : List α → Mm β} {r : β → Prop} {q : Er → Prop} {i : Int} {x : α} (h : Post ((setM l i x).bd f) r q) : ∃ m j, ixN l.length i = some j ∧ l.set j x = m ∧ Post (f m) r q := by
  unfold setM at h
  cases e : ixN l.length i with
  | none =>
    rw [e] at h
    exact h.h.elim
  | some j =>
    rw [e] at h
    exact ⟨_, j, rfl, rfl, ⟨h.h⟩⟩
theorem all_ix {i : Int} {j : Nat} (a : DqAll K F xs (l.map en)) (h : ixN l.length i = some j) : ixN xs.length i = some j := by
  rw [a.len, List.length_map]
  exact h
theorem dqAll_set {v : V} {d : PyData} : ∀ {xs : List V} {ds : List PyData} (j : Nat), DqAll K F xs ds → Dq K F v d → DqAll K F (xs.set j v) (ds.set j d)
  | _, _, j, .nil, _ => .nil
  | _, _, 0, .cons _ b, h => .cons h b
  | _, _, j + 1, .cons a b, h => .cons a (dqAll_set j b h)
theorem all_set {j : Nat} {x : α} {m : List α} (a : DqAll K F xs (l.map en)) (h : Dq K F v (en x)) (e : l.set j x = m) : DqAll K F (xs.set j v) (m.map en) := by
  subst e
  rw [List.map_set]
  exact dqAll_set j a h
end
section
variable {K : PySem.W.Frag} {M : List Addr} {F H : Hp} {σ : L2.St} {g : TG} {tt : TT} {te : TE} {vs : List Nat} {α β γ : Type} {l : List α} {ok : β → Prop} {ex : Er → Prop} {J : It} {R : Hp → V → α → Prop} {Q : VK}
theorem lc_fil {f : α → Mm (Option γ)} {rest : List γ → Mm β} (w : Wlk M F H J l R) (en : γ → PyData) (k : Post ((filMm f l).bd rest) ok ex) (e : Ex F H) (hz : l.length ≤ 50000) (hM : ∀ D, H D = none → D ∉ M)
    (hb : ∀ x v F1 H1 F2 H2, Gm M F H F1 H1 → Gm [] F1 H1 F2 H2 → R F2 v x → ∀ Q' : Option V → Hp → Prop, Post (f x) (fun o => ∀ F3 H3 v, Gm M F1 H1 F3 H3 → (match o with
        | some y => ∃ u, v = some u ∧ Dq K F3 u (en y)
        | none => v = none) → Q' v H3) (fun _ => False) →
      g v (wipe σ vs) H2 fun σ2 H3 => wipe σ2 vs = wipe σ vs ∧ tt σ2 H3 fun b H4 => if b = true then te σ2 H4 fun y H5 => Q' (some y) H5 else Q' none H4)
    (hx : ∀ e, ¬ ex e) (kk : ∀ (r : List γ) v F' H', Gm M F H F' H' → Dq K F' v (eL en r) → Post (rest r) ok ex → Q v H') (mono : GMon g) :
    ∀ D, H D = none → ∃ W : Nat → Nat → Hp → Prop, (∃ m, W 0 m (upd H D (.lst []))) ∧ ∀ i m H, W i m H →
      (J.stop i H ∧ Q (.ref D) H) ∨ (J.go i H ∧ ∃ Nx : Hp → Prop, (∀ H', Nx H' → ∃ m', m' < m ∧ W (i + 1) m' H') ∧ ∀ x H', J.yld i H x H' → g x (wipe σ vs) H' fun σ2 H2 => wipe σ2 vs = wipe σ vs ∧ tt σ2 H2 fun b H3 =>
        if b = true then te σ2 H3 fun y H4 => ∃ acc, H4 D = some (.lst acc) ∧ acc.length < sizeLine ∧ Nx (upd H4 D (.lst (acc ++ [y]))) else Nx H3) := by
  obtain ⟨n, G, Y, w, hn, hG, hY⟩ := w.ex
  rw [filMm_comp, bd_assoc] at k
  refine lc_mir w en (fun _ _ _ => True) k e trivial stab_t hn hz hG hM (fun i s x v F' H' H'' g' _ hx y Q' k' => ?_) hx (fun r v F' H' g' _ d k' => kk r.1 v F' H' g' d k')
  obtain ⟨F'', g2, r⟩ := hY i x v F' H' H'' g' hx y
  exact hb x v F' H' F'' H'' g' g2 r Q' ((post_bd k').mono (fun o q F3 H3 v g3 d => q.h F3 H3 v g3 trivial (by cases o <;> exact d)) fun _ z => z)
end
end Wk

set_option Elab.async false
set_option linter.all false
set_option maxRecDepth 100000
set_option maxHeartbeats 2000000
namespace Wk
open PySem L2 Evl
theorem cdv_small {i j : Int} (h : j ≠ 0 ∧ j.natAbs < 1073741824) : CDv i j := by
  have e : j.natAbs < 2 ^ 30 := by have : (2 : Nat) ^ 30 = 1073741824 := by decide
                                   omega
  exact ⟨h.1, Nat.lt_of_lt_of_le (PySem.Flt.log2_lt_of (by decide) e) (by decide)⟩
/-! ### and, or: the second operand draws -/
section
variable {M : List Addr} {F H : Hp} {σ : L2.St} {α S : Type} {a : Bool} {Y : Mm (Bool × S)} {rest : Bool × S → Mm α} {st : S} {ok : α → Prop} {ex : Er → Prop} {Q : Bool → Hp → Prop} {u : TT} {QV : VK} {uE : TE}
theorem and_jS (W : S → Hp → Hp → Prop) (e : Ex F H) (h0 : W st F H) (k : Post ((cond a Y (.ok (false, st))).bd rest) ok ex)
    (hu : a = true → ∀ Q' : Bool → Hp → Prop, Post Y (fun b => ∀ F' H', Gm M F H F' H' → W b.2 F' H' → Q' b.1 H') ex → u σ H Q')
    (kk : ∀ b F' H', Gm M F H F' H' → W b.2 F' H' → Post (rest b) ok ex → Q b.1 H') : if a = true then u σ H Q else Q false H := by
  cases a with
  | false => rw [if_neg Bool.false_ne_true]; exact kk (false, st) F H (Gm.refl e) h0 ⟨k.h⟩
  | true => rw [if_pos rfl]; exact hu rfl Q ((post_bd k).mono (fun b q F' H' g s => kk b F' H' g s q) fun _ z => z)
theorem or_jS (W : S → Hp → Hp → Prop) (e : Ex F H) (h0 : W st F H) (k : Post ((cond a (.ok (true, st)) Y).bd rest) ok ex)
    (hu : a = false → ∀ Q' : Bool → Hp → Prop, Post Y (fun b => ∀ F' H', Gm M F H F' H' → W b.2 F' H' → Q' b.1 H') ex → u σ H Q')
    (kk : ∀ b F' H', Gm M F H F' H' → W b.2 F' H' → Post (rest b) ok ex → Q b.1 H') : if a = true then Q true H else u σ H Q := by
  cases a with
  | true => rw [if_pos rfl]; exact kk (true, st) F H (Gm.refl e) h0 ⟨k.h⟩
  | false => rw [if_neg Bool.false_ne_true]; exact hu rfl Q ((post_bd k).mono (fun b q F' H' g s => kk b F' H' g s q) fun _ z => z)
/-- as values -/
theorem andV_jS (W : S → Hp → Hp → Prop) (e : Ex F H) (h0 : W st F H) (k : Post ((cond a Y (.ok (false, st))).bd rest) ok ex)
    (hu : a = true → ∀ Q' : VK, Post Y (fun b => ∀ F' H', Gm M F H F' H' → W b.2 F' H' → Q' (.bl b.1) H') ex → uE σ H Q')
    (kk : ∀ b F' H', Gm M F H F' H' → W b.2 F' H' → Post (rest b) ok ex → QV (.bl b.1) H') : if a = true then uE σ H QV else QV (.bl false) H := by
  cases a with
  | false => rw [if_neg Bool.false_ne_true]; exact kk (false, st) F H (Gm.refl e) h0 ⟨k.h⟩
  | true => rw [if_pos rfl]; exact hu rfl QV ((post_bd k).mono (fun b q F' H' g s => kk b F' H' g s q) fun _ z => z)
theorem orV_jS (W : S → Hp → Hp → Prop) (e : Ex F H) (h0 : W st F H) (k : Post ((cond a (.ok (true, st)) Y).bd rest) ok ex)
    (hu : a = false → ∀ Q' : VK, Post Y (fun b => ∀ F' H', Gm M F H F' H' → W b.2 F' H' → Q' (.bl b.1) H') ex → uE σ H Q')
    (kk : ∀ b F' H', Gm M F H F' H' → W b.2 F' H' → Post (rest b) ok ex → QV (.bl b.1) H') : if a = true then QV (.bl true) H else uE σ H QV := by
  cases a with
  | true => rw [if_pos rfl]; exact kk (true, st) F H (Gm.refl e) h0 ⟨k.h⟩
  | false => rw [if_neg Bool.false_ne_true]; exact hu rfl QV ((post_bd k).mono (fun b q F' H' g s => kk b F' H' g s q) fun _ z => z)
end
/-! ### own lists: as data, repeated, popped -/
section
variable {K : PySem.W.Frag} {M : List Addr} {F F' H H' : Hp} {Q : VK} {α : Type} {en : α → PyData} {l m : List α} {xs ys : List V} {a p : Addr} {v : V} {j : Int}
theorem own_dp (h : H p = some (.lst xs)) (a : DqAll K F xs (l.map en)) (e : Ex F H) : Dp K H (.ref p) (eL en l) := .lst (sq_of h) (dqAll_dp _ _ (a.up e))
def repM {α : Type} (l : List α) (k : Int) : Mm (List α) := if -(2 ^ 63) ≤ k ∧ k < 2 ^ 63 ∧ l.length * k.toNat ≤ 100000 then .ok (List.replicate k.toNat l).flatten else .bad
theorem post_rep {β : Type} {f : List α → Mm β} {r : β → Prop} {q : Er → Prop} (h : Post ((repM l j).bd f) r q) : ∃ m, (-(2 ^ 63) ≤ j ∧ j < 2 ^ 63 ∧ l.length * j.toNat ≤ 100000) ∧ (List.replicate j.toNat l).flatten = m ∧ Post (f m) r q := by
  unfold repM at h
  split at h
  · exact ⟨_, ‹_›, rfl, ⟨h.h⟩⟩
  · exact h.h.elim
theorem all_rep (d : DqAll K F xs (l.map en)) : ∀ n : Nat, DqAll K F (List.replicate n xs).flatten ((List.replicate n l).flatten.map en)
  | 0 => .nil
  | n + 1 => by
    rw [List.replicate_succ, List.replicate_succ, List.flatten_cons, List.flatten_cons, List.map_append]
    exact d.app (all_rep d n)
theorem rep_sz (d : DqAll K F xs (l.map en)) {n : Nat} (h : l.length * n ≤ 100000) : xs.length * n ≤ sizeLine := sz_of (by rw [d.len, List.length_map]; exact h)
theorem rep_lst (e : Ex F H) (s : H a = some (.lst xs)) (d : DqAll K F xs (l.map en)) (h : -(2 ^ 63) ≤ j ∧ j < 2 ^ 63 ∧ l.length * j.toNat ≤ 100000) (hm : (List.replicate j.toNat l).flatten = m) (k : Ret M F H (fun F' _ v => Dq K F' v (eL en m)) Q) : rRep (.ref a) (.int j) H Q := by
  subst hm
  refine ⟨a, j, xs, rfl, rfl, s, h.1, h.2.1, rep_sz d h.2.2, fun p hp => ?_⟩
  have g : Gm M F H (upd F p (.lst (List.replicate j.toNat xs).flatten)) (upd H p (.lst (List.replicate j.toNat xs).flatten)) := Gm.new e hp
  exact k _ _ _ g (.lst upd_same ((all_rep d _).up g.f))
theorem rep_own (e : Ex F H) (s : H a = some (.lst xs)) (d : DqAll K F xs (l.map en)) (h : -(2 ^ 63) ≤ j ∧ j < 2 ^ 63 ∧ l.length * j.toNat ≤ 100000) (k : ∀ p H', Gm [] F H F H' → H p = none → (H' p = some (.lst (List.replicate j.toNat xs).flatten) ∧ F p = none) → Q (.ref p) H') : rRep (.ref a) (.int j) H Q :=
  ⟨a, j, xs, rfl, rfl, s, h.1, h.2.1, rep_sz d h.2.2, own_of e k⟩
theorem all_repM (d : DqAll K F xs (l.map en)) (hm : (List.replicate j.toNat l).flatten = m) : DqAll K F (List.replicate j.toNat xs).flatten (m.map en) := by
  subst hm
  exact all_rep d _
def popN {α : Type} (l : List α) : Mm (List α) := match l with
  | [] => .bad
  | x :: r => .ok (x :: r).dropLast
theorem post_pop {β : Type} {f : List α → Mm β} {r : β → Prop} {q : Er → Prop} (h : Post ((popN l).bd f) r q) : l ≠ [] ∧ Post (f l.dropLast) r q := by
  cases l with
  | nil => exact h.h.elim
  | cons x l => exact ⟨by simp, ⟨h.h⟩⟩
theorem all_pop (d : DqAll K F xs (l.map en)) : DqAll K F xs.dropLast (l.dropLast.map en) := by
  have e1 : xs.dropLast = xs.take (xs.length - 1) := List.dropLast_eq_take
  have e2 : l.dropLast.map en = (l.map en).take (xs.length - 1) := by
    rw [List.dropLast_eq_take, List.map_take, d.len, List.length_map]
  rw [e1, e2]
  exact d.take _
theorem pop_at (d : DqAll K F xs (l.map en)) (h : l ≠ []) : ∃ y, xs[xs.length - 1]? = some y := by
  have n : xs.length = l.length := by rw [d.len, List.length_map]
  have : 0 < l.length := List.length_pos_iff.mpr h
  exact ⟨_, List.getElem?_eq_getElem (by omega)⟩
end
/-! ### range that goes down -/
def rangeDn (lo : Int) (n : Nat) : List Int := (List.range n).map fun (i : Nat) => lo - (i : Int)
def rangeM3 (i j : Int) : Mm (List Int) := if -(2 ^ 62) ≤ i ∧ i < 2 ^ 62 ∧ -(2 ^ 62) ≤ j ∧ j < 2 ^ 62 then .ok (rangeDn i (i - j).toNat) else .bad
section
variable {β : Type} {r : β → Prop} {q : Er → Prop} {i j : Int} {f : List Int → Mm β}
theorem post_range3 (h : Post ((rangeM3 i j).bd f) r q) : RgC i j (-1) (i - j).toNat ∧ Post (f (rangeDn i (i - j).toNat)) r q := by
  unfold rangeM3 at h
  split at h
  · rename_i c
    exact ⟨RgC.neg c.1 c.2.1 c.2.2.1 c.2.2.2, ⟨h.h⟩⟩
  · exact h.h.elim
theorem rangeDn_at {lo : Int} {n i : Nat} {x : Int} (h : (rangeDn lo n)[i]? = some x) : x = lo - i := by
  unfold rangeDn at h
  rw [List.getElem?_map] at h
  cases e : (List.range n)[i]? with
  | none => rw [e] at h; cases h
  | some j =>
    rw [e] at h
    obtain ⟨h1, h2⟩ := List.getElem?_eq_some_iff.mp e
    rw [List.getElem_range] at h2
    subst h2
    exact (Option.some.inj h).symm
theorem wlk_rangeDn {M : List Addr} {F H : Hp} {lo : Int} {n : Nat} : Wlk M F H (Itc lo (-1) n) (rangeDn lo n) (fun _ v x => v = V.int x) := by
  refine ⟨_, _, _, walk_rangeC (lo := lo) (c := -1) (n := n), by simp [rangeDn], fun _ _ _ => trivial, fun i x v F' H' H'' g' hx y => ?_⟩
  obtain ⟨rfl, hv⟩ := y
  rw [rangeDn_at hx]
  have e2 : lo + (i : Int) * (-1) = lo - (i : Int) := by omega
  rw [← e2]
  exact ⟨F', Gm.refl g'.s, hv⟩
end
/-! ### comprehensions whose list may change -/
section
variable {K : PySem.W.Frag} {M : List Addr} {F H : Hp} {σ : L2.St} {g : TG} {tt : TT} {te : TE} {vs : List Nat} {α β γ S : Type} {l : List α} {f : S → α → Mm (Option γ × S)} {rest : List γ × S → Mm β} {ok : β → Prop} {ex : Er → Prop} {s0 : S} {J : It} {n : Nat} {G : Hp → Prop} {Y : Nat → Hp → V → Hp → Prop} {Q : VK}
theorem lc_mirO (w : Walk J n G Y) (en : γ → PyData) (I : S → Hp → Hp → Prop) (k : Post ((compM f s0 l).bd rest) ok ex) (e : Ex F H) (h0 : I s0 F H) (st : Stab I H) (hn : l.length = n) (hz : l.length ≤ 50000) (hG : ∀ F' H', Gm M F H F' H' → G H')
    (hM : ∀ D, H D = none → D ∉ M)
    (hb : ∀ i s x v F' H' H'', Gm M F H F' H' → I s F' H' → l[i]? = some x → Y i H' v H'' → ∀ Q : Option V → Hp → Prop,
      Post (f s x) (fun o => ∀ F2 H2 v, Gm M F' H' F2 H2 → I o.2 F2 H2 → (match o.1 with
        | some y => ∃ u, v = some u ∧ Dq K F2 u (en y)
        | none => v = none) → Q v H2) (fun _ => False) →
      g v (wipe σ vs) H'' fun σ2 H2 => wipe σ2 vs = wipe σ vs ∧ tt σ2 H2 fun b H3 => if b = true then te σ2 H3 fun y H4 => Q (some y) H4 else Q none H3)
    (hx : ∀ e, ¬ ex e)
    (kk : ∀ (r : List γ × S) D xs F' H', Gm M F H F' H' → I r.2 F' H' → H D = none → (H' D = some (.lst xs) ∧ F' D = none) → DqAll K F' xs (r.1.map en) → Post (rest r) ok ex → Q (.ref D) H') :
    ∀ D, H D = none → ∃ W : Nat → Nat → Hp → Prop, (∃ m, W 0 m (upd H D (.lst []))) ∧ ∀ i m H, W i m H →
      (J.stop i H ∧ Q (.ref D) H) ∨ (J.go i H ∧ ∃ Nx : Hp → Prop, (∀ H', Nx H' → ∃ m', m' < m ∧ W (i + 1) m' H') ∧ ∀ x H', J.yld i H x H' → g x (wipe σ vs) H' fun σ2 H2 => wipe σ2 vs = wipe σ vs ∧ tt σ2 H2 fun b H3 =>
        if b = true then te σ2 H3 fun y H4 => ∃ acc, H4 D = some (.lst acc) ∧ acc.length < sizeLine ∧ Nx (upd H4 D (.lst (acc ++ [y]))) else Nx H3) := by
  intro D hD
  have k0 : Post ((compM f s0 (l.drop 0)).bd fun r => rest ([] ++ r.1, r.2)) ok ex := by simpa using k
  refine lc_it w (fun i H' => ∃ (s : S) (acc : List γ) (xs : List V) (F' : Hp), Gm M F H F' H' ∧ I s F' H' ∧ H' D = some (.lst xs) ∧ F' D = none ∧ DqAll K F' xs (acc.map en) ∧ xs.length ≤ i ∧ Post ((compM f s (l.drop i)).bd fun r => rest (acc ++ r.1, r.2)) ok ex)
    ⟨s0, [], [], F, Gm.newM e hD, st.put s0 F H D _ h0 hD, upd_same, ?_, .nil, Nat.le_refl _, k0⟩ (fun i H' _ ⟨s, acc, xs, F', g', _⟩ => hG F' H' g') ?_ ?_
  · cases q : F D with
    | none => rfl
    | some u => rw [e D u q] at hD; cases hD
  · rintro i v H' H'' hi ⟨s, acc, xs, F', g', i', hL, fL, ha, hlen, k'⟩ y
    have hl : i < l.length := by omega
    have e1 : l.drop i = l[i] :: l.drop (i + 1) := List.drop_eq_getElem_cons hl
    rw [e1] at k'
    have k2 := comp_post k'
    have hDM : D ∉ M := hM D hD
    have z := hb i s l[i] v F' H' H'' g' i' (List.getElem?_eq_getElem hl) y (fun o H4 => match o with
      | some y => ∃ acc', H4 D = some (.lst acc') ∧ acc'.length < sizeLine ∧ ∃ (s : S) (acc : List γ) (xs : List V) (F' : Hp), Gm M F H F' (upd H4 D (.lst (acc' ++ [y]))) ∧ I s F' (upd H4 D (.lst (acc' ++ [y]))) ∧ (upd H4 D (.lst (acc' ++ [y]))) D = some (.lst xs) ∧ F' D = none ∧ DqAll K F' xs (acc.map en) ∧ xs.length ≤ i + 1 ∧ Post ((compM f s (l.drop (i + 1))).bd fun r => rest (acc ++ r.1, r.2)) ok ex
      | none => ∃ (s : S) (acc : List γ) (xs : List V) (F' : Hp), Gm M F H F' H4 ∧ I s F' H4 ∧ H4 D = some (.lst xs) ∧ F' D = none ∧ DqAll K F' xs (acc.map en) ∧ xs.length ≤ i + 1 ∧ Post ((compM f s (l.drop (i + 1))).bd fun r => rest (acc ++ r.1, r.2)) ok ex)
      (k2.mono (fun o q F2 H2 v2 g2 i2 hv => ?_) fun e z => (hx e z).elim)
    · exact z
    · obtain ⟨h2L, f2L⟩ := g2.own hDM hL fL
      obtain ⟨o1, o2⟩ := o
      cases o1 with
      | some y =>
        obtain ⟨u, rfl, hu⟩ := hv
        refine ⟨xs, h2L, sz_lt (by omega), o2, acc ++ [y], xs ++ [u], F2, ?_, st.put _ _ _ _ _ i2 hD, upd_same, f2L, ?_, ?_, ?_⟩
        · exact (g'.trans g2).putYoung h2L f2L hD
        · rw [List.map_append]; exact (ha.up g2.f).app (.cons hu .nil)
        · rw [List.length_append, List.length_singleton]; omega
        · simpa using q
      | none =>
        subst hv
        refine ⟨o2, acc, xs, F2, g'.trans g2, i2, h2L, f2L, ha.up g2.f, by omega, ?_⟩
        simpa using q
  · rintro H' ⟨s, acc, xs, F', g', i', hL, fL, ha, hlen, k'⟩
    rw [← hn, List.drop_length] at k'
    exact kk (acc, s) D xs F' H' g' i' hD ⟨hL, fL⟩ ha (by simpa [compM] using k')
end
section
variable {K : PySem.W.Frag} {M : List Addr} {F H : Hp} {σ : L2.St} {g : TG} {tt : TT} {te : TE} {vs : List Nat} {α β γ S : Type} {l : List α} {ok : β → Prop} {ex : Er → Prop} {s0 : S} {J : It} {R : Hp → V → α → Prop} {Q : VK}
theorem lc_mapO {f : α → Mm γ} {rest : List γ → Mm β} (w : Wlk M F H J l R) (en : γ → PyData) (k : Post ((mapMm f l).bd rest) ok ex) (e : Ex F H) (hz : l.length ≤ 50000) (hM : ∀ D, H D = none → D ∉ M)
    (hb : ∀ x v F1 H1 F2 H2, Gm M F H F1 H1 → Gm [] F1 H1 F2 H2 → R F2 v x → ∀ Q : VK, Post (f x) (fun y => Ret M F1 H1 (fun F3 _ u => Dq K F3 u (en y)) Q) (fun _ => False) →
      g v (wipe σ vs) H2 fun σ2 H3 => wipe σ2 vs = wipe σ vs ∧ te σ2 H3 Q)
    (hx : ∀ e, ¬ ex e) (kk : ∀ (r : List γ) D xs F' H', Gm M F H F' H' → H D = none → (H' D = some (.lst xs) ∧ F' D = none) → DqAll K F' xs (r.map en) → Post (rest r) ok ex → Q (.ref D) H') (mono : GMon g) :
    ∀ D, H D = none → ∃ W : Nat → Nat → Hp → Prop, (∃ m, W 0 m (upd H D (.lst []))) ∧ ∀ i m H, W i m H →
      (J.stop i H ∧ Q (.ref D) H) ∨ (J.go i H ∧ ∃ Nx : Hp → Prop, (∀ H', Nx H' → ∃ m', m' < m ∧ W (i + 1) m' H') ∧ ∀ x H', J.yld i H x H' → g x (wipe σ vs) H' fun σ2 H2 => wipe σ2 vs = wipe σ vs ∧ tYes σ2 H2 fun b H3 =>
        if b = true then te σ2 H3 fun y H4 => ∃ acc, H4 D = some (.lst acc) ∧ acc.length < sizeLine ∧ Nx (upd H4 D (.lst (acc ++ [y]))) else Nx H3) := by
  obtain ⟨n, G, Y, w, hn, hG, hY⟩ := w.ex
  rw [mapMm_comp, bd_assoc] at k
  refine lc_mirO w en (fun _ _ _ => True) k e trivial stab_t hn hz hG hM (fun i s x v F' H' H'' g' _ hx y Q' k' => ?_) hx (fun r D xs F' H' g' _ hD o d k' => kk r.1 D xs F' H' g' hD o d k')
  obtain ⟨F'', g2, r⟩ := hY i x v F' H' H'' g' hx y
  refine mono _ _ _ _ _ (fun σ2 H3 z => ⟨z.1, ?_⟩) (hb x v F' H' F'' H'' g' g2 r (fun u H4 => Q' (some u) H4) ((post_bd k').mono (fun y q u F3 H3 g3 d => q.h F3 H3 _ g3 trivial ⟨u, rfl, d⟩) fun _ z => z))
  exact tYes_of (iteT z.2)
theorem lc_stO {f : Rw → α → Mm (γ × Rw)} {s0 : Rw} {rest : List γ × Rw → Mm β} {sc ra : Addr} {scr : List Int} (w : Wlk [ra] F H J l R) (en : γ → PyData) (k : Post ((mapSt f s0 l).bd rest) ok ex) (e : Ex F H) (hz : l.length ≤ 50000) (h0 : RowAt K sc ra scr F H s0)
    (hb : ∀ s x v F1 H1 F2 H2, Gm [ra] F H F1 H1 → RowAt K sc ra scr F1 H1 s → Gm [] F1 H1 F2 H2 → R F2 v x → ∀ Q : VK, Post (f s x) (fun y => Ret [ra] F1 H1 (fun F3 H3 u => Dq K F3 u (en y.1) ∧ RowAt K sc ra scr F3 H3 y.2) Q) (fun _ => False) →
      g v (wipe σ vs) H2 fun σ2 H3 => wipe σ2 vs = wipe σ vs ∧ te σ2 H3 Q)
    (hx : ∀ e, ¬ ex e) (kk : ∀ (r : List γ × Rw) D xs F' H', Gm [ra] F H F' H' → H D = none → (H' D = some (.lst xs) ∧ F' D = none) → DqAll K F' xs (r.1.map en) → RowAt K sc ra scr F' H' r.2 → Post (rest r) ok ex → Q (.ref D) H') (mono : GMon g) :
    ∀ D, H D = none → ∃ W : Nat → Nat → Hp → Prop, (∃ m, W 0 m (upd H D (.lst []))) ∧ ∀ i m H, W i m H →
      (J.stop i H ∧ Q (.ref D) H) ∨ (J.go i H ∧ ∃ Nx : Hp → Prop, (∀ H', Nx H' → ∃ m', m' < m ∧ W (i + 1) m' H') ∧ ∀ x H', J.yld i H x H' → g x (wipe σ vs) H' fun σ2 H2 => wipe σ2 vs = wipe σ vs ∧ tYes σ2 H2 fun b H3 =>
        if b = true then te σ2 H3 fun y H4 => ∃ acc, H4 D = some (.lst acc) ∧ acc.length < sizeLine ∧ Nx (upd H4 D (.lst (acc ++ [y]))) else Nx H3) := by
  obtain ⟨n, G, Y, w, hn, hG, hY⟩ := w.ex
  rw [mapSt_comp] at k
  refine lc_mirO w en (fun s F H => RowAt K sc ra scr F H s) k e h0 (stab_row h0) hn hz hG (row_notM h0) (fun i s x v F' H' H'' g' i' hx y Q' k' => ?_) hx (fun r D xs F' H' g' i' hD o d k' => kk r D xs F' H' g' hD o d i' k')
  obtain ⟨F'', g2, r⟩ := hY i x v F' H' H'' g' hx y
  refine mono _ _ _ _ _ (fun σ2 H3 z => ⟨z.1, ?_⟩) (hb s x v F' H' F'' H'' g' i' g2 r (fun u H4 => Q' (some u) H4) ((post_bd k').mono (fun y q u F3 H3 g3 d => q.h F3 H3 _ g3 d.2 ⟨u, rfl, d.1⟩) fun _ z => z))
  exact tYes_of (iteT z.2)
end
end Wk

set_option Elab.async false
set_option linter.all false
set_option maxRecDepth 100000
set_option maxHeartbeats 4000000
namespace Wk
open PySem L2 Evl PySem.Spec PyProof.Rows
/-! ### zip of a tuple and a list -/
/-- the tuple at a and the list at b, side by side -/
def ItzM (K : PySem.W.Frag) (a b : Addr) : It :=
  ⟨fun n H => ∃ (us vs : List V) (u v : V), (SqT K H a us ∧ us[n]? = some u) ∧ SqL K H b vs ∧ vs[n]? = some v,
   fun n H r H' => ∃ c u v, r = .ref c ∧ H c = none ∧ H' = upd H c (.tup [u, v]) ∧ (∀ l, SqT K H a l → l[n]? = some u) ∧ ∀ l, SqL K H b l → l[n]? = some v,
   fun n H => ∃ us vs : List V, (SqT K H a us ∧ SqL K H b vs) ∧ (n ≤ us.length ∧ n ≤ vs.length) ∧ (n = us.length ∨ n = vs.length)⟩
/-- where such a zip stands -/
structure StM (z TI TO i1 i2 a b : Addr) (n : Nat) (h : Heap) : Prop where
  hz : IsZip h z TI TO .none
  hi : IsTupOf2 h TI (.ref i1) (.ref i2)
  ho : ∃ p q, IsTupOf2 h TO p q
  h1 : h.IsTupleIter i1 a n
  h2 : h.IsListIter i2 b n
theorem five {α : Type} {c z TI TO i1 i2 : α} (h : c ∈ [z, TI, TO, i1, i2]) : c = z ∨ c = TI ∨ c = TO ∨ c = i1 ∨ c = i2 := by simpa using h
theorem turn_zipM {P : Program} {w : World} {K : PySem.W.Frag} {es : List Expr} {kk : Nat} {tp : Pos} {a b z TI TO i1 i2 : Addr} (S : ZipSep2 z TI TO i1 i2 [i1, a] [i2, b]) (na : a ≠ i1) (nb : b ≠ i2) :
    Turn P w K (.Tuple es kk tp) (ItzM K a b) [z, TI, TO, i1, i2] z (StM z TI TO i1 i2 a b) where
  mem := by simp
  obj := fun n h st c hc => by
    obtain ⟨hz, hi, ⟨p, q, ho⟩, ⟨o1, e1, _, d1⟩, ⟨o2, e2, _, d2⟩⟩ := st
    rcases five hc with rfl | rfl | rfl | rfl | rfl
    · exact ⟨_, hz, fun _ k => nomatch k⟩
    · exact ⟨_, hi, fun _ k => nomatch k⟩
    · exact ⟨_, ho, fun _ k => nomatch k⟩
    · exact ⟨o1, e1, fun _ k => by rw [d1] at k; cases k⟩
    · exact ⟨o2, e2, fun _ k => by rw [d2] at k; cases k⟩
  keep := fun n h h' st k => by
    obtain ⟨hz, hi, ⟨p, q, ho⟩, h1, h2⟩ := st
    exact ⟨k z (by simp) _ hz, k TI (by simp) _ hi, ⟨p, q, k TO (by simp) _ ho⟩, h1.at fun o e => k i1 (by simp) o e, h2.at fun o e => k i2 (by simp) o e⟩
  item := by
    intro X hP hw hK hc n pins s σ H E I hf st hg
    subst hP hw hK
    obtain ⟨hz, hi, ⟨p0, q0, ho⟩, h1, h2⟩ := st
    obtain ⟨us, vs, u, v, ⟨qa, ga⟩, qb, gb⟩ := hg
    obtain ⟨A1, ra, pa, _⟩ := I.tuple qa
    obtain ⟨A2, rb, pb, _⟩ := I.list qb
    obtain ⟨x, hx, rx⟩ := ra.get ga
    obtain ⟨y, hy, ry⟩ := rb.get gb
    have lz : z < s.heap.objs.size := Heap.lt_size hz
    have pT : s.heap.IsTuple a A1.toArray := pa
    have pL : s.heap.IsList b A2.toArray := pb.isList
    have hand : X.A.in1.handled = none := I.ok.hd hc
    have D1 := Draws.tuple (prog := X.prog) (w := X.w) (A := X.A.in1) hand i1 a na A1.toArray
    have D2 := Draws.list (prog := X.prog) (w := X.w) (A := X.A.in1) hand i2 b nb A2.toArray
    have n1 : n < A1.toArray.size := by
      have := (List.getElem?_eq_some_iff.mp hx).1
      simpa using this
    have n2 : n < A2.toArray.size := by
      have := (List.getElem?_eq_some_iff.mp hy).1
      simpa using this
    refine wpAny_pyNext_zipD2_item S D1 D2 hz hi ho ⟨h1, pT⟩ ⟨h2, pL⟩ n1 n2 fun x' y' h' tk ex ey z' o' s1' s2' hT hsz hk => ?_
    have e1 : x = x' := by
      have k : A1.toArray[n]? = some x := by simpa using hx
      exact Option.some.inj (k.symm.trans ex)
    have e2 : y = y' := by
      have k : A2.toArray[n]? = some y := by simpa using hy
      exact Option.some.inj (k.symm.trans ey)
    subst e1 e2
    refine ⟨_, rfl, wpAny_letOwnedTupleGo_zip (s := { s with heap := h', toks := tk }) z' fun h'' z'' sb => ?_⟩
    have cell : h''.get? s.heap.objs.size = some { cls := .type "tuple", data := .seq #[x, y] } := (sb.2 _ (Nat.ne_of_gt lz)).trans hT
    have new : ObjOk X.prog X.w (upd H s.heap.objs.size (.tup [u, v])) h'' s.heap.objs.size (.tup [u, v]) := by
      refine ⟨?_, [x, y], .cons rx (.cons ry .nil), _, cell, rfl, _, rfl⟩
      show 2 ≤ sizeLine
      decide
    have same : ∀ c o, c ∉ [z, TI, TO, i1, i2] → s.heap.get? c = some o → h''.get? c = some o := fun c o hn e => by
      simp only [List.mem_cons, List.not_mem_nil, or_false, not_or] at hn
      exact (sb.2 c hn.1).trans (hk c o hn.1 hn.2.2.1 hn.2.2.2.1 hn.2.2.2.2 e)
    have J := I.turnedNew (t' := tk) (ch := [z, TI, TO, i1, i2]) same hf (Nat.le_refl _) new
    obtain ⟨it1, _⟩ := s1'
    obtain ⟨it2, _⟩ := s2'
    have dz : i1 ≠ z := fun e => S.zi1 e.symm
    have dz2 : i2 ≠ z := fun e => S.zi2 e.symm
    refine ⟨.ref s.heap.objs.size, _, J, rfl, ⟨_, u, v, rfl, I.hok.fresh (Nat.le_refl _), rfl, fun l hl => ?_, fun l hl => ?_⟩, ⟨z'', ?_, ⟨x, y, ?_⟩, it1.at fun o q => (sb.2 _ dz).trans q, it2.at fun o q => (sb.2 _ dz2).trans q⟩, fun c hc' => ?_⟩
    · rw [I.tuple_inj hl qa]
      exact ga
    · rw [I.list_inj hl qb]
      exact gb
    · exact (sb.2 _ S.TIz).trans (hk _ _ S.TIz S.TITO S.TIi1 S.TIi2 hi)
    · exact (sb.2 _ S.TOz).trans o'
    · have lt : c < s.heap.objs.size := by
        rcases five hc' with rfl | rfl | rfl | rfl | rfl
        · exact lz
        · exact Heap.lt_size hi
        · exact Heap.lt_size ho
        · obtain ⟨_, q, _⟩ := h1
          exact Heap.lt_size q
        · obtain ⟨_, q, _⟩ := h2
          exact Heap.lt_size q
      rw [upd_ne (Nat.ne_of_lt lt)]
      exact (hf c hc').1
  done := by
    intro X hP hw hK hc n pins s σ H E I hf st hg
    subst hP hw hK
    obtain ⟨hz, hi, ⟨p0, q0, ho⟩, h1, h2⟩ := st
    obtain ⟨us, vs, ⟨qa, qb⟩, ⟨l1, l2⟩, hend⟩ := hg
    obtain ⟨A1, ra, pa, _⟩ := I.tuple qa
    obtain ⟨A2, rb, pb, _⟩ := I.list qb
    have w1 := ra.length
    have w2 := rb.length
    have pT : s.heap.IsTuple a A1.toArray := pa
    have pL : s.heap.IsList b A2.toArray := pb.isList
    have hand : X.A.in1.handled = none := I.ok.hd hc
    have D1 := Draws.tuple (prog := X.prog) (w := X.w) (A := X.A.in1) hand i1 a na A1.toArray
    have D2 := Draws.list (prog := X.prog) (w := X.w) (A := X.A.in1) hand i2 b nb A2.toArray
    have m1 : A1.toArray.size = us.length := by simp only [List.size_toArray]; omega
    have m2 : A2.toArray.size = vs.length := by simp only [List.size_toArray]; omega
    refine wpAny_pyNext_zipD2_end S D1 D2 hz hi ho ⟨h1, pT⟩ ⟨h2, pL⟩ (by omega) (by omega) (by omega) fun h' tk hk => ⟨rfl, I.turnedL (t' := tk) (ch := [z, TI, TO, i1, i2]) (fun c o hn e => ?_) hf⟩
    simp only [List.mem_cons, List.not_mem_nil, or_false, not_or] at hn
    exact hk c o hn.1 hn.2.2.1 hn.2.2.2.1 hn.2.2.2.2 e
  self := fun A i s Q E st h => wpAny_pyIter_zip st.hz h
def iZipM (K : PySem.W.Frag) (ta : TA) : TI := fun σ H R => ta σ H fun rs H1 => ∃ a b us vs, rs = [.ref a, .ref b] ∧ (SqT K H1 a us ∧ SqL K H1 b vs) ∧ R (ItzM K a b) H1
theorem pi_zipM {X : Cx} {e e2 : Expr} {ta : TA} {p pos tp : Pos} {es : List Expr} {kk : Nat} (hg : Gl X "zip") (hm : X.mg "zip" = none) (ha : PA X [e, e2] ta)
    (hs : starEach [e, e2] X.env = (false, eval e X.env) :: starEach [e2] X.env := by rfl) (hp : (backTo pos (starEach [e2] X.env)).any (·.1) = false := by rfl) :
    PI X (.Tuple es kk tp) (.Call (.Name "zip" p) [e, e2] [] pos) (iZipM X.K ta) := by
  refine ⟨fun pins s σ H R I h => Call_ (ld_blt I hg hm PyProof.Rows.boot_zip (PyProof.Rows.callWith_type1 (thn (ha.run pos pins s σ H _ I h) fun rs s1 got => ?_) hs hp))⟩
  obtain ⟨vs', H1, I1, rel, a, b, us, vs, rfl, ⟨qa, qb⟩, q⟩ := got
  cases rel with
  | cons r1 rel =>
    cases rel with
    | cons r2 rel =>
      cases rel
      cases r1
      cases r2
      obtain ⟨A1, ra, pa, _⟩ := I1.tuple qa
      obtain ⟨A2, rb, pb, _⟩ := I1.list qb
      have pT : s1.heap.IsTuple a A1.toArray := pa
      have pL : s1.heap.IsList b A2.toArray := pb.isList
      have la : a < s1.heap.objs.size := by
        obtain ⟨o, g, _⟩ := pT
        exact Heap.lt_size g
      have lb : b < s1.heap.objs.size := by
        obtain ⟨o, g, _⟩ := pL
        exact Heap.lt_size g
      refine zip_begins2 (begins_tuple a A1.toArray) (begins_list b A2.toArray) pT pL fun h' hz hi ho g1 g2 hsz hk => wpAny_pyIter_zip hz ?_
      have I2 : Inv X pins σ H1 { s1 with heap := h' } := I1.kept (t' := s1.toks) hk
      have S := zip_sep2 (N := s1.heap.objs.size) (fp1 := [a]) (fp2 := [b]) (fun c hc => by rw [List.mem_singleton.mp hc]; exact la) (fun c hc => by rw [List.mem_singleton.mp hc]; exact lb)
      refine ⟨_, _, _, _, H1, rfl, I2, turn_zipM (a := a) (b := b) S (Nat.ne_of_lt la) (Nat.ne_of_lt (Nat.lt_succ_of_lt lb)), ⟨hz, hi, ⟨_, _, ho⟩, ⟨_, g1, rfl, rfl⟩, ⟨_, g2, rfl, rfl⟩⟩, fun c hc => ?_, q⟩
      have le : s1.heap.objs.size ≤ c := by
        rcases five hc with rfl | rfl | rfl | rfl | rfl
        · exact Nat.le_add_right _ _
        · exact Nat.le_add_right _ _
        · exact Nat.le_add_right _ _
        · exact Nat.le_refl _
        · exact Nat.le_add_right _ _
      exact I1.fpOk le (I1.hok.fresh le)
section
variable {K : PySem.W.Frag} {M : List Addr} {F H : Hp} {α α' : Type} {us vs : List V} {l : List α} {l' : List α'} {en : α → PyData} {en' : α' → PyData} {a b : Addr}
theorem wlk_zipM (e : Ex F H) (h : SqT K F a us) (da : DqAll K F us (l.map en)) (h' : F b = some (.lst vs)) (da' : DqAll K F vs (l'.map en')) : Wlk M F H (ItzM K a b) (l.zip l') (fun F v x => Dq K F v (e2 en en' x)) := by
  have hl : us.length = l.length := by rw [da.len, List.length_map]
  have hl' : vs.length = l'.length := by rw [da'.len, List.length_map]
  refine ⟨min us.length vs.length, fun H => SqT K H a us ∧ SqL K H b vs, YPair (fun i => us[i]?) (fun i => vs[i]?), ⟨fun i _ hi q => ⟨us, vs, us[i], vs[i], ⟨q.1, by simp⟩, q.2, by simp⟩, fun _ q => ⟨us, vs, q, by omega, by omega⟩, fun i H v H' _ q y => ?_⟩, by rw [List.length_zip, hl, hl'], fun F' H' g' => ⟨ex_t g'.s (ex_t g'.f h), sq_of (g'.s _ _ (g'.f _ _ h'))⟩, fun i x v F' H' H'' g' hx y => ?_⟩
  · obtain ⟨T, x, y, h1, h2, h3, h4, h5⟩ := y
    exact ⟨T, x, y, h1, h2, h3, h4 us q.1, h5 vs q.2⟩
  · obtain ⟨c, u, w, rfl, hc, rfl, h1, h2⟩ := y
    obtain ⟨d1, k1, q1⟩ := (da.up g'.f).getV h1
    obtain ⟨d2, k2, q2⟩ := (da'.up g'.f).getV h2
    obtain ⟨x1, x2⟩ := x
    obtain ⟨hx1, hx2⟩ := List.getElem?_zip_eq_some.mp hx
    have f1 : l[i]? = some x1 := hx1
    have f2 : l'[i]? = some x2 := hx2
    rw [List.getElem?_map, f1] at k1
    rw [List.getElem?_map, f2] at k2
    cases k1
    cases k2
    have g2 : Gm [] F' H' (upd F' c (.tup [u, w])) (upd H' c (.tup [u, w])) := Gm.new g'.s hc
    refine ⟨_, g2, .tup (st_of upd_same) (.cons (q1.up g2.f) (.cons (q2.up g2.f) .nil))⟩
end
end Wk

set_option Elab.async false
set_option linter.all false
set_option maxRecDepth 100000
set_option maxHeartbeats 2000000
namespace Wk
open PySem L2 Evl
section
variable {K : PySem.W.Frag} {M : List Addr} {F H : Hp} {Q : VK} {j : Int}
/-- list(range(j)) -/
theorem lst_rg (e : Ex F H) (h : 0 ≤ j ∧ j ≤ 100000) (k : Ret M F H (fun F' _ v => Dq K F' v (eL PyData.int (rangeL 0 j.toNat))) Q) : RgOk 0 j ∧ ∀ q, H q = none → Q (.ref q) (upd H q (.lst (rgV 0 j))) :=
  ⟨RgOk.of_le (by omega) (by omega) (by omega) (by omega), fun p hp => by
    have g : Gm M F H (upd F p (.lst (rgV 0 j))) (upd H p (.lst (rgV 0 j))) := Gm.new e hp
    have e1 : rgV 0 j = (rangeL 0 j.toNat).map V.int := by
      unfold rgV rangeL
      rw [List.map_map, Int.sub_zero]
      rfl
    refine k _ _ _ g (.lst upd_same ?_)
    rw [e1]
    exact ints_all _⟩
end
/-! ### an int in a tuple of ints -/
section
variable {X : Cx}
def rInV (K : PySem.W.Frag) : R2 := fun x y H Q => ∃ (a : Int) (l : List Int), Dp K H x (.int a) ∧ Dp K H y (eV PyData.int l) ∧ Q (.bl (hasM l a)) H
def rNotInV (K : PySem.W.Frag) : R2 := fun x y H Q => ∃ (a : Int) (l : List Int), Dp K H x (.int a) ∧ Dp K H y (eV PyData.int l) ∧ Q (.bl (!hasM l a)) H
theorem dpAll_ints {K : PySem.W.Frag} {H : Hp} : ∀ {l : List Int} {xs : List V}, DpAll K H xs (l.map PyData.int) → xs = l.map V.int
  | [], _, h => by cases h; rfl
  | i :: l, _, h => by
    cases h with
    | cons h hr =>
      cases h
      rw [dpAll_ints hr]
      rfl
theorem flat_ints : ∀ l : List Int, (l.map V.int).all flatV = true
  | [] => rfl
  | i :: l => by rw [List.map_cons, List.all_cons, flat_ints l]; rfl
theorem inV_ints (a : Int) : ∀ l : List Int, inV (V.int a) (l.map V.int) = hasM l a
  | [] => rfl
  | i :: l => by
    have e := inV_ints a l
    unfold inV hasM at e ⊢
    rw [List.map_cons, List.any_cons, e, List.contains_cons]
    congr 1
    show decide (i = a) = decide (a = i)
    exact decide_eq_decide.mpr ⟨Eq.symm, Eq.symm⟩
theorem op_inV : OpR X (compareOp .In) (rInV X.K) := by
  intro pins s σ H x y v u Q I rx ry h
  obtain ⟨a, l, hx, hy, q⟩ := h
  cases hx
  cases hy with
  | tup st da =>
    obtain rfl := dpAll_ints da
    refine op_in_seq pins s σ H _ _ v u Q I rx ry ⟨_, _, rfl, .inr st, rfl, flat_ints l, ?_⟩
    rw [if_neg Bool.false_ne_true, inV_ints]
    exact q
theorem op_notInV : OpR X (compareOp .NotIn) (rNotInV X.K) := by
  intro pins s σ H x y v u Q I rx ry h
  obtain ⟨a, l, hx, hy, q⟩ := h
  cases hx
  cases hy with
  | tup st da =>
    obtain rfl := dpAll_ints da
    refine op_notIn_seq pins s σ H _ _ v u Q I rx ry ⟨_, _, rfl, .inr st, rfl, flat_ints l, ?_⟩
    rw [if_pos rfl, inV_ints]
    exact q
end
/-! ### the run's equation, part by part -/
section
open PySem.W PySem.Calls PyProof.Rows HandSHeadRun
theorem runI_of3 {r : OpenRow} {q : Program} {H : Hook} {ob : SharedT → H.α} {M : Nat} {loose : List PySem.Str} {w : World}
    (h1 : (wholeF (fun p => stepQ (denQ tabQ) p w) fenceQ M r.prog).map (fun x => looksF r.prog x.1.heap x.2.abs) = some true)
    (h2 : (wholeF (fun p => stepQ (denQ tabQ) p w) fenceQ M r.prog).map (fun x => seenQ q loose (importedModules r.prog.main.body) (fun s => xlAt q [] s && recOk r.toRowW.records s) x.2.abs) = some (openGood q loose))
    (h3 : (wholeF (fun p => stepQ (denQ tabQ) p w) fenceQ M r.prog).map (fun x => ob x.2) = some (H.val w)) : RunEqI r q H ob M loose w := by
  unfold RunEqI
  generalize wholeF (fun p => stepQ (denQ tabQ) p w) fenceQ M r.prog = o at h1 h2 h3 ⊢
  cases o with
  | none => cases h1
  | some x =>
    have e1 := Option.some.inj h1
    have e2 := Option.some.inj h2
    have e3 := Option.some.inj h3
    exact congrArg some (Prod.ext e1 (Prod.ext e2 e3))
end
end Wk

set_option Elab.async false
set_option linter.all false
set_option maxRecDepth 100000
set_option maxHeartbeats 4000000
namespace Wk
open PySem L2 Evl PySem.Spec PyProof.Rows
theorem tuple_mulW1 (l : Addr) (items : Array Value) (n : Nat) (dd : Option Addr) (sl : Array (Option Value)) (u : Tok) :
    Meets (Builtin.«tuple.__mul__» ⟨[.ref l, .int 1 u], []⟩) (fun _ R s => s.heap.get? l = some { cls := .type "tuple", dict := dd, data := .seq items n, slots := sl } ∧ R (.ok (.ret (Value.ref l))) s) :=
  .of_wp fun prog w A R s h => by
    obtain ⟨hp, g, d, tk, os⟩ := s
    obtain ⟨hl, h⟩ := h
    have f1 := AutoSeq1.idx_int
    have c0 : (decide ((1 : Int) < -(2 ^ 63)) || decide ((1 : Int) ≥ 2 ^ 63)) = false := by decide
    have c1 : (items.isEmpty || (1 : Int) == 1) = true := by simp
    wp_walk using wpAny_loadPart' hl
    repeat (first
      | (refine wpAny_ite_false (decide_eq_false (by rw [c0]; exact Bool.false_ne_true)) ?_; wp_walk using wpAny_loadPart' hl)
      | (refine wpAny_ite_true (decide_eq_true (by rw [c1])) ?_; wp_walk using wpAny_loadPart' hl))
    exact ⟨_, rfl, h⟩
def rRepTM (K : PySem.W.Frag) : R2 := fun x y H Q => ∃ l k xs, x = .ref l ∧ y = .int k ∧ SqT K H l xs ∧ xs ≠ [] ∧ 1 ≤ k ∧ k ≤ 1000 ∧ xs.length ≤ 1000 ∧ (k = 1 → Q (.ref l) H) ∧ (2 ≤ k → ∀ p, H p = none → Q (.ref p) (upd H p (.tup (List.replicate k.toNat xs).flatten)))
theorem op_repTM {X : Cx} : OpR X (binaryOp .Mult) (rRepTM X.K) := by
  intro pins s σ H x y v u Q I rx ry h
  obtain ⟨l, k, xs, rfl, rfl, hT, hne, h1, h2, hz, q1, q2⟩ := h
  by_cases e : k = 1
  · subst e
    cases rx
    obtain ⟨t, rfl⟩ := ry
    obtain ⟨its, r, ⟨⟨cls, dd, data, sl⟩, ho, hc, n, hd⟩, hs⟩ := I.tuple hT
    simp only at hc hd
    subst hc hd
    refine wpAny_binaryOp_repeat_ref (T := "tuple") (U := "int") (by decide) ⟨_, ho, rfl⟩ (fun s' => typeIs_int s' 1 t) noFill_tuple_mul F.fills_int_mul F.slot_int_rmul repeat_tuple F.slot_int_index.lookup
      (call_meets F.slot_int_rmul (typeIs_int s 1 t) F.entry_int_rmul (F.args_int_rmul_2 _ _) (int_rmul_tuple 1 t l its.toArray n dd sl)
        ⟨ho, rfl, ⟨_, ho, rfl⟩, call_meets F.slot_tuple_mul ⟨_, ho, rfl⟩ F.entry_tuple_mul (F.args_tuple_mul_2 _ _) (tuple_mulW1 l its.toArray n dd sl t) ⟨ho, ?_⟩⟩)
    exact ⟨.ref l, H, I, rfl, q1 rfl⟩
  · exact op_repT pins s σ H _ _ v u Q I rx ry ⟨l, k, xs, rfl, rfl, hT, hne, by omega, h2, hz, q2 (by omega)⟩
section
variable {K : PySem.W.Frag} {M : List Addr} {F H : Hp} {Q : VK} {α : Type} {en : α → PyData} {l : List α} {xs : List V} {a : Addr} {j : Int}
/-- a tuple, repeated -/
theorem rep_tup (e : Ex F H) (s : SqT K F a xs) (d : DqAll K F xs (l.map en)) (h : 1 ≤ l.length ∧ l.length ≤ 1000 ∧ 1 ≤ j ∧ j ≤ 1000) (k : Ret M F H (fun F' _ v => Dq K F' v (eV en (List.replicate j.toNat l).flatten)) Q) : rRepTM K (.ref a) (.int j) H Q := by
  have hl : xs.length = l.length := by rw [d.len, List.length_map]
  refine ⟨a, j, xs, rfl, rfl, ex_t e s, fun z => ?_, h.2.2.1, h.2.2.2, by omega, fun z => ?_, fun _ p hp => ?_⟩
  · rw [z] at hl
    simp only [List.length_nil] at hl
    omega
  · have e1 : (List.replicate j.toNat l).flatten = l := by
      rw [z]
      simp
    rw [e1] at k
    exact k _ _ _ (Gm.refl e) (.tup s d)
  · have g : Gm M F H (upd F p (.tup (List.replicate j.toNat xs).flatten)) (upd H p (.tup (List.replicate j.toNat xs).flatten)) := Gm.new e hp
    exact k _ _ _ g (.tup (st_of upd_same) ((all_rep d _).up g.f))
end
end Wk

set_option Elab.async false
set_option linter.all false
set_option maxRecDepth 100000
set_option maxHeartbeats 2000000
namespace Wk
open PySem PySem.W L2 He
/-! ### the Hook over a written list of addresses -/
def obsXL (as : List Addr) (fa : List Fa) (fn : List He5.DefA) (ex : Frag → Bool) (g : Addr → Option Obj) : He.AlD := obsX fa fn ex (frG g as)
def hookXL (as : List Addr) (fa : List Fa) (fn : List He5.DefA) (ex : Frag → Bool) : PySem.W.Hook where
  α := He.AlD
  obs := fun s => obsXL as fa fn ex s.heap.get?
  val := fun _ => valX fn
  says := fun _ h => ∃ K : Frag, K.In h ∧ SaysX fa fn ex K
  of := fun _ _ e => ⟨_, frG_in, e⟩
  keeps := fun _ _ _ ⟨K, hK, c⟩ k => ⟨K, Frag.In.keeps hK k, c⟩
theorem obsXL_eq {as : List Addr} {fa : List Fa} {fn : List He5.DefA} {ex : Frag → Bool} {g : Addr → Option Obj} {s : Shared} (h : ∀ a, g a = s.heap.get? a) : obsXL as fa fn ex g = (hookXL as fa fn ex).obs s := by
  have e : g = s.heap.get? := funext h
  rw [e] <;> rfl
end Wk

set_option Elab.async false
set_option linter.all false
set_option maxRecDepth 100000
set_option maxHeartbeats 4000000
namespace WNe
open PySem PySem.Spec PyProof.Rows
section
variable {M : Model} {prog : Program} {w : World} {A : Around} {E : Value → Shared → Prop} {s : Shared} {K : PySem.W.Frag} {x y C D f : Addr} {ox : Obj} {od : Option Obj}
theorem ifBound_objNe {args : List Value} {Q : Option Value → Shared → Prop} (X : K.In s.heap) (I : PySem.W.InstAt s.heap x ox C od) (hs : PySem.W.findIn K (.ref C) "__ne__" = some (some (.builtin "object.__ne__")))
    (h : wpAny M A (call (.builtin "object.__ne__") (.ref x :: args)) (fun v => Q (some v)) E s) : wpAny M A (callSpecialIfBound? (.ref x) "__ne__" args) Q E s := by
  simp only [callSpecialIfBound?, bindSpecialIfBound?]
  refine wpAny_holding (wpAny_bind (wpAny_bind (wpAny_bind (I.type.here ((PySem.W.looks_findIn X hs).here ?_)))))
  refine wpAny_bind (wpAny_askSetting (wpAny_ite ?_))
  have fin : wpAny M A (call (.builtin "object.__ne__") ([.ref x] ++ args) >>= fun v => pure (some v)) Q E s := wpAny_bind (wpAny_mono h (fun v s' h' => wpAny_pure h') fun _ _ h' => h')
  split
  · exact wpAny_bind (wpAny_of_eq (F.cmp_object.ne.bind _) (wpAny_pure (by exact fin)))
  · exact wpAny_tryCatch (wpAny_bind (wpAny_of_eq (F.cmp_object.ne.bind _) (wpAny_pure (by exact fin))))
theorem entry_ne (X : K.In s.heap) (I : PySem.W.InstAt s.heap x ox C od) (hs : PySem.W.findIn K (.ref C) "__eq__" = some (some (.ref f))) (hf : PySem.W.isFn K (.ref f) = true) (hu : A.units < cLine) {Q : Fin → Shared → Prop}
    (hcall : wpAny (model prog w) A (call (.ref f) [.ref x, .ref y]) (fun v s' => ∃ b, v = .bool b ∧ Q (.done (.ret (.bool (!b)))) s') E s) :
    wpAny (model prog w) A (Builtin.«object.__ne__» ⟨[.ref x, .ref y], []⟩) Q E s := by
  unfold Builtin.«object.__ne__»
  repeat (first
    | with_reducible refine wpAny_cRoomFor hu ?_
    | (refine wpAny_bind (m := callSpecialIfBound? (.ref x) (Str.ofString "__eq__") [.ref y])
        (PySem.W.ifBound_K X I hs hf (wpAny_mono hcall (fun r s' hr => by
          obtain ⟨b, rfl, hq⟩ := hr
          repeat (first | exact hq | exact wpAny_pure hq | exact wpAny_truthy_bool hq | (refine wpAny_bind (m := truthy (.bool _)) (wpAny_truthy_bool ?_)) | wp_step)) fun _ _ e => e)))
    | wp_step)
theorem ne_K {Q : Value → Shared → Prop} (hu : A.units + 1 < cLine) (X : K.In s.heap) (I : PySem.W.InstAt s.heap x ox C od) (hb : PySem.W.Looks (model prog w) s.heap (typeOf (.ref y)) (.ref C))
    (hm : PySem.W.mroIn K C (.type "object") = some true) (hn : PySem.W.findIn K (.ref C) "__ne__" = some (some (.builtin "object.__ne__")))
    (hs : PySem.W.findIn K (.ref C) "__eq__" = some (some (.ref f))) (hf : PySem.W.isFn K (.ref f) = true)
    (hcall : wpAny (model prog w) A.in1 (call (.ref f) [.ref x, .ref y]) (fun v s' => ∃ b, v = .bool b ∧ Q (.bool (!b)) s') E s) : wpAny (model prog w) A (richCompare .NotEq (.ref x) (.ref y)) Q E s := by
  have one : wpAny (model prog w) A (tryCompare (.ref x) "__ne__" (.ref y)) (fun r s' => ∃ v, r = some v ∧ Q v s') E s := by
    unfold tryCompare
    refine wpAny_bind (ifBound_objNe X I hn (wpAny_call (codeAny_call_builtin F.cmp_object.ne.plain F.cmpEntry_ne (PySem.W.check_slot F.cmpKind_ne F.cmpSplit_ne (I.type.andThen (PySem.W.looks_mroIn X hm)) (F.cmpArgs_ne _ _)
      (entry_ne X I hs hf (by exact hu) (wpAny_mono hcall (fun v s' hv => ?_) fun _ _ e => e))))))
    obtain ⟨b, rfl, hq⟩ := hv
    exact ⟨b, rfl, wpAny_pure ⟨_, rfl, hq⟩⟩
  unfold richCompare
  simp only [oneThing_ref]
  refine wpAny_holding (wpAny_bind (wpAny_cRoomFor (by omega) ?_))
  rw [cmpInfo_NotEq]
  dsimp only
  refine wpAny_bind (I.type.here (wpAny_bind (hb.here ?_)))
  rw [show (Value.ref C != Value.ref C) = false from by simp]
  simp only [Bool.false_eq_true, if_false]
  refine wpAny_bind (wpAny_pure ?_)
  simp only [Bool.false_eq_true, if_false]
  refine wpAny_bind (wpAny_mono one (fun r s' z => ?_) fun _ _ e => e)
  obtain ⟨v, rfl, hq⟩ := z
  exact wpAny_pure hq
end

end WNe
namespace Wk
open PySem L2 Evl PySem.Spec PyProof.Rows
/-- two instances of C compared by C's own ==, which promises sp -/
def rOwnE (C : Addr) (sp : Sp) : R2 := fun x y H Q => ∃ a b dx dy fs gs, x = .ref a ∧ y = .ref b ∧ H a = some (.ins C dx fs) ∧ H b = some (.ins C dy gs) ∧ sp [.ref a, .ref b] H (fun v H' => ∃ r, v = .bl r ∧ Q (.bl r) H') E0
def rOwnN (C : Addr) (sp : Sp) : R2 := fun x y H Q => ∃ a b dx dy fs gs, x = .ref a ∧ y = .ref b ∧ H a = some (.ins C dx fs) ∧ H b = some (.ins C dy gs) ∧ sp [.ref a, .ref b] H (fun v H' => ∃ r, v = .bl r ∧ Q (.bl (!r)) H') E0
/-- the class's own == with its promise, and no != of its own -/
structure KnE (P : Program) (w : World) (K : PySem.W.Frag) (mg : Str → Option Value) (base : Heap) (C : Addr) (k : Nat) (ps : List Str) (sp : Sp) : Prop where
  ex : ∃ f fd, FnOk P w K mg base CX0 k f fd ps sp ∧ PySem.W.findIn K (.ref C) "__eq__" = some (some (.ref f)) ∧ PySem.W.isFn K (.ref f) = true ∧ Binds K fd ps []
  ne : PySem.W.findIn K (.ref C) "__ne__" = some (some (.builtin "object.__ne__"))
  ob : PySem.W.mroIn K C (.type "object") = some true
section
variable {X : Cx} {C : Addr} {n : Nat} {ps : List Str} {sp : Sp}
theorem own_call {f : Addr} {fd : FuncData} (F : FnOk X.prog X.w X.K X.mg X.base CX0 n f fd ps sp) (hb : Binds X.K fd ps []) {A : Around} (sb : Sub X n A) {pins : List (Addr × Obj)} {s : Shared} {σ : L2.St} {H : Hp} {a b : Addr} {Q : VK} (I : Inv X pins σ H s)
    (hsp : sp [.ref a, .ref b] H Q E0) : wpAny (model X.prog X.w) A (call (.ref f) [.ref a, .ref b]) (fun v s' => ∃ z H', Inv X pins σ H' s' ∧ RelV z v ∧ Q z H') X.xe s := by
  have e0 : Env0 X.prog X.w X.K X.mg X.base A X.stack s H := by
    have e := I.env0
    exact ⟨by rw [sb.fr]; exact e.frames, e.mod, e.bs, e.bsz, e.funs, e.frf, e.hok, e.bare⟩
  have hl := F.len _ _ _ _ hsp
  have r2 : Vals [V.ref a, V.ref b] [Value.ref a, Value.ref b] := .cons rfl (.cons rfl .nil)
  refine wpAny_call (codeAny_mono (F.run A X.stack s H ⟨[.ref a, .ref b], []⟩ [.ref a, .ref b] [.ref a, .ref b] _ E0 sb.room e0 (by
    have := hb s [.ref a, .ref b] I.kIn (by simpa using hl)
    simpa using this) r2 hsp) fun r s' hq => ?_)
  cases r with
  | error e => exact pass0 pins σ H s e s' I hq
  | ok fl =>
    cases fl with
    | ret w =>
      obtain ⟨z, H', I', rz, ez⟩ := I.after hq
      exact ⟨z, H', I', rz, ez⟩
    | next => exact False.elim hq
    | brk => exact False.elim hq
    | cont => exact False.elim hq
theorem op_neOwn (G : KnE X.prog X.w X.K X.mg X.base C n ps sp) (hr : Room (n + 1) X.A) : OpR X (compareOp .NotEq) (rOwnN C sp) := by
  intro pins s σ H x y v u Q I rx ry h
  obtain ⟨f, fd, F, hs, hf, hb⟩ := G.ex
  obtain ⟨a, b, dx, dy, fs, gs, rfl, rfl, ha, hb', hsp⟩ := h
  cases rx
  cases ry
  obtain ⟨mA, J, _⟩ := ins_get I.hok ha
  obtain ⟨mB, J', _⟩ := ins_get I.hok hb'
  obtain ⟨od, J, _⟩ := J.look
  obtain ⟨od', J', _⟩ := J'.look
  have un := hr.un
  refine WNe.ne_K (by omega) I.kIn J J'.type G.ob G.ne hs hf (wpAny_mono (own_call F hb (A := X.A.in1) ⟨hr.in1, rfl⟩ I hsp) (fun v s' q => ?_) fun _ _ e => e)
  obtain ⟨z, H', I', rz, r, rfl, q⟩ := q
  cases rz
  exact ⟨r, rfl, .bl (!r), H', I', rfl, q⟩
theorem op_eqOwn (G : KnE X.prog X.w X.K X.mg X.base C n ps sp) (hr : Room (n + 1) X.A) : OpR X (compareOp .Eq) (rOwnE C sp) := by
  intro pins s σ H x y v u Q I rx ry h
  obtain ⟨f, fd, F, hs, hf, hb⟩ := G.ex
  obtain ⟨a, b, dx, dy, fs, gs, rfl, rfl, ha, hb', hsp⟩ := h
  cases rx
  cases ry
  obtain ⟨mA, J, _⟩ := ins_get I.hok ha
  obtain ⟨mB, J', _⟩ := ins_get I.hok hb'
  obtain ⟨od, J, _⟩ := J.look
  obtain ⟨od', J', _⟩ := J'.look
  have un := hr.un
  obtain ⟨m, hF⟩ := I.fr
  refine PySem.W.cmp_K (op := .Eq) (tb := .ref C) (by omega) hF I.ok.mod.kin J J'.type (by simp [PySem.W.notFirst]) hs hf (wpAny_mono (own_call F hb (A := X.A) ⟨hr.mono (by omega), rfl⟩ I hsp) (fun v s' q => ?_) fun _ _ e => e)
  obtain ⟨z, H', I', rz, r, rfl, q⟩ := q
  cases rz
  exact ⟨.bl r, H', I', rfl, q⟩
end
end Wk

set_option Elab.async false
set_option linter.all false
set_option maxRecDepth 100000
set_option maxHeartbeats 2000000
namespace Wk
open PySem L2 Evl
/-- a list that a call reads, and nothing of it stays -/
theorem Gm.lend {F H F' H' : Hp} {p : Addr} {o : HO} (e : Ex F H) (g : Gm [] (upd F p o) H F' H') : Gm [] F H F H' :=
  ⟨Ex.refl _, fun a u ha => g.h a u (by simp) (e a u ha), g.h, fun _ _ _ hn => hn, g.m⟩
theorem ex_fix {F H : Hp} {p : Addr} {o : HO} (e : Ex F H) (h : H p = some o) : Ex (upd F p o) H := fun a u ha => by
  by_cases q : a = p
  · subst q
    rw [upd_same] at ha
    cases ha
    exact h
  · rw [upd_ne q] at ha
    exact e a u ha
/-! ### what an own == asks of the class, as the head tells it -/
section
open PySem.W He
variable {K : Frag}
def insB (x : Str) (K : Frag) : Bool := eqO (findIn K (.ref (ga K x)) "__class__") (some (some (.builtin "object.__class__"))) && (eqO (specialIn K (.builtin "object.__class__") "__get__") (some (some (.builtin "getset_descriptor.__get__"))) &&
  (decide (takesIn K (.builtin "object.__class__") = some true) && (decide (mroIn K (ga K x) (.type "object") = some true) && decide (kitOne K (.ref (ga K x)) (.ref (ga K x)) = some true))))
theorem insB_ok {x : Str} (cl : Cls K (ga K x)) (h : insB x K = true) : C8.InsC K (ga K x) := by
  obtain ⟨h1, h⟩ := ba h
  obtain ⟨h2, h⟩ := ba h
  obtain ⟨h3, h⟩ := ba h
  obtain ⟨h4, h5⟩ := ba h
  exact ⟨cl, eqO_ok h1, eqO_ok h2, of_decide_eq_true h3, of_decide_eq_true h4, of_decide_eq_true h5⟩
def neB (x : Str) (K : Frag) : Bool := eqO (findIn K (.ref (ga K x)) "__ne__") (some (some (.builtin "object.__ne__"))) && decide (mroIn K (ga K x) (.type "object") = some true)
theorem knE_of {P : Program} {w : World} {mg : Str → Option Value} {base : Heap} {x : Str} {fd : FuncData} {k : Nat} {ps : List Str} {sp : Sp} (M : Meth K (ga K x) "__eq__" (ma K (ga K x) "__eq__")) (h : neB x K = true)
    (F : FnOk P w K mg base CX0 k (ma K (ga K x) "__eq__") fd ps sp) (hb : Binds K fd ps []) : KnE P w K mg base (ga K x) k ps sp := by
  obtain ⟨h1, h2⟩ := ba h
  exact ⟨⟨_, fd, F, M.1, M.2, hb⟩, eqO_ok h1, of_decide_eq_true h2⟩
end
end Wk

set_option Elab.async false
set_option linter.all false
set_option maxRecDepth 100000
set_option maxHeartbeats 4000000
namespace Wk
open PySem L2 Evl PySem.Spec PyProof.Rows NdefX LamX
/-! ### an exception's __init__ that says super().__init__(..) -/
/-- what the written part says of the class at D -/
structure SupC (K : PySem.W.Frag) (P : Program) (mg : Str → Option Value) (D cda cc : Addr) : Prop where
  oex : OexC K D
  sup : PySem.W.ks_superIn K D D "__init__" = some (some (.builtin "ValueError.__init__"))
  sub : PySem.W.subIn K (.ref D) (.type "ValueError") = some true
  self : PySem.W.mroIn K D (.ref D) = some true
  opq : PySem.W.nsIn K cStatics "thirdparty.any" = some none
  code : ∃ ccl cdd vs ccs file tf, K.lookup cda = some ⟨ccl, cdd, .fields vs, ccs⟩ ∧ vs[2]? = some (.str file tf) ∧ ((P.main.file : Str) == file) = true
  cell : ∃ cl cld csl, K.lookup cc = some ⟨cl, cld, .cell (some (.ref D)), csl⟩
  sup0 : mg "super" = none
  top : (P.main.scope.names.lookup ("super" : Str)).isSome = false
section
variable {K : PySem.W.Frag} {P : Program} {mg : Str → Option Value} {D cda cc : Addr}
theorem SupC.cls {h : Heap} (S : SupC K P mg D cda cc) (X : K.In h) : ∃ cd oD, PySem.W.clsIn K D = some cd ∧ h.get? D = some oD ∧ oD.data = .cls cd := by
  obtain ⟨nm, q, N, bs, bm, sn, sub, ab, col, dd, k0, k1, k2, k3, k5, hC, hbm⟩ := S.oex.cls
  refine ⟨_, _, ?_, X _ _ hC, rfl⟩
  unfold PySem.W.clsIn
  rw [hC]
end
section
variable {prog : Program} {w : World} {A : Around} {E : Value → Shared → Prop} {h : Heap} {g : Array GenState} {d : Drawn} {t : Nat} {os : OsState}
variable {nm q : Str} {C N : Addr} {bs bm bmB : List Value} {hdct : Bool} {sn : List Str} {sub : List Value} {ab : Bool} {col : Option Bool} {dd : Option Addr} {k0 k1 k2 k3 k5 : Option Value} {B newId i : String}
theorem call_mw (FB : ExcBaseFacts B newId i bmB) {u e t0 : Addr} {rest : List Value} {Q : Value → Shared → Prop}
    (hC : h.get? C = some (excClassObj nm q C N bs bm hdct sn sub ab col dd k0 k1 k2 k3 k5 newId)) (he : h.get? e = some (PySem.HandSPX.excO C t0)) (hu : h.get? u = some (PySem.W.kxs_mw i e)) (hrest : rest.length ≤ sizeLine)
    (hq : ∀ h' t1, (∀ b o, b ≠ e → h.get? b = some o → h'.get? b = some o) → h'.get? e = some (PySem.HandSPX.excO C t1) → Q .none ⟨h', g, d, t, os⟩) :
    wpAny (model prog w) A (call (.ref u) rest) Q E ⟨h, g, d, t, os⟩ := by
  refine wpAny_call (codeAny_of_tree ?_)
  show wpAny _ A.in1 (callAny (.ref u) ⟨rest, []⟩) _ _ _
  simp only [callAny]
  refine wpAny_bind (wpAny_load hu ?_)
  simp only [PySem.W.kxs_mw, show (Value.type "method-wrapper" == Value.type "method" || Value.type "method-wrapper" == Value.type "builtin_function_or_method" || Value.type "method-wrapper" == Value.type "method-wrapper") = true by decide, if_true]
  refine PySem.W.KFB.if_so (by decide) ?_
  refine wpAny_bind (PySem.W.check_bound_init FB.toExcCallFacts hC he rfl ?_)
  refine wpAny_bind (wpAny_pure (wpAny_pure ?_))
  refine ⟨plainId_quiet FB.init.plain _, codeAny_builtin FB.initEntry ?_⟩
  refine PySem.W.exc_init_tree (cls := .ref C) (t0 := t0) (dv := none) (c2 := .none) (c3 := .none) (b4 := .bool false) he hrest fun h' k e' t' => ?_
  exact hq h' _ k e'
end
theorem clo_one {x k : Str} {v c : Addr} (h : ([(k, v)] : List (Str × Addr)).lookup x = some c) : x = k ∧ c = v := by
  have m := PySem.mem_of_lookup h
  rw [List.mem_singleton] at m
  exact ⟨congrArg Prod.fst m, congrArg Prod.snd m⟩
theorem clo_self {k : Str} {v : Addr} : ([(k, v)] : List (Str × Addr)).lookup k = some v := by simp [List.lookup]
abbrev nfS (name qual : Str) (params : Arguments) (body : List Stmt) (scope : Scope) (cda cc : Addr) : NF := ⟨name, qual, params, body, scope, [("__class__", cc)], cda⟩
abbrev supSt (e : Expr) (es : List Expr) (p0 p1 p2 pos pos' : Pos) : Stmt := .Expr (.Call (.Attribute (.Call (.Name "super" p0) [] [] p1) "__init__" p2) (e :: es) [] pos) pos'
theorem fn_ofS {CX : CXT} {P : Program} {w : World} {K : PySem.W.Frag} {mg : Str → Option Value} {base : Heap} {k : Nat} {f D cda cc : Addr} {name qual : Str} {params : Arguments} {e : Expr} {es : List Expr} {rest : List Stmt} {p0 p1 p2 pos pos' : Pos} {scope : Scope} {dV kV doc pm ct oc : Value} {an od : Option Addr}
    {osl : Array (Option Value)} {N ps : List Str} {sp : Sp} {ar : Arg} {pl : Env → Sem Bool}
    (hcall : ∀ env, eval (.Call (.Attribute (.Call (.Name "super" p0) [] [] p1) "__init__" p2) (e :: es) [] pos) env = (do
      let ov ← attributeBase (.Call (.Name "super" p0) [] [] p1) "__init__" env (eval (.Call (.Name "super" p0) [] [] p1) env)
      standAt p2.atName
      let (f, first) ← holding [ov] (getMethod ov "__init__" (pl env))
      callWith pos f first (backTo pos (starEach (e :: es) env)) []))
    (lk : K.lookup f = some ⟨oc, od, .func (PySem.W.ksFn name qual params (supSt e es p0 p1 p2 pos pos' :: rest) scope dV kV doc pm an (.ref cda) ct cc), osl⟩)
    (hcd : PySem.W.codeIn K (.ref cda) qual = true) (S : NScope N ps ["__class__"] scope) (SC : SupC K P mg D cda cc) (hp : (params.posonlyargs ++ params.args).head? = some ar) (h0 : ps[0]? = some ar.arg)
    (hks : scope.names.lookup ("super" : Str) = some .globalImplicit) (he : ∀ env, starEach (e :: es) env = (false, eval e env) :: starEach es env) (hpl : ∀ env, (backTo pos (starEach es env)).any (·.1) = false)
    (len : ∀ vs H Q E, sp vs H Q E → vs.length = ps.length)
    (hbody : ∀ (A : Around) (outer : List Env) (s : Shared) (H : Hp) (vs : List V) (Q : VK) (E : XK), sp vs H Q E →
      ∃ (a : Addr) (ta : TA) (tr : TS), vs[0]? = some (V.ref a) ∧ H a = some (exo a D none) ∧ PA (ncx CX P w K mg base N (nfS name qual params (supSt e es p0 p1 p2 pos pos' :: rest) scope cda cc) f A outer s H E) (e :: es) ta ∧
        PSs (ncx CX P w K mg base N (nfS name qual params (supSt e es p0 p1 p2 pos pos' :: rest) scope cda cc) f A outer s H E) rest tr ∧
        ta (startF N vs [some (V.ref D)]) H fun us H1 => us.length ≤ 1000 ∧ H1 a = some (exo a D none) ∧ tr { nx := fun _ H' => Q .non H', rt := Q } (startF N vs [some (V.ref D)]) H1) :
    FnOk P w K mg base CX (k + 1) f (PySem.W.ksFn name qual params (supSt e es p0 p1 p2 pos pos' :: rest) scope dV kV doc pm an (.ref cda) ct cc) ps sp := by
  refine ⟨len, fun A outer s H args us vs Q E hr e0 hb r hsp => ?_⟩
  have hl := len _ _ _ _ hsp
  obtain ⟨a, ta, tr, hv0, ha, hpa, hps, hq⟩ := hbody A outer s H vs Q E hsp
  have KX : K.In s.heap := e0.mod.kin.keeps fun b o e => (e0.bs b o e).1
  have lim : s.heap.NoLimit := e0.mod.nolimit.keeps fun b o e => (e0.bs b o e).1
  obtain ⟨cl, cld, csl, hcell⟩ := SC.cell
  obtain ⟨ccl, cdd, vsC, ccs, file, tf, hcode, hvs, hfile⟩ := SC.code
  have C : CellsAt [("__class__", cc)] ["__class__"] [some (V.ref D)] s.heap H := by
    refine ⟨rfl, fun y c hy => ?_, fun x y c hx hy => ?_, fun i y hi => ?_⟩
    · obtain ⟨rfl, rfl⟩ := clo_one hy
      exact ⟨(e0.bs _ _ (e0.mod.kin _ _ hcell)).2, _, _, KX _ _ hcell, rfl⟩
    · rw [(clo_one hx).1, (clo_one hy).1]
    · have hi0 : i = 0 := by
        have := (List.getElem?_eq_some_iff.mp hi).1
        simp only [List.length_cons, List.length_nil] at this
        omega
      subst hi0
      obtain rfl : "__class__" = y := by simpa using hi
      refine ⟨cc, clo_self, fun v hv => ?_⟩
      obtain rfl : V.ref D = v := by simpa using hv
      exact ⟨.ref D, rfl, _, KX _ _ hcell, rfl⟩
  refine ks_codeAny_call_defAt hr.depth (KX _ _ lk) rfl lim (PySem.W.codeRec_of KX hcd) rfl hb S.nocell (fun ⟨n, _⟩ hy => S.par n (List.of_mem_zip hy).1) (fun h₀ hns kp => ?_) S.co S.gen S.kind
  have I : Inv (ncx CX P w K mg base N (nfS name qual params (supSt e es p0 p1 p2 pos pos' :: rest) scope cda cc) f A outer s H E) [] (startF N vs [some (V.ref D)]) H { s with heap := h₀, toks := s.toks + (ps.zip us).length } :=
    inv_startN (F := nfS name qual params (supSt e es p0 p1 p2 pos pos' :: rest) scope cda cc) S hr.hd e0 hl r C hns kp
  show _root_.PySem.wpAt _ (ncx CX P w K mg base N (nfS name qual params (supSt e es p0 p1 p2 pos pos' :: rest) scope cda cc) f A outer s H E).A (.func (supSt e es p0 p1 p2 pos pos' :: rest) (ncx CX P w K mg base N (nfS name qual params (supSt e es p0 p1 p2 pos pos' :: rest) scope cda cc) f A outer s H E).env) (execs (supSt e es p0 p1 p2 pos pos' :: rest) (ncx CX P w K mg base N (nfS name qual params (supSt e es p0 p1 p2 pos pos' :: rest) scope cda cc) f A outer s H E).env) _ _ _
  have hout : ∀ fl s', SP (ncx CX P w K mg base N (nfS name qual params (supSt e es p0 p1 p2 pos pos' :: rest) scope cda cc) f A outer s H E) [] { nx := fun _ H' => Q .non H', rt := Q } fl s' → CR CX outer P w H s Q E (.ok (.ret (match fl with | .ret v => v | _ => .none))) s' := fun fl s' hs => by
    have fin : ∀ {σ' : L2.St} {H' : Hp} {v : V} {u : Value}, Inv (ncx CX P w K mg base N (nfS name qual params (supSt e es p0 p1 p2 pos pos' :: rest) scope cda cc) f A outer s H E) [] σ' H' s' → L2.RelV v u → Q v H' → CE outer P w H s Q u s' :=
      fun {σ' H' v u} J rv q => ⟨v, H', J.os, J.bare, J.base, J.hok, rv, q⟩
    cases fl with
    | ret u =>
      obtain ⟨v, σ', H', J, rv, q⟩ := hs
      exact fin J rv q
    | next =>
      obtain ⟨σ', H', J, q⟩ := hs
      exact fin (v := V.non) (u := Value.none) J rfl q
    | brk =>
      obtain ⟨_, _, _, q⟩ := hs
      exact False.elim q
    | cont =>
      obtain ⟨_, _, _, q⟩ := hs
      exact False.elim q
  have hk0 : (K.lookup f) = some ⟨oc, od, .func (PySem.W.ksFn name qual params (supSt e es p0 p1 p2 pos pos' :: rest) scope dV kV doc pm an (.ref cda) ct cc), osl⟩ := lk
  have KX0 : K.In h₀ := KX.keeps kp
  obtain ⟨cdD, oD, hclD, hD1, hD2⟩ := SC.cls KX0
  obtain ⟨t1, hx⟩ := exo_at I.hok ha
  have hx : h₀.get? a = some ({ cls := .ref D, dict := none, data := .fields #[.ref t1, .none, .none, .none, .bool false, .none] } : Obj) := hx
  have hne : a ≠ D := fun z => by
    rw [z, hD1] at hx
    cases hx
    cases hD2
  obtain ⟨m, hns', hlk⟩ := id I.loc
  have hN0 : N[0]? = some ar.arg := by
    have q := S.pre
    have z : (N.take (ps.length + 1))[0]? = (ps ++ ([("__class__" : Str)] : List Str))[0]? := by rw [← q]; rfl
    rw [List.getElem?_take_of_lt (by omega)] at z
    have lp : 0 < ps.length := (List.getElem?_eq_some_iff.mp h0).1
    rw [z, List.getElem?_append_left lp]
    exact h0
  have kself : scope.names.lookup ar.arg = some .local := S.par _ (List.mem_of_getElem? h0)
  have hmx : m ar.arg = some (.ref a) := by
    have hs0 : (startF N vs [some (V.ref D)])[0]? = some (some (V.ref a)) := by
      unfold startF
      rw [List.getElem?_append_left (by rw [List.length_map]; exact (List.getElem?_eq_some_iff.mp hv0).1), List.getElem?_map, hv0]
      rfl
    obtain ⟨u, ru, hlu⟩ := hlk 0 ar.arg _ hN0 hs0 (.inl kself)
    obtain rfl : u = Value.ref a := ru
    rcases hlu with ⟨_, z⟩ | ⟨k, _⟩
    · exact z
    · have k : scope.names.lookup ar.arg = some .cell ∨ scope.names.lookup ar.arg = some .free := k
      rw [kself] at k
      rcases k with k | k <;> cases k
  obtain ⟨mb, hb1, hb2⟩ := I.mod.blt
  have kcls : scope.names.lookup ("__class__" : Str) = some .free := S.frk _ (List.mem_singleton.mpr rfl)
  refine ks_wpAt_execs_cons (ks_wpAt_Expr_any (hi := I.quiet) (ks_wpAt_MethodCall (he := hcall _) ?_))
  refine ks_wpAt_super_base hks kcls (by decide) rfl (KX0 _ _ lk) rfl hp rfl (KX0 _ _ hcode) rfl hvs hfile SC.top ?_
  refine PySem.W.ks_loadName_global I.ok.kind hks (PySem.Calls.loadGlobal_builtin (by rw [I.ok.glob]; exact I.mod.glob.keeps I.bk) SC.sup0 (by rw [I.ok.blt]; exact hb1.keeps I.bk) ((hb2 "super" (by decide)).trans PyProof.Rows.Boot.«super») ⟨rfl, ?_⟩)
  refine wpAny_loadName_free I.ok.kind kcls clo_self ⟨_, KX0 _ _ hcell, rfl⟩ ?_
  refine wpAny_loadName_local I.ok.kind kself hns' hmx ?_
  refine ks_wpAny_isType_cls hD1 hD2 ⟨rfl, ?_⟩
  refine ks_wpAny_call_super hD1 hD2 hx rfl (fun c z => by cases z) (PySem.W.looks_mroIn KX0 SC.self) (fun h1 hso k1 => ?_)
  have I1 := I.kept (h' := h1) (t' := s.toks + (ps.zip us).length) k1
  have KX1 : K.In h1 := KX0.keeps k1
  have hx1 := k1 _ _ hx
  have IA : PySem.W.InstAt h1 a ({ cls := .ref D, dict := none, data := .fields #[.ref t1, .none, .none, .none, .bool false, .none] } : Obj) D none := ⟨hx1, rfl, rfl, trivial⟩
  have hm := SC.sup
  unfold PySem.W.ks_superIn at hm
  rw [hclD] at hm
  refine PySem.W.kxs_getMethod PySem.W.kxs_ValueError hso (PySem.W.looks_opaque KX1 SC.opq) (l₀ := cdD.mro) (fun A Q E s k q => wpAny_bind ((PySem.W.looks_clsIn KX1 hclD) A _ E s k (wpAny_pure q))) rfl KX1 hm (IA.type.andThen (PySem.W.looks_subIn KX1 SC.sub)) hne (by decide) ?_
  have hmw : (h1.push (PySem.W.kxs_mw "ValueError.__init__" a)).get? h1.objs.size = some (PySem.W.kxs_mw "ValueError.__init__" a) := Heap.get?_push_at rfl rfl
  have k2 : ∀ b o, h1.get? b = some o → (h1.push (PySem.W.kxs_mw "ValueError.__init__" a)).get? b = some o := fun b o e => Heap.get?_push_of_some _ e
  have I2 := (I1.kept (h' := h1.push (PySem.W.kxs_mw "ValueError.__init__" a)) (t' := s.toks + (ps.zip us).length + 1) k2).pins_of (pins' := [(h1.objs.size, PySem.W.kxs_mw "ValueError.__init__" a)]) fun p hp => by
    rw [List.mem_singleton] at hp
    subst hp
    exact ⟨hmw, I1.hok.fresh (Nat.le_refl _), Nat.ne_of_gt I1.lt, I1.nofs (Nat.le_refl _), fun v z => by cases z⟩
  refine PySem.W.kxs_callWith (i := "ValueError.__init__") (x := a) (by rw [he]; show (false || (backTo pos (starEach es _)).any (·.1)) = false; rw [hpl]; rfl) ?_
  rw [he]
  refine PySem.Calls.evalArgs_plain (thn (by have z := hpa.run pos [(h1.objs.size, PySem.W.kxs_mw "ValueError.__init__" a)] _ _ H _ I2 hq; rw [he] at z; exact z) fun vals s3 hv3 => ?_)
  obtain ⟨vs3, H3, I3, r3, hl3, ha3, hq3⟩ := hv3
  obtain ⟨t3, ho3⟩ := exo_at I3.hok ha3
  have pin3 := I3.pin (h1.objs.size, PySem.W.kxs_mw "ValueError.__init__" a) (by simp)
  refine ⟨pin3.1, ?_⟩
  obtain ⟨nm, q, Nn, bs, bm, sn, sub, ab, col, dd, k0, k1', k2', k3', k5, hC, hbm⟩ := SC.oex.cls
  obtain ⟨hp3, g3, d3, tk3, os3⟩ := s3
  have hl : vals.length ≤ sizeLine := by
    rw [← Paired.length r3, sizeLine_eq]
    omega
  refine call_mw F.excBase_ValueError (I3.kIn _ _ hC) ho3 pin3.1 hl fun h4 t4 k4 hx4 => ?_
  have J := I3.write (t' := tk3) (x := a) (e := a) (o := exo a D none) (by rw [ha3]; exact True.intro) (.inl rfl) k4 ⟨_, hx4⟩ (exo_ok hx4)
  have eu : upd H3 a (exo a D none) = H3 := by
    funext b
    by_cases hb : b = a
    · rw [hb, upd_same, ha3]
    · rw [upd_ne hb]
  rw [eu] at J
  have J0 := J.pins_of (pins' := []) fun p hp => by cases hp
  exact wpAt_of_wpAny (wpAny_mono (hps.run [] _ _ H3 _ J0 hq3) hout fun e s' hs => hs)
end Wk

set_option Elab.async false
set_option linter.all false
set_option maxRecDepth 100000
set_option maxHeartbeats 4000000
namespace Wk
open PySem PySem.W L2 He
/-! ### what the head tells of an exception class with an own __init__ -/
def oexB (x : Str) (K : Frag) : Bool := (match K.lookup (ga K x) with
    | some ⟨.type t, _, .cls cd, sl⟩ => t == "type" && ((match cd.mro with
      | .ref C :: bm => C == ga K x && PySem.HandSPX.refsVE bm
      | _ => false) && (cd.hasDict && (!cd.hasDel && (match sl.toList with
      | [_, _, _, _, some (.builtin n), _] => n == "ValueError.__new__"
      | _ => false))))
    | _ => false) && (eqO (findIn K (.ref (ga K x)) "__setattr__") (some (some (.builtin "object.__setattr__"))) && (decide (subIn K (.ref (ga K x)) (.type "BaseException") = some true) &&
    (decide (typeIn K (.ref (ga K x)) = some (.type "type")) && keepIn K (.ref (ga K x)))))
theorem oexB_ok {x : Str} {K : Frag} (h : oexB x K = true) : OexC K (ga K x) := by
  obtain ⟨h1, h⟩ := ba h
  obtain ⟨h2, h⟩ := ba h
  obtain ⟨h3, h⟩ := ba h
  obtain ⟨h4, h5⟩ := ba h
  refine ⟨?_, eqO_ok h2, of_decide_eq_true h3, of_decide_eq_true h4, h5⟩
  generalize ga K x = C0 at *
  split at h1
  · rename_i t dd cd sl ho
    obtain ⟨a1, h1⟩ := ba h1
    obtain ⟨a2, h1⟩ := ba h1
    obtain ⟨a3, h1⟩ := ba h1
    obtain ⟨a4, a5⟩ := ba h1
    obtain ⟨nm, bs, mro, ns, qn, hd, sn, sub, ab, col, del⟩ := cd
    split at a2
    · rename_i C bm hm
      obtain ⟨b1, b2⟩ := ba a2
      split at a5
      · rename_i k0 k1 k2 k3 n k5 hs
        have e1 := eq_of_beq a1
        have e2 := eq_of_beq b1
        have e3 := eq_of_beq a5
        have e4 : del = false := by simpa using a4
        have e5 : hd = true := a3
        have hm : mro = .ref C :: bm := hm
        subst e1 e2 e3 e4 e5 hm
        have hsl : sl = #[k0, k1, k2, k3, some (.builtin "ValueError.__new__"), k5] := by
          obtain ⟨l⟩ := sl
          simp only at hs
          rw [hs]
        subst hsl
        exact ⟨nm, qn, ns, bs, bm, sn, sub, ab, col, dd, k0, k1, k2, k3, k5, ho, b2⟩
      · cases a5
    · cases a2
  · cases h1
def cfB (file : Str) (K : Frag) : Value → Bool
  | .ref cda => (match K.lookup cda with
    | some ⟨_, _, .fields vs, _⟩ => (match (vs[2]? : Option Value) with
      | some (.str fl _) => decide (fl = file)
      | _ => false)
    | _ => false)
  | _ => false
theorem cfB_ok {file : Str} {K : Frag} {v : Value} (h : cfB file K v = true) : ∃ cda ccl cdd vs ccs tf, v = .ref cda ∧ K.lookup cda = some ⟨ccl, cdd, .fields vs, ccs⟩ ∧ (vs[2]? : Option Value) = some (.str file tf) := by
  unfold cfB at h
  split at h
  · rename_i cda
    split at h
    · rename_i ccl cdd vs ccs hcode
      split at h
      · rename_i fl tf hvs
        obtain rfl := of_decide_eq_true h
        exact ⟨cda, _, _, _, _, _, rfl, hcode, hvs⟩
      · cases h
    · cases h
  · cases h
def ceB (x : Str) (K : Frag) : List (Str × Addr) → Bool
  | [(n, cc)] => decide (n = "__class__") && (match K.lookup cc with
      | some ⟨_, _, .cell (some (.ref D)), _⟩ => decide (D = ga K x)
      | _ => false)
  | _ => false
theorem ceB_ok {x : Str} {K : Frag} {l : List (Str × Addr)} (h : ceB x K l = true) : ∃ (cc : Addr) (cl : Value) (cld : Option Addr) (csl : Array (Option Value)), l = [(("__class__" : Str), cc)] ∧ K.lookup cc = some ⟨cl, cld, .cell (some (.ref (ga K x))), csl⟩ := by
  unfold ceB at h
  split at h
  · rename_i n cc
    obtain ⟨b1, b2⟩ := ba h
    obtain rfl := of_decide_eq_true b1
    split at b2
    · rename_i cl cld D csl hcell
      obtain rfl := of_decide_eq_true b2
      exact ⟨cc, _, _, _, rfl, hcell⟩
    · cases b2
  · cases h
def noneB : Value → Bool
  | .none => true
  | _ => false
theorem noneB_ok {v : Value} (h : noneB v = true) : v = .none := by
  cases v <;> first | rfl | cases h
def cloB (x : Str) (file : Str) (K : Frag) : Bool := match K.lookup (ma K (ga K x) "__init__") with
  | some ⟨_, _, .func fd, _⟩ => ceB x K fd.closure && (noneB fd.defaults && cfB file K fd.code)
  | _ => false
def supB (x : Str) (file : Str) (K : Frag) : Bool := oexB x K && (decide (ks_superIn K (ga K x) (ga K x) "__init__" = some (some (.builtin "ValueError.__init__"))) && (decide (subIn K (.ref (ga K x)) (.type "ValueError") = some true) && (decide (mroIn K (ga K x) (.ref (ga K x)) = some true) &&
  (eqO (nsIn K cStatics "thirdparty.any") (some none) && (cloB x file K && (eqO (findIn K (.ref (ga K x)) "__init__") (some (some (.ref (ma K (ga K x) "__init__")))) && decide (typeIn K (.ref (ma K (ga K x) "__init__")) = some (.type "function"))))))))
/-- a def, its closure told apart -/
def fnSA (K : Frag) (a : Addr) : FnW := match K.lookup a with
  | some ⟨_, _, .func fd, _⟩ => some (fd.name, fd.qualname, fd.params, fd.body, fd.scope, fd.globals, [], fd.builtins)
  | _ => none
structure IniD (K : Frag) (P : Program) (mg : Str → Option Value) (x name qual : Str) (params : Arguments) (body : List Stmt) (scope : Scope) (fd : FuncData) (cda cc : Addr) : Prop where
  lk : ∃ (oc : Value) (od : Option Addr) (kV doc pm ct : Value) (an : Option Addr) (osl : Array (Option Value)),
    fd = ksFn name qual params body scope .none kV doc pm an (.ref cda) ct cc ∧ K.lookup (ma K (ga K x) "__init__") = some ⟨oc, od, .func fd, osl⟩
  cd : codeIn K (.ref cda) qual = true
  sc : SupC K P mg (ga K x) cda cc
  ini : findIn K (.ref (ga K x)) "__init__" = some (some (.ref (ma K (ga K x) "__init__")))
  typ : typeIn K (.ref (ma K (ga K x) "__init__")) = some (.type "function")
theorem iniD_of {K : Frag} {P : Program} {mg : Str → Option Value} {d : He5.DefA} {x file : Str} (hat : d.at_ K = ma K (ga K x) "__init__") (e : fnSA K (d.at_ K) = d.val) (c : d.ok K = true) (h : supB x file K = true) (hf : ((P.main.file : Str) == file) = true) (hs : mg "super" = none)
    (ht : (P.main.scope.names.lookup ("super" : Str)).isSome = false) : ∃ fd cda cc, IniD K P mg x d.name d.qual d.params d.body d.scope fd cda cc := by
  obtain ⟨h1, h⟩ := ba h
  obtain ⟨h2, h⟩ := ba h
  obtain ⟨h3, h⟩ := ba h
  obtain ⟨h4, h⟩ := ba h
  obtain ⟨h5, h⟩ := ba h
  obtain ⟨h6, h⟩ := ba h
  obtain ⟨h7, h8⟩ := ba h
  obtain ⟨kp, c2⟩ := ba c
  unfold cloB at h6
  unfold fnSA at e
  rw [hat] at e c2
  cases q : K.lookup (ma K (ga K x) "__init__") with
  | none =>
    rw [q] at c2
    cases c2
  | some o =>
    obtain ⟨oc, od, dt, osl⟩ := o
    rw [q] at c2 e h6
    cases dt with
    | func fd =>
      obtain ⟨n1, n2, n3, n4, n5, n6, n7, n8, n9, n10, n11, n12, n13, n14, n15⟩ := fd
      have e2 : (some (n1, n2, n3, n4, n5, n6, ([] : List (Str × Addr)), n15) : FnW) = some (d.name, d.qual, d.params, .stmts d.body, d.scope, mainGlobals, [], builtinsNs) := e
      simp only [Option.some.injEq, Prod.mk.injEq] at e2
      obtain ⟨g1, g2, g3, g4, g5, g6, _, g8⟩ := e2
      obtain ⟨a1, a2⟩ := ba h6
      obtain ⟨a0, a2⟩ := ba a2
      have c3 := (ba c2).1
      dsimp only at a0 a1 a2 c3
      have z8 := noneB_ok a0
      obtain ⟨cc, cl, cld, csl, z7, hcell⟩ := ceB_ok a1
      obtain ⟨cda, ccl, cdd, vs, ccs, tf, zc, hcode, hvs⟩ := cfB_ok a2
      subst z8 z7 zc
      subst g1 g2 g3 g4 g5 g6 g8
      exact ⟨_, cda, cc, ⟨_, _, _, _, _, _, _, _, rfl, q⟩, c3, ⟨oexB_ok h1, of_decide_eq_true h2, of_decide_eq_true h3, of_decide_eq_true h4, eqO_ok h5, ⟨_, _, _, _, _, _, hcode, hvs, hf⟩, ⟨_, _, _, hcell⟩, hs, ht⟩, eqO_ok h7, of_decide_eq_true h8⟩
    | _ => cases c2
/-! ### the Hook with such classes -/
def obsXS (as : List Addr) (fa : List Fa) (fn es : List He5.DefA) (ex : Frag → Bool) (g : Addr → Option Obj) : He.AlD :=
  (((fa.all fun f => f.ok (frG g as)) && ((fn.all fun d => d.ok (frG g as)) && ((es.all fun d => d.ok (frG g as)) && ex (frG g as)))), (fn.map fun d => He5.fnA (frG g as) (d.at_ (frG g as))) ++ es.map fun d => fnSA (frG g as) (d.at_ (frG g as)))
def valXS (fn es : List He5.DefA) : He.AlD := (true, fn.map He5.DefA.val ++ es.map He5.DefA.val)
structure SaysXS (fa : List Fa) (fn es : List He5.DefA) (ex : Frag → Bool) (K : Frag) : Prop where
  old : SaysX fa fn ex K
  own : (es.map fun d => fnSA K (d.at_ K)) = es.map He5.DefA.val
  ok : ∀ d ∈ es, d.ok K = true
theorem saysXS_of {as : List Addr} {fa : List Fa} {fn es : List He5.DefA} {ex : Frag → Bool} {g : Addr → Option Obj} (h : obsXS as fa fn es ex g = valXS fn es) : SaysXS fa fn es ex (frG g as) := by
  have h1 : ((fa.all fun f => f.ok (frG g as)) && ((fn.all fun d => d.ok (frG g as)) && ((es.all fun d => d.ok (frG g as)) && ex (frG g as)))) = true := congrArg (fun z : He.AlD => z.1) h
  have h2 : (fn.map fun d => He5.fnA (frG g as) (d.at_ (frG g as))) ++ (es.map fun d => fnSA (frG g as) (d.at_ (frG g as))) = fn.map He5.DefA.val ++ es.map He5.DefA.val := congrArg (fun z : He.AlD => z.2) h
  obtain ⟨a1, a2⟩ := ba h1
  obtain ⟨a2, a3⟩ := ba a2
  obtain ⟨a3, a4⟩ := ba a3
  obtain ⟨b1, b2⟩ := List.append_inj h2 (by rw [List.length_map, List.length_map])
  refine ⟨?_, b2, fun d hd => List.all_eq_true.mp a3 d hd⟩
  unfold SaysX obsX valX
  rw [a1, a2, a4, b1]
  rfl
def hookXS (as : List Addr) (fa : List Fa) (fn es : List He5.DefA) (ex : Frag → Bool) : PySem.W.Hook where
  α := He.AlD
  obs := fun s => obsXS as fa fn es ex s.heap.get?
  val := fun _ => valXS fn es
  says := fun _ h => ∃ K : Frag, K.In h ∧ SaysXS fa fn es ex K
  of := fun _ _ e => ⟨_, frG_in, saysXS_of e⟩
  keeps := fun _ _ _ ⟨K, hK, c⟩ k => ⟨K, Frag.In.keeps hK k, c⟩
theorem obsXS_eq {as : List Addr} {fa : List Fa} {fn es : List He5.DefA} {ex : Frag → Bool} {g : Addr → Option Obj} {s : Shared} (h : ∀ a, g a = s.heap.get? a) : obsXS as fa fn es ex g = (hookXS as fa fn es ex).obs s := by
  have e : g = s.heap.get? := funext h
  rw [e] <;> rfl
theorem SaysXS.ini {fa : List Fa} {fn es : List He5.DefA} {ex : Frag → Bool} {K : Frag} {P : Program} {mg : Str → Option Value} {x file : Str} (c : SaysXS fa fn es ex K) (i : Nat) {d : He5.DefA} (h : es[i]? = some d) (hat : d.at_ K = ma K (ga K x) "__init__") (hb : supB x file K = true)
    (hf : ((P.main.file : Str) == file) = true) (hs : mg "super" = none) (ht : (P.main.scope.names.lookup ("super" : Str)).isSome = false) : ∃ fd cda cc, IniD K P mg x d.name d.qual d.params d.body d.scope fd cda cc := by
  have e2 : (es.map fun d => fnSA K (d.at_ K))[i]? = (es.map He5.DefA.val)[i]? := by rw [c.own]
  rw [List.getElem?_map, List.getElem?_map, h] at e2
  exact iniD_of hat (Option.some.inj e2) (c.ok d (List.mem_of_getElem? h)) hb hf hs ht
end Wk

set_option Elab.async false
set_option linter.all false
set_option maxRecDepth 100000
set_option maxHeartbeats 4000000
namespace Wk
open PySem L2 Evl PySem.Spec PyProof.Rows NdefX LamX
/-! ### the kinds of exceptions, by number -/
def exN : Nat → Str
  | 0 => "InvalidWeighting" | 1 => "InvalidPlaces" | 2 => "InvalidWeights" | 3 => "InvalidSums" | 4 => "InvalidNumber" | 5 => "InvalidPolynomial" | 6 => "TooFew" | 7 => "InvalidFraction" | 8 => "NoWeighting"
  | 9 => "DecodeError" | 10 => "InvalidReadings" | 11 => "UnknownPlace" | 12 => "Clash" | 13 => "InvalidText"
  | _ => ""
def exF : Nat → List Str
  | 0 => ["part", "index"] | 1 => ["index"] | 2 => ["index"] | 3 => ["index"] | 9 => ["offset"]
  | _ => []
/-- its fields, as they stand -/
def xfs (e : Er) : List (Str × V) := ((exF e.c).zip (e.fs.map V.int)).reverse
/-- an exception of the kind e: its class, its dict -/
def XD (K : PySem.W.Frag) (F : Hp) (cls : Value) (d : Option Addr) (e : Er) : Prop :=
  cls = .ref (He.ga K (exN e.c)) ∧ ((e.fs = [] ∧ d = none) ∨ ∃ dx, d = some dx ∧ F dx = some (.xd (xfs e)))
theorem XD.up {K : PySem.W.Frag} {F F' : Hp} {cls : Value} {d : Option Addr} {e : Er} (h : XD K F cls d e) (x : Ex F F') : XD K F' cls d e := by
  obtain ⟨h1, h2⟩ := h
  refine ⟨h1, ?_⟩
  rcases h2 with h2 | ⟨dx, h3, h4⟩
  · exact .inl h2
  · exact .inr ⟨dx, h3, x _ _ h4⟩
/-- what follows an exception -/
def RetX (M : List Addr) (K : PySem.W.Frag) (F H : Hp) (e : Er) (E : XK) : Prop := ∀ cls d F' H', Gm M F H F' H' → XD K F' cls d e → E cls d H'
theorem RetX.then_ {M : List Addr} {K : PySem.W.Frag} {F H F1 H1 : Hp} {e : Er} {E : XK} (k : RetX M K F H e E) (g : Gm M F H F1 H1) : RetX M K F1 H1 e E := fun cls d F' H' g' s => k cls d F' H' (g.trans g') s
/-! ### __init__ with one field, with two -/
def spI1 (C : Addr) (f : Str) : Sp := fun vs H Q _ => ∃ (a : Addr) (i : Int), vs = [.ref a, .int i] ∧ i.natAbs < 18446744073709551616 ∧ H a = some (exo a C none) ∧
  ∀ dx, H dx = none → dx ≠ a → Q .non (upd (upd H dx (exd dx [(f, .int i)])) a (exo a C (some dx)))
def spI2 (C : Addr) (f g : Str) : Sp := fun vs H Q _ => ∃ (a : Addr) (i j : Int), vs = [.ref a, .int i, .int j] ∧ i.natAbs < 18446744073709551616 ∧ j.natAbs < 18446744073709551616 ∧ H a = some (exo a C none) ∧
  ∀ dx, H dx = none → dx ≠ a → Q .non (upd (upd (upd H dx (exd dx [(f, .int i)])) a (exo a C (some dx))) dx (exd dx [(g, .int j), (f, .int i)]))
theorem log_small {i : Int} (h : i.natAbs < 18446744073709551616) : i.natAbs.log2 < 1920 := by
  by_cases z : i.natAbs = 0
  · rw [z]; decide
  · have := (Nat.log2_lt z (k := 64)).mpr (by rw [show (2 : Nat) ^ 64 = 18446744073709551616 by decide]; exact h)
    omega
theorem txt_small {i : Int} (h : i.natAbs < 18446744073709551616) : (PySem.Str.ofString (toString i)).length ≤ 1921 := PyProof.Rows.int_text_len_1921 (log_small h)
theorem del_upd {H : Hp} {a d : Addr} {o1 o2 : HO} {x : HO} (ha : H a = none) (hd : d ≠ a) : upd (del (upd (upd H d o1) a o2) a) d x = upd H d x := by
  funext b
  by_cases q : b = d
  · rw [q, upd_same, upd_same]
  · rw [upd_ne q, upd_ne q]
    by_cases r : b = a
    · rw [r, del_same, ha]
    · rw [del_ne r, upd_ne r, upd_ne q]
theorem del_upd2 {H : Hp} {a d : Addr} {o1 o2 o3 : HO} {x : HO} (ha : H a = none) (hd : d ≠ a) : upd (del (upd (upd (upd H d o1) a o2) d o3) a) d x = upd H d x := by
  funext b
  by_cases q : b = d
  · rw [q, upd_same, upd_same]
  · rw [upd_ne q, upd_ne q]
    by_cases r : b = a
    · rw [r, del_same, ha]
    · rw [del_ne r, upd_ne q, upd_ne r, upd_ne q]
theorem mk1 {C : Addr} {f : Str} {H : Hp} {i : Int} {Q : XK} (hi : i.natAbs < 18446744073709551616) (q : ∀ d, H d = none → Q (.ref C) (some d) (upd H d (.xd [(f, .int i)]))) :
    [V.int i].length ≤ 1000 ∧ ∀ a, H a = none → spI1 C f (.ref a :: ([V.int i] ++ [])) (upd H a (exo a C none))
      (fun v H2 => v = .non ∧ ∃ (d : Addr) (fs : List (Str × V)), H2 a = some (exo a C (some d)) ∧ H2 d = some (exd d fs) ∧ H d = none ∧ Q (.ref C) (some d) (upd (del H2 a) d (.xd fs))) (fun _ _ _ => False) := by
  refine ⟨by show 1 ≤ 1000; decide, fun a ha => ⟨a, i, rfl, hi, upd_same, fun dx hdx hne => ⟨rfl, dx, [(f, .int i)], upd_same, ?_, ?_, ?_⟩⟩⟩
  · rw [upd_ne hne, upd_same]
  · rw [upd_ne hne] at hdx
    exact hdx
  · rw [upd_ne hne] at hdx
    have e : upd (del (upd (upd (upd H a (exo a C none)) dx (exd dx [(f, .int i)])) a (exo a C (some dx))) a) dx (.xd [(f, .int i)]) = upd H dx (.xd [(f, .int i)]) := by
      funext b
      by_cases z : b = dx
      · rw [z, upd_same, upd_same]
      · rw [upd_ne z, upd_ne z]
        by_cases r : b = a
        · rw [r, del_same, ha]
        · rw [del_ne r, upd_ne r, upd_ne z, upd_ne r]
    rw [e]
    exact q dx hdx
theorem mk2 {C : Addr} {f g : Str} {H : Hp} {i j : Int} {Q : XK} (hi : i.natAbs < 18446744073709551616) (hj : j.natAbs < 18446744073709551616) (q : ∀ d, H d = none → Q (.ref C) (some d) (upd H d (.xd [(g, .int j), (f, .int i)]))) :
    [V.int i, V.int j].length ≤ 1000 ∧ ∀ a, H a = none → spI2 C f g (.ref a :: ([V.int i, V.int j] ++ [])) (upd H a (exo a C none))
      (fun v H2 => v = .non ∧ ∃ (d : Addr) (fs : List (Str × V)), H2 a = some (exo a C (some d)) ∧ H2 d = some (exd d fs) ∧ H d = none ∧ Q (.ref C) (some d) (upd (del H2 a) d (.xd fs))) (fun _ _ _ => False) := by
  refine ⟨by show 2 ≤ 1000; decide, fun a ha => ⟨a, i, j, rfl, hi, hj, upd_same, fun dx hdx hne => ⟨rfl, dx, [(g, .int j), (f, .int i)], ?_, upd_same, ?_, ?_⟩⟩⟩
  · rw [upd_ne (Ne.symm hne), upd_same]
  · rw [upd_ne hne] at hdx
    exact hdx
  · rw [upd_ne hne] at hdx
    have e : upd (del (upd (upd (upd (upd H a (exo a C none)) dx (exd dx [(f, .int i)])) a (exo a C (some dx))) dx (exd dx [(g, .int j), (f, .int i)])) a) dx (.xd [(g, .int j), (f, .int i)]) = upd H dx (.xd [(g, .int j), (f, .int i)]) := by
      funext b
      by_cases z : b = dx
      · rw [z, upd_same, upd_same]
      · rw [upd_ne z, upd_ne z]
        by_cases r : b = a
        · rw [r, del_same, ha]
        · rw [del_ne r, upd_ne z, upd_ne r, upd_ne z, upd_ne r]
    rw [e]
    exact q dx hdx
/-! ### a class that is known, raised -/
structure KnX (P : Program) (w : World) (K : PySem.W.Frag) (mg : Str → Option Value) (base : Heap) (x : Str) (k : Nat) (ps : List Str) (sp : Sp) : Prop where
  ex : ∃ fd, FnOk P w K mg base CX0 k (He.ma K (He.ga K x) "__init__") fd ps sp ∧ Binds K fd ps []
  oex : OexC K (He.ga K x)
  ini : PySem.W.findIn K (.ref (He.ga K x)) "__init__" = some (some (.ref (He.ma K (He.ga K x) "__init__")))
  typ : PySem.W.typeIn K (.ref (He.ma K (He.ga K x) "__init__")) = some (.type "function")
  glo : mg x = some (.ref (He.ga K x))
section
variable {X : Cx} {W : WX} {x : Str} {k : Nat} {ps : List Str} {sp : Sp} {e : Expr} {es : List Expr} {ta : TA} {p pos pos' : Pos}
theorem ps_raiseX (G : KnX X.prog X.w X.K X.mg X.base x k ps sp) (hr : Room (k + 1) X.A) (tk : Takes X W) (ha : PA X (e :: es) ta) (hc : X.calm = true := by rfl) (hg : Gl X x := by rfl) (hdb : (x == ("__debug__" : Str)) = false := by decide)
    (he : starEach (e :: es) X.env = (false, eval e X.env) :: starEach es X.env := by rfl) (hpl : (backTo pos (starEach es X.env)).any (·.1) = false := by rfl) :
    PS X (.Raise (some (.Call (.Name x p) (e :: es) [] pos)) none pos') (fun _ σ H => tMkO (He.ga X.K x) sp [] ta σ H fun cls d H' => W cls d σ H') := by
  obtain ⟨fd, F, hb⟩ := G.ex
  exact ps_raise hc tk (pmk_oex G.oex G.ini G.typ F hr hb .nil pass0 hg G.glo ha hdb he hpl)
end
/-- a def that may raise -/
structure Kx (P : Program) (w : World) (K : PySem.W.Frag) (mg : Str → Option Value) (base : Heap) (x : Str) (k : Nat) (ps : List Str) (sp : Sp) : Prop where
  ex : ∃ f fd, FnOk P w K mg base (L2.CX P w) k f fd ps sp ∧ mg x = some (.ref f) ∧ PySem.W.keepIn K (.ref f) = true ∧ Binds K fd ps []
section
variable {X : Cx} {W : WX} {x : Str} {k : Nat} {ps : List Str} {sp : Sp} {e : Expr} {es : List Expr} {t : TA} {p pos : Pos}
theorem pe_kx (G : Kx X.prog X.w X.K X.mg X.base x k ps sp) (hr : Room k X.A) (tk : Takes X W) (ha : PA X (e :: es) t) (hg : Gl X x := by rfl) (hdb : (x == ("__debug__" : Str)) = false := by decide)
    (he : starEach (e :: es) X.env = (false, eval e X.env) :: starEach es X.env := by rfl) (hpl : (backTo pos (starEach es X.env)).any (·.1) = false := by rfl) : PE X (.Call (.Name x p) (e :: es) [] pos) (tCallS sp (WE W) t) := by
  obtain ⟨f, fd, F, hm, hk, hb⟩ := G.ex
  exact pe_callS F hr hg hm hk hb (passAt tk) ha hdb he hpl
end
theorem Kn.x {P : Program} {w : World} {K : PySem.W.Frag} {mg : Str → Option Value} {base : Heap} {x : Str} {k : Nat} {ps : List Str} {sp : Sp} (G : Kx P w K mg base x k ps sp) : True := trivial
/-! ### words of one raising def -/
theorem post_noEx' {α β : Type} {m : Mm α} {f : α → Mm β} {ok : β → Prop} {ex : Er → Prop} (h : Post ((noEx m).bd f) ok ex) : Post (m.bd Mm.ok) (fun r => Post (f r) ok ex) (fun _ => False) := by
  cases m with
  | ok a => exact ⟨⟨h.h⟩⟩
  | ex e => exact h.h.elim
  | bad => exact h.h.elim
/-! ### try -/
/-- an exception of the body is met: what follows by the kind -/
def Mm.tr {α β : Type} (m : Mm α) (h : Er → Mm β) (k : α → Mm β) : Mm β := match m with
  | .ok a => k a
  | .ex e => h e
  | .bad => .bad
theorem post_tr {α β : Type} {m : Mm α} {h : Er → Mm β} {k : α → Mm β} {p : β → Prop} {q : Er → Prop} (x : Post (m.tr h k) p q) : Post m (fun a => Post (k a) p q) (fun e => Post (h e) p q) := by
  cases m with
  | ok a => exact ⟨⟨x.h⟩⟩
  | ex e => exact ⟨⟨x.h⟩⟩
  | bad => exact ⟨x.h⟩
end Wk

set_option Elab.async false
set_option linter.all false
set_option maxRecDepth 100000
set_option maxHeartbeats 4000000
namespace Wk
open PySem L2 Evl PySem.Spec PyProof.Rows
/-! ### several except clauses, each with a name -/
abbrev SuiteR := Addr → Value → Option Addr → TS
/-- the ends of a suite whose clause's name has slot i -/
def endsAs (D : Ends) (i : Nat) : Ends := { nx := fun τ G => D.nx (τ.set i none) G, rt := D.rt, bk := fun τ G => D.bk (τ.set i none) G, ct := fun τ G => D.ct (τ.set i none) G }
def wManyA (K : PySem.W.Frag) (Wout : WX) (D : Ends) : List (Value × Nat × SuiteR) → WX
  | [] => Wout
  | (c, i, ts) :: r => fun cls d σ H => ∃ b, PySem.W.exmOne K cls c = some b ∧ (b = true → ∀ a, H a = none → ts a cls d (endsAs D i) (σ.set i (some (.ref a))) H) ∧ (b = false → wManyA K Wout D r cls d σ H)
inductive HdsA (X : Cx) : List ExceptHandler → List (Value × Nat × SuiteR) → Prop
  | nil : HdsA X [] []
  | cons {x n : Str} {c : Value} {i : Nat} {ts : SuiteR} {b₀ : Stmt} {suite : List Stmt} {np q : Pos} {hs : List ExceptHandler} {l : List (Value × Nat × SuiteR)} (hc : Names X x c) (hi : X.N[i]? = some n) (hk : X.env.kindOf n = some .local)
      (hsu : ∀ a oe cls d pn, Zc cls d oe → (∃ vs, oe.data = .fields vs) → PSs (X.suite a ((a, oe) :: pn)) (b₀ :: suite) (ts a cls d)) (r : HdsA X hs l) :
      HdsA X (.ExceptHandler (some (.Name x np)) (some n) (b₀ :: suite) q :: hs) ((c, i, ts) :: l)
/-- an exception at a, noted by the running frame, its flight ended: what is known then -/
structure Met (X : Cx) (pins : List (Addr × Obj)) (σ : L2.St) (H : Hp) (a : Addr) (cls : Value) (d : Option Addr) (s : Shared) : Prop where
  base : ∃ (B : Heap) (sI : Shared), Inv X pins σ H sI ∧ (∀ b o, sI.heap.get? b = some o → b ∉ frs X.stack → B.get? b = some o) ∧ sI.heap.UpToSlots s.heap ∧ s.os = sI.os ∧ AllBare s.gens ∧ PySem.HandSPX.FlyingZ B (X.env :: X.outer) a (Zc cls d) s.heap
  free : H a = none
section
variable {X : Cx} {pins : List (Addr × Obj)} {σ : L2.St} {H : Hp} {a : Addr} {cls : Value} {d : Option Addr} {s : Shared}
theorem Met.inv (m : Met X pins σ H a cls d s) : Inv X pins σ H s := by
  obtain ⟨⟨B, sI, J, nb, up, os, ag, fl⟩, _⟩ := m
  exact J.landed nb fl.1 up os ag
/-- it is an exception's record, and no frame -/
theorem Met.obj (m : Met X pins σ H a cls d s) (hf : X.env.frame = some X.env.locals) : ∃ oe vs, s.heap.get? a = some oe ∧ Zc cls d oe ∧ oe.data = .fields vs ∧ a ≠ X.env.locals ∧ a ∉ X.fs := by
  obtain ⟨⟨B, sI, J, nb, up, os, ag, fl⟩, _⟩ := m
  obtain ⟨oe, vs, h1, h2, h3⟩ := fl.there
  have out : a ∉ frs (X.env :: X.outer) := by
    intro hm
    obtain ⟨_, o, h, hn⟩ := fl.2.2.1.mem hm
    cases h1.symm.trans h
    exact hn _ h3
  refine ⟨oe, vs, h1, h2, h3, fun z => out ?_, fun hm => out ?_⟩
  · exact List.mem_filterMap.mpr ⟨X.env, by simp, by rw [hf, z]⟩
  · obtain ⟨e, he, q⟩ := List.mem_filterMap.mp hm
    exact List.mem_filterMap.mpr ⟨e, by simp [he], q⟩
/-- the heap's slots may change under it -/
theorem Met.on (m : Met X pins σ H a cls d s) {h : Heap} (fl : ∀ B, PySem.HandSPX.FlyingZ B (X.env :: X.outer) a (Zc cls d) s.heap → PySem.HandSPX.FlyingZ B (X.env :: X.outer) a (Zc cls d) h) (u : s.heap.UpToSlots h) : Met X pins σ H a cls d { s with heap := h } := by
  obtain ⟨⟨B, sI, J, nb, up, os, ag, f⟩, n⟩ := m
  exact ⟨⟨B, sI, J, nb, up.trans u, os, ag, fl B f⟩, n⟩
/-- the class that a clause names, asked of it -/
theorem Met.asks (m : Met X pins σ H a cls d s) (hf : X.env.frame = some X.env.locals) {x : Str} {np : Pos} {c : Value} (hc : Names X x c) {Q : Value → Shared → Prop} {E : Value → Shared → Prop} (q : Q c s) : wpAny (model X.prog X.w) (X.A.mark (some (.ref a))) (eval (.Name x np) X.env) Q E s := by
  obtain ⟨oe, vs, h1, h2, h3, h4, h5⟩ := m.obj hf
  have S := m.inv.suite h1 h3 m.free h4 h5
  obtain ⟨g, db, k⟩ := hc
  rcases k with k | ⟨k, kv, kn⟩
  · exact ld_glob (X := X.suite a ((a, oe) :: (X.pn ++ pins))) S g k q db
  · exact ld_blt (X := X.suite a ((a, oe) :: (X.pn ++ pins))) S g k kv q kn db
/-- no clause is left -/
theorem Met.none_ (m : Met X pins σ H a cls d s) (hs : X.stack = X.env :: X.outer) (hf : X.env.frame = some X.env.locals) {W : WX} (tk : Takes X W) (w : W cls d σ H) {D : Ends} : wpAny (model X.prog X.w) X.A (handleBy (.ref a) X.env []) (SP X pins D) X.xe s := by
  have na := m.free
  obtain ⟨⟨B, sI, J, nb, up, os, ag, fl⟩, _⟩ := m
  obtain ⟨_, _, _, oe, vs, T, _, _, he, _, hd, h1, _⟩ := id fl
  have out : wpAny (model X.prog X.w) X.A (setFlight (.ref a) X.env.frame) (fun _ t => wpAny (model X.prog X.w) X.A (throw (.ref a) : Sem Flow) (SP X pins D) X.xe t) X.xe s := by
    rw [hf]
    exact PySem.HandSPX.setFlight_upZ fl fun h hh u => wpAny_throw (tk _ _ ⟨a, B, sI, pins, σ, H, cls, d, rfl, J, nb, up.trans u, .inr (.inr (by rw [hs]; exact hh)), na, os, ag, w⟩)
  refine wpAny_handleBy_nil ?_
  unfold PySem.passOn
  refine wpAny_bind (wpAny_field he hd h1 ?_)
  rw [if_neg (show ¬ ((Value.ref T == Value.none) = true) from by simp)]
  first | exact wpAny_bind (wpAny_pure (wpAny_bind out)) | exact wpAny_bind out
/-- the clauses, one behind the other -/
theorem Met.goes (hs : X.stack = X.env :: X.outer) (hf : X.env.frame = some X.env.locals) (hN : X.N.Nodup) {W : WX} (tk : Takes X W) {D : Ends} : ∀ {hds : List ExceptHandler} {l : List (Value × Nat × SuiteR)}, HdsA X hds l → Met X pins σ H a cls d s → wManyA X.K W D l cls d σ H →
    wpAny (model X.prog X.w) X.A (handleBy (.ref a) X.env hds) (SP X pins D) X.xe s
  | _, _, .nil, m, w => m.none_ hs hf tk w
  | _, _, .cons (i := i) (n := n) (q := q) hc hi hk hsu r, m, w => by
    obtain ⟨b, hb, yes, no⟩ := w
    obtain ⟨oe, vs, o1, o2, o3, o4, o5⟩ := m.obj hf
    have I0 := m.inv
    have ask := PySem.W.exm_one (M := model X.prog X.w) I0.kIn (fun A Q E s k q => wpAny_typeOf_ref (k _ _ o1) (by rw [o2.1]; exact q)) hb
    refine wpAny_handleBy_cons (codeAny_handlers_test (m.asks hf hc (ask.here ?_))) (fun z => nomatch z)
    cases b with
    | false => exact Met.goes hs hf hN tk r m (no rfl)
    | true =>
      obtain ⟨⟨B, sI, J, nb, up, os, ag, fl⟩, fr⟩ := id m
      refine codeAny_handlers_suite_as (HandSPX.lands_againZ fl fun h4 f4 u4 => ?_)
      have m4 : Met X pins σ H a cls d { s with heap := h4 } := ⟨⟨B, sI, J, nb, up.trans u4, os, ag, f4⟩, fr⟩
      obtain ⟨o, vs, p1, p2, p3, p4, p5⟩ := m4.obj hf
      have ok := I0.ok
      refine store_ok (X := X.suite a ((a, o) :: (X.pn ++ pins))) (v := .ref a) (m4.inv.suite p1 p3 fr p4 p5) hN hi (.inl hk) rfl (fun t St => ?_) (.inr hk)
      refine wpAny_mono ((hsu a o cls d (X.pn ++ pins) p2 ⟨_, p3⟩).run [] t _ H _ St (yes rfl a fr)) (fun fl2 u end2 => ?_) (fun _ _ z => z.elim)
      have leave : ∀ {τ : L2.St} {G : Hp} {Q : Shared → Prop}, Inv (X.suite a ((a, o) :: (X.pn ++ pins))) [] τ G u → (∀ u', Inv X pins (τ.set i none) G u' → Q u') → wpAny (model X.prog X.w) X.A (do bindName X.env n .none; unbindBehindTheSuite X.env n q) (fun _ u' => Q u') X.xe u :=
        fun I6 k => gone_ok (I6.unsuite ok) hN hi hk k
      cases fl2 <;> (first
        | (obtain ⟨τ, G, I6, k⟩ := end2; exact leave I6 fun u' J6 => ⟨_, _, J6, k⟩)
        | (obtain ⟨v, τ, G, I6, r6, k⟩ := end2; exact leave I6 fun u' J6 => ⟨_, _, _, J6, r6, k⟩))
end
/-- what the flow of the body was, out of the try -/
theorem sp_out {X : Cx} {pins pn : List (Addr × Obj)} {xe : Value → Shared → Prop} {D : Ends} {f : Flow} {s : Shared} (ok : X.Ok) (h : SP (X.tr (X.pn ++ pins) xe) pn D f s) : SP X pins D f s := by
  cases f <;> (first
    | (obtain ⟨τ, G, I, k⟩ := h; exact ⟨τ, G, I.ofTry ok, k⟩)
    | (obtain ⟨v, τ, G, I, r, k⟩ := h; exact ⟨v, τ, G, I.ofTry ok, r, k⟩))
theorem ps_try_manyA {X : Cx} {body : List Stmt} {h₀ : ExceptHandler} {hds : List ExceptHandler} {l : List (Value × Nat × SuiteR)} {pos : Pos} {tb : WX → TS} {Wout : WX} (hs : X.stack = X.env :: X.outer) (hf : X.env.frame = some X.env.locals) (hN : X.N.Nodup) (tk : Takes X Wout)
    (hb : ∀ W pn xe, Takes (X.tr pn xe) W → PassesOwn (model X.prog X.w) X.A X.env xe → PSs (X.tr pn xe) body (tb W)) (hh : HdsA X (h₀ :: hds) l) : PS X (.Try body (h₀ :: hds) [] [] pos) (fun D σ H => tb (wManyA X.K Wout D l) D σ H) := by
  constructor
  intro pins s σ H D I h
  have ok := I.ok
  have fr : X.A.frames = some (X.env :: X.outer) := ok.frames.trans (by rw [hs])
  have B := hb (wManyA X.K Wout D l) (X.pn ++ pins) (fun e t => wpAny (model X.prog X.w) X.A (noteFrame e X.env) (fun _ t => wpAny (model X.prog X.w) X.A (setFlight e none) (fun _ t => wpAny (model X.prog X.w) X.A (handleBy e X.env (h₀ :: hds)) (SP X pins D) X.xe t) X.xe t) X.xe t) ?_ PassesOwn.looking
  · refine wpAny_Try_except (wpAny_mono (B.run [] s σ H D (I.toTry _) h) (fun f t e => ?_) fun _ _ z => z)
    have e' := sp_out ok e
    cases f with
    | next => exact wpAny_execs_nil e'
    | _ => exact e'
  · rintro u t ⟨a, G, sI, pins', τ, H', cls, d, rfl, J', nb, up, sky, na, os, ag, w⟩
    have J : Inv X pins τ H' sI := J'.ofTry ok
    have sky2 : Sky G (X.env :: X.outer) a (Zc cls d) X.env.locals t.heap := hs ▸ sky
    exact Sky.land Zc.steady fr hf sky2 fun h3 fl u3 => Met.goes hs hf hN tk hh ⟨⟨G, sI, J, nb, up.trans u3, os, ag, fl⟩, na⟩ w
end Wk

set_option Elab.async false
set_option linter.all false
set_option maxRecDepth 100000
set_option maxHeartbeats 4000000
namespace Wk
open PySem L2 Evl
/-! ### a weighting that is made where an exception may leave -/
def spWX (chk : Ms → Ss → Mm Wt) (K : PySem.W.Frag) (C : Addr) : Sp := fun vs H Q E => ∃ (F : Hp) (x dx : Addr) (vm vs' : V) (m : Ms) (s : Ss), vs = [.ref x, vm, vs'] ∧ Ex F H ∧ H x = some (.ins C dx []) ∧ F x = none ∧
  Dq K F vm (eM m) ∧ Dq K F vs' (eS s) ∧ Post (chk m s) (fun w => ∀ F' H' a b, Gm [x] F H F' H' → H' x = some (.ins C dx (wf a b)) → F' x = none → Dq K F' a (eM w.1) → Dq K F' b (eS w.2) → Q .non H') (fun e_ => RetX [x] K F H e_ E)
theorem make_WX {chk : Ms → Ss → Mm Wt} {K : PySem.W.Frag} {C : Addr} {F H : Hp} {vm vs : V} {m : Ms} {s : Ss} {Q : VK} {E : XK} (e : Ex F H) (hm : Dq K F vm (eM m)) (hs : Dq K F vs (eS s))
    (k : Post (chk m s) (fun w => Ret [] F H (fun F' _ v => IsW K C F' v w) Q) (fun e_ => RetX [] K F H e_ E)) :
    ∀ x dx, H x = none → H dx = none → dx ≠ x → spWX chk K C (.ref x :: ([vm, vs] ++ [])) (upd (upd H dx (.own x)) x (.ins C dx [])) (fun v H2 => v = .non ∧ Q (.ref x) H2) E := by
  intro x dx hx hdx hne
  have g1 : Gm [] F H (upd F dx (.own x)) (upd H dx (.own x)) := Gm.new e hdx
  have hx1 : (upd H dx (.own x)) x = none := by rw [upd_ne hne.symm]; exact hx
  have g2 : Gm [] (upd F dx (.own x)) (upd H dx (.own x)) (upd F dx (.own x)) (upd (upd H dx (.own x)) x (.ins C dx [])) := Gm.newM g1.s hx1
  have fx : (upd F dx (.own x)) x = none := by
    cases q : (upd F dx (.own x)) x with
    | none => rfl
    | some u => rw [g1.s _ _ q] at hx1; cases hx1
  refine ⟨_, x, dx, vm, vs, m, s, rfl, g2.s, upd_same, fx, hm.up g1.f, hs.up g1.f, k.mono (fun w k F' H' a b g h1 h2 ha hb => ⟨rfl, ?_⟩) (fun e_ z cls d F' H' g y => z cls d F' H' (Gm.young (g1.trans g2) hx g) y)⟩
  have gg : Gm [] F H F' H' := Gm.young (g1.trans g2) hx g
  have g3 := gg.fix h1 h2 hx
  have up : Ex F' (upd F' x (.ins C dx (wf a b))) := Ex.new h2
  exact k _ _ _ g3 ⟨x, dx, a, b, rfl, upd_same, ha.up up, hb.up up⟩
/-! ### values of unlike kinds -/
def asI (d : PyData) : Mm Int := match d with
  | .int i => .ok i
  | _ => .bad
theorem post_asI {β : Type} {d : PyData} {f : Int → Mm β} {ok : β → Prop} {ex : Er → Prop} (h : Post ((asI d).bd f) ok ex) : ∃ i, d = .int i ∧ Post (f i) ok ex := by
  cases d with
  | int i => exact ⟨i, rfl, ⟨h.h⟩⟩
  | _ => exact h.h.elim
section
variable {K : PySem.W.Frag} {F : Hp} {v : V} {xs : List V} {l : List Int}
theorem map_intD (l : List Int) : List.map id (List.map PyData.int l) = List.map PyData.int l := by simp
theorem dq_LI (h : Dq K F v (eL PyData.int l)) : Dq K F v (eL id (l.map PyData.int)) := by
  show Dq K F v (.list ((l.map PyData.int).map id))
  rw [map_intD]
  exact h
theorem all_LI (h : DqAll K F xs (List.map PyData.int l)) : DqAll K F xs (List.map id (l.map PyData.int)) := by
  rw [map_intD]
  exact h
end
section
variable {X : Cx}
theorem call_isiB : CallR X (.builtin "isinstance") (fun xs H Q => ∃ (b : Bool) (n : String), xs = [.bl b, .ty n] ∧ (n = "int" ∨ n = "bool") ∧ Q (.bl true) H) := by
  intro pins s σ H vs us Q I r h
  obtain ⟨i, n, rfl, hn, q⟩ := h
  rcases hn with rfl | rfl
  · exact call_isi pins s σ H _ us Q I r ⟨_, _, _, _, true, rfl, .ty _, .base (.bl i), kit_ty (by decide +kernel), q⟩
  · exact call_isi pins s σ H _ us Q I r ⟨_, _, _, _, true, rfl, .ty _, .base (.bl i), kit_ty (by decide +kernel), q⟩
end
/-! ### answers of unlike kinds: None, an int, a tuple of a text and ints -/
inductive Kw where
  | weighting | places | weights | sums | number | polynomial | few | fraction | none_ | other | readings | place | clash | text
deriving DecidableEq
def Kw.w : Kw → Str
  | .weighting => "weighting" | .places => "places" | .weights => "weights" | .sums => "sums" | .number => "number" | .polynomial => "polynomial" | .few => "few" | .fraction => "fraction" | .none_ => "none" | .other => "other"
  | .readings => "readings" | .place => "place" | .clash => "clash" | .text => "text"
theorem Kw.inj : ∀ a b : Kw, (a.w == b.w) = decide (a = b) := by
  intro a b
  cases a <;> cases b <;> rfl
inductive Xr where
  | non
  | int (i : Int)
  | tup (s : Kw) (is : List Int)
deriving DecidableEq
def eX : Xr → PyData
  | .non => .none
  | .int i => .int i
  | .tup s is => .tuple (.str s.w :: is.map PyData.int)
theorem eqv_ints : ∀ l r : List Int, PyData.eqvAll (l.map PyData.int) (r.map PyData.int) = decide (l = r) := fun l r => eqv_map sh_int l r
theorem sh_X : Sh eX 2 := ⟨fun x => by
    cases x with
    | non => simp [eX, PyData.canLay0]
    | int i => simp [eX, PyData.canLay0]
    | tup s is =>
      have z : PyData.strOk s.w = true := by cases s <;> decide +kernel
      simp [eX, PyData.canLay0, PyData.canLayAll0, lay_map sh_int is, z], fun x => by
    cases x with
    | non => simp [eX, PyData.depth]
    | int i => simp [eX, PyData.depth]
    | tup s is =>
      have := dep_map sh_int is
      simp [eX, PyData.depth, PyData.depthAll]
      omega, fun x y => by
    cases x with
    | non => cases y <;> simp [eX, PyData.eqv]
    | int i =>
      cases y with
      | int j =>
        simp only [eX, PyData.eqv]
        exact Bool.eq_iff_iff.mpr (by simp)
      | _ => simp [eX, PyData.eqv]
    | tup s is =>
      cases y with
      | non => simp [eX, PyData.eqv]
      | int i => simp [eX, PyData.eqv]
      | tup s' is' =>
        simp only [eX, PyData.eqv, PyData.eqvAll, eqv_ints, Kw.inj]
        exact Bool.eq_iff_iff.mpr (by simp)⟩
theorem none_X {K : PySem.W.Frag} {F : Hp} {v : V} {x : Xr} (h : Dq K F v (eX x)) : decide (v = V.non) = decide (x = Xr.non) := by
  cases x with
  | non =>
    cases h
    rfl
  | int i =>
    cases h
    rfl
  | tup s is =>
    cases h
    rfl
/-! ### words of defs that may raise -/
theorem post_noE {α β : Type} {m : Mm α} {f : α → Mm β} {ok : β → Prop} {ex : Er → Prop} (h : Post ((noEx m).bd f) ok ex) : Post m (fun a => Post (f a) ok ex) (fun _ => False) := by
  cases m with
  | ok a => exact ⟨⟨h.h⟩⟩
  | ex e => exact h.h.elim
  | bad => exact h.h.elim
@[simp] theorem noEx_ok {α : Type} (a : α) : noEx (Mm.ok a) = Mm.ok a := rfl
def Er.f1 (e : Er) : Mm Int := match e.fs with
  | [i] => .ok i
  | _ => .bad
def Er.f2 (e : Er) : Mm (Int × Int) := match e.fs with
  | [i, j] => .ok (i, j)
  | _ => .bad
theorem post_f1 {β : Type} {e : Er} {f : Int → Mm β} {ok : β → Prop} {ex : Er → Prop} (h : Post ((e.f1).bd f) ok ex) : ∃ i, e.fs = [i] ∧ Post (f i) ok ex := by
  unfold Er.f1 at h
  split at h
  · rename_i i he
    exact ⟨i, he, ⟨h.h⟩⟩
  · exact h.h.elim
theorem post_f2 {β : Type} {e : Er} {f : Int × Int → Mm β} {ok : β → Prop} {ex : Er → Prop} (h : Post ((e.f2).bd f) ok ex) : ∃ i j, e.fs = [i, j] ∧ Post (f (i, j)) ok ex := by
  unfold Er.f2 at h
  split at h
  · rename_i i j he
    exact ⟨i, j, he, ⟨h.h⟩⟩
  · exact h.h.elim
theorem xd1 {K : PySem.W.Frag} {F : Hp} {cls : Value} {d : Option Addr} {e : Er} {c : Nat} {i : Int} (h : XD K F cls d e) (hc : e.c = c) (hf : e.fs = [i]) : cls = .ref (He.ga K (exN c)) ∧ ∃ dx, d = some dx ∧ F dx = some (.xd ((exF c).zip [V.int i]).reverse) := by
  obtain ⟨h1, h2⟩ := h
  obtain ⟨ec, efs⟩ := e
  dsimp only at hc hf
  subst hc
  subst hf
  refine ⟨h1, ?_⟩
  rcases h2 with ⟨z, _⟩ | h2
  · cases z
  · exact h2
theorem xd2 {K : PySem.W.Frag} {F : Hp} {cls : Value} {d : Option Addr} {e : Er} {c : Nat} {i j : Int} (h : XD K F cls d e) (hc : e.c = c) (hf : e.fs = [i, j]) : cls = .ref (He.ga K (exN c)) ∧ ∃ dx, d = some dx ∧ F dx = some (.xd ((exF c).zip [V.int i, V.int j]).reverse) := by
  obtain ⟨h1, h2⟩ := h
  obtain ⟨ec, efs⟩ := e
  dsimp only at hc hf
  subst hc
  subst hf
  refine ⟨h1, ?_⟩
  rcases h2 with ⟨z, _⟩ | h2
  · cases z
  · exact h2
end Wk
namespace Wk
open PySem L2 Evl
theorem post_cond {α : Type} {c : Bool} {X Y : Mm α} {p : α → Prop} {q : Er → Prop} (k : Post (cond c X Y) p q) : (c = true ∧ Post X p q) ∨ (c = false ∧ Post Y p q) := by
  cases c with
  | true => exact .inl ⟨rfl, ⟨k.h⟩⟩
  | false => exact .inr ⟨rfl, ⟨k.h⟩⟩
end Wk
namespace Wk
open PySem L2 Evl
def Er.g2 {β : Type} (e : Er) (f : Int → Int → Mm β) : Mm β := match e.fs with
  | [i, j] => f i j
  | _ => .bad
theorem post_g2 {β : Type} {e : Er} {f : Int → Int → Mm β} {ok : β → Prop} {ex : Er → Prop} (h : Post (Er.g2 e f) ok ex) : ∃ i j, e.fs = [i, j] ∧ Post (f i j) ok ex := by
  unfold Er.g2 at h
  split at h
  · rename_i i j he
    exact ⟨i, j, he, ⟨h.h⟩⟩
  · exact h.h.elim
end Wk

set_option Elab.async false
set_option linter.all false
set_option maxRecDepth 100000
set_option maxHeartbeats 4000000
namespace Wk
open PySem L2 Evl
theorem txt_app {a : Str} {i : Int} {n : Nat} (ha : a.length ≤ n) (hi : i.natAbs < 18446744073709551616) : (a ++ (PySem.Str.ofString (toString i))).length ≤ n + 1921 := by
  have := txt_small hi
  rw [PySem.Str.length_append]
  omega
theorem txt_app2 {a b : Str} {n m : Nat} (ha : a.length ≤ n) (hb : b.length ≤ m) : (a ++ b).length ≤ n + m := by
  rw [PySem.Str.length_append]
  omega
theorem txt_fit {a : Str} {n : Nat} (h : a.length ≤ n) (hn : n ≤ 10000) : a.length ≤ sizeLine := by
  rw [sizeLine_eq]
  omega
/-- the reading of f'..{i}' -/
theorem js1 {w1 : Str} {te : TE} {σ : L2.St} {H : Hp} {Q : Str → Hp → Prop} {i : Int} (h1 : w1.length ≤ 100) (hi : i.natAbs < 18446744073709551616) (ht : ∀ Q : VK, Q (.int i) H → te σ H Q) (q : ∀ y : Str, Q y H) :
    tJs [tC (.str w1), tFmt te] Str.empty σ H Q := by
  have e0 : (Str.empty ++ w1).length ≤ 100 := by rw [PySem.Str.length_append, show Str.empty.length = 0 from rfl]; omega
  exact ⟨w1, rfl, txt_fit e0 (by decide), ht _ (.inr ⟨i, rfl, log_small hi, _, rfl, txt_fit (txt_app e0 hi) (by decide), q _⟩)⟩
/-- the reading of f'..{i}..{j}' -/
theorem js2 {w1 w2 : Str} {te te' : TE} {σ : L2.St} {H : Hp} {Q : Str → Hp → Prop} {i j : Int} (h1 : w1.length ≤ 100) (h2 : w2.length ≤ 100) (hi : i.natAbs < 18446744073709551616) (hj : j.natAbs < 18446744073709551616)
    (ht : ∀ Q : VK, Q (.int i) H → te σ H Q) (ht' : ∀ Q : VK, Q (.int j) H → te' σ H Q) (q : ∀ y : Str, Q y H) : tJs [tC (.str w1), tFmt te, tC (.str w2), tFmt te'] Str.empty σ H Q := by
  have e0 : (Str.empty ++ w1).length ≤ 100 := by rw [PySem.Str.length_append, show Str.empty.length = 0 from rfl]; omega
  have e1 := txt_app e0 hi
  have e2 := txt_app2 e1 h2
  exact ⟨w1, rfl, txt_fit e0 (by decide), ht _ (.inr ⟨i, rfl, log_small hi, _, rfl, txt_fit e1 (by decide), w2, rfl, txt_fit e2 (by decide), ht' _ (.inr ⟨j, rfl, log_small hj, _, rfl, txt_fit (txt_app e2 hj) (by decide), q _⟩)⟩)⟩
end Wk
namespace Wk
open PySem L2 Evl
theorem IniD.binds {K : PySem.W.Frag} {P : Program} {mg : Str → Option Value} {x name qual : Str} {params : Arguments} {body : List Stmt} {scope : Scope} {fd : FuncData} {cda cc : Addr} {ps : List Str} (I : IniD K P mg x name qual params body scope fd cda cc) (hd : params.defaults = [])
    (h : ∀ (kV doc pm ct : Value) (an : Option Addr) (cdv : Value) (cc : Addr) (us : List Value), us.length = ps.length → bindArgs (PySem.W.ksFn name qual params body scope .none kV doc pm an cdv ct cc) ⟨us, []⟩ = pure (ps.zip us)) : Binds K fd ps [] := by
  obtain ⟨oc, od, kV, doc, pm, ct, an, osl, rfl, lk⟩ := I.lk
  exact .all (h kV doc pm ct an (.ref cda) cc)
end Wk

set_option Elab.async false
set_option linter.all false
set_option maxRecDepth 100000
set_option maxHeartbeats 1000000
set_option exponentiation.threshold 100
namespace Wk
open PySem L2
theorem bdo {α β : Type} {a : α} {f : α → Mm β} : (Mm.ok a).bd f = f a := rfl
theorem cF {α : Type} {c : Bool} {x y : α} (h : c = false) : cond c x y = y := by subst h; rfl
theorem cT {α : Type} {c : Bool} {x y : α} (h : c = true) : cond c x y = x := by subst h; rfl
theorem guard_ok {c : Prop} [Decidable c] (h : c) : guardM c = .ok () := if_pos h
theorem intc_ne {n : Int} (h : n ≠ 0) : ((n : Int) : Rat) ≠ 0 := fun z => h (Rat.intCast_inj.mp (show ((n : Int) : Rat) = ((0 : Int) : Rat) from z))
theorem fr_zero : fr 0 = (0, 1) := by decide
theorem fr_one : fr 1 = (1, 1) := by decide
theorem fr_of_int (n : Int) : fr ((n : Int) : Rat) = (n, 1) := by
  unfold fr
  rw [Rat.num_intCast, Rat.den_intCast]
  rfl
theorem sq_int {n : Int} {a : Nat} (h : n.natAbs < 2 ^ a) (h0 : 0 < a) : Sq a ((n : Int) : Rat) := by
  unfold Sq
  rw [Rat.num_intCast, Rat.den_intCast]
  exact ⟨h, Nat.one_lt_two_pow (by omega)⟩
theorem zero_sq : Sq 1 0 := by unfold Sq; decide
theorem one_sq : Sq 1 1 := by unfold Sq; decide
theorem zero_sqn {a : Nat} (h : 0 < a) : Sq a 0 := zero_sq.up h
/-- a fraction by any terms -/
theorem fr_flip (a b : Int) : (a : Rat) / (b : Rat) = (((-a : Int) : Rat) / ((-b : Int) : Rat)) := by
  push_cast
  grind
theorem fdiv_neg_dvd {g a : Int} (h : 0 < g) (d : g ∣ a) : a.fdiv (-g) = (-a) / g := by
  obtain ⟨c, rfl⟩ := d
  have e : g * c = (-g) * (-c) := by rw [Int.neg_mul_neg]
  have e2 : -(g * c) = g * (-c) := by rw [Int.mul_neg]
  rw [e2, Int.mul_ediv_cancel_left _ (by omega), e, Int.mul_fdiv_cancel_left _ (by omega)]
theorem gcd_posZ {a b : Int} (h : b ≠ 0) : 0 < ((Nat.gcd a.natAbs b.natAbs : Nat) : Int) := by
  have : 0 < Nat.gcd a.natAbs b.natAbs := Nat.gcd_pos_of_pos_right _ (by omega)
  omega
theorem gcd_leZ {a b : Int} (h : b ≠ 0) : ((Nat.gcd a.natAbs b.natAbs : Nat) : Int).natAbs ≤ b.natAbs := by
  rw [Int.natAbs_natCast]
  exact Nat.gcd_le_right _ (by omega)
theorem fr_pos {a b : Int} (h : 0 < b) : fr ((a : Rat) / (b : Rat)) = (a.fdiv ((Nat.gcd a.natAbs b.natAbs : Nat) : Int), b.fdiv ((Nat.gcd a.natAbs b.natAbs : Nat) : Int)) := by
  have g0 := gcd_posZ (a := a) (b := b) (by omega)
  rw [Int.fdiv_eq_ediv_of_nonneg _ (Int.le_of_lt g0), Int.fdiv_eq_ediv_of_nonneg _ (Int.le_of_lt g0)]
  exact fr_int a h
theorem fr_neg {a b : Int} (h : b < 0) : fr ((a : Rat) / (b : Rat)) = (a.fdiv (-((Nat.gcd a.natAbs b.natAbs : Nat) : Int)), b.fdiv (-((Nat.gcd a.natAbs b.natAbs : Nat) : Int))) := by
  have g0 := gcd_posZ (a := a) (b := b) (by omega)
  rw [fdiv_neg_dvd g0 (Int.ofNat_dvd_left.mpr (Nat.gcd_dvd_left _ _)), fdiv_neg_dvd g0 (Int.ofNat_dvd_left.mpr (Nat.gcd_dvd_right _ _)), fr_flip, fr_int (-a) (show 0 < -b by omega), Int.natAbs_neg, Int.natAbs_neg]
theorem sq_any {n : Nat} {a b : Int} (h : b ≠ 0) (ha : a.natAbs < 2 ^ n) (hb : b.natAbs < 2 ^ n) : Sq n ((a : Rat) / (b : Rat)) := by
  by_cases q : 0 < b
  · exact sq_div q ha hb
  · rw [fr_flip]
    exact sq_div (by omega) (by omega) (by omega)
/-- x stands for q, in any terms -/
structure Rx (n : Nat) (x : Int × Int) (q : Rat) : Prop where
  nz : x.2 ≠ 0
  t : x.1.natAbs < 2 ^ n
  b : x.2.natAbs < 2 ^ n
  v : (x.1 : Rat) / (x.2 : Rat) = q
theorem Rx.sq {n : Nat} {x : Int × Int} {q : Rat} (h : Rx n x q) : Sq n q := by
  rw [← h.v]
  exact sq_any h.nz h.t h.b
theorem Rx.up {n m : Nat} {x : Int × Int} {q : Rat} (h : Rx n x q) (l : n ≤ m) : Rx m x q := ⟨h.nz, up_lt h.t l, up_lt h.b l, h.v⟩
theorem rx_fr {n : Nat} {q : Rat} (h : Sq n q) : Rx n (fr q) q := ⟨by have := den_posI q; show ((q.den : Nat) : Int) ≠ 0; omega, h.1, h.d, fr_val q⟩
theorem rx_int {n : Nat} {i : Int} (h : i.natAbs < 2 ^ n) (h0 : 0 < n) : Rx n (i, 1) (i : Rat) := by
  rw [← fr_of_int]
  exact rx_fr (sq_int h h0)
theorem mul_nz {a b : Int} (h : a ≠ 0) (h2 : b ≠ 0) : a * b ≠ 0 := Int.mul_ne_zero h h2
theorem rx_add {x y : Int × Int} {p q : Rat} {a b : Nat} (hx : Rx a x p) (hy : Rx b y q) : ((x.1 * y.2 + y.1 * x.2 : Int) : Rat) / ((x.2 * y.2 : Int) : Rat) = p + q := by
  rw [← hx.v, ← hy.v]
  have h1 := intc_ne hx.nz
  have h2 := intc_ne hy.nz
  push_cast
  grind
theorem rx_sub {x y : Int × Int} {p q : Rat} {a b : Nat} (hx : Rx a x p) (hy : Rx b y q) : ((x.1 * y.2 - y.1 * x.2 : Int) : Rat) / ((x.2 * y.2 : Int) : Rat) = p - q := by
  rw [← hx.v, ← hy.v]
  have h1 := intc_ne hx.nz
  have h2 := intc_ne hy.nz
  push_cast
  grind
theorem rx_mul {x y : Int × Int} {p q : Rat} {a b : Nat} (hx : Rx a x p) (hy : Rx b y q) : ((x.1 * y.1 : Int) : Rat) / ((x.2 * y.2 : Int) : Rat) = p * q := by
  rw [← hx.v, ← hy.v]
  have h1 := intc_ne hx.nz
  have h2 := intc_ne hy.nz
  push_cast
  grind
theorem Rx.top {x : Int × Int} {q : Rat} {n : Nat} (h : Rx n x q) (hq : q ≠ 0) : x.1 ≠ 0 := fun z => by
  have := h.v
  rw [z] at this
  have e : ((0 : Int) : Rat) / (x.2 : Rat) = 0 := by
    push_cast
    grind
  exact hq (by rw [← this, e])
theorem rx_div {x y : Int × Int} {p q : Rat} {a b : Nat} (hx : Rx a x p) (hy : Rx b y q) (hq : q ≠ 0) : ((x.1 * y.2 : Int) : Rat) / ((x.2 * y.1 : Int) : Rat) = p / q := by
  have h0 := intc_ne (hy.top hq)
  have h1 := intc_ne hx.nz
  have h2 := intc_ne hy.nz
  rw [← hx.v, ← hy.v]
  push_cast
  grind
theorem sq_subB {p q : Rat} {a b n : Nat} (ha : Sq a p) (hb : Sq b q) (h : a + b < n) : Sq n (p - q) := by
  rw [← rx_sub (rx_fr ha) (rx_fr hb)]
  refine sq_div (Int.mul_pos (den_posI p) (den_posI q)) ?_ (mul_lt ha.d hb.d (by omega))
  exact sub_lt (mul_lt ha.1 hb.d (Nat.le_refl _)) (mul_lt hb.1 ha.d (Nat.le_refl _)) (by omega) (by omega)
theorem sq_negB {q : Rat} {a : Nat} (h : Sq a q) : Sq a (-q) := by
  unfold Sq
  rw [Rat.neg_num, Rat.neg_den, Int.natAbs_neg]
  exact h
theorem sq_divB {p q : Rat} {a b n : Nat} (ha : Sq a p) (hb : Sq b q) (hq : q ≠ 0) (h : a + b ≤ n) : Sq n (p / q) := by
  rw [← rx_div (rx_fr ha) (rx_fr hb) hq]
  exact sq_any (mul_nz (rx_fr ha).nz ((rx_fr hb).top hq)) (mul_lt ha.1 hb.d h) (mul_lt ha.d hb.1 h)
theorem fr_negv (q : Rat) : ((0 : Int) - (fr q).1, (fr q).2) = fr (-q) := by
  unfold fr
  rw [Rat.neg_num, Rat.neg_den, Int.zero_sub]
def Sqs (a : Nat) (l : List Rat) : Prop := ∀ q ∈ l, Sq a q
theorem Sqs.up {a b : Nat} {l : List Rat} (h : Sqs a l) (k : a ≤ b) : Sqs b l := fun q hq => (h q hq).up k
/-! ### folds -/
theorem foldM_map {α β S : Type} {f : S → β → Mm S} {g : α → β} : ∀ (l : List α) (s : S), foldM f s (l.map g) = foldM (fun s x => f s (g x)) s l
  | [], s => rfl
  | x :: l, s => by
    rw [List.map_cons]
    show (f s (g x)).bd _ = (f s (g x)).bd _
    congr 1
    funext s'
    exact foldM_map l s'
theorem mapMm_map {α β γ : Type} {f : β → Mm γ} {g : α → β} : ∀ l : List α, mapMm f (l.map g) = mapMm (fun x => f (g x)) l
  | [] => rfl
  | x :: l => by
    rw [List.map_cons]
    unfold mapMm
    rw [mapMm_map l]
theorem zero_add' (q : Rat) : 0 + q = q := by grind
theorem fold_fr {α : Type} {f : Int × Int → α → Mm (Int × Int)} {v : α → Rat} {c : Nat} : ∀ (l : List α), (∀ x ∈ l, Sq c (v x) ∧ ∀ p a, Sq a p → a + c < 8999 → f (fr p) x = .ok (fr (p + v x))) → ∀ (p : Rat) (a : Nat), Sq a p → a + (c + 1) * l.length < 8998 →
    foldM f (fr p) l = .ok (fr (p + (l.map v).sum)) ∧ Sq (a + (c + 1) * l.length) (p + (l.map v).sum)
  | [], _, p, a, ha, _ => by
    have e : p + ([].map v).sum = p := by
      show p + 0 = p
      grind
    rw [e]
    exact ⟨rfl, ha⟩
  | x :: l, h, p, a, ha, hl => by
    have e1 : (c + 1) * (x :: l).length = (c + 1) * l.length + (c + 1) := by rw [List.length_cons, Nat.mul_succ]
    obtain ⟨sx, hx⟩ := h x (List.mem_cons_self ..)
    obtain ⟨h1, h2⟩ := fold_fr l (fun y hy => h y (List.mem_cons_of_mem _ hy)) (p + v x) (a + c + 1) (sq_add ha sx (by omega)) (by omega)
    have e2 : p + ((x :: l).map v).sum = p + v x + (l.map v).sum := by
      rw [List.map_cons, List.sum_cons]
      grind
    rw [e2]
    refine ⟨?_, h2.up (by omega)⟩
    unfold foldM
    rw [hx p a ha (by omega)]
    exact h1
/-- a sum that begins with 0 -/
theorem fold_fr0 {α : Type} {f : Int × Int → α → Mm (Int × Int)} {v : α → Rat} {c : Nat} (l : List α) (h : ∀ x ∈ l, Sq c (v x) ∧ ∀ p a, Sq a p → a + c < 8999 → f (fr p) x = .ok (fr (p + v x))) (hl : (c + 1) * l.length < 8996) :
    foldM f ((0, 1) : Int × Int) l = .ok (fr (l.map v).sum) ∧ Sq (1 + (c + 1) * l.length) (l.map v).sum := by
  have := fold_fr l h 0 1 zero_sq (by omega)
  rw [zero_add', fr_zero] at this
  exact this
/-! ### polynomials -/
def ev : List Rat → Rat → Rat
  | [], _ => 0
  | c :: l, x => c + x * ev l x
theorem ev_sq {p : Rat} {b c : Nat} (hp : Sq b p) : ∀ l : List Rat, Sqs c l → Sq ((b + c + 1) * l.length + 1) (ev l p)
  | [], _ => zero_sqn (by omega)
  | x :: l, h => by
    have ih := ev_sq hp l fun q hq => h q (List.mem_cons_of_mem _ hq)
    have e : (b + c + 1) * (x :: l).length = (b + c + 1) * l.length + (b + c + 1) := by rw [List.length_cons, Nat.mul_succ]
    exact sq_add (h x (List.mem_cons_self ..)) (sq_mul hp ih (Nat.le_refl _)) (by omega)
theorem foldM_app {α S : Type} {f : S → α → Mm S} : ∀ (l r : List α) (s : S), foldM f s (l ++ r) = (foldM f s l).bd fun s' => foldM f s' r
  | [], r, s => rfl
  | x :: l, r, s => by
    show (f s x).bd (fun s' => foldM f s' (l ++ r)) = ((f s x).bd fun s' => foldM f s' l).bd fun s' => foldM f s' r
    rw [bd_assoc]
    congr 1
    funext s'
    exact foldM_app l r s'
/-- Horner's way -/
theorem horner {f : Int × Int → Rat → Mm (Int × Int)} {p : Rat} {b c : Nat} (hp : Sq b p) (N : Nat) (hf : ∀ x, Sq c x → ∀ q a, Sq a q → a + b + c + 1 ≤ N → f (fr q) x = .ok (fr (q * p + x))) : ∀ (l : List Rat), Sqs c l → (b + c + 1) * l.length + 1 ≤ N → foldM f ((0, 1) : Int × Int) l.reverse = .ok (fr (ev l p))
  | [], _, _ => by
    show Mm.ok _ = _
    rw [← fr_zero]
    rfl
  | x :: l, h, hN => by
    have e : (b + c + 1) * (x :: l).length = (b + c + 1) * l.length + (b + c + 1) := by rw [List.length_cons, Nat.mul_succ]
    have hl : Sqs c l := fun q hq => h q (List.mem_cons_of_mem _ hq)
    rw [List.reverse_cons, foldM_app, horner hp N hf l hl (by omega)]
    show (f _ x).bd _ = _
    rw [hf x (h x (List.mem_cons_self ..)) _ _ (ev_sq hp l hl) (by omega)]
    show Mm.ok _ = _
    congr 2
    show _ = x + p * ev l p
    grind
/-! ### numbered lists, items -/
def numL {α : Type} : Int → List α → List (Int × α)
  | _, [] => []
  | k, x :: l => (k, x) :: numL (k + 1) l
theorem rangeL_succ (k : Int) (n : Nat) : rangeL k (n + 1) = k :: rangeL (k + 1) n := by
  unfold rangeL
  rw [List.range_succ_eq_map, List.map_cons, List.map_map]
  congr 1
  · omega
  · refine List.map_congr_left fun i _ => ?_
    show k + ((i + 1 : Nat) : Int) = k + 1 + (i : Int)
    omega
theorem rangeL_len (k : Int) (n : Nat) : (rangeL k n).length = n := by simp [rangeL]
theorem enum_num {α : Type} : ∀ (l : List α) (k : Int), (rangeL k l.length).zip l = numL k l
  | [], k => rfl
  | x :: l, k => by
    rw [List.length_cons, rangeL_succ, List.zip_cons_cons, enum_num l]
    rfl
theorem enumL_eq {α : Type} (l : List α) : enumL l = numL 0 l := enum_num l 0
theorem numL_len {α : Type} : ∀ (l : List α) (k : Int), (numL k l).length = l.length
  | [], k => rfl
  | x :: l, k => by
    unfold numL
    rw [List.length_cons, numL_len l, List.length_cons]
theorem numL_mem {α : Type} : ∀ (l : List α) (k : Int) (x : Int × α), x ∈ numL k l → k ≤ x.1 ∧ x.1 < k + l.length ∧ x.2 ∈ l
  | [], k, x, h => by cases h
  | y :: l, k, x, h => by
    rcases List.mem_cons.mp h with rfl | h
    · refine ⟨Int.le_refl _, ?_, List.mem_cons_self ..⟩
      show k < k + ((l.length + 1 : Nat) : Int)
      omega
    · obtain ⟨a, b, c⟩ := numL_mem l (k + 1) x h
      refine ⟨by omega, ?_, List.mem_cons_of_mem _ c⟩
      show x.1 < k + ((l.length + 1 : Nat) : Int)
      omega
theorem numL_map {α β : Type} (f : α → β) : ∀ (l : List α) (k : Int), numL k (l.map f) = (numL k l).map fun x => (x.1, f x.2)
  | [], k => rfl
  | x :: l, k => by
    rw [List.map_cons]
    unfold numL
    rw [numL_map f l, List.map_cons]
theorem getM_mid {α : Type} (l r : List α) (x : α) : getM (l ++ x :: r) (l.length : Int) = .ok x := by
  unfold getM
  rw [atI_nat (j := l.length) (v := x) (by simp)]
theorem getM_nat {α : Type} {l : List α} {i : Nat} {x : α} (h : l[i]? = some x) : getM l (i : Int) = .ok x := by
  unfold getM
  rw [atI_nat (j := i) (v := x) h]
theorem getM_last {α : Type} (l : List α) (x : α) : getM (l ++ [x]) (-(1 : Int)) = .ok x := by
  unfold getM
  rw [atI_last]
theorem getM_ok {α : Type} {l : List α} {i : Int} (h : 0 ≤ i) (h2 : i < l.length) : ∃ x, x ∈ l ∧ getM l i = .ok x := by
  have e : i = ((i.toNat : Nat) : Int) := by omega
  have lt : i.toNat < l.length := by omega
  have q := getM_nat (List.getElem?_eq_getElem lt)
  rw [← e] at q
  exact ⟨l[i.toNat], List.getElem_mem lt, q⟩
theorem rangeM_ok {n : Nat} (h : n < 1000000) : rangeM (n : Int) = .ok (rangeL 0 n) := by
  have := range_ok (j := (n : Int)) (by omega) (by omega)
  rw [this, Int.toNat_natCast]
theorem rangeDn_rev (n : Nat) : rangeDn ((n : Int) - 1) n = (rangeL 0 n).reverse := by
  unfold rangeDn rangeL
  rw [← List.map_reverse]
  apply List.ext_getElem
  · simp
  · intro i h1 h2
    simp only [List.length_map, List.length_range] at h1
    simp only [List.getElem_map, List.getElem_range, List.getElem_reverse, List.length_range]
    omega
theorem fold_getR {α S : Type} {h : S → α → Mm S} (L : List α) : ∀ (n : Nat) (l post : List α) (s : S), l.length = n → L = l ++ post → foldM (fun s i => (getM L i).bd fun v => h s v) s (rangeL 0 l.length).reverse = foldM h s l.reverse
  | 0, l, post, s, hn, e => by
    have : l = [] := List.length_eq_zero_iff.mp hn
    subst this
    rfl
  | n + 1, l, post, s, hn, e => by
    rcases List.eq_nil_or_concat l with q | ⟨l', x, q⟩
    · rw [q] at hn
      cases hn
    · rw [List.concat_eq_append] at q
      subst q
      have e1 : rangeL 0 (l' ++ [x]).length = rangeL 0 l'.length ++ [(l'.length : Int)] := by
        unfold rangeL
        rw [List.length_append, List.length_singleton, List.range_succ, List.map_append, List.map_cons, List.map_nil, Int.zero_add]
      have e2 : L = l' ++ x :: post := by rw [e]; simp
      rw [e1, List.reverse_append, List.reverse_append, foldM_app, foldM_app]
      show Mm.bd (Mm.bd (Mm.bd (getM L (l'.length : Int)) _) _) _ = Mm.bd (Mm.bd (h s x) _) _
      have g : getM L (l'.length : Int) = .ok x := by rw [e2]; exact getM_mid _ _ _
      rw [g]
      show Mm.bd (Mm.bd (h s x) _) _ = _
      congr 1
      funext s'
      exact fold_getR L n l' (x :: post) s' (by simpa using hn) e2
theorem fold_get {α S : Type} {h : S → Int → α → Mm S} (L : List α) : ∀ (l pre : List α) (s : S), L = pre ++ l → foldM (fun s i => (getM L i).bd fun v => h s i v) s (rangeL (pre.length : Int) l.length) = foldM (fun s (x : Int × α) => h s x.1 x.2) s (numL (pre.length : Int) l)
  | [], pre, s, _ => rfl
  | x :: l, pre, s, e => by
    rw [List.length_cons, rangeL_succ]
    unfold foldM numL
    rw [e, getM_mid, ← e]
    show (h s _ x).bd _ = (h s _ x).bd _
    congr 1
    funext s'
    have := fold_get (h := h) L l (pre ++ [x]) s' (by rw [e]; simp)
    rw [List.length_append, List.length_singleton] at this
    have e2 : ((pre.length + 1 : Nat) : Int) = (pre.length : Int) + 1 := by omega
    rw [e2] at this
    exact this
/-! ### draws -/
def Rk (N : Nat) (st : Rw) : Prop := 0 ≤ st.seed ∧ st.seed < 2147483647 ∧ 0 ≤ st.pos ∧ st.pos ≤ N
theorem Rk.up {N M : Nat} {st : Rw} (h : Rk N st) (k : N ≤ M) : Rk M st := ⟨h.1, h.2.1, h.2.2.1, by have := h.2.2.2; omega⟩
theorem seedN_ok (s c : Int) : 0 ≤ seedN s c ∧ seedN s c < 2147483647 := by
  unfold seedN
  omega
theorem takenA_ok {scr : List Int} {st : Rw} {many : Int} {N : Nat} (r : Rk N st) (h0 : 0 < many) (h1 : many < 1073741824) (hN : N < 999999) : Yes (takenA scr st many) fun r => (0 ≤ r.1 ∧ r.1 < many) ∧ Rk (N + 1) r.2 := by
  obtain ⟨r1, r2, r3, r4⟩ := r
  unfold takenA
  rw [if_pos ⟨h0, h1, r1, r2, r3, by omega⟩]
  split
  · refine ⟨_, rfl, ⟨Int.emod_nonneg _ (by omega), Int.emod_lt_of_pos _ h0⟩, r1, r2, r3, ?_⟩
    show st.pos ≤ _
    omega
  · split
    · obtain ⟨s1, s2⟩ := seedN_ok st.seed 0
      exact ⟨_, rfl, ⟨Int.emod_nonneg _ (by omega), Int.emod_lt_of_pos _ h0⟩, s1, s2, by show 0 ≤ st.pos + 1; omega, by show st.pos + 1 ≤ _; omega⟩
    · rename_i c _
      obtain ⟨s1, s2⟩ := seedN_ok st.seed c
      exact ⟨_, rfl, ⟨Int.emod_nonneg _ (by omega), Int.emod_lt_of_pos _ h0⟩, s1, s2, by show 0 ≤ st.pos + 1; omega, by show st.pos + 1 ≤ _; omega⟩
theorem takenB_ok {scr : List Int} {st : Rw} {many : Int} {N : Nat} (r : Rk N st) (h0 : 0 < many) (h1 : many < 1073741824) (hN : N < 999999) : Yes (takenB scr st many) fun r => (0 ≤ r.1 ∧ r.1 < many) ∧ Rk (N + 1) r.2 := by
  obtain ⟨r1, r2, r3, r4⟩ := r
  unfold takenB
  rw [if_pos ⟨h0, h1, r1, r2, r3, by omega⟩]
  split
  · refine ⟨_, rfl, ⟨Int.emod_nonneg _ (by omega), Int.emod_lt_of_pos _ h0⟩, r1, r2, r3, ?_⟩
    show st.pos ≤ _
    omega
  · split
    · obtain ⟨s1, s2⟩ := seedN_ok st.seed 0
      exact ⟨_, rfl, ⟨Int.emod_nonneg _ (by omega), Int.emod_lt_of_pos _ h0⟩, s1, s2, by show 0 ≤ st.pos + 1; omega, by show st.pos + 1 ≤ _; omega⟩
    · rename_i c _
      obtain ⟨s1, s2⟩ := seedN_ok st.seed c
      exact ⟨_, rfl, ⟨Int.emod_nonneg _ (by omega), Int.emod_lt_of_pos _ h0⟩, s1, s2, by show 0 ≤ st.pos + 1; omega, by show st.pos + 1 ≤ _; omega⟩
theorem yes_mapS {α γ S : Type} {f : S → α → Mm (γ × S)} (I : S → Nat → Prop) (p : α → γ → Prop) : ∀ (l : List α) (s : S), I s l.length → (∀ s x n, x ∈ l → I s (n + 1) → Yes (f s x) fun y => p x y.1 ∧ I y.2 n) → Yes (mapSt f s l) fun r => All2 p l r.1 ∧ I r.2 0
  | [], s, h, _ => ⟨_, rfl, .nil, h⟩
  | x :: l, s, h, k => by
    obtain ⟨y, e, h1, h2⟩ := k s x l.length (List.mem_cons_self ..) h
    obtain ⟨r, e2, h3, h4⟩ := yes_mapS I p l y.2 h2 fun s z n hz => k s z n (List.mem_cons_of_mem _ hz)
    unfold mapSt
    rw [e]
    show Yes ((mapSt f y.2 l).bd _) _
    rw [e2]
    exact ⟨_, rfl, .cons h1 h3, h4⟩
/-- draws of a row of things: cost each -/
theorem yes_draws {α γ : Type} {f : Rw → α → Mm (γ × Rw)} (c : Nat) (p : γ → Prop) (l : List α) (s : Rw) (N : Nat) (h : Rk N s) (hN : N + c * l.length < 900000) (k : ∀ s x M, x ∈ l → Rk M s → M < 900000 → Yes (f s x) fun y => p y.1 ∧ Rk (M + c) y.2) : Yes (mapSt f s l) fun r => (r.1.length = l.length ∧ ∀ y ∈ r.1, p y) ∧ Rk (N + c * l.length) r.2 := by
  refine (yes_mapS (fun s n => ∃ k, Rk k s ∧ k + c * n ≤ N + c * l.length) (fun _ y => p y) l s ⟨N, h, Nat.le_refl _⟩ fun s x n hx hs => ?_).mono fun r hr => ⟨⟨hr.1.len, hr.1.right fun _ _ h => h⟩, ?_⟩
  · obtain ⟨M, rk, hM⟩ := hs
    have e : c * (n + 1) = c * n + c := Nat.mul_succ ..
    exact (k s x M hx rk (by omega)).mono fun y hy => ⟨hy.1, M + c, hy.2, by omega⟩
  · obtain ⟨M, rk, hM⟩ := hr.2
    exact rk.up (by omega)
theorem All2.app {α γ : Type} {p : α → γ → Prop} {x : α} {y : γ} : ∀ {l : List α} {r : List γ}, All2 p l r → p x y → All2 p (l ++ [x]) (r ++ [y])
  | _, _, .nil, h => .cons h .nil
  | _, _, .cons a b, h => .cons a (All2.app b h)
theorem All2.map_eq {α β γ : Type} {p : α → γ → Prop} {f : γ → Mm β} {g : α → β} {l : List α} {r : List γ} (h : All2 p l r) (k : ∀ x y, x ∈ l → p x y → f y = .ok (g x)) : mapMm f r = .ok (l.map g) := by
  induction h with
  | nil => rfl
  | cons a _ ih =>
    unfold mapMm
    rw [k _ _ (List.mem_cons_self ..) a, bdo, ih fun x y hx => k x y (List.mem_cons_of_mem _ hx), bdo]
    rfl
theorem All2.left {α γ : Type} {p : α → γ → Prop} {q : α → Prop} {l : List α} {r : List γ} (h : All2 p l r) (k : ∀ x y, p x y → q x) : ∀ x ∈ l, q x := by
  induction h with
  | nil => simp
  | cons a _ ih =>
    intro y hy
    rcases List.mem_cons.mp hy with rfl | hy
    · exact k _ _ a
    · exact ih y hy
theorem All2.self {α γ : Type} {p : α → γ → Prop} {g : α → γ} : ∀ l : List α, (∀ x ∈ l, p x (g x)) → All2 p l (l.map g)
  | [], _ => .nil
  | x :: l, h => .cons (h x (List.mem_cons_self ..)) (All2.self l fun y hy => h y (List.mem_cons_of_mem _ hy))
theorem All2.mono {α γ : Type} {p q : α → γ → Prop} {l : List α} {r : List γ} (h : All2 p l r) (k : ∀ x y, p x y → q x y) : All2 q l r := by
  induction h with
  | nil => exact .nil
  | cons a _ ih => exact .cons (k _ _ a) ih
/-- loops that may be left, but are not -/
theorem yes_foldL {α R S : Type} {f : S → α → Mm (Fl R S)} (I : S → Nat → Prop) : ∀ (l : List α) (s : S), I s l.length → (∀ s x n, x ∈ l → I s (n + 1) → Yes (f s x) fun o => ∃ s', o = .go s' ∧ I s' n) → Yes (foldL f s l) fun o => ∃ s', o = .go s' ∧ I s' 0
  | [], s, h, _ => ⟨_, rfl, s, rfl, h⟩
  | x :: l, s, h, k => by
    obtain ⟨o, e, s', rfl, h2⟩ := k s x l.length (List.mem_cons_self ..) h
    obtain ⟨o2, e2, s2, rfl, h3⟩ := yes_foldL I l s' h2 fun s z n hz => k s z n (List.mem_cons_of_mem _ hz)
    unfold foldL
    rw [e]
    show Yes (foldL f s' l) _
    rw [e2]
    exact ⟨_, rfl, s2, rfl, h3⟩
end Wk
namespace Wk
open PySem L2
/-- Euclid's way -/
theorem euclid : ∀ (n : Nat) (x y : Int), 0 ≤ x → 0 ≤ y → y.toNat < n → foldW (fun (b6 : (Int × Int)) => Mm.ok (decide (b6.2 > (0 : Int)))) (fun (b7 : (Int × Int)) => (modM b7.1 b7.2).bd fun m24 => Mm.ok (b7.2, m24)) n (x, y) = .ok (((Nat.gcd x.natAbs y.natAbs : Nat) : Int), 0)
  | 0, _, _, _, _, h => absurd h (by omega)
  | n + 1, x, y, hx, hy, h => by
    unfold foldW
    by_cases q : y > 0
    · show (match decide (y > 0) with | true => _ | false => _) = _
      rw [decide_eq_true q]
      show ((modM x y).bd _).bd _ = _
      rw [mod_ok q]
      show foldW _ _ n (y, x % y) = _
      have h1 := Int.emod_nonneg x (b := y) (by omega)
      have h2 := Int.emod_lt_of_pos x q
      rw [euclid n y (x % y) hy h1 (by omega)]
      congr 3
      rw [Int.natAbs_emod_of_nonneg hx, Nat.gcd_comm, ← Nat.gcd_rec, Nat.gcd_comm]
    · show (match decide (y > 0) with | true => _ | false => _) = _
      rw [decide_eq_false q]
      have : y = 0 := by omega
      subst this
      show Mm.ok (x, (0 : Int)) = _
      rw [Int.natAbs_zero, Nat.gcd_zero_right]
      congr 2
      omega
theorem abs_nn (x : Int) : 0 ≤ absI x := by unfold absI; split <;> omega
theorem abs_na (x : Int) : (absI x).natAbs = x.natAbs := by unfold absI; split <;> omega
end Wk
namespace Wk
open PySem L2
/-! ### loops over indexes -/
theorem fold_ixR {α S : Type} {f : S → Int → Mm S} {h : S → α → Mm S} (L : List α) (hf : ∀ s (i : Nat) v, L[i]? = some v → f s (i : Int) = h s v) : ∀ s, foldM f s (rangeL 0 L.length).reverse = foldM h s L.reverse := by
  have k : ∀ (n : Nat) (l post : List α) (s : S), l.length = n → L = l ++ post → foldM f s (rangeL 0 l.length).reverse = foldM h s l.reverse := by
    intro n
    induction n with
    | zero =>
      intro l post s hn e
      have : l = [] := List.length_eq_zero_iff.mp hn
      subst this
      rfl
    | succ n ih =>
      intro l post s hn e
      rcases List.eq_nil_or_concat l with q | ⟨l', x, q⟩
      · rw [q] at hn
        cases hn
      · rw [List.concat_eq_append] at q
        subst q
        have e1 : rangeL 0 (l' ++ [x]).length = rangeL 0 l'.length ++ [(l'.length : Int)] := by
          unfold rangeL
          rw [List.length_append, List.length_singleton, List.range_succ, List.map_append, List.map_cons, List.map_nil, Int.zero_add]
        have e2 : L = l' ++ x :: post := by rw [e]; simp
        rw [e1, List.reverse_append, List.reverse_append, foldM_app, foldM_app]
        show Mm.bd (Mm.bd (f s (l'.length : Int)) _) _ = Mm.bd (Mm.bd (h s x) _) _
        rw [hf s l'.length x (by rw [e2]; simp)]
        show Mm.bd (Mm.bd (h s x) _) _ = _
        congr 1
        funext s'
        exact ih l' (x :: post) s' (by simpa using hn) e2
  intro s
  exact k L.length L [] s rfl (by simp)
theorem fold_ixN {α S : Type} {f : S → Int → Mm S} {h : S → Nat → α → Mm S} (L : List α) (hf : ∀ s (i : Nat) v, L[i]? = some v → f s (i : Int) = h s i v) : ∀ (l pre : List α) (s : S), L = pre ++ l → foldM f s (rangeL (pre.length : Int) l.length) = foldM (fun s (x : Int × α) => h s x.1.toNat x.2) s (numL (pre.length : Int) l)
  | [], pre, s, _ => rfl
  | x :: l, pre, s, e => by
    rw [List.length_cons, rangeL_succ]
    unfold foldM numL
    rw [hf s pre.length x (by rw [e]; simp)]
    show (h s _ x).bd _ = (h s _ x).bd _
    rw [Int.toNat_natCast]
    congr 1
    funext s'
    have := fold_ixN L hf l (pre ++ [x]) s' (by rw [e]; simp)
    rw [List.length_append, List.length_singleton] at this
    have e2 : ((pre.length + 1 : Nat) : Int) = (pre.length : Int) + 1 := by omega
    rw [e2] at this
    exact this
theorem fold_num {α S : Type} {h : S → α → Mm S} : ∀ (l : List α) (k : Int) (s : S), foldM (fun s (x : Int × α) => h s x.2) s (numL k l) = foldM h s l
  | [], _, _ => rfl
  | x :: l, k, s => by
    unfold numL foldM
    show (h s x).bd _ = (h s x).bd _
    congr 1
    funext s'
    exact fold_num l (k + 1) s'
theorem fold_ix {α S : Type} {f : S → Int → Mm S} {h : S → α → Mm S} (L : List α) (hf : ∀ s (i : Nat) v, L[i]? = some v → f s (i : Int) = h s v) (s : S) : foldM f s (rangeL 0 L.length) = foldM h s L := by
  have := fold_ixN (h := fun s _ v => h s v) L hf L [] s rfl
  rw [show ((([] : List α).length : Nat) : Int) = 0 from rfl] at this
  rw [this, fold_num]
theorem map_ix {α γ : Type} {f : Int → Mm γ} {h : α → Mm γ} (L : List α) (hf : ∀ (i : Nat) v, L[i]? = some v → f (i : Int) = h v) : mapMm f (rangeL 0 L.length) = mapMm h L := by
  have k : ∀ (l pre : List α), L = pre ++ l → mapMm f (rangeL (pre.length : Int) l.length) = mapMm h l := by
    intro l
    induction l with
    | nil => intro pre _; rfl
    | cons x l ih =>
      intro pre e
      rw [List.length_cons, rangeL_succ]
      unfold mapMm
      rw [hf pre.length x (by rw [e]; simp)]
      have := ih (pre ++ [x]) (by rw [e]; simp)
      rw [List.length_append, List.length_singleton] at this
      have e2 : ((pre.length + 1 : Nat) : Int) = (pre.length : Int) + 1 := by omega
      rw [e2] at this
      rw [this]
  exact k L [] rfl
theorem zip_at {α β : Type} {l : List α} {r : List β} {i : Nat} {v : α × β} (h : (l.zip r)[i]? = some v) : l[i]? = some v.1 ∧ r[i]? = some v.2 := by
  rw [List.getElem?_zip_eq_some] at h
  exact h
theorem getM_map {α β : Type} {l : List α} {f : α → β} {i : Nat} {x : α} (h : l[i]? = some x) : getM (l.map f) (i : Int) = .ok (f x) := getM_nat (by rw [List.getElem?_map, h]; rfl)
theorem All2.at {α γ : Type} {p : α → γ → Prop} {l : List α} {r : List γ} (h : All2 p l r) : ∀ {i : Nat} {x : α}, l[i]? = some x → ∃ y, r[i]? = some y ∧ p x y := by
  induction h with
  | nil => intro i x e; cases i <;> cases e
  | cons a _ ih =>
    intro i x e
    cases i with
    | zero => cases e; exact ⟨_, rfl, a⟩
    | succ i => exact ih e
end Wk
namespace Wk
open PySem L2
def rv (x : Int × Int) : Rat := (x.1 : Rat) / (x.2 : Rat)
theorem all2_rv {n : Nat} {ps : List Rat} {pl : List (Int × Int)} (h : All2 (fun p x => Rx n x p) ps pl) : ps = pl.map rv := by
  induction h with
  | nil => rfl
  | cons a _ ih => rw [List.map_cons, ← ih, ← a.v]; rfl
theorem all2_at {n : Nat} {ps : List Rat} {pl : List (Int × Int)} (h : All2 (fun p x => Rx n x p) ps pl) {i : Nat} {x : Int × Int} (hx : pl[i]? = some x) : Rx n x (rv x) := by
  have := h.right (q := fun x => Rx n x (rv x)) (fun p x r => by have e := r.v; unfold rv; rw [e]; exact r) x (List.mem_of_getElem? hx)
  exact this
/-- sums with something that goes along -/
theorem fold_frP {α R : Type} {f : (Int × Int) × R → α → Mm ((Int × Int) × R)} {v : α → Rat} {c : Nat} : ∀ (l : List α), (∀ x ∈ l, Sq c (v x) ∧ ∀ p a r, Sq a p → a + c < 8999 → f (fr p, r) x = .ok (fr (p + v x), r)) → ∀ (p : Rat) (a : Nat) (r : R), Sq a p → a + (c + 1) * l.length < 8998 →
    foldM f (fr p, r) l = .ok (fr (p + (l.map v).sum), r) ∧ Sq (a + (c + 1) * l.length) (p + (l.map v).sum)
  | [], _, p, a, r, ha, _ => by
    have e : p + ([].map v).sum = p := by
      show p + 0 = p
      grind
    rw [e]
    exact ⟨rfl, ha⟩
  | x :: l, h, p, a, r, ha, hl => by
    have e1 : (c + 1) * (x :: l).length = (c + 1) * l.length + (c + 1) := by rw [List.length_cons, Nat.mul_succ]
    obtain ⟨sx, hx⟩ := h x (List.mem_cons_self ..)
    obtain ⟨h1, h2⟩ := fold_frP l (fun y hy => h y (List.mem_cons_of_mem _ hy)) (p + v x) (a + c + 1) r (sq_add ha sx (by omega)) (by omega)
    have e2 : p + ((x :: l).map v).sum = p + v x + (l.map v).sum := by
      rw [List.map_cons, List.sum_cons]
      grind
    rw [e2]
    refine ⟨?_, h2.up (by omega)⟩
    unfold foldM
    rw [hx p a r ha (by omega)]
    exact h1
/-- the same over the indexes of a list -/
theorem fold_frI {α R : Type} {f : (Int × Int) × R → Int → Mm ((Int × Int) × R)} {v : α → Rat} {c : Nat} (L : List α) (h : ∀ (i : Nat) x, L[i]? = some x → Sq c (v x) ∧ ∀ p a r, Sq a p → a + c < 8999 → f (fr p, r) (i : Int) = .ok (fr (p + v x), r)) (p : Rat) (a : Nat) (r : R) (ha : Sq a p) (hl : a + (c + 1) * L.length < 8998) :
    foldM f (fr p, r) (rangeL 0 L.length) = .ok (fr (p + (L.map v).sum), r) ∧ Sq (a + (c + 1) * L.length) (p + (L.map v).sum) := by
  have k : ∀ (l pre : List α) (p : Rat) (a : Nat), L = pre ++ l → Sq a p → a + (c + 1) * l.length < 8998 → foldM f (fr p, r) (rangeL (pre.length : Int) l.length) = .ok (fr (p + (l.map v).sum), r) ∧ Sq (a + (c + 1) * l.length) (p + (l.map v).sum) := by
    intro l
    induction l with
    | nil =>
      intro pre p a _ ha _
      have e : p + ([].map v).sum = p := by
        show p + 0 = p
        grind
      rw [e]
      exact ⟨rfl, ha⟩
    | cons x l ih =>
      intro pre p a e ha hl
      have e1 : (c + 1) * (x :: l).length = (c + 1) * l.length + (c + 1) := by rw [List.length_cons, Nat.mul_succ]
      obtain ⟨sx, hx⟩ := h pre.length x (by rw [e]; simp)
      have q := ih (pre ++ [x]) (p + v x) (a + c + 1) (by rw [e]; simp) (sq_add ha sx (by omega)) (by omega)
      rw [List.length_append, List.length_singleton] at q
      have e2 : ((pre.length + 1 : Nat) : Int) = (pre.length : Int) + 1 := by omega
      rw [e2] at q
      have e3 : p + ((x :: l).map v).sum = p + v x + (l.map v).sum := by
        rw [List.map_cons, List.sum_cons]
        grind
      rw [e3, List.length_cons, rangeL_succ]
      refine ⟨?_, q.2.up (by rw [Nat.mul_succ]; omega)⟩
      unfold foldM
      rw [hx p a r ha (by omega)]
      exact q.1
  exact k L [] p a (by simp) ha hl
/-- the same with nothing that goes along -/
theorem fold_frJ {α : Type} {f : Int × Int → Int → Mm (Int × Int)} {v : α → Rat} {c : Nat} (L : List α) (h : ∀ (i : Nat) x, L[i]? = some x → Sq c (v x) ∧ ∀ p a, Sq a p → a + c < 8999 → f (fr p) (i : Int) = .ok (fr (p + v x))) (p : Rat) (a : Nat) (ha : Sq a p) (hl : a + (c + 1) * L.length < 8998) :
    foldM f (fr p) (rangeL 0 L.length) = .ok (fr (p + (L.map v).sum)) ∧ Sq (a + (c + 1) * L.length) (p + (L.map v).sum) := by
  have k : ∀ (l pre : List α) (p : Rat) (a : Nat), L = pre ++ l → Sq a p → a + (c + 1) * l.length < 8998 → foldM f (fr p) (rangeL (pre.length : Int) l.length) = .ok (fr (p + (l.map v).sum)) ∧ Sq (a + (c + 1) * l.length) (p + (l.map v).sum) := by
    intro l
    induction l with
    | nil =>
      intro pre p a _ ha _
      have e : p + ([].map v).sum = p := by
        show p + 0 = p
        grind
      rw [e]
      exact ⟨rfl, ha⟩
    | cons x l ih =>
      intro pre p a e ha hl
      have e1 : (c + 1) * (x :: l).length = (c + 1) * l.length + (c + 1) := by rw [List.length_cons, Nat.mul_succ]
      obtain ⟨sx, hx⟩ := h pre.length x (by rw [e]; simp)
      have q := ih (pre ++ [x]) (p + v x) (a + c + 1) (by rw [e]; simp) (sq_add ha sx (by omega)) (by omega)
      rw [List.length_append, List.length_singleton] at q
      have e2 : ((pre.length + 1 : Nat) : Int) = (pre.length : Int) + 1 := by omega
      rw [e2] at q
      have e3 : p + ((x :: l).map v).sum = p + v x + (l.map v).sum := by
        rw [List.map_cons, List.sum_cons]
        grind
      rw [e3, List.length_cons, rangeL_succ]
      refine ⟨?_, q.2.up (by rw [Nat.mul_succ]; omega)⟩
      unfold foldM
      rw [hx p a ha (by omega)]
      exact q.1
  exact k L [] p a (by simp) ha hl
end Wk

set_option Elab.async false
set_option linter.all false
set_option maxRecDepth 100000
set_option maxHeartbeats 4000000
namespace L
/-- thirteen weights above 0 and places from 0 to 1: a rule that is exact to the power 12 -/
def QN : List (Rat × Rat) := [(47719618433/4266648514128, 0), (412093597/10139016888, 1/30), (15096609475/365258877984, 1/15), (34472681/410288736, 2/15), (43199494175/362155842048, 7/30), (1714329755/12291447168, 11/30), (98694539947/770306304768, 1/2), (1714329755/12291447168, 19/30), (43199494175/362155842048, 23/30), (34472681/410288736, 13/15), (15096609475/365258877984, 14/15), (412093597/10139016888, 29/30), (47719618433/4266648514128, 1)]
theorem quad_0 (a d : Rat) : (QN.map fun q => d * q.1 * (a + d * q.2) ^ 0).sum * (1 : Rat) = (a + d) ^ 1 - a ^ 1 := by
  simp only [QN, List.map_cons, List.map_nil, List.sum_cons, List.sum_nil]
  grind
theorem quad_1 (a d : Rat) : (QN.map fun q => d * q.1 * (a + d * q.2) ^ 1).sum * (2 : Rat) = (a + d) ^ 2 - a ^ 2 := by
  simp only [QN, List.map_cons, List.map_nil, List.sum_cons, List.sum_nil]
  grind
theorem quad_2 (a d : Rat) : (QN.map fun q => d * q.1 * (a + d * q.2) ^ 2).sum * (3 : Rat) = (a + d) ^ 3 - a ^ 3 := by
  simp only [QN, List.map_cons, List.map_nil, List.sum_cons, List.sum_nil]
  grind
theorem quad_3 (a d : Rat) : (QN.map fun q => d * q.1 * (a + d * q.2) ^ 3).sum * (4 : Rat) = (a + d) ^ 4 - a ^ 4 := by
  simp only [QN, List.map_cons, List.map_nil, List.sum_cons, List.sum_nil]
  grind
theorem quad_4 (a d : Rat) : (QN.map fun q => d * q.1 * (a + d * q.2) ^ 4).sum * (5 : Rat) = (a + d) ^ 5 - a ^ 5 := by
  simp only [QN, List.map_cons, List.map_nil, List.sum_cons, List.sum_nil]
  grind
theorem quad_5 (a d : Rat) : (QN.map fun q => d * q.1 * (a + d * q.2) ^ 5).sum * (6 : Rat) = (a + d) ^ 6 - a ^ 6 := by
  simp only [QN, List.map_cons, List.map_nil, List.sum_cons, List.sum_nil]
  grind
theorem quad_6 (a d : Rat) : (QN.map fun q => d * q.1 * (a + d * q.2) ^ 6).sum * (7 : Rat) = (a + d) ^ 7 - a ^ 7 := by
  simp only [QN, List.map_cons, List.map_nil, List.sum_cons, List.sum_nil]
  grind
theorem quad_7 (a d : Rat) : (QN.map fun q => d * q.1 * (a + d * q.2) ^ 7).sum * (8 : Rat) = (a + d) ^ 8 - a ^ 8 := by
  simp only [QN, List.map_cons, List.map_nil, List.sum_cons, List.sum_nil]
  grind
theorem quad_8 (a d : Rat) : (QN.map fun q => d * q.1 * (a + d * q.2) ^ 8).sum * (9 : Rat) = (a + d) ^ 9 - a ^ 9 := by
  simp only [QN, List.map_cons, List.map_nil, List.sum_cons, List.sum_nil]
  grind
theorem quad_9 (a d : Rat) : (QN.map fun q => d * q.1 * (a + d * q.2) ^ 9).sum * (10 : Rat) = (a + d) ^ 10 - a ^ 10 := by
  simp only [QN, List.map_cons, List.map_nil, List.sum_cons, List.sum_nil]
  grind
theorem quad_10 (a d : Rat) : (QN.map fun q => d * q.1 * (a + d * q.2) ^ 10).sum * (11 : Rat) = (a + d) ^ 11 - a ^ 11 := by
  simp only [QN, List.map_cons, List.map_nil, List.sum_cons, List.sum_nil]
  grind
theorem quad_11 (a d : Rat) : (QN.map fun q => d * q.1 * (a + d * q.2) ^ 11).sum * (12 : Rat) = (a + d) ^ 12 - a ^ 12 := by
  simp only [QN, List.map_cons, List.map_nil, List.sum_cons, List.sum_nil]
  grind
theorem quad_12 (a d : Rat) : (QN.map fun q => d * q.1 * (a + d * q.2) ^ 12).sum * (13 : Rat) = (a + d) ^ 13 - a ^ 13 := by
  simp only [QN, List.map_cons, List.map_nil, List.sum_cons, List.sum_nil]
  grind
theorem quad (a d : Rat) : ∀ k : Nat, k ≤ 12 → (QN.map fun q => d * q.1 * (a + d * q.2) ^ k).sum * ((((k : Nat) : Int) + 1 : Int) : Rat) = (a + d) ^ (k + 1) - a ^ (k + 1)
  | 0, _ => by
    have e : ((((0 : Nat) : Int) + 1 : Int) : Rat) = (1 : Rat) := by decide
    rw [e]
    exact quad_0 a d
  | 1, _ => by
    have e : ((((1 : Nat) : Int) + 1 : Int) : Rat) = (2 : Rat) := by decide
    rw [e]
    exact quad_1 a d
  | 2, _ => by
    have e : ((((2 : Nat) : Int) + 1 : Int) : Rat) = (3 : Rat) := by decide
    rw [e]
    exact quad_2 a d
  | 3, _ => by
    have e : ((((3 : Nat) : Int) + 1 : Int) : Rat) = (4 : Rat) := by decide
    rw [e]
    exact quad_3 a d
  | 4, _ => by
    have e : ((((4 : Nat) : Int) + 1 : Int) : Rat) = (5 : Rat) := by decide
    rw [e]
    exact quad_4 a d
  | 5, _ => by
    have e : ((((5 : Nat) : Int) + 1 : Int) : Rat) = (6 : Rat) := by decide
    rw [e]
    exact quad_5 a d
  | 6, _ => by
    have e : ((((6 : Nat) : Int) + 1 : Int) : Rat) = (7 : Rat) := by decide
    rw [e]
    exact quad_6 a d
  | 7, _ => by
    have e : ((((7 : Nat) : Int) + 1 : Int) : Rat) = (8 : Rat) := by decide
    rw [e]
    exact quad_7 a d
  | 8, _ => by
    have e : ((((8 : Nat) : Int) + 1 : Int) : Rat) = (9 : Rat) := by decide
    rw [e]
    exact quad_8 a d
  | 9, _ => by
    have e : ((((9 : Nat) : Int) + 1 : Int) : Rat) = (10 : Rat) := by decide
    rw [e]
    exact quad_9 a d
  | 10, _ => by
    have e : ((((10 : Nat) : Int) + 1 : Int) : Rat) = (11 : Rat) := by decide
    rw [e]
    exact quad_10 a d
  | 11, _ => by
    have e : ((((11 : Nat) : Int) + 1 : Int) : Rat) = (12 : Rat) := by decide
    rw [e]
    exact quad_11 a d
  | 12, _ => by
    have e : ((((12 : Nat) : Int) + 1 : Int) : Rat) = (13 : Rat) := by decide
    rw [e]
    exact quad_12 a d
  | n + 13, h => absurd h (by omega)
theorem QN_pos : ∀ q ∈ QN, 0 < q.1 := by decide +kernel
theorem QN_nodup : (QN.map (·.2)).Nodup := by decide +kernel
end L

set_option Elab.async false
set_option linter.all false
set_option maxRecDepth 100000
set_option maxHeartbeats 4000000
namespace L
open PySem L2 Evl Wk StX
def top (i : Nat) : Stmt := PySem.Challenge.pw_fewreadings_k45_codes_rejected.main.body.getD i (.Pass ⟨0, 0, 0, 0⟩)
/-! ### whole_within -/
abbrev s_whole_within : Stmt := top 5
theorem sc_whole_within : FnScope ["number", "low", "high"] ["number", "low", "high"] (defScope s_whole_within) := ⟨rfl, rfl, rfl, by decide +kernel, rfl, by decide +kernel, by decide +kernel⟩
def whole_within (number : Int) (low : Int) (high : Int) : Mm Bool := Mm.ok (true && ((!false) && ((decide (low ≤ number)) && (decide (number ≤ high)))))
def sp_whole_within (K : PySem.W.Frag) : Sp := fun vs H Q E => ∃ (F : Hp) (number : Int) (low : Int) (high : Int), vs = [(V.int number), (V.int low), (V.int high)] ∧ Ex F H ∧ Post (whole_within number low high) (fun r => Ret [] F H (fun F' _ v => v = V.bl r) Q) (fun _ => False)
theorem ok_whole_within {P : Program} {w : World} {K : PySem.W.Frag} {mg : Str → Option Value} {base : Heap} {C f : Addr} {fd : FuncData} (B : Bi mg) (FF : FunD K "whole_within" "whole_within" (defArgs s_whole_within) (defBody s_whole_within) (defScope s_whole_within) [] [] f fd) : FnOk P w K mg base CX0 1 f fd ["number", "low", "high"] (sp_whole_within K) := by
  refine FF.ok sc_whole_within (fun vs H Q E h => ?_) (fun cdv A outer s H vs Q E hr h => ?_)
  · obtain ⟨F, number, low, high, rfl, _⟩ := h; rfl
  · obtain ⟨F, number, low, high, rfl, e, k⟩ := h
    unfold whole_within at k
    have g_ := Gm.refl (M := []) e
    refine ⟨_, PSs.nox (pss_one (ps_ret (pe_and (pe_callB call_isiI (by rfl) B.isinstance (by decide +kernel) (pa_cons (pv 0) (pa_cons (pe_bltn (v := .ty "int") (u := .type "int") (by rfl) B.int (by decide +kernel) rfl) pa_nil))) (pe_and (pe_not (pe_callB call_isiI (by rfl) B.isinstance (by decide +kernel) (pa_cons (pv 0) (pa_cons (pe_bltn (v := .ty "bool") (u := .type "bool") (by rfl) B.bool (by decide +kernel) rfl) pa_nil)))) (pe_one (pe_chain op_le op_le (pv 1) (pv 0) (pv 2))))))), ?_⟩
    refine ⟨_, rfl, _, _, true, rfl, .inl ⟨rfl, rfl⟩, _, rfl, ?_⟩
    refine andV_j (b := ((!false) && ((decide (low ≤ number)) && (decide (number ≤ high))))) (fun _ Q' q => ?_) ?_
    · refine ⟨_, rfl, _, _, false, rfl, .inr ⟨rfl, rfl⟩, _, rfl, _, rfl, ?_⟩
      refine andV_j (b := ((decide (low ≤ number)) && (decide (number ≤ high)))) (fun _ Q' q => ?_) ?_
      · refine ⟨_, rfl, _, rfl, _, _, rfl, rfl, _, rfl, ?_⟩
        refine chain_j (b := (decide (number ≤ high))) (fun _ Q' q => ?_) ?_
        · refine ⟨_, rfl, _, _, rfl, rfl, ?_⟩
          exact q
        exact q
      exact q
    exact k.h _ _ _ g_ rfl
/-! ### whole_within#d -/
abbrev s_whole_within_d : Stmt := s_whole_within
def whole_within_d (number : PyData) (low : Int) (high : Int) : Mm Bool := match number with
  | .int i => whole_within i low high
  | .bool _ => Mm.ok false
  | _ => Mm.bad
def sp_whole_within_d (K : PySem.W.Frag) : Sp := fun vs H Q _ => ∃ (F : Hp) (v_number : V) (number : PyData) (low : Int) (high : Int), vs = [v_number, (V.int low), (V.int high)] ∧ Ex F H ∧ Dq K F v_number (id number) ∧ Post (whole_within_d number low high) (fun r => Ret [] F H (fun F' _ v => v = V.bl r) Q) (fun _ => False)
theorem ok_whole_within_d {P : Program} {w : World} {K : PySem.W.Frag} {mg : Str → Option Value} {base : Heap} {C f : Addr} {fd : FuncData} (B : Bi mg) (FF : FunD K "whole_within" "whole_within" (defArgs s_whole_within) (defBody s_whole_within) (defScope s_whole_within) [] [] f fd) : FnOk P w K mg base CX0 1 f fd ["number", "low", "high"] (sp_whole_within_d K) := by
  refine FF.ok sc_whole_within (fun vs H Q E h => ?_) (fun cdv A outer s H vs Q E hr h => ?_)
  · obtain ⟨F, v, number, low, high, rfl, _⟩ := h; rfl
  · obtain ⟨F, v, number, low, high, rfl, e, r, k⟩ := h
    unfold whole_within_d at k
    have g_ := Gm.refl (M := []) e
    cases number with
    | int number =>
      obtain rfl := dp_int r
      unfold whole_within at k
      refine ⟨_, PSs.nox (pss_one (ps_ret (pe_and (pe_callB call_isiI (by rfl) B.isinstance (by decide +kernel) (pa_cons (pv 0) (pa_cons (pe_bltn (v := .ty "int") (u := .type "int") (by rfl) B.int (by decide +kernel) rfl) pa_nil))) (pe_and (pe_not (pe_callB call_isiI (by rfl) B.isinstance (by decide +kernel) (pa_cons (pv 0) (pa_cons (pe_bltn (v := .ty "bool") (u := .type "bool") (by rfl) B.bool (by decide +kernel) rfl) pa_nil)))) (pe_one (pe_chain op_le op_le (pv 1) (pv 0) (pv 2))))))), ?_⟩
      refine ⟨_, rfl, _, _, true, rfl, .inl ⟨rfl, rfl⟩, _, rfl, ?_⟩
      refine andV_j (b := ((!false) && ((decide (low ≤ number)) && (decide (number ≤ high))))) (fun _ Q' q => ?_) ?_
      · refine ⟨_, rfl, _, _, false, rfl, .inr ⟨rfl, rfl⟩, _, rfl, _, rfl, ?_⟩
        refine andV_j (b := ((decide (low ≤ number)) && (decide (number ≤ high)))) (fun _ Q' q => ?_) ?_
        · refine ⟨_, rfl, _, rfl, _, _, rfl, rfl, _, rfl, ?_⟩
          refine chain_j (b := (decide (number ≤ high))) (fun _ Q' q => ?_) ?_
          · refine ⟨_, rfl, _, _, rfl, rfl, ?_⟩
            exact q
          exact q
        exact q
      exact k.h _ _ _ g_ rfl
    | bool b =>
      obtain rfl := dp_bl r
      refine ⟨_, PSs.nox (pss_one (ps_ret (pe_and (pe_callB call_isiB (by rfl) B.isinstance (by decide +kernel) (pa_cons (pv 0) (pa_cons (pe_bltn (v := .ty "int") (u := .type "int") (by rfl) B.int (by decide +kernel) rfl) pa_nil))) (pe_and (pe_not (pe_callB call_isiB (by rfl) B.isinstance (by decide +kernel) (pa_cons (pv 0) (pa_cons (pe_bltn (v := .ty "bool") (u := .type "bool") (by rfl) B.bool (by decide +kernel) rfl) pa_nil)))) (pe_one (pe_chain op_le op_le (pv 1) (pv 0) (pv 2))))))), ?_⟩
      refine ⟨_, rfl, _, _, rfl, .inl rfl, _, rfl, ?_⟩
      refine andV_j (b := false) (fun _ Q' q => ?_) ?_
      · refine ⟨_, rfl, _, _, rfl, .inr rfl, _, rfl, _, rfl, ?_⟩
        exact andV_j (b := false) (fun z _ _ => absurd z (by decide)) q
      · exact k.h _ _ _ g_ rfl
    | _ => exact k.h.elim

/-! ### is_place -/
abbrev s_is_place : Stmt := top 12
theorem sc_is_place : FnScope ["number"] ["number"] (defScope s_is_place) := ⟨rfl, rfl, rfl, by decide +kernel, rfl, by decide +kernel, by decide +kernel⟩
def is_place (number : Int) : Mm Bool := (whole_within (number) ((-(20 : Int))) ((20 : Int))).bd fun b1 => Mm.ok b1
def sp_is_place (K : PySem.W.Frag) : Sp := fun vs H Q E => ∃ (F : Hp) (number : Int), vs = [(V.int number)] ∧ Ex F H ∧ Post (is_place number) (fun r => Ret [] F H (fun F' _ v => v = V.bl r) Q) (fun _ => False)
theorem ok_is_place {P : Program} {w : World} {K : PySem.W.Frag} {mg : Str → Option Value} {base : Heap} {C f : Addr} {fd : FuncData} (B : Bi mg) (FF : FunD K "is_place" "is_place" (defArgs s_is_place) (defBody s_is_place) (defScope s_is_place) [] [] f fd) (G_whole_within : Kn P w K mg base "whole_within" 1 ["number", "low", "high"] (sp_whole_within K)) (c_FARTHEST : ∃ t, mg "FARTHEST" = some (.int 20 t)) : FnOk P w K mg base CX0 2 f fd ["number"] (sp_is_place K) := by
  refine FF.ok sc_is_place (fun vs H Q E h => ?_) (fun cdv A outer s H vs Q E hr h => ?_)
  · obtain ⟨F, number, rfl, _⟩ := h; rfl
  · obtain ⟨F, number, rfl, e, k⟩ := h
    unfold is_place at k
    have g_ := Gm.refl (M := []) e
    refine ⟨_, PSs.nox (pss_one (ps_ret (pe_kn G_whole_within (hr.mono (by decide)) (pa_cons (pv 0) (pa_cons (pe_un un_neg (pe_gint c_FARTHEST)) (pa_cons (pe_gint c_FARTHEST) (pa_nil))))))), ?_⟩
    refine ⟨_, rfl, _, rfl, ?_⟩
    refine ⟨F, number, (-(20 : Int)), (20 : Int), rfl, e, (post_bd k).mono (fun b1 k v6 F2 H3 g4 r5 => ?_) (fun _ z => z)⟩
    have eF2 := g4.s
    have gF2 := g_.trans (g4.weak (by simp))
    subst r5
    exact k.h _ _ _ gF2 rfl
/-! ### is_mass -/
abbrev s_is_mass : Stmt := top 13
theorem sc_is_mass : FnScope ["number"] ["number"] (defScope s_is_mass) := ⟨rfl, rfl, rfl, by decide +kernel, rfl, by decide +kernel, by decide +kernel⟩
def is_mass (number : Int) : Mm Bool := (whole_within (number) ((1 : Int)) ((20 : Int))).bd fun b1 => Mm.ok b1
def sp_is_mass (K : PySem.W.Frag) : Sp := fun vs H Q E => ∃ (F : Hp) (number : Int), vs = [(V.int number)] ∧ Ex F H ∧ Post (is_mass number) (fun r => Ret [] F H (fun F' _ v => v = V.bl r) Q) (fun _ => False)
theorem ok_is_mass {P : Program} {w : World} {K : PySem.W.Frag} {mg : Str → Option Value} {base : Heap} {C f : Addr} {fd : FuncData} (B : Bi mg) (FF : FunD K "is_mass" "is_mass" (defArgs s_is_mass) (defBody s_is_mass) (defScope s_is_mass) [] [] f fd) (G_whole_within : Kn P w K mg base "whole_within" 1 ["number", "low", "high"] (sp_whole_within K)) (c_HEAVIEST : ∃ t, mg "HEAVIEST" = some (.int 20 t)) : FnOk P w K mg base CX0 2 f fd ["number"] (sp_is_mass K) := by
  refine FF.ok sc_is_mass (fun vs H Q E h => ?_) (fun cdv A outer s H vs Q E hr h => ?_)
  · obtain ⟨F, number, rfl, _⟩ := h; rfl
  · obtain ⟨F, number, rfl, e, k⟩ := h
    unfold is_mass at k
    have g_ := Gm.refl (M := []) e
    refine ⟨_, PSs.nox (pss_one (ps_ret (pe_kn G_whole_within (hr.mono (by decide)) (pa_cons (pv 0) (pa_cons (pe_int) (pa_cons (pe_gint c_HEAVIEST) (pa_nil))))))), ?_⟩
    refine ⟨_, rfl, ?_⟩
    refine ⟨F, number, (1 : Int), (20 : Int), rfl, e, (post_bd k).mono (fun b1 k v6 F2 H3 g4 r5 => ?_) (fun _ z => z)⟩
    have eF2 := g4.s
    have gF2 := g_.trans (g4.weak (by simp))
    subst r5
    exact k.h _ _ _ gF2 rfl
/-! ### check_masses -/
abbrev s_check_masses : Stmt := top 14
theorem sc_check_masses : FnScope ["masses", "ahead", "index", "place", "mass"] ["masses"] (defScope s_check_masses) := ⟨rfl, rfl, rfl, by decide +kernel, rfl, by decide +kernel, by decide +kernel⟩
def check_masses (masses : (List (Int × Int))) : Mm Unit := (foldM (fun (b5 : Int) (x6 : (Int × (Int × Int))) => (cond (decide (x6.1 = (6 : Int))) (Mm.ok true) ((noEx (is_place (x6.2.1))).bd fun b42 => (cond (!b42) (Mm.ok true) ((noEx (is_mass (x6.2.2))).bd fun b53 => Mm.ok ((!b53) || (decide (x6.2.1 ≤ b5))))).bd fun b49 => Mm.ok b49)).bd fun b38 => cond b38 ((guardM ((0 : Int).natAbs < 18446744073709551616)).bd fun _ => (guardM (x6.1.natAbs < 18446744073709551616)).bd fun _ => Mm.ex ⟨0, [(0 : Int), x6.1]⟩) (Mm.ok x6.2.1)) ((-(20 : Int)) - (1 : Int)) (enumL masses)).bd fun b22 => Mm.ok ()
def sp_check_masses (K : PySem.W.Frag) : Sp := fun vs H Q E => ∃ (F : Hp) (v_masses : V) (masses : (List (Int × Int))), vs = [v_masses] ∧ Ex F H ∧ Dq K F v_masses ((eV (e2 PyData.int PyData.int)) masses) ∧ Post (check_masses masses) (fun r => Ret [] F H (fun F' _ v => v = V.non) Q) (fun e_ => RetX [] K F H e_ E)
theorem ok_check_masses {P : Program} {w : World} {K : PySem.W.Frag} {mg : Str → Option Value} {base : Heap} {C f : Addr} {fd : FuncData} (B : Bi mg) (FF : FunD K "check_masses" "check_masses" (defArgs s_check_masses) (defBody s_check_masses) (defScope s_check_masses) [] [] f fd) (G_is_place : Kn P w K mg base "is_place" 2 ["number"] (sp_is_place K)) (G_is_mass : Kn P w K mg base "is_mass" 2 ["number"] (sp_is_mass K)) (c_FARTHEST : ∃ t, mg "FARTHEST" = some (.int 20 t)) (c_MOST_MASSES : ∃ t, mg "MOST_MASSES" = some (.int 6 t)) (GX_InvalidWeighting : KnX P w K mg base "InvalidWeighting" 1 ["self", "part", "index"] (spI2 (He.ga K "InvalidWeighting") "part" "index")) : FnOk P w K mg base (L2.CX P w) 3 f fd ["masses"] (sp_check_masses K) := by
  refine FF.ok sc_check_masses (fun vs H Q E h => ?_) (fun cdv A outer s H vs Q E hr h => ?_)
  · obtain ⟨F, v_masses, masses, rfl, _⟩ := h; rfl
  · obtain ⟨F, v_masses, masses, rfl, e, r_masses, k⟩ := h
    unfold check_masses at k
    have g_ := Gm.refl (M := []) e
    refine ⟨_, (pss_cons (ps_set (i := 1) sc_check_masses.nd rfl (Or.inl rfl) (pe_op op_sub (pe_un un_neg (pe_gint c_FARTHEST)) (pe_int))) (pss_one (ps_for (passes_of rfl) rfl (pi_enumT rfl B.enumerate (pa_cons (pv 0) pa_nil)) (pg_tup (by rfl) (pgs_cons (pg_name (i := 2) sc_check_masses.nd rfl (Or.inl rfl)) (pgs_cons (pg_tup (by rfl) (pgs_cons (pg_name (i := 3) sc_check_masses.nd rfl (Or.inl rfl)) (pgs_cons (pg_name (i := 4) sc_check_masses.nd rfl (Or.inl rfl)) (pgs_nil)))) (pgs_nil)))) (pss_cons (ps_if (PW.pt (pw_or (pt_cmpR op_eq (pv 2) (pe_gint c_MOST_MASSES) (nomark _)) (pw_or (pt_not (pt_val (pe_kn G_is_place (hr.mono (by decide)) (pa_cons (pv 3) (pa_nil))))) (pw_or (pt_not (pt_val (pe_kn G_is_mass (hr.mono (by decide)) (pa_cons (pv 4) (pa_nil))))) (pw_or1 (pt_cmpR op_le (pv 3) (pv 1) (nomark _))))))) (pss_one (ps_raiseX GX_InvalidWeighting (hr.mono (by decide)) (takes_of rfl rfl rfl rfl) (pa_cons (pe_int) (pa_cons (pv 2) (pa_nil))))) pss_nil) (pss_one (ps_set (i := 1) sc_check_masses.nd rfl (Or.inl rfl) (pv 3))))))), ?_⟩
    refine ⟨_, rfl, _, _, rfl, rfl, ?_⟩
    refine ⟨_, rfl, ?_⟩
    obtain ⟨p1, xs2, rfl, s3, a4⟩ := dp_tup r_masses
    refine ⟨_, _, rfl, (ex_t e s3), ?_⟩
    refine for_m (M := []) (F := F) (wlk_enumT e s3 a4) (fun b5 F' H' σ' => ∃ (u2 : Option V) (u3 : Option V) (u4 : Option V), σ' = [some (V.ref p1), some (V.int b5), u2, u3, u4]) k e ⟨_, _, _, rfl⟩ (fun b5 x6 v14 σ16 F7 H8 F9 H10 g11 i15 g12 r13 nx kfb5 => ?_) (fun b22 σ21 F17 H18 g19 i20 k => ?_)
    · replace r_masses := r_masses.up g11.f
      replace s3 := ex_t g11.f s3
      replace a4 := a4.up g11.f
      obtain ⟨u23, u24, u25, rfl⟩ := i15
      replace r_masses := r_masses.up g12.f
      replace s3 := ex_t g12.f s3
      replace a4 := a4.up g12.f
      have eF9 := g12.s
      have gF9 := g11.trans (g12.weak (by simp))
      obtain ⟨p26, x27, x28, rfl, s29, d30, d31⟩ := dp_tup2 r13
      obtain rfl := dp_int d30
      refine ⟨_, _, rfl, ex_t eF9 s29, rfl, _, _, rfl, _, _, rfl, ?_⟩
      obtain ⟨p32, x33, x34, rfl, s35, d36, d37⟩ := dp_tup2 d31
      obtain rfl := dp_int d36
      obtain rfl := dp_int d37
      refine ⟨_, _, rfl, ex_t eF9 s35, rfl, _, _, rfl, _, _, rfl, rfl, rfl, ?_⟩
      refine ⟨_, rfl, rfl, ?_⟩
      rw [decV_int]
      refine ⟨_, rfl, ?_⟩
      refine or_jM (M := []) eF9 kfb5 (fun _ Q' kfb5tb38 => ?_) (fun b38 F39 H40 g41 kfb5 => ?_)
      · have gF9_ := Gm.refl (M := []) eF9
        refine ⟨_, rfl, ?_⟩
        refine ⟨F9, x6.2.1, rfl, eF9, (post_noE kfb5tb38).mono (fun b42 kfb5tb38 v47 F43 H44 g45 r46 => ?_) (fun _ z => z)⟩
        have eF43 := g45.s
        have gF43 := gF9_.trans (g45.weak (by simp))
        replace r_masses := r_masses.up g45.f
        replace s3 := ex_t g45.f s3
        replace a4 := a4.up g45.f
        replace r13 := r13.up g45.f
        replace s29 := ex_t g45.f s29
        replace d31 := d31.up g45.f
        replace s35 := ex_t g45.f s35
        subst r46
        refine ⟨_, rfl, ?_⟩
        refine or_jM (M := []) eF43 kfb5tb38 (fun _ Q' kfb5tb38tb49 => ?_) (fun b49 F50 H51 g52 kfb5tb38 => ?_)
        · have gF43_ := Gm.refl (M := []) eF43
          refine ⟨_, rfl, ?_⟩
          refine ⟨F43, x6.2.2, rfl, eF43, (post_noE kfb5tb38tb49).mono (fun b53 kfb5tb38tb49 v58 F54 H55 g56 r57 => ?_) (fun _ z => z)⟩
          have eF54 := g56.s
          have gF54 := gF43_.trans (g56.weak (by simp))
          replace r_masses := r_masses.up g56.f
          replace s3 := ex_t g56.f s3
          replace a4 := a4.up g56.f
          replace r13 := r13.up g56.f
          replace s29 := ex_t g56.f s29
          replace d31 := d31.up g56.f
          replace s35 := ex_t g56.f s35
          subst r57
          refine ⟨_, rfl, ?_⟩
          refine or_j (b := (decide (x6.2.1 ≤ b5))) (fun _ Q' q => ?_) ?_
          · refine ⟨_, rfl, _, rfl, _, _, rfl, rfl, _, rfl, ?_⟩
            exact q
          exact kfb5tb38tb49.h _ _ gF54
        have eF50 := g52.s
        have gF50 := gF43.trans (g52.weak (by simp))
        replace r_masses := r_masses.up g52.f
        replace s3 := ex_t g52.f s3
        replace a4 := a4.up g52.f
        replace r13 := r13.up g52.f
        replace s29 := ex_t g52.f s29
        replace d31 := d31.up g52.f
        replace s35 := ex_t g52.f s35
        exact kfb5tb38.h _ _ gF50
      have eF39 := g41.s
      have gF39 := gF9.trans (g41.weak (by simp))
      replace r_masses := r_masses.up g41.f
      replace s3 := ex_t g41.f s3
      replace a4 := a4.up g41.f
      replace r13 := r13.up g41.f
      replace s29 := ex_t g41.f s29
      replace d31 := d31.up g41.f
      replace s35 := ex_t g41.f s35
      refine cs kfb5 (fun _ kfb5 => ?_) (fun _ kfb5 => ?_)
      · refine ⟨_, rfl, ?_⟩
        obtain ⟨h60, kfb5⟩ := post_guard kfb5
        obtain ⟨h61, kfb5⟩ := post_guard kfb5
        refine mk2 h60 h61 (fun d62 y63 => ?_)
        have g64 := (g_.trans (gF39.weak (by simp))).trans (Gm.new (o := .xd [("index", (V.int x6.1)), ("part", (V.int 0))]) eF39 y63)
        exact kfb5.h _ _ _ _ g64 ⟨rfl, .inr ⟨_, rfl, upd_same⟩⟩
      · refine ⟨_, rfl, ?_⟩
        exact kfb5.h _ _ _ gF39 ⟨_, _, _, rfl⟩
    have g65 := g_.trans (g19.weak (by simp))
    replace r_masses := r_masses.up g19.f
    replace s3 := ex_t g19.f s3
    replace a4 := a4.up g19.f
    have eF17 := g19.s
    obtain ⟨u66, u67, u68, rfl⟩ := i20
    exact k.h _ _ _ g65 rfl
/-! ### check_stretches -/
abbrev s_check_stretches : Stmt := top 15
theorem sc_check_stretches : FnScope ["stretches", "ahead", "index", "low", "high", "height"] ["stretches"] (defScope s_check_stretches) := ⟨rfl, rfl, rfl, by decide +kernel, rfl, by decide +kernel, by decide +kernel⟩
def check_stretches (stretches : (List (Int × Int × Int))) : Mm Unit := (foldM (fun (b5 : Int) (x6 : (Int × (Int × Int × Int))) => (cond (decide (x6.1 = (4 : Int))) (Mm.ok true) ((noEx (is_place (x6.2.1))).bd fun b45 => (cond (!b45) (Mm.ok true) ((noEx (is_place (x6.2.2.1))).bd fun b56 => (cond (!b56) (Mm.ok true) ((noEx (is_mass (x6.2.2.2))).bd fun b67 => Mm.ok (!b67))).bd fun b63 => Mm.ok b63)).bd fun b52 => Mm.ok b52)).bd fun b41 => cond b41 ((guardM ((1 : Int).natAbs < 18446744073709551616)).bd fun _ => (guardM (x6.1.natAbs < 18446744073709551616)).bd fun _ => Mm.ex ⟨0, [(1 : Int), x6.1]⟩) (cond ((decide (x6.2.1 < b5)) || (decide (x6.2.2.1 ≤ x6.2.1))) ((guardM ((1 : Int).natAbs < 18446744073709551616)).bd fun _ => (guardM (x6.1.natAbs < 18446744073709551616)).bd fun _ => Mm.ex ⟨0, [(1 : Int), x6.1]⟩) (Mm.ok x6.2.2.1))) (-(20 : Int)) (enumL stretches)).bd fun b22 => Mm.ok ()
def sp_check_stretches (K : PySem.W.Frag) : Sp := fun vs H Q E => ∃ (F : Hp) (v_stretches : V) (stretches : (List (Int × Int × Int))), vs = [v_stretches] ∧ Ex F H ∧ Dq K F v_stretches ((eV (e3 PyData.int PyData.int PyData.int)) stretches) ∧ Post (check_stretches stretches) (fun r => Ret [] F H (fun F' _ v => v = V.non) Q) (fun e_ => RetX [] K F H e_ E)
theorem ok_check_stretches {P : Program} {w : World} {K : PySem.W.Frag} {mg : Str → Option Value} {base : Heap} {C f : Addr} {fd : FuncData} (B : Bi mg) (FF : FunD K "check_stretches" "check_stretches" (defArgs s_check_stretches) (defBody s_check_stretches) (defScope s_check_stretches) [] [] f fd) (G_is_place : Kn P w K mg base "is_place" 2 ["number"] (sp_is_place K)) (G_is_mass : Kn P w K mg base "is_mass" 2 ["number"] (sp_is_mass K)) (c_FARTHEST : ∃ t, mg "FARTHEST" = some (.int 20 t)) (c_MOST_STRETCHES : ∃ t, mg "MOST_STRETCHES" = some (.int 4 t)) (GX_InvalidWeighting : KnX P w K mg base "InvalidWeighting" 1 ["self", "part", "index"] (spI2 (He.ga K "InvalidWeighting") "part" "index")) : FnOk P w K mg base (L2.CX P w) 3 f fd ["stretches"] (sp_check_stretches K) := by
  refine FF.ok sc_check_stretches (fun vs H Q E h => ?_) (fun cdv A outer s H vs Q E hr h => ?_)
  · obtain ⟨F, v_stretches, stretches, rfl, _⟩ := h; rfl
  · obtain ⟨F, v_stretches, stretches, rfl, e, r_stretches, k⟩ := h
    unfold check_stretches at k
    have g_ := Gm.refl (M := []) e
    refine ⟨_, (pss_cons (ps_set (i := 1) sc_check_stretches.nd rfl (Or.inl rfl) (pe_un un_neg (pe_gint c_FARTHEST))) (pss_one (ps_for (passes_of rfl) rfl (pi_enumT rfl B.enumerate (pa_cons (pv 0) pa_nil)) (pg_tup (by rfl) (pgs_cons (pg_name (i := 2) sc_check_stretches.nd rfl (Or.inl rfl)) (pgs_cons (pg_tup (by rfl) (pgs_cons (pg_name (i := 3) sc_check_stretches.nd rfl (Or.inl rfl)) (pgs_cons (pg_name (i := 4) sc_check_stretches.nd rfl (Or.inl rfl)) (pgs_cons (pg_name (i := 5) sc_check_stretches.nd rfl (Or.inl rfl)) (pgs_nil))))) (pgs_nil)))) (pss_cons (ps_if (PW.pt (pw_or (pt_cmpR op_eq (pv 2) (pe_gint c_MOST_STRETCHES) (nomark _)) (pw_or (pt_not (pt_val (pe_kn G_is_place (hr.mono (by decide)) (pa_cons (pv 3) (pa_nil))))) (pw_or (pt_not (pt_val (pe_kn G_is_place (hr.mono (by decide)) (pa_cons (pv 4) (pa_nil))))) (pw_or1 (pt_not (pt_val (pe_kn G_is_mass (hr.mono (by decide)) (pa_cons (pv 5) (pa_nil)))))))))) (pss_one (ps_raiseX GX_InvalidWeighting (hr.mono (by decide)) (takes_of rfl rfl rfl rfl) (pa_cons (pe_int) (pa_cons (pv 2) (pa_nil))))) pss_nil) (pss_cons (ps_if (PW.pt (pw_or (pt_cmpR op_lt (pv 3) (pv 1) (nomark _)) (pw_or1 (pt_cmpR op_le (pv 4) (pv 3) (nomark _))))) (pss_one (ps_raiseX GX_InvalidWeighting (hr.mono (by decide)) (takes_of rfl rfl rfl rfl) (pa_cons (pe_int) (pa_cons (pv 2) (pa_nil))))) pss_nil) (pss_one (ps_set (i := 1) sc_check_stretches.nd rfl (Or.inl rfl) (pv 4)))))))), ?_⟩
    refine ⟨_, rfl, ?_⟩
    refine ⟨_, rfl, ?_⟩
    obtain ⟨p1, xs2, rfl, s3, a4⟩ := dp_tup r_stretches
    refine ⟨_, _, rfl, (ex_t e s3), ?_⟩
    refine for_m (M := []) (F := F) (wlk_enumT e s3 a4) (fun b5 F' H' σ' => ∃ (u2 : Option V) (u3 : Option V) (u4 : Option V) (u5 : Option V), σ' = [some (V.ref p1), some (V.int b5), u2, u3, u4, u5]) k e ⟨_, _, _, _, rfl⟩ (fun b5 x6 v14 σ16 F7 H8 F9 H10 g11 i15 g12 r13 nx kfb5 => ?_) (fun b22 σ21 F17 H18 g19 i20 k => ?_)
    · replace r_stretches := r_stretches.up g11.f
      replace s3 := ex_t g11.f s3
      replace a4 := a4.up g11.f
      obtain ⟨u23, u24, u25, u26, rfl⟩ := i15
      replace r_stretches := r_stretches.up g12.f
      replace s3 := ex_t g12.f s3
      replace a4 := a4.up g12.f
      have eF9 := g12.s
      have gF9 := g11.trans (g12.weak (by simp))
      obtain ⟨p27, x28, x29, rfl, s30, d31, d32⟩ := dp_tup2 r13
      obtain rfl := dp_int d31
      refine ⟨_, _, rfl, ex_t eF9 s30, rfl, _, _, rfl, _, _, rfl, ?_⟩
      obtain ⟨p33, x34, x35, x36, rfl, s37, d38, d39, d40⟩ := dp_tup3 d32
      obtain rfl := dp_int d38
      obtain rfl := dp_int d39
      obtain rfl := dp_int d40
      refine ⟨_, _, rfl, ex_t eF9 s37, rfl, _, _, rfl, _, _, rfl, _, _, rfl, rfl, rfl, ?_⟩
      refine ⟨_, rfl, rfl, ?_⟩
      rw [decV_int]
      refine ⟨_, rfl, ?_⟩
      refine or_jM (M := []) eF9 kfb5 (fun _ Q' kfb5tb41 => ?_) (fun b41 F42 H43 g44 kfb5 => ?_)
      · have gF9_ := Gm.refl (M := []) eF9
        refine ⟨_, rfl, ?_⟩
        refine ⟨F9, x6.2.1, rfl, eF9, (post_noE kfb5tb41).mono (fun b45 kfb5tb41 v50 F46 H47 g48 r49 => ?_) (fun _ z => z)⟩
        have eF46 := g48.s
        have gF46 := gF9_.trans (g48.weak (by simp))
        replace r_stretches := r_stretches.up g48.f
        replace s3 := ex_t g48.f s3
        replace a4 := a4.up g48.f
        replace r13 := r13.up g48.f
        replace s30 := ex_t g48.f s30
        replace d32 := d32.up g48.f
        replace s37 := ex_t g48.f s37
        subst r49
        refine ⟨_, rfl, ?_⟩
        refine or_jM (M := []) eF46 kfb5tb41 (fun _ Q' kfb5tb41tb52 => ?_) (fun b52 F53 H54 g55 kfb5tb41 => ?_)
        · have gF46_ := Gm.refl (M := []) eF46
          refine ⟨_, rfl, ?_⟩
          refine ⟨F46, x6.2.2.1, rfl, eF46, (post_noE kfb5tb41tb52).mono (fun b56 kfb5tb41tb52 v61 F57 H58 g59 r60 => ?_) (fun _ z => z)⟩
          have eF57 := g59.s
          have gF57 := gF46_.trans (g59.weak (by simp))
          replace r_stretches := r_stretches.up g59.f
          replace s3 := ex_t g59.f s3
          replace a4 := a4.up g59.f
          replace r13 := r13.up g59.f
          replace s30 := ex_t g59.f s30
          replace d32 := d32.up g59.f
          replace s37 := ex_t g59.f s37
          subst r60
          refine ⟨_, rfl, ?_⟩
          refine or_jM (M := []) eF57 kfb5tb41tb52 (fun _ Q' kfb5tb41tb52tb63 => ?_) (fun b63 F64 H65 g66 kfb5tb41tb52 => ?_)
          · have gF57_ := Gm.refl (M := []) eF57
            refine ⟨_, rfl, ?_⟩
            refine ⟨F57, x6.2.2.2, rfl, eF57, (post_noE kfb5tb41tb52tb63).mono (fun b67 kfb5tb41tb52tb63 v72 F68 H69 g70 r71 => ?_) (fun _ z => z)⟩
            have eF68 := g70.s
            have gF68 := gF57_.trans (g70.weak (by simp))
            replace r_stretches := r_stretches.up g70.f
            replace s3 := ex_t g70.f s3
            replace a4 := a4.up g70.f
            replace r13 := r13.up g70.f
            replace s30 := ex_t g70.f s30
            replace d32 := d32.up g70.f
            replace s37 := ex_t g70.f s37
            subst r71
            refine ⟨_, rfl, ?_⟩
            exact kfb5tb41tb52tb63.h _ _ gF68
          have eF64 := g66.s
          have gF64 := gF57.trans (g66.weak (by simp))
          replace r_stretches := r_stretches.up g66.f
          replace s3 := ex_t g66.f s3
          replace a4 := a4.up g66.f
          replace r13 := r13.up g66.f
          replace s30 := ex_t g66.f s30
          replace d32 := d32.up g66.f
          replace s37 := ex_t g66.f s37
          exact kfb5tb41tb52.h _ _ gF64
        have eF53 := g55.s
        have gF53 := gF46.trans (g55.weak (by simp))
        replace r_stretches := r_stretches.up g55.f
        replace s3 := ex_t g55.f s3
        replace a4 := a4.up g55.f
        replace r13 := r13.up g55.f
        replace s30 := ex_t g55.f s30
        replace d32 := d32.up g55.f
        replace s37 := ex_t g55.f s37
        exact kfb5tb41.h _ _ gF53
      have eF42 := g44.s
      have gF42 := gF9.trans (g44.weak (by simp))
      replace r_stretches := r_stretches.up g44.f
      replace s3 := ex_t g44.f s3
      replace a4 := a4.up g44.f
      replace r13 := r13.up g44.f
      replace s30 := ex_t g44.f s30
      replace d32 := d32.up g44.f
      replace s37 := ex_t g44.f s37
      refine cs kfb5 (fun _ kfb5 => ?_) (fun _ kfb5 => ?_)
      · refine ⟨_, rfl, ?_⟩
        obtain ⟨h74, kfb5⟩ := post_guard kfb5
        obtain ⟨h75, kfb5⟩ := post_guard kfb5
        refine mk2 h74 h75 (fun d76 y77 => ?_)
        have g78 := (g_.trans (gF42.weak (by simp))).trans (Gm.new (o := .xd [("index", (V.int x6.1)), ("part", (V.int 1))]) eF42 y77)
        exact kfb5.h _ _ _ _ g78 ⟨rfl, .inr ⟨_, rfl, upd_same⟩⟩
      · refine ⟨_, rfl, _, rfl, _, _, rfl, rfl, _, rfl, ?_⟩
        refine or_j (b := (decide (x6.2.2.1 ≤ x6.2.1))) (fun _ Q' q => ?_) ?_
        · refine ⟨_, rfl, _, rfl, _, _, rfl, rfl, _, rfl, ?_⟩
          exact q
        refine cs kfb5 (fun _ kfb5 => ?_) (fun _ kfb5 => ?_)
        · refine ⟨_, rfl, ?_⟩
          obtain ⟨h79, kfb5⟩ := post_guard kfb5
          obtain ⟨h80, kfb5⟩ := post_guard kfb5
          refine mk2 h79 h80 (fun d81 y82 => ?_)
          have g83 := (g_.trans (gF42.weak (by simp))).trans (Gm.new (o := .xd [("index", (V.int x6.1)), ("part", (V.int 1))]) eF42 y82)
          exact kfb5.h _ _ _ _ g83 ⟨rfl, .inr ⟨_, rfl, upd_same⟩⟩
        · refine ⟨_, rfl, ?_⟩
          exact kfb5.h _ _ _ gF42 ⟨_, _, _, _, rfl⟩
    have g84 := g_.trans (g19.weak (by simp))
    replace r_stretches := r_stretches.up g19.f
    replace s3 := ex_t g19.f s3
    replace a4 := a4.up g19.f
    have eF17 := g19.s
    obtain ⟨u85, u86, u87, u88, rfl⟩ := i20
    exact k.h _ _ _ g84 rfl
/-! ### Weighting.__init__ -/
abbrev s_Weighting_init : Stmt := inClass (top 11) 0
theorem sc_Weighting_init : FnScope ["self", "masses", "stretches", "place", "mass", "low", "high", "height"] ["self", "masses", "stretches"] (defScope s_Weighting_init) := ⟨rfl, rfl, rfl, by decide +kernel, rfl, by decide +kernel, by decide +kernel⟩
def Weighting_init (masses : Ms) (stretches : Ss) : Mm Wt := (check_masses (masses)).bd fun b1 => (check_stretches (stretches)).bd fun b8 => (cond (decide ((masses.length : Int) = (0 : Int))) (Mm.ok (decide ((stretches.length : Int) = (0 : Int)))) (Mm.ok false)).bd fun b19 => cond b19 ((guardM ((2 : Int).natAbs < 18446744073709551616)).bd fun _ => (guardM ((0 : Int).natAbs < 18446744073709551616)).bd fun _ => Mm.ex ⟨0, [(2 : Int), (0 : Int)]⟩) ((guardM (masses.length ≤ 50000)).bd fun _ => (noEx (mapMm (fun (x34 : (Int × Int)) => Mm.ok (x34.1, x34.2)) masses)).bd fun b33 => (guardM (stretches.length ≤ 50000)).bd fun _ => (noEx (mapMm (fun (x82 : (Int × Int × Int)) => Mm.ok (x82.1, x82.2.1, x82.2.2)) stretches)).bd fun b81 => Mm.ok (b33, b81))
theorem ok_Weighting_init {P : Program} {w : World} {K : PySem.W.Frag} {mg : Str → Option Value} {base : Heap} {C f : Addr} {fd : FuncData} (B : Bi mg) (cl : Cls K C) (n_masses : NoAttr K C "_masses") (n_stretches : NoAttr K C "_stretches") (FF : FunD K "__init__" "Weighting.__init__" (defArgs s_Weighting_init) (defBody s_Weighting_init) (defScope s_Weighting_init) [] [] f fd) (G_check_masses : Kx P w K mg base "check_masses" 3 ["masses"] (sp_check_masses K)) (G_check_stretches : Kx P w K mg base "check_stretches" 3 ["stretches"] (sp_check_stretches K)) (GX_InvalidWeighting : KnX P w K mg base "InvalidWeighting" 1 ["self", "part", "index"] (spI2 (He.ga K "InvalidWeighting") "part" "index")) : FnOk P w K mg base (L2.CX P w) 4 f fd ["self", "masses", "stretches"] (spWX Weighting_init K C) := by
  refine FF.ok sc_Weighting_init (fun vs H Q E h => ?_) (fun cdv A outer s H vs Q E hr h => ?_)
  · obtain ⟨F, x, dx, v_masses, v_stretches, masses, stretches, rfl, _⟩ := h; rfl
  · obtain ⟨F, x, dx, v_masses, v_stretches, masses, stretches, rfl, e, hx, fx, r_masses, r_stretches, k⟩ := h
    have o : H x = some (.ins C dx []) ∧ F x = none := ⟨hx, fx⟩
    unfold Weighting_init at k
    have g_ := Gm.refl (M := [x]) e
    refine ⟨_, (pss_cons (ps_expr (pe_kx G_check_masses (hr.mono (by decide)) (takes_of rfl rfl rfl rfl) (pa_cons (pv 1) (pa_nil)))) (pss_cons (ps_expr (pe_kx G_check_stretches (hr.mono (by decide)) (takes_of rfl rfl rfl rfl) (pa_cons (pv 2) (pa_nil)))) (pss_cons (ps_if (PW.pt (pw_and (pt_cmpR op_eq (pe_callB call_lenM (by rfl) B.len (by decide +kernel) (pa_cons (pv 1) pa_nil)) (pe_int) (nomark _)) (pw_and1 (pt_cmpR op_eq (pe_callB call_lenM (by rfl) B.len (by decide +kernel) (pa_cons (pv 2) pa_nil)) (pe_int) (nomark _))))) (pss_one (ps_raiseX GX_InvalidWeighting (hr.mono (by decide)) (takes_of rfl rfl rfl rfl) (pa_cons (pe_int) (pa_cons (pe_int) (pa_nil))))) pss_nil) (pss_cons (ps_fld (pv 0) (pe_q (pe_callTy call_tuple_of (by rfl) B.tuple (by decide +kernel) (pa_cons (pe_q (pe_lc (own := [("place", 3), ("mass", 4)]) (g := gTup K 2 (gCons (gName 3) (gCons (gName 4) gNil))) rfl sc_Weighting_init.nd (pi_tup (pv 1)) (blkOk_by (N := ["self", "masses", "stretches", "place", "mass", "low", "high", "height"]) (sc := defScope s_Weighting_init) (by decide +kernel)) (fun _ _ _ _ _ => pg_tup (by rfl) (pgs_cons (pg_name (i := 3) sc_Weighting_init.nd rfl (Or.inl rfl)) (pgs_cons (pg_name (i := 4) sc_Weighting_init.nd rfl (Or.inl rfl)) (pgs_nil)))) (fun _ _ _ _ _ => pts_nil) (fun _ _ _ _ _ => pe_q (pe_tup (pa_cons (pv 3) (pa_cons (pv 4) (pa_nil))))))) pa_nil))) rfl) (pss_one (ps_fld (pv 0) (pe_q (pe_callTy call_tuple_of (by rfl) B.tuple (by decide +kernel) (pa_cons (pe_q (pe_lc (own := [("low", 5), ("high", 6), ("height", 7)]) (g := gTup K 3 (gCons (gName 5) (gCons (gName 6) (gCons (gName 7) gNil)))) rfl sc_Weighting_init.nd (pi_tup (pv 2)) (blkOk_by (N := ["self", "masses", "stretches", "place", "mass", "low", "high", "height"]) (sc := defScope s_Weighting_init) (by decide +kernel)) (fun _ _ _ _ _ => pg_tup (by rfl) (pgs_cons (pg_name (i := 5) sc_Weighting_init.nd rfl (Or.inl rfl)) (pgs_cons (pg_name (i := 6) sc_Weighting_init.nd rfl (Or.inl rfl)) (pgs_cons (pg_name (i := 7) sc_Weighting_init.nd rfl (Or.inl rfl)) (pgs_nil))))) (fun _ _ _ _ _ => pts_nil) (fun _ _ _ _ _ => pe_q (pe_tup (pa_cons (pv 5) (pa_cons (pv 6) (pa_cons (pv 7) (pa_nil)))))))) pa_nil))) rfl)))))), ?_⟩
    refine ⟨_, rfl, ?_⟩
    refine ⟨F, _, masses, rfl, e, r_masses, (post_bd k).mono (fun b1 k v6 F2 H3 g4 r5 => ?_) (fun e_ z cls_ d_ F_ H_ g_x x_ => z cls_ d_ F_ H_ (g_.trans (g_x.weak (by simp))) x_)⟩
    have eF2 := g4.s
    have gF2 := g_.trans (g4.weak (by simp))
    replace o := g4.own (by simp [*]) o.1 o.2
    replace r_masses := r_masses.up g4.f
    replace r_stretches := r_stretches.up g4.f
    subst r5
    refine ⟨_, rfl, ?_⟩
    refine ⟨F2, _, stretches, rfl, eF2, r_stretches, (post_bd k).mono (fun b8 k v13 F9 H10 g11 r12 => ?_) (fun e_ z cls_ d_ F_ H_ g_x x_ => z cls_ d_ F_ H_ (gF2.trans (g_x.weak (by simp))) x_)⟩
    have eF9 := g11.s
    have gF9 := gF2.trans (g11.weak (by simp))
    replace o := g11.own (by simp [*]) o.1 o.2
    replace r_masses := r_masses.up g11.f
    replace r_stretches := r_stretches.up g11.f
    subst r12
    refine ⟨_, rfl, ?_⟩
    obtain ⟨p15, xs16, rfl, s17, a18⟩ := dp_tup r_masses
    refine ⟨_, _, _, rfl, .inr (ex_t eF9 s17), len_all a18, rfl, ?_⟩
    rw [decV_int]
    refine ⟨_, rfl, ?_⟩
    refine and_jM (M := []) eF9 k (fun _ Q' ktb19 => ?_) (fun b19 F20 H21 g22 k => ?_)
    · have gF9_ := Gm.refl (M := []) eF9
      refine ⟨_, rfl, ?_⟩
      obtain ⟨p23, xs24, rfl, s25, a26⟩ := dp_tup r_stretches
      refine ⟨_, _, _, rfl, .inr (ex_t eF9 s25), len_all a26, rfl, ?_⟩
      rw [decV_int]
      refine ⟨_, rfl, ?_⟩
      exact ktb19.h _ _ gF9_
    have eF20 := g22.s
    have gF20 := gF9.trans (g22.weak (by simp))
    replace o := g22.own (by simp [*]) o.1 o.2
    replace r_masses := r_masses.up g22.f
    replace r_stretches := r_stretches.up g22.f
    replace s17 := ex_t g22.f s17
    replace a18 := a18.up g22.f
    refine cs k (fun _ k => ?_) (fun _ k => ?_)
    · obtain ⟨h27, k⟩ := post_guard k
      obtain ⟨h28, k⟩ := post_guard k
      refine mk2 h27 h28 (fun d29 y30 => ?_)
      have g31 := gF20.trans (Gm.new (o := .xd [("index", (V.int 0)), ("part", (V.int 2))]) eF20 y30)
      exact k.h _ _ _ _ g31 ⟨rfl, .inr ⟨_, rfl, upd_same⟩⟩
    · refine ⟨_, rfl, ?_⟩
      refine ⟨_, rfl, ⟨_, (ex_t eF20 s17)⟩, ?_⟩
      obtain ⟨h51, k⟩ := post_guard k
      refine lc_map (K := K) (M := []) (wlk_tup eF20 s17 a18) (e2 PyData.int PyData.int) (post_noEx' k) eF20 h51 (fun _ _ => by simp) (fun x34 v49 F42 H43 F44 H45 g46 g47 r48 Q' k32 => ?_) (fun _ z => z) (fun b33 v35 F36 H37 g38 r39 k => ?_) (gm_tup (gms_cons gm_name (gms_cons gm_name gms_nil)))
      · have g52 := Gm.refl (M := []) g46.s
        replace o := g46.own (by simp [*]) o.1 o.2
        replace r_masses := r_masses.up g46.f
        replace r_stretches := r_stretches.up g46.f
        replace s17 := ex_t g46.f s17
        replace a18 := a18.up g46.f
        replace o := g47.own (by simp [*]) o.1 o.2
        replace r_masses := r_masses.up g47.f
        replace r_stretches := r_stretches.up g47.f
        replace s17 := ex_t g47.f s17
        replace a18 := a18.up g47.f
        have eF44 := g47.s
        have gF44 := g52.trans (g47.weak (by simp))
        obtain ⟨p53, x54, x55, rfl, s56, d57, d58⟩ := dp_tup2 r48
        obtain rfl := dp_int d57
        obtain rfl := dp_int d58
        refine ⟨_, _, rfl, ex_t eF44 s56, rfl, _, _, rfl, _, _, rfl, rfl, rfl, _, rfl, _, rfl, ?_⟩
        show _ ∧ _
        refine new_tup (K := K) (M := []) eF44 (.cons (Dq.int x34.1) (.cons (Dq.int x34.2) .nil)) (by show 2 ≤ 100000; decide) fun v63 F59 H60 g61 r62 => ?_
        have eF59 := g61.s
        have gF59 := gF44.trans (g61.weak (by simp))
        replace o := g61.own (by simp [*]) o.1 o.2
        replace r_masses := r_masses.up g61.f
        replace r_stretches := r_stretches.up g61.f
        replace s17 := ex_t g61.f s17
        replace a18 := a18.up g61.f
        replace r48 := r48.up g61.f
        replace s56 := ex_t g61.f s56
        replace r62 : Dq K F59 v63 ((e2 PyData.int PyData.int) (x34.1, x34.2)) := r62
        exact k32.h _ _ _ gF59 r62
      replace k := post_ok k
      have eF36 := g38.s
      have gF36 := gF20.trans (g38.weak (by simp))
      replace o := g38.own (by simp [*]) o.1 o.2
      replace r_masses := r_masses.up g38.f
      replace r_stretches := r_stretches.up g38.f
      replace s17 := ex_t g38.f s17
      replace a18 := a18.up g38.f
      obtain ⟨p65, xs66, rfl, s67, a68⟩ := dp_lst r39
      refine to_VL (K := K) (M := []) eF36 s67 a68 (en := (e2 PyData.int PyData.int)) (l := b33) fun v73 F69 H70 g71 r72 => ?_
      have eF69 := g71.s
      have gF69 := gF36.trans (g71.weak (by simp))
      replace o := g71.own (by simp [*]) o.1 o.2
      replace r_masses := r_masses.up g71.f
      replace r_stretches := r_stretches.up g71.f
      replace s17 := ex_t g71.f s17
      replace a18 := a18.up g71.f
      replace r39 := r39.up g71.f
      replace s67 := g71.f _ _ s67
      replace a68 := a68.up g71.f
      refine ⟨_, rfl, x, C, dx, _, rfl, o.1, cl, n_masses, (by show 0 < 1000; decide), ?_⟩
      have g74 := gF69.putIn (o := .ins C dx (putF "_masses" v73 [])) (by simp) o.1 o.2
      replace o : (upd H70 x (.ins C dx (putF "_masses" v73 []))) x = some (.ins C dx (putF "_masses" v73 [])) ∧ F69 x = none := ⟨upd_same, o.2⟩
      have e75 := g74.s
      refine ⟨_, rfl, ?_⟩
      obtain ⟨p76, xs77, rfl, s78, a79⟩ := dp_tup r_stretches
      refine ⟨_, rfl, ⟨_, (ex_t e75 s78)⟩, ?_⟩
      obtain ⟨h99, k⟩ := post_guard k
      refine lc_map (K := K) (M := []) (wlk_tup e75 s78 a79) (e3 PyData.int PyData.int PyData.int) (post_noEx' k) e75 h99 (fun _ _ => by simp) (fun x82 v97 F90 H91 F92 H93 g94 g95 r96 Q' k80 => ?_) (fun _ z => z) (fun b81 v83 F84 H85 g86 r87 k => ?_) (gm_tup (gms_cons gm_name (gms_cons gm_name (gms_cons gm_name gms_nil))))
      · have g100 := Gm.refl (M := []) g94.s
        replace o := g94.own (by simp [*]) o.1 o.2
        replace r_masses := r_masses.up g94.f
        replace r_stretches := r_stretches.up g94.f
        replace s17 := ex_t g94.f s17
        replace a18 := a18.up g94.f
        replace r39 := r39.up g94.f
        replace s67 := g94.f _ _ s67
        replace a68 := a68.up g94.f
        replace r72 := r72.up g94.f
        replace s78 := ex_t g94.f s78
        replace a79 := a79.up g94.f
        replace o := g95.own (by simp [*]) o.1 o.2
        replace r_masses := r_masses.up g95.f
        replace r_stretches := r_stretches.up g95.f
        replace s17 := ex_t g95.f s17
        replace a18 := a18.up g95.f
        replace r39 := r39.up g95.f
        replace s67 := g95.f _ _ s67
        replace a68 := a68.up g95.f
        replace r72 := r72.up g95.f
        replace s78 := ex_t g95.f s78
        replace a79 := a79.up g95.f
        have eF92 := g95.s
        have gF92 := g100.trans (g95.weak (by simp))
        obtain ⟨p101, x102, x103, x104, rfl, s105, d106, d107, d108⟩ := dp_tup3 r96
        obtain rfl := dp_int d106
        obtain rfl := dp_int d107
        obtain rfl := dp_int d108
        refine ⟨_, _, rfl, ex_t eF92 s105, rfl, _, _, rfl, _, _, rfl, _, _, rfl, rfl, rfl, _, rfl, _, rfl, _, rfl, ?_⟩
        show _ ∧ _
        refine new_tup (K := K) (M := []) eF92 (.cons (Dq.int x82.1) (.cons (Dq.int x82.2.1) (.cons (Dq.int x82.2.2) .nil))) (by show 3 ≤ 100000; decide) fun v113 F109 H110 g111 r112 => ?_
        have eF109 := g111.s
        have gF109 := gF92.trans (g111.weak (by simp))
        replace o := g111.own (by simp [*]) o.1 o.2
        replace r_masses := r_masses.up g111.f
        replace r_stretches := r_stretches.up g111.f
        replace s17 := ex_t g111.f s17
        replace a18 := a18.up g111.f
        replace r39 := r39.up g111.f
        replace s67 := g111.f _ _ s67
        replace a68 := a68.up g111.f
        replace r72 := r72.up g111.f
        replace s78 := ex_t g111.f s78
        replace a79 := a79.up g111.f
        replace r96 := r96.up g111.f
        replace s105 := ex_t g111.f s105
        replace r112 : Dq K F109 v113 ((e3 PyData.int PyData.int PyData.int) (x82.1, x82.2.1, x82.2.2)) := r112
        exact k80.h _ _ _ gF109 r112
      replace k := post_ok k
      have eF84 := g86.s
      have gF84 := g74.trans (g86.weak (by simp))
      replace o := g86.own (by simp [*]) o.1 o.2
      replace r_masses := r_masses.up g86.f
      replace r_stretches := r_stretches.up g86.f
      replace s17 := ex_t g86.f s17
      replace a18 := a18.up g86.f
      replace r39 := r39.up g86.f
      replace s67 := g86.f _ _ s67
      replace a68 := a68.up g86.f
      replace r72 := r72.up g86.f
      replace s78 := ex_t g86.f s78
      replace a79 := a79.up g86.f
      obtain ⟨p115, xs116, rfl, s117, a118⟩ := dp_lst r87
      refine to_VL (K := K) (M := []) eF84 s117 a118 (en := (e3 PyData.int PyData.int PyData.int)) (l := b81) fun v123 F119 H120 g121 r122 => ?_
      have eF119 := g121.s
      have gF119 := gF84.trans (g121.weak (by simp))
      replace o := g121.own (by simp [*]) o.1 o.2
      replace r_masses := r_masses.up g121.f
      replace r_stretches := r_stretches.up g121.f
      replace s17 := ex_t g121.f s17
      replace a18 := a18.up g121.f
      replace r39 := r39.up g121.f
      replace s67 := g121.f _ _ s67
      replace a68 := a68.up g121.f
      replace r72 := r72.up g121.f
      replace s78 := ex_t g121.f s78
      replace a79 := a79.up g121.f
      replace r87 := r87.up g121.f
      replace s117 := g121.f _ _ s117
      replace a118 := a118.up g121.f
      refine ⟨_, rfl, x, C, dx, _, rfl, o.1, cl, n_stretches, (by show 1 < 1000; decide), ?_⟩
      have g124 := gF119.putIn (o := .ins C dx (putF "_stretches" v123 (putF "_masses" v73 []))) (by simp) o.1 o.2
      replace o : (upd H120 x (.ins C dx (putF "_stretches" v123 (putF "_masses" v73 [])))) x = some (.ins C dx (putF "_stretches" v123 (putF "_masses" v73 []))) ∧ F119 x = none := ⟨upd_same, o.2⟩
      have e125 := g124.s
      exact k.h _ _ _ _ g124 o.1 o.2 r72 r122
/-! ### checksum -/
abbrev s_checksum : Stmt := top 21
theorem sc_checksum : FnScope ["items", "check", "item"] ["items"] (defScope s_checksum) := ⟨rfl, rfl, rfl, by decide +kernel, rfl, by decide +kernel, by decide +kernel⟩
def checksum (items : (List Int)) : Mm Int := (foldM (fun (b5 : Int) (x6 : Int) => (mulM (29 : Int) b5).bd fun m24 => (modM (m24 + x6) (199 : Int)).bd fun m27 => Mm.ok m27) (7 : Int) items).bd fun b22 => Mm.ok b22
def sp_checksum (K : PySem.W.Frag) : Sp := fun vs H Q E => ∃ (F : Hp) (v_items : V) (items : (List Int)), vs = [v_items] ∧ Ex F H ∧ Dq K F v_items ((eL PyData.int) items) ∧ Post (checksum items) (fun r => Ret [] F H (fun F' _ v => v = V.int r) Q) (fun _ => False)
theorem ok_checksum {P : Program} {w : World} {K : PySem.W.Frag} {mg : Str → Option Value} {base : Heap} {C f : Addr} {fd : FuncData} (B : Bi mg) (FF : FunD K "checksum" "checksum" (defArgs s_checksum) (defBody s_checksum) (defScope s_checksum) [] [] f fd) (c_CHECK_FACTOR : ∃ t, mg "CHECK_FACTOR" = some (.int 29 t)) (c_CHECK_MODULUS : ∃ t, mg "CHECK_MODULUS" = some (.int 199 t)) (c_CHECK_START : ∃ t, mg "CHECK_START" = some (.int 7 t)) : FnOk P w K mg base CX0 1 f fd ["items"] (sp_checksum K) := by
  refine FF.ok sc_checksum (fun vs H Q E h => ?_) (fun cdv A outer s H vs Q E hr h => ?_)
  · obtain ⟨F, v_items, items, rfl, _⟩ := h; rfl
  · obtain ⟨F, v_items, items, rfl, e, r_items, k⟩ := h
    unfold checksum at k
    have g_ := Gm.refl (M := []) e
    refine ⟨_, PSs.nox (pss_cons (ps_set (i := 1) sc_checksum.nd rfl (Or.inl rfl) (pe_gint c_CHECK_START)) (pss_cons (ps_for PassesOwn.never rfl (pi_list (pv 0)) (pg_name (i := 2) sc_checksum.nd rfl (Or.inl rfl)) (pss_one (ps_set (i := 1) sc_checksum.nd rfl (Or.inl rfl) (pe_op op_modM (pe_op op_add (pe_op op_mulM (pe_gint c_CHECK_FACTOR) (pv 1)) (pv 2)) (pe_gint c_CHECK_MODULUS))))) (pss_one (ps_ret (pv 1))))), ?_⟩
    refine ⟨_, rfl, ?_⟩
    obtain ⟨p1, xs2, rfl, s3, a4⟩ := dp_lst r_items
    refine ⟨_, rfl, ⟨_, (sq_of (e _ _ s3))⟩, ?_⟩
    refine for_m (M := []) (F := F) (wlk_list e s3 a4) (fun b5 F' H' σ' => ∃ (u2 : Option V), σ' = [some (V.ref p1), some (V.int b5), u2]) k e ⟨_, rfl⟩ (fun b5 x6 v14 σ16 F7 H8 F9 H10 g11 i15 g12 r13 nx kfb5 => ?_) (fun b22 σ21 F17 H18 g19 i20 k => ?_)
    · replace r_items := r_items.up g11.f
      replace s3 := g11.f _ _ s3
      replace a4 := a4.up g11.f
      obtain ⟨u23, rfl⟩ := i15
      replace r_items := r_items.up g12.f
      replace s3 := g12.f _ _ s3
      replace a4 := a4.up g12.f
      have eF9 := g12.s
      have gF9 := g11.trans (g12.weak (by simp))
      obtain rfl := dp_int r13
      refine ⟨_, rfl, ?_⟩
      obtain ⟨m24, c25, q26, kfb5⟩ := post_mul kfb5
      refine ⟨_, _, _, rfl, rfl, c25, q26, _, rfl, _, _, rfl, rfl, ?_⟩
      obtain ⟨m27, c28, q29, kfb5⟩ := post_mod kfb5
      refine ⟨_, _, _, rfl, rfl, c28, q29, ?_⟩
      exact kfb5.h _ _ _ gF9 ⟨_, rfl⟩
    have g30 := g_.trans (g19.weak (by simp))
    replace r_items := r_items.up g19.f
    replace s3 := g19.f _ _ s3
    replace a4 := a4.up g19.f
    have eF17 := g19.s
    obtain ⟨u31, rfl⟩ := i20
    refine ⟨_, rfl, ?_⟩
    exact k.h _ _ _ g30 rfl
/-! ### checksum#d -/
abbrev s_checksum_d : Stmt := top 21
theorem sc_checksum_d : FnScope ["items", "check", "item"] ["items"] (defScope s_checksum_d) := ⟨rfl, rfl, rfl, by decide +kernel, rfl, by decide +kernel, by decide +kernel⟩
def checksum_d (items : (List PyData)) : Mm Int := (foldM (fun (b5 : Int) (x6 : PyData) => (mulM (29 : Int) b5).bd fun m24 => (asI x6).bd fun i27 => (modM (m24 + i27) (199 : Int)).bd fun m30 => Mm.ok m30) (7 : Int) items).bd fun b22 => Mm.ok b22
def sp_checksum_d (K : PySem.W.Frag) : Sp := fun vs H Q E => ∃ (F : Hp) (v_items : V) (items : (List PyData)), vs = [v_items] ∧ Ex F H ∧ Dq K F v_items ((eL id) items) ∧ Post (checksum_d items) (fun r => Ret [] F H (fun F' _ v => v = V.int r) Q) (fun _ => False)
theorem ok_checksum_d {P : Program} {w : World} {K : PySem.W.Frag} {mg : Str → Option Value} {base : Heap} {C f : Addr} {fd : FuncData} (B : Bi mg) (FF : FunD K "checksum" "checksum" (defArgs s_checksum_d) (defBody s_checksum_d) (defScope s_checksum_d) [] [] f fd) (c_CHECK_FACTOR : ∃ t, mg "CHECK_FACTOR" = some (.int 29 t)) (c_CHECK_MODULUS : ∃ t, mg "CHECK_MODULUS" = some (.int 199 t)) (c_CHECK_START : ∃ t, mg "CHECK_START" = some (.int 7 t)) : FnOk P w K mg base CX0 1 f fd ["items"] (sp_checksum_d K) := by
  refine FF.ok sc_checksum_d (fun vs H Q E h => ?_) (fun cdv A outer s H vs Q E hr h => ?_)
  · obtain ⟨F, v_items, items, rfl, _⟩ := h; rfl
  · obtain ⟨F, v_items, items, rfl, e, r_items, k⟩ := h
    unfold checksum_d at k
    have g_ := Gm.refl (M := []) e
    refine ⟨_, PSs.nox (pss_cons (ps_set (i := 1) sc_checksum_d.nd rfl (Or.inl rfl) (pe_gint c_CHECK_START)) (pss_cons (ps_for PassesOwn.never rfl (pi_list (pv 0)) (pg_name (i := 2) sc_checksum_d.nd rfl (Or.inl rfl)) (pss_one (ps_set (i := 1) sc_checksum_d.nd rfl (Or.inl rfl) (pe_op op_modM (pe_op op_add (pe_op op_mulM (pe_gint c_CHECK_FACTOR) (pv 1)) (pv 2)) (pe_gint c_CHECK_MODULUS))))) (pss_one (ps_ret (pv 1))))), ?_⟩
    refine ⟨_, rfl, ?_⟩
    obtain ⟨p1, xs2, rfl, s3, a4⟩ := dp_lst r_items
    refine ⟨_, rfl, ⟨_, (sq_of (e _ _ s3))⟩, ?_⟩
    refine for_m (M := []) (F := F) (wlk_list e s3 a4) (fun b5 F' H' σ' => ∃ (u2 : Option V), σ' = [some (V.ref p1), some (V.int b5), u2]) k e ⟨_, rfl⟩ (fun b5 x6 v14 σ16 F7 H8 F9 H10 g11 i15 g12 r13 nx kfb5 => ?_) (fun b22 σ21 F17 H18 g19 i20 k => ?_)
    · replace r_items := r_items.up g11.f
      replace s3 := g11.f _ _ s3
      replace a4 := a4.up g11.f
      obtain ⟨u23, rfl⟩ := i15
      replace r_items := r_items.up g12.f
      replace s3 := g12.f _ _ s3
      replace a4 := a4.up g12.f
      have eF9 := g12.s
      have gF9 := g11.trans (g12.weak (by simp))
      refine ⟨_, rfl, ?_⟩
      obtain ⟨m24, c25, q26, kfb5⟩ := post_mul kfb5
      refine ⟨_, _, _, rfl, rfl, c25, q26, _, rfl, ?_⟩
      obtain ⟨i27, h28, kfb5⟩ := post_asI kfb5
      have r29 : Dq K F9 v14 (PyData.int i27) := by have z := r13; rw [h28] at z; exact z
      obtain rfl := dp_int r29
      refine ⟨_, _, rfl, rfl, ?_⟩
      obtain ⟨m30, c31, q32, kfb5⟩ := post_mod kfb5
      refine ⟨_, _, _, rfl, rfl, c31, q32, ?_⟩
      exact kfb5.h _ _ _ gF9 ⟨_, rfl⟩
    have g33 := g_.trans (g19.weak (by simp))
    replace r_items := r_items.up g19.f
    replace s3 := g19.f _ _ s3
    replace a4 := a4.up g19.f
    have eF17 := g19.s
    obtain ⟨u34, rfl⟩ := i20
    refine ⟨_, rfl, ?_⟩
    exact k.h _ _ _ g33 rfl
/-! ### encode_weighting -/
abbrev s_encode_weighting : Stmt := top 22
theorem sc_encode_weighting : FnScope ["weighting", "items", "place", "mass", "low", "high", "height"] ["weighting"] (defScope s_encode_weighting) := ⟨rfl, rfl, rfl, by decide +kernel, rfl, by decide +kernel, by decide +kernel⟩
def encode_weighting (weighting : Wt) : Mm (List Int) := (foldM (fun (b23 : (List Int)) (x24 : (Int × Int)) => (guardM (b23.length + [(x24.1 + (20 : Int)), x24.2].length ≤ 100000)).bd fun _ => Mm.ok (b23 ++ [(x24.1 + (20 : Int)), x24.2])) [(113 : Int), (weighting.1.length : Int), (weighting.2.length : Int)] weighting.1).bd fun b40 => (foldM (fun (b77 : (List Int)) (x78 : (Int × Int × Int)) => (guardM (b77.length + [(x78.1 + (20 : Int)), (x78.2.1 + (20 : Int)), x78.2.2].length ≤ 100000)).bd fun _ => Mm.ok (b77 ++ [(x78.1 + (20 : Int)), (x78.2.1 + (20 : Int)), x78.2.2])) b40 weighting.2).bd fun b94 => (checksum (b94)).bd fun b136 => (guardM (b94.length < 100000)).bd fun _ => Mm.ok (b94 ++ [b136])
def sp_encode_weighting (K : PySem.W.Frag) (C : Addr) : Sp := fun vs H Q E => ∃ (F : Hp) (v_weighting : V) (weighting : Wt), vs = [v_weighting] ∧ Ex F H ∧ IsW K C F v_weighting weighting ∧ Post (encode_weighting weighting) (fun r => Ret [] F H (fun F' _ v => Dq K F' v ((eL PyData.int) r)) Q) (fun _ => False)
theorem ok_encode_weighting {P : Program} {w : World} {K : PySem.W.Frag} {mg : Str → Option Value} {base : Heap} {C f : Addr} {fd : FuncData} (B : Bi mg) (FF : FunD K "encode_weighting" "encode_weighting" (defArgs s_encode_weighting) (defBody s_encode_weighting) (defScope s_encode_weighting) [] [] f fd) (G_checksum : Kn P w K mg base "checksum" 1 ["items"] (sp_checksum K)) (c_FARTHEST : ∃ t, mg "FARTHEST" = some (.int 20 t)) (c_MARK : ∃ t, mg "MARK" = some (.int 113 t)) (GP_masses : KnP P w K mg base C "masses" "_masses") (GP_stretches : KnP P w K mg base C "stretches" "_stretches") : FnOk P w K mg base CX0 3 f fd ["weighting"] (sp_encode_weighting K C) := by
  refine FF.ok sc_encode_weighting (fun vs H Q E h => ?_) (fun cdv A outer s H vs Q E hr h => ?_)
  · obtain ⟨F, v_weighting, weighting, rfl, _⟩ := h; rfl
  · obtain ⟨F, v_weighting, weighting, rfl, e, r_weighting, k⟩ := h
    unfold encode_weighting at k
    have g_ := Gm.refl (M := []) e
    refine ⟨_, PSs.nox (pss_cons (ps_set (i := 1) sc_encode_weighting.nd rfl (Or.inl rfl) (pe_q (pe_lst (pa_cons (pe_gint c_MARK) (pa_cons (pe_callB call_lenM (by rfl) B.len (by decide +kernel) (pa_cons (pe_propK GP_masses (hr.mono (by decide)) (pv 0)) pa_nil)) (pa_cons (pe_callB call_lenM (by rfl) B.len (by decide +kernel) (pa_cons (pe_propK GP_stretches (hr.mono (by decide)) (pv 0)) pa_nil)) (pa_nil))))))) (pss_cons (ps_for PassesOwn.never rfl (pi_tup (pe_propK GP_masses (hr.mono (by decide)) (pv 0))) (pg_tup (by rfl) (pgs_cons (pg_name (i := 2) sc_encode_weighting.nd rfl (Or.inl rfl)) (pgs_cons (pg_name (i := 3) sc_encode_weighting.nd rfl (Or.inl rfl)) (pgs_nil)))) (pss_one (ps_expr (pe_bm PySem.F.plainAttrs_list PySem.F.slot_list_extend PySem.F.type_list_extend mt_extend (pv 1) (pa_cons (pe_q (pe_lst (pa_cons (pe_op op_add (pv 2) (pe_gint c_FARTHEST)) (pa_cons (pv 3) (pa_nil))))) pa_nil))))) (pss_cons (ps_for PassesOwn.never rfl (pi_tup (pe_propK GP_stretches (hr.mono (by decide)) (pv 0))) (pg_tup (by rfl) (pgs_cons (pg_name (i := 4) sc_encode_weighting.nd rfl (Or.inl rfl)) (pgs_cons (pg_name (i := 5) sc_encode_weighting.nd rfl (Or.inl rfl)) (pgs_cons (pg_name (i := 6) sc_encode_weighting.nd rfl (Or.inl rfl)) (pgs_nil))))) (pss_one (ps_expr (pe_bm PySem.F.plainAttrs_list PySem.F.slot_list_extend PySem.F.type_list_extend mt_extend (pv 1) (pa_cons (pe_q (pe_lst (pa_cons (pe_op op_add (pv 4) (pe_gint c_FARTHEST)) (pa_cons (pe_op op_add (pv 5) (pe_gint c_FARTHEST)) (pa_cons (pv 6) (pa_nil)))))) pa_nil))))) (pss_cons (ps_expr (pe_bm PySem.F.plainAttrs_list PySem.F.slot_list_append PySem.F.type_list_append mt_append (pv 1) (pa_cons (pe_kn G_checksum (hr.mono (by decide)) (pa_cons (pv 1) (pa_nil))) pa_nil))) (pss_one (ps_ret (pv 1))))))), ?_⟩
    refine ⟨_, rfl, ?_⟩
    obtain ⟨a1, dx2, m3, t4, rfl, h5, r6, r7⟩ := r_weighting.ex
    refine ⟨_, _, _, rfl, e _ _ h5, _, _, _, _, rfl, e _ _ h5, wf_m _ _, ?_⟩
    obtain ⟨p8, xs9, rfl, s10, a11⟩ := dp_tup r6
    refine ⟨_, _, _, rfl, .inr (ex_t e s10), len_all a11, _, rfl, ?_⟩
    refine ⟨_, _, _, rfl, e _ _ h5, _, _, _, _, rfl, e _ _ h5, wf_s _ _, ?_⟩
    obtain ⟨p12, xs13, rfl, s14, a15⟩ := dp_tup r7
    refine ⟨_, _, _, rfl, .inr (ex_t e s14), len_all a15, ?_⟩
    show _ ∧ _
    refine new_own (K := K) e (.cons (Dq.int (113 : Int)) (.cons (Dq.int (weighting.1.length : Int)) (.cons (Dq.int (weighting.2.length : Int)) .nil))) (by show 3 ≤ 100000; decide) fun p16 H17 g18 y19 o20 => ?_
    have a21 : DqAll K F [(V.int 113), (V.int (weighting.1.length : Int)), (V.int (weighting.2.length : Int))] (List.map PyData.int [(113 : Int), (weighting.1.length : Int), (weighting.2.length : Int)]) := (.cons (Dq.int (113 : Int)) (.cons (Dq.int (weighting.1.length : Int)) (.cons (Dq.int (weighting.2.length : Int)) .nil)))
    have zp16 := g_.fresh y19
    have eH17 := g18.s
    have gH17 := g_.trans (g18.weak (by simp))
    refine ⟨_, rfl, ?_⟩
    refine ⟨_, _, _, rfl, eH17 _ _ h5, _, _, _, _, rfl, eH17 _ _ h5, wf_m _ _, ?_⟩
    refine ⟨_, rfl, ⟨_, (ex_t eH17 s10)⟩, ?_⟩
    refine for_m (M := [p16]) (F := F) (wlk_tup eH17 s10 a11) (fun b23 F' H' σ' => ∃ (u2 : Option V) (u3 : Option V) (u4 : Option V) (u5 : Option V) (u6 : Option V) (xs1 : List V), σ' = [some (V.ref a1), some (V.ref p16), u2, u3, u4, u5, u6] ∧ (H' p16 = some (.lst xs1) ∧ F' p16 = none) ∧ DqAll K F' xs1 (List.map PyData.int b23)) k eH17 ⟨_, _, _, _, _, _, rfl, o20, a21⟩ (fun b23 x24 v32 σ34 F25 H26 F27 H28 g29 i33 g30 r31 nx kfb23 => ?_) (fun b40 σ39 F35 H36 g37 i38 k => ?_)
    · replace r_weighting := r_weighting.up g29.f
      replace h5 := g29.f _ _ h5
      replace r6 := r6.up g29.f
      replace r7 := r7.up g29.f
      replace s10 := ex_t g29.f s10
      replace a11 := a11.up g29.f
      replace s14 := ex_t g29.f s14
      replace a15 := a15.up g29.f
      obtain ⟨u41, u42, u43, u44, u45, xs46, rfl, o47, a48⟩ := i33
      replace r_weighting := r_weighting.up g30.f
      replace h5 := g30.f _ _ h5
      replace r6 := r6.up g30.f
      replace r7 := r7.up g30.f
      replace s10 := ex_t g30.f s10
      replace a11 := a11.up g30.f
      replace s14 := ex_t g30.f s14
      replace a15 := a15.up g30.f
      replace o47 := g30.own (by simp [*]) o47.1 o47.2
      replace a48 := a48.up g30.f
      have eF27 := g30.s
      have gF27 := g29.trans (g30.weak (by simp))
      obtain ⟨p49, x50, x51, rfl, s52, d53, d54⟩ := dp_tup2 r31
      obtain rfl := dp_int d53
      obtain rfl := dp_int d54
      refine ⟨_, _, rfl, ex_t eF27 s52, rfl, _, _, rfl, _, _, rfl, rfl, ?_⟩
      refine ⟨_, rfl, .inl ⟨rfl, _, sq_of o47.1⟩, _, rfl, _, _, rfl, rfl, _, rfl, ?_⟩
      show _ ∧ _
      refine new_lst (K := K) (M := []) eF27 (.cons (Dq.int (x24.1 + (20 : Int))) (.cons (Dq.int x24.2) .nil)) (by show 2 ≤ 100000; decide) fun v59 F55 H56 g57 r58 => ?_
      have eF55 := g57.s
      have gF55 := gF27.trans (g57.weak (by simp))
      replace r_weighting := r_weighting.up g57.f
      replace h5 := g57.f _ _ h5
      replace r6 := r6.up g57.f
      replace r7 := r7.up g57.f
      replace s10 := ex_t g57.f s10
      replace a11 := a11.up g57.f
      replace s14 := ex_t g57.f s14
      replace a15 := a15.up g57.f
      replace o47 := g57.own (by simp [*]) o47.1 o47.2
      replace a48 := a48.up g57.f
      replace r31 := r31.up g57.f
      replace s52 := ex_t g57.f s52
      replace r58 : Dq K F55 v59 ((eL PyData.int) [(x24.1 + (20 : Int)), x24.2]) := r58
      obtain ⟨p60, xs61, rfl, s62, a63⟩ := dp_lst r58
      obtain ⟨h64, kfb23⟩ := post_guard kfb23
      refine ⟨_, _, _, _, rfl, rfl, o47.1, eF55 _ _ s62, cat_len a48 a63 h64, ?_⟩
      have g65 := gF55.putOr (o := (.lst (xs46 ++ xs61))) (.inl (by simp)) o47.1 o47.2
      replace o47 : (upd H56 p16 (.lst (xs46 ++ xs61))) p16 = some (.lst (xs46 ++ xs61)) ∧ F55 p16 = none := ⟨upd_same, o47.2⟩
      replace a48 : DqAll K F55 (xs46 ++ xs61) (List.map PyData.int (b23 ++ [(x24.1 + (20 : Int)), x24.2])) := by rw [List.map_append]; exact a48.app a63
      have e66 := g65.s
      exact kfb23.h _ _ _ g65 ⟨_, _, _, _, _, _, rfl, o47, a48⟩
    have hy68 : ∀ q ∈ [p16], q ∈ [] ∨ H q = none := by intro q hq; simp only [List.mem_cons, List.not_mem_nil, or_false] at hq; rcases hq with rfl; exact (.inr zp16)
    have g67 := Gm.outs [p16] hy68 gH17 (g37.weak (by simp))
    replace r_weighting := r_weighting.up g37.f
    replace h5 := g37.f _ _ h5
    replace r6 := r6.up g37.f
    replace r7 := r7.up g37.f
    replace s10 := ex_t g37.f s10
    replace a11 := a11.up g37.f
    replace s14 := ex_t g37.f s14
    replace a15 := a15.up g37.f
    have eF35 := g37.s
    obtain ⟨u69, u70, u71, u72, u73, xs74, rfl, o75, a76⟩ := i38
    refine ⟨_, rfl, ?_⟩
    refine ⟨_, _, _, rfl, eF35 _ _ h5, _, _, _, _, rfl, eF35 _ _ h5, wf_s _ _, ?_⟩
    refine ⟨_, rfl, ⟨_, (ex_t eF35 s14)⟩, ?_⟩
    refine for_m (M := [p16]) (F := F35) (wlk_tup eF35 s14 a15) (fun b77 F' H' σ' => ∃ (u2 : Option V) (u3 : Option V) (u4 : Option V) (u5 : Option V) (u6 : Option V) (xs1 : List V), σ' = [some (V.ref a1), some (V.ref p16), u2, u3, u4, u5, u6] ∧ (H' p16 = some (.lst xs1) ∧ F' p16 = none) ∧ DqAll K F' xs1 (List.map PyData.int b77)) k eF35 ⟨_, _, _, _, _, _, rfl, o75, a76⟩ (fun b77 x78 v86 σ88 F79 H80 F81 H82 g83 i87 g84 r85 nx kfb77 => ?_) (fun b94 σ93 F89 H90 g91 i92 k => ?_)
    · replace r_weighting := r_weighting.up g83.f
      replace h5 := g83.f _ _ h5
      replace r6 := r6.up g83.f
      replace r7 := r7.up g83.f
      replace s10 := ex_t g83.f s10
      replace a11 := a11.up g83.f
      replace s14 := ex_t g83.f s14
      replace a15 := a15.up g83.f
      obtain ⟨u95, u96, u97, u98, u99, xs100, rfl, o101, a102⟩ := i87
      replace r_weighting := r_weighting.up g84.f
      replace h5 := g84.f _ _ h5
      replace r6 := r6.up g84.f
      replace r7 := r7.up g84.f
      replace s10 := ex_t g84.f s10
      replace a11 := a11.up g84.f
      replace s14 := ex_t g84.f s14
      replace a15 := a15.up g84.f
      replace o101 := g84.own (by simp [*]) o101.1 o101.2
      replace a102 := a102.up g84.f
      have eF81 := g84.s
      have gF81 := g83.trans (g84.weak (by simp))
      obtain ⟨p103, x104, x105, x106, rfl, s107, d108, d109, d110⟩ := dp_tup3 r85
      obtain rfl := dp_int d108
      obtain rfl := dp_int d109
      obtain rfl := dp_int d110
      refine ⟨_, _, rfl, ex_t eF81 s107, rfl, _, _, rfl, _, _, rfl, _, _, rfl, rfl, ?_⟩
      refine ⟨_, rfl, .inl ⟨rfl, _, sq_of o101.1⟩, _, rfl, _, _, rfl, rfl, _, rfl, _, _, rfl, rfl, _, rfl, ?_⟩
      show _ ∧ _
      refine new_lst (K := K) (M := []) eF81 (.cons (Dq.int (x78.1 + (20 : Int))) (.cons (Dq.int (x78.2.1 + (20 : Int))) (.cons (Dq.int x78.2.2) .nil))) (by show 3 ≤ 100000; decide) fun v115 F111 H112 g113 r114 => ?_
      have eF111 := g113.s
      have gF111 := gF81.trans (g113.weak (by simp))
      replace r_weighting := r_weighting.up g113.f
      replace h5 := g113.f _ _ h5
      replace r6 := r6.up g113.f
      replace r7 := r7.up g113.f
      replace s10 := ex_t g113.f s10
      replace a11 := a11.up g113.f
      replace s14 := ex_t g113.f s14
      replace a15 := a15.up g113.f
      replace o101 := g113.own (by simp [*]) o101.1 o101.2
      replace a102 := a102.up g113.f
      replace r85 := r85.up g113.f
      replace s107 := ex_t g113.f s107
      replace r114 : Dq K F111 v115 ((eL PyData.int) [(x78.1 + (20 : Int)), (x78.2.1 + (20 : Int)), x78.2.2]) := r114
      obtain ⟨p116, xs117, rfl, s118, a119⟩ := dp_lst r114
      obtain ⟨h120, kfb77⟩ := post_guard kfb77
      refine ⟨_, _, _, _, rfl, rfl, o101.1, eF111 _ _ s118, cat_len a102 a119 h120, ?_⟩
      have g121 := gF111.putOr (o := (.lst (xs100 ++ xs117))) (.inl (by simp)) o101.1 o101.2
      replace o101 : (upd H112 p16 (.lst (xs100 ++ xs117))) p16 = some (.lst (xs100 ++ xs117)) ∧ F111 p16 = none := ⟨upd_same, o101.2⟩
      replace a102 : DqAll K F111 (xs100 ++ xs117) (List.map PyData.int (b77 ++ [(x78.1 + (20 : Int)), (x78.2.1 + (20 : Int)), x78.2.2])) := by rw [List.map_append]; exact a102.app a119
      have e122 := g121.s
      exact kfb77.h _ _ _ g121 ⟨_, _, _, _, _, _, rfl, o101, a102⟩
    have hy124 : ∀ q ∈ [p16], q ∈ [] ∨ H q = none := by intro q hq; simp only [List.mem_cons, List.not_mem_nil, or_false] at hq; rcases hq with rfl; exact (.inr zp16)
    have g123 := Gm.outs [p16] hy124 g67 (g91.weak (by simp))
    replace r_weighting := r_weighting.up g91.f
    replace h5 := g91.f _ _ h5
    replace r6 := r6.up g91.f
    replace r7 := r7.up g91.f
    replace s10 := ex_t g91.f s10
    replace a11 := a11.up g91.f
    replace s14 := ex_t g91.f s14
    replace a15 := a15.up g91.f
    have eF89 := g91.s
    obtain ⟨u125, u126, u127, u128, u129, xs130, rfl, o131, a132⟩ := i92
    refine ⟨_, rfl, .inl ⟨rfl, _, sq_of o131.1⟩, _, rfl, ?_⟩
    have e133 : Ex (upd F89 p16 (.lst xs130)) H90 := ex_fix eF89 o131.1
    have u134 : Ex F89 (upd F89 p16 (.lst xs130)) := Ex.new o131.2
    have r135 : Dq K (upd F89 p16 (.lst xs130)) (.ref p16) (eL PyData.int b94) := .lst upd_same (a132.up u134)
    refine ⟨(upd F89 p16 (.lst xs130)), _, b94, rfl, e133, r135, (post_bd k).mono (fun b136 k v141 F137 H138 g139 r140 => ?_) (fun _ z => z)⟩
    replace g139 := Gm.lend eF89 g139
    have eH138 := g139.s
    have gH138 := g123.trans (g139.weak (by simp))
    replace o131 := g139.own (by simp [*]) o131.1 o131.2
    subst r140
    obtain ⟨h143, k⟩ := post_guard k
    refine ⟨_, _, _, rfl, rfl, o131.1, own_sz a132 h143, ?_⟩
    have g144 := gH138.putOr (o := .lst (xs130 ++ [(V.int b136)])) (.inr zp16) o131.1 o131.2
    replace o131 : (upd H138 p16 (.lst (xs130 ++ [(V.int b136)]))) p16 = some (.lst (xs130 ++ [(V.int b136)])) ∧ F89 p16 = none := ⟨upd_same, o131.2⟩
    replace a132 : DqAll K F89 (xs130 ++ [(V.int b136)]) (List.map PyData.int (b94 ++ [b136])) := by rw [List.map_append]; exact a132.app (.cons (Dq.int b136) .nil)
    have e145 := g144.s
    refine ⟨_, rfl, ?_⟩
    have g146 := g144.fix o131.1 o131.2 zp16
    have ur147 : Ex F89 (upd F89 p16 (.lst (xs130 ++ [(V.int b136)]))) := Ex.new o131.2
    have r147 : Dq K (upd F89 p16 (.lst (xs130 ++ [(V.int b136)]))) (.ref p16) (eL PyData.int (b94 ++ [b136])) := .lst upd_same (a132.up ur147)
    have s149 : (upd F89 p16 (.lst (xs130 ++ [(V.int b136)]))) p16 = some (.lst (xs130 ++ [(V.int b136)])) := upd_same
    have a150 := a132.up ur147
    replace r_weighting := r_weighting.up ur147
    replace h5 := ur147 _ _ h5
    replace r6 := r6.up ur147
    replace r7 := r7.up ur147
    replace s10 := ex_t ur147 s10
    replace a11 := a11.up ur147
    replace s14 := ex_t ur147 s14
    replace a15 := a15.up ur147
    have e151 := g146.s
    exact k.h _ _ _ g146 r147
/-! ### item_at -/
abbrev s_item_at : Stmt := top 23
theorem sc_item_at : FnScope ["values", "offset", "low", "high"] ["values", "offset", "low", "high"] (defScope s_item_at) := ⟨rfl, rfl, rfl, by decide +kernel, rfl, by decide +kernel, by decide +kernel⟩
def item_at (values : (List PyData)) (offset : Int) (low : Int) (high : Int) : Mm PyData := (cond (decide (offset = (values.length : Int))) (Mm.ok true) ((getM values offset).bd fun i9 => (noEx (whole_within_d (i9) (low) (high))).bd fun b14 => Mm.ok (!b14))).bd fun b5 => cond b5 ((guardM (offset.natAbs < 18446744073709551616)).bd fun _ => Mm.ex ⟨9, [offset]⟩) ((getM values offset).bd fun i25 => Mm.ok i25)
def sp_item_at (K : PySem.W.Frag) : Sp := fun vs H Q E => ∃ (F : Hp) (v_values : V) (values : (List PyData)) (offset : Int) (low : Int) (high : Int), vs = [v_values, (V.int offset), (V.int low), (V.int high)] ∧ Ex F H ∧ Dq K F v_values ((eL id) values) ∧ Post (item_at values offset low high) (fun r => Ret [] F H (fun F' _ v => Dq K F' v (id r)) Q) (fun e_ => RetX [] K F H e_ E)
theorem ok_item_at {P : Program} {w : World} {K : PySem.W.Frag} {mg : Str → Option Value} {base : Heap} {C f : Addr} {fd : FuncData} (B : Bi mg) (FF : FunD K "item_at" "item_at" (defArgs s_item_at) (defBody s_item_at) (defScope s_item_at) [] [] f fd) (G_whole_within_d : Kn P w K mg base "whole_within" 1 ["number", "low", "high"] (sp_whole_within_d K)) (GX_DecodeError : KnX P w K mg base "DecodeError" 1 ["self", "offset"] (spI1 (He.ga K "DecodeError") "offset")) : FnOk P w K mg base (L2.CX P w) 3 f fd ["values", "offset", "low", "high"] (sp_item_at K) := by
  refine FF.ok sc_item_at (fun vs H Q E h => ?_) (fun cdv A outer s H vs Q E hr h => ?_)
  · obtain ⟨F, v_values, values, offset, low, high, rfl, _⟩ := h; rfl
  · obtain ⟨F, v_values, values, offset, low, high, rfl, e, r_values, k⟩ := h
    unfold item_at at k
    have g_ := Gm.refl (M := []) e
    refine ⟨_, (pss_cons (ps_if (PW.pt (pw_or (pt_cmpR op_eq (pv 1) (pe_callB call_lenM (by rfl) B.len (by decide +kernel) (pa_cons (pv 0) pa_nil)) (nomark _)) (pw_or1 (pt_not (pt_val (pe_kn G_whole_within_d (hr.mono (by decide)) (pa_cons (pe_ix (r := rIxL K) ix_list (pv 0) (pv 1) (fun _ _ => rfl)) (pa_cons (pv 2) (pa_cons (pv 3) (pa_nil)))))))))) (pss_one (ps_raiseX GX_DecodeError (hr.mono (by decide)) (takes_of rfl rfl rfl rfl) (pa_cons (pv 1) (pa_nil)))) pss_nil) (pss_one (ps_ret (pe_ix (r := rIxL K) ix_list (pv 0) (pv 1) (fun _ _ => rfl))))), ?_⟩
    refine ⟨_, rfl, _, rfl, ?_⟩
    obtain ⟨p1, xs2, rfl, s3, a4⟩ := dp_lst r_values
    refine ⟨_, _, _, rfl, .inl (sq_of (e _ _ s3)), len_all a4, rfl, ?_⟩
    rw [decV_int]
    refine ⟨_, rfl, ?_⟩
    refine or_jM (M := []) e k (fun _ Q' ktb5 => ?_) (fun b5 F6 H7 g8 k => ?_)
    · have gF_ := Gm.refl (M := []) e
      refine ⟨_, rfl, _, rfl, ?_⟩
      obtain ⟨i9, h10, ktb5⟩ := post_get ktb5
      obtain ⟨v11, h12, r13⟩ := dq_at a4 h10
      refine ⟨_, _, _, _, rfl, rfl, (sq_of (e _ _ s3)), h12, ?_⟩
      refine ⟨_, rfl, _, rfl, ?_⟩
      refine ⟨F, _, i9, low, high, rfl, e, r13, (post_noE ktb5).mono (fun b14 ktb5 v19 F15 H16 g17 r18 => ?_) (fun _ z => z)⟩
      have eF15 := g17.s
      have gF15 := gF_.trans (g17.weak (by simp))
      replace r_values := r_values.up g17.f
      replace s3 := g17.f _ _ s3
      replace a4 := a4.up g17.f
      replace r13 := r13.up g17.f
      subst r18
      refine ⟨_, rfl, ?_⟩
      exact ktb5.h _ _ gF15
    have eF6 := g8.s
    have gF6 := g_.trans (g8.weak (by simp))
    replace r_values := r_values.up g8.f
    replace s3 := g8.f _ _ s3
    replace a4 := a4.up g8.f
    refine cs k (fun _ k => ?_) (fun _ k => ?_)
    · refine ⟨_, rfl, ?_⟩
      obtain ⟨h21, k⟩ := post_guard k
      refine mk1 h21 (fun d22 y23 => ?_)
      have g24 := gF6.trans (Gm.new (o := .xd [("offset", (V.int offset))]) eF6 y23)
      exact k.h _ _ _ _ g24 ⟨rfl, .inr ⟨_, rfl, upd_same⟩⟩
    · refine ⟨_, rfl, _, rfl, ?_⟩
      obtain ⟨i25, h26, k⟩ := post_get k
      obtain ⟨v27, h28, r29⟩ := dq_at a4 h26
      refine ⟨_, _, _, _, rfl, rfl, (sq_of (eF6 _ _ s3)), h28, ?_⟩
      exact k.h _ _ _ gF6 r29
/-! ### place_at -/
abbrev s_place_at : Stmt := top 24
theorem sc_place_at : FnScope ["values", "offset"] ["values", "offset"] (defScope s_place_at) := ⟨rfl, rfl, rfl, by decide +kernel, rfl, by decide +kernel, by decide +kernel⟩
def place_at (values : (List PyData)) (offset : Int) : Mm Int := (mulM (2 : Int) (20 : Int)).bd fun m1 => (item_at (values) (offset) ((0 : Int)) (m1)).bd fun b4 => (asI b4).bd fun i11 => Mm.ok (i11 - (20 : Int))
def sp_place_at (K : PySem.W.Frag) : Sp := fun vs H Q E => ∃ (F : Hp) (v_values : V) (values : (List PyData)) (offset : Int), vs = [v_values, (V.int offset)] ∧ Ex F H ∧ Dq K F v_values ((eL id) values) ∧ Post (place_at values offset) (fun r => Ret [] F H (fun F' _ v => v = V.int r) Q) (fun e_ => RetX [] K F H e_ E)
theorem ok_place_at {P : Program} {w : World} {K : PySem.W.Frag} {mg : Str → Option Value} {base : Heap} {C f : Addr} {fd : FuncData} (B : Bi mg) (FF : FunD K "place_at" "place_at" (defArgs s_place_at) (defBody s_place_at) (defScope s_place_at) [] [] f fd) (G_item_at : Kx P w K mg base "item_at" 3 ["values", "offset", "low", "high"] (sp_item_at K)) (c_FARTHEST : ∃ t, mg "FARTHEST" = some (.int 20 t)) : FnOk P w K mg base (L2.CX P w) 4 f fd ["values", "offset"] (sp_place_at K) := by
  refine FF.ok sc_place_at (fun vs H Q E h => ?_) (fun cdv A outer s H vs Q E hr h => ?_)
  · obtain ⟨F, v_values, values, offset, rfl, _⟩ := h; rfl
  · obtain ⟨F, v_values, values, offset, rfl, e, r_values, k⟩ := h
    unfold place_at at k
    have g_ := Gm.refl (M := []) e
    refine ⟨_, (pss_one (ps_ret (pe_op op_sub (pe_kx G_item_at (hr.mono (by decide)) (takes_of rfl rfl rfl rfl) (pa_cons (pv 0) (pa_cons (pv 1) (pa_cons (pe_int) (pa_cons (pe_op op_mulM (pe_int) (pe_gint c_FARTHEST)) (pa_nil)))))) (pe_gint c_FARTHEST)))), ?_⟩
    refine ⟨_, rfl, _, rfl, ?_⟩
    obtain ⟨m1, c2, q3, k⟩ := post_mul k
    refine ⟨_, _, _, rfl, rfl, c2, q3, ?_⟩
    refine ⟨F, _, values, offset, (0 : Int), m1, rfl, e, r_values, (post_bd k).mono (fun b4 k v9 F5 H6 g7 r8 => ?_) (fun e_ z cls_ d_ F_ H_ g_x x_ => z cls_ d_ F_ H_ (g_.trans (g_x.weak (by simp))) x_)⟩
    have eF5 := g7.s
    have gF5 := g_.trans (g7.weak (by simp))
    replace r_values := r_values.up g7.f
    obtain ⟨i11, h12, k⟩ := post_asI k
    have r13 : Dq K F5 v9 (PyData.int i11) := by have z := r8; rw [h12] at z; exact z
    obtain rfl := dp_int r13
    refine ⟨_, _, rfl, rfl, ?_⟩
    exact k.h _ _ _ gF5 rfl
/-! ### mass_at -/
abbrev s_mass_at : Stmt := top 25
theorem sc_mass_at : FnScope ["values", "offset"] ["values", "offset"] (defScope s_mass_at) := ⟨rfl, rfl, rfl, by decide +kernel, rfl, by decide +kernel, by decide +kernel⟩
def mass_at (values : (List PyData)) (offset : Int) : Mm Int := (item_at (values) (offset) ((1 : Int)) ((20 : Int))).bd fun b1 => (asI b1).bd fun i8 => Mm.ok i8
def sp_mass_at (K : PySem.W.Frag) : Sp := fun vs H Q E => ∃ (F : Hp) (v_values : V) (values : (List PyData)) (offset : Int), vs = [v_values, (V.int offset)] ∧ Ex F H ∧ Dq K F v_values ((eL id) values) ∧ Post (mass_at values offset) (fun r => Ret [] F H (fun F' _ v => v = V.int r) Q) (fun e_ => RetX [] K F H e_ E)
theorem ok_mass_at {P : Program} {w : World} {K : PySem.W.Frag} {mg : Str → Option Value} {base : Heap} {C f : Addr} {fd : FuncData} (B : Bi mg) (FF : FunD K "mass_at" "mass_at" (defArgs s_mass_at) (defBody s_mass_at) (defScope s_mass_at) [] [] f fd) (G_item_at : Kx P w K mg base "item_at" 3 ["values", "offset", "low", "high"] (sp_item_at K)) (c_HEAVIEST : ∃ t, mg "HEAVIEST" = some (.int 20 t)) : FnOk P w K mg base (L2.CX P w) 4 f fd ["values", "offset"] (sp_mass_at K) := by
  refine FF.ok sc_mass_at (fun vs H Q E h => ?_) (fun cdv A outer s H vs Q E hr h => ?_)
  · obtain ⟨F, v_values, values, offset, rfl, _⟩ := h; rfl
  · obtain ⟨F, v_values, values, offset, rfl, e, r_values, k⟩ := h
    unfold mass_at at k
    have g_ := Gm.refl (M := []) e
    refine ⟨_, (pss_one (ps_ret (pe_kx G_item_at (hr.mono (by decide)) (takes_of rfl rfl rfl rfl) (pa_cons (pv 0) (pa_cons (pv 1) (pa_cons (pe_int) (pa_cons (pe_gint c_HEAVIEST) (pa_nil)))))))), ?_⟩
    refine ⟨_, rfl, _, rfl, ?_⟩
    refine ⟨F, _, values, offset, (1 : Int), (20 : Int), rfl, e, r_values, (post_bd k).mono (fun b1 k v6 F2 H3 g4 r5 => ?_) (fun e_ z cls_ d_ F_ H_ g_x x_ => z cls_ d_ F_ H_ (g_.trans (g_x.weak (by simp))) x_)⟩
    have eF2 := g4.s
    have gF2 := g_.trans (g4.weak (by simp))
    replace r_values := r_values.up g4.f
    obtain ⟨i8, h9, k⟩ := post_asI k
    have r10 : Dq K F2 v6 (PyData.int i8) := by have z := r5; rw [h9] at z; exact z
    obtain rfl := dp_int r10
    exact k.h _ _ _ gF2 rfl
/-! ### decode_weighting -/
abbrev s_decode_weighting : Stmt := top 26
theorem sc_decode_weighting : FnScope ["values", "many_masses", "many_stretches", "masses", "stretches", "offset", "_", "check"] ["values"] (defScope s_decode_weighting) := ⟨rfl, rfl, rfl, by decide +kernel, rfl, by decide +kernel, by decide +kernel⟩
def decode_weighting (values : (List PyData)) : Mm Wt := (item_at (values) ((0 : Int)) ((113 : Int)) ((113 : Int))).bd fun b1 => (item_at (values) ((1 : Int)) ((0 : Int)) ((6 : Int))).bd fun b8 => (item_at (values) ((2 : Int)) ((0 : Int)) ((4 : Int))).bd fun b15 => (asI b8).bd fun i36 => (rangeM i36).bd fun l40 => (foldM (fun (b41 : (Int × (List (Int × Int)))) (x42 : Int) => (place_at (values) (b41.1)).bd fun b65 => (mass_at (values) ((b41.1 + (1 : Int)))).bd fun b72 => (guardM (b41.2.length < 100000)).bd fun _ => Mm.ok ((b41.1 + (2 : Int)), (b41.2 ++ [(b65, b72)]))) ((3 : Int), []) (rangeL 0 i36.toNat)).bd fun b58 => (asI b15).bd fun i94 => (rangeM i94).bd fun l98 => (foldM (fun (b99 : (Int × (List (Int × Int × Int)))) (x100 : Int) => (place_at (values) (b99.1)).bd fun b123 => (place_at (values) ((b99.1 + (1 : Int)))).bd fun b130 => (mass_at (values) ((b99.1 + (2 : Int)))).bd fun b137 => (guardM (b99.2.length < 100000)).bd fun _ => Mm.ok ((b99.1 + (3 : Int)), (b99.2 ++ [(b123, b130, b137)]))) (b58.1, []) (rangeL 0 i94.toNat)).bd fun b116 => (noEx (checksum_d ((cutL values none (some b116.1))))).bd fun b168 => (item_at (values) (b116.1) (b168) (b168)).bd fun b175 => cond (decide ((values.length : Int) > (b116.1 + (1 : Int)))) ((guardM ((b116.1 + (1 : Int)).natAbs < 18446744073709551616)).bd fun _ => Mm.ex ⟨9, [(b116.1 + (1 : Int))]⟩) ((Weighting_init b58.2 b116.2).bd fun b196 => Mm.ok b196)
def sp_decode_weighting (K : PySem.W.Frag) (C : Addr) : Sp := fun vs H Q E => ∃ (F : Hp) (v_values : V) (values : (List PyData)), vs = [v_values] ∧ Ex F H ∧ Dq K F v_values ((eL id) values) ∧ Post (decode_weighting values) (fun r => Ret [] F H (fun F' _ v => IsW K C F' v r) Q) (fun e_ => RetX [] K F H e_ E)
theorem ok_decode_weighting {P : Program} {w : World} {K : PySem.W.Frag} {mg : Str → Option Value} {base : Heap} {C f : Addr} {fd : FuncData} (B : Bi mg) (FF : FunD K "decode_weighting" "decode_weighting" (defArgs s_decode_weighting) (defBody s_decode_weighting) (defScope s_decode_weighting) [] [] f fd) (G_item_at : Kx P w K mg base "item_at" 3 ["values", "offset", "low", "high"] (sp_item_at K)) (G_place_at : Kx P w K mg base "place_at" 4 ["values", "offset"] (sp_place_at K)) (G_mass_at : Kx P w K mg base "mass_at" 4 ["values", "offset"] (sp_mass_at K)) (G_checksum_d : Kn P w K mg base "checksum" 1 ["items"] (sp_checksum_d K)) (c_MARK : ∃ t, mg "MARK" = some (.int 113 t)) (c_MOST_MASSES : ∃ t, mg "MOST_MASSES" = some (.int 6 t)) (c_MOST_STRETCHES : ∃ t, mg "MOST_STRETCHES" = some (.int 4 t)) (GC_Weighting : KnC P w K mg base (L2.CX P w) "Weighting" C 4 ["self", "masses", "stretches"] (spWX Weighting_init K C)) (GX_DecodeError : KnX P w K mg base "DecodeError" 1 ["self", "offset"] (spI1 (He.ga K "DecodeError") "offset")) : FnOk P w K mg base (L2.CX P w) 6 f fd ["values"] (sp_decode_weighting K C) := by
  refine FF.ok sc_decode_weighting (fun vs H Q E h => ?_) (fun cdv A outer s H vs Q E hr h => ?_)
  · obtain ⟨F, v_values, values, rfl, _⟩ := h; rfl
  · obtain ⟨F, v_values, values, rfl, e, r_values, k⟩ := h
    unfold decode_weighting at k
    have g_ := Gm.refl (M := []) e
    refine ⟨_, (pss_cons (ps_expr (pe_kx G_item_at (hr.mono (by decide)) (takes_of rfl rfl rfl rfl) (pa_cons (pv 0) (pa_cons (pe_int) (pa_cons (pe_gint c_MARK) (pa_cons (pe_gint c_MARK) (pa_nil))))))) (pss_cons (ps_set (i := 1) sc_decode_weighting.nd rfl (Or.inl rfl) (pe_kx G_item_at (hr.mono (by decide)) (takes_of rfl rfl rfl rfl) (pa_cons (pv 0) (pa_cons (pe_int) (pa_cons (pe_int) (pa_cons (pe_gint c_MOST_MASSES) (pa_nil))))))) (pss_cons (ps_set (i := 2) sc_decode_weighting.nd rfl (Or.inl rfl) (pe_kx G_item_at (hr.mono (by decide)) (takes_of rfl rfl rfl rfl) (pa_cons (pv 0) (pa_cons (pe_int) (pa_cons (pe_int) (pa_cons (pe_gint c_MOST_STRETCHES) (pa_nil))))))) (pss_cons (ps_set (i := 3) sc_decode_weighting.nd rfl (Or.inl rfl) (pe_q (pe_lst (pa_nil)))) (pss_cons (ps_set (i := 4) sc_decode_weighting.nd rfl (Or.inl rfl) (pe_q (pe_lst (pa_nil)))) (pss_cons (ps_set (i := 5) sc_decode_weighting.nd rfl (Or.inl rfl) (pe_int)) (pss_cons (ps_for (passes_of rfl) rfl (pi_range1 rfl B.range (pa_cons (pv 1) (pa_nil))) (pg_name (i := 6) sc_decode_weighting.nd rfl (Or.inl rfl)) (pss_cons (ps_expr (pe_bm PySem.F.plainAttrs_list PySem.F.slot_list_append PySem.F.type_list_append mt_append (pv 3) (pa_cons (pe_q (pe_tup (pa_cons (pe_kx G_place_at (hr.mono (by decide)) (takes_of rfl rfl rfl rfl) (pa_cons (pv 0) (pa_cons (pv 5) (pa_nil)))) (pa_cons (pe_kx G_mass_at (hr.mono (by decide)) (takes_of rfl rfl rfl rfl) (pa_cons (pv 0) (pa_cons (pe_op op_add (pv 5) (pe_int)) (pa_nil)))) (pa_nil))))) pa_nil))) (pss_one (ps_aug (i := 5) sc_decode_weighting.nd rfl (Or.inl rfl) (pe_int) ip_add)))) (pss_cons (ps_for (passes_of rfl) rfl (pi_range1 rfl B.range (pa_cons (pv 2) (pa_nil))) (pg_name (i := 6) sc_decode_weighting.nd rfl (Or.inl rfl)) (pss_cons (ps_expr (pe_bm PySem.F.plainAttrs_list PySem.F.slot_list_append PySem.F.type_list_append mt_append (pv 4) (pa_cons (pe_q (pe_tup (pa_cons (pe_kx G_place_at (hr.mono (by decide)) (takes_of rfl rfl rfl rfl) (pa_cons (pv 0) (pa_cons (pv 5) (pa_nil)))) (pa_cons (pe_kx G_place_at (hr.mono (by decide)) (takes_of rfl rfl rfl rfl) (pa_cons (pv 0) (pa_cons (pe_op op_add (pv 5) (pe_int)) (pa_nil)))) (pa_cons (pe_kx G_mass_at (hr.mono (by decide)) (takes_of rfl rfl rfl rfl) (pa_cons (pv 0) (pa_cons (pe_op op_add (pv 5) (pe_int)) (pa_nil)))) (pa_nil)))))) pa_nil))) (pss_one (ps_aug (i := 5) sc_decode_weighting.nd rfl (Or.inl rfl) (pe_int) ip_add)))) (pss_cons (ps_set (i := 7) sc_decode_weighting.nd rfl (Or.inl rfl) (pe_kn G_checksum_d (hr.mono (by decide)) (pa_cons (pe_q (pe_slice sl_list (pv 0) po_none (po_some (pv 5)))) (pa_nil)))) (pss_cons (ps_expr (pe_kx G_item_at (hr.mono (by decide)) (takes_of rfl rfl rfl rfl) (pa_cons (pv 0) (pa_cons (pv 5) (pa_cons (pv 7) (pa_cons (pv 7) (pa_nil))))))) (pss_cons (ps_if (pt_cmpR op_gt (pe_callB call_lenM (by rfl) B.len (by decide +kernel) (pa_cons (pv 0) pa_nil)) (pe_op op_add (pv 5) (pe_int)) (nomark _)) (pss_one (ps_raiseX GX_DecodeError (hr.mono (by decide)) (takes_of rfl rfl rfl rfl) (pa_cons (pe_op op_add (pv 5) (pe_int)) (pa_nil)))) pss_nil) (pss_one (ps_ret (pe_q (pe_knC GC_Weighting (hr.mono (by decide)) (passes_call (takes_of rfl rfl rfl rfl) (fun _ _ _ _ h => h)) (pa_cons (pe_q (pe_callTy call_tuple_of (by rfl) B.tuple (by decide +kernel) (pa_cons (pv 3) pa_nil))) (pa_cons (pe_q (pe_callTy call_tuple_of (by rfl) B.tuple (by decide +kernel) (pa_cons (pv 4) pa_nil))) pa_nil))))))))))))))))), ?_⟩
    refine ⟨_, rfl, ?_⟩
    refine ⟨F, _, values, (0 : Int), (113 : Int), (113 : Int), rfl, e, r_values, (post_bd k).mono (fun b1 k v6 F2 H3 g4 r5 => ?_) (fun e_ z cls_ d_ F_ H_ g_x x_ => z cls_ d_ F_ H_ (g_.trans (g_x.weak (by simp))) x_)⟩
    have eF2 := g4.s
    have gF2 := g_.trans (g4.weak (by simp))
    replace r_values := r_values.up g4.f
    refine ⟨_, rfl, ?_⟩
    refine ⟨F2, _, values, (1 : Int), (0 : Int), (6 : Int), rfl, eF2, r_values, (post_bd k).mono (fun b8 k v13 F9 H10 g11 r12 => ?_) (fun e_ z cls_ d_ F_ H_ g_x x_ => z cls_ d_ F_ H_ (gF2.trans (g_x.weak (by simp))) x_)⟩
    have eF9 := g11.s
    have gF9 := gF2.trans (g11.weak (by simp))
    replace r_values := r_values.up g11.f
    replace r5 := r5.up g11.f
    refine ⟨_, rfl, ?_⟩
    refine ⟨F9, _, values, (2 : Int), (0 : Int), (4 : Int), rfl, eF9, r_values, (post_bd k).mono (fun b15 k v20 F16 H17 g18 r19 => ?_) (fun e_ z cls_ d_ F_ H_ g_x x_ => z cls_ d_ F_ H_ (gF9.trans (g_x.weak (by simp))) x_)⟩
    have eF16 := g18.s
    have gF16 := gF9.trans (g18.weak (by simp))
    replace r_values := r_values.up g18.f
    replace r5 := r5.up g18.f
    replace r12 := r12.up g18.f
    show _ ∧ _
    refine new_own (K := K) eF16 .nil (by show 0 ≤ 100000; decide) fun p22 H23 g24 y25 o26 => ?_
    have a27 : DqAll K F16 [] (List.map (e2 PyData.int PyData.int) []) := .nil
    have zp22 := gF16.fresh y25
    have eH23 := g24.s
    have gH23 := gF16.trans (g24.weak (by simp))
    show _ ∧ _
    refine new_own (K := K) eH23 .nil (by show 0 ≤ 100000; decide) fun p29 H30 g31 y32 o33 => ?_
    have a34 : DqAll K F16 [] (List.map (e3 PyData.int PyData.int PyData.int) []) := .nil
    have np22_p29 := ne_of_none o26.1 y32
    have np29_p22 := np22_p29.symm
    have zp29 := gH23.fresh y32
    have eH30 := g31.s
    have gH30 := gH23.trans (g31.weak (by simp))
    replace o26 := g31.own (by simp) o26.1 o26.2
    refine ⟨_, rfl, ?_⟩
    obtain ⟨i36, h37, k⟩ := post_asI k
    have r38 : Dq K F16 v13 (PyData.int i36) := by have z := r12; rw [h37] at z; exact z
    obtain rfl := dp_int r38
    obtain ⟨h39, k⟩ := post_range k
    refine ⟨_, rfl, h39.1, h39.2, ?_⟩
    have hy59 : ∀ q ∈ [p22], q ∈ [] ∨ H q = none := by intro q hq; simp only [List.mem_cons, List.not_mem_nil, or_false] at hq; rcases hq with rfl; exact (.inr zp22)
    refine for_m (M := [p22]) (F := F16) wlk_range (fun b41 F' H' σ' => ∃ (u6 : Option V) (u7 : Option V) (xs3 : List V), σ' = [some v_values, some (V.int i36), some v20, some (V.ref p22), some (V.ref p29), some (V.int b41.1), u6, u7] ∧ (H' p22 = some (.lst xs3) ∧ F' p22 = none) ∧ DqAll K F' xs3 (List.map (e2 PyData.int PyData.int) b41.2)) k eH30 ⟨_, _, _, rfl, o26, a27⟩ (fun b41 x42 v50 σ52 F43 H44 F45 H46 g47 i51 g48 r49 nx kfb41 => ?_) (fun b58 σ57 F53 H54 g55 i56 k => ?_)
    · replace r_values := r_values.up g47.f
      replace r5 := r5.up g47.f
      replace r12 := r12.up g47.f
      replace r19 := r19.up g47.f
      replace o33 := g47.own (by simp [*]) o33.1 o33.2
      replace a34 := a34.up g47.f
      obtain ⟨u60, u61, xs62, rfl, o63, a64⟩ := i51
      replace r_values := r_values.up g48.f
      replace r5 := r5.up g48.f
      replace r12 := r12.up g48.f
      replace r19 := r19.up g48.f
      replace o33 := g48.own (by simp [*]) o33.1 o33.2
      replace a34 := a34.up g48.f
      replace o63 := g48.own (by simp [*]) o63.1 o63.2
      replace a64 := a64.up g48.f
      have eF45 := g48.s
      have gF45 := g47.trans (g48.weak (by simp))
      subst r49
      refine ⟨_, rfl, .inl ⟨rfl, _, sq_of o63.1⟩, _, rfl, _, rfl, ?_⟩
      refine ⟨F45, _, values, b41.1, rfl, eF45, r_values, (post_bd kfb41).mono (fun b65 kfb41 v70 F66 H67 g68 r69 => ?_) (fun e_ z cls_ d_ F_ H_ g_x x_ => z cls_ d_ F_ H_ ((Gm.outs [p22] hy59 gH30 (gF45.weak (by simp))).trans (g_x.weak (by simp))) x_)⟩
      have eF66 := g68.s
      have gF66 := gF45.trans (g68.weak (by simp))
      replace r_values := r_values.up g68.f
      replace r5 := r5.up g68.f
      replace r12 := r12.up g68.f
      replace r19 := r19.up g68.f
      replace o33 := g68.own (by simp [*]) o33.1 o33.2
      replace a34 := a34.up g68.f
      replace o63 := g68.own (by simp [*]) o63.1 o63.2
      replace a64 := a64.up g68.f
      subst r69
      refine ⟨_, rfl, _, rfl, _, _, rfl, rfl, ?_⟩
      refine ⟨F66, _, values, (b41.1 + (1 : Int)), rfl, eF66, r_values, (post_bd kfb41).mono (fun b72 kfb41 v77 F73 H74 g75 r76 => ?_) (fun e_ z cls_ d_ F_ H_ g_x x_ => z cls_ d_ F_ H_ ((Gm.outs [p22] hy59 gH30 (gF66.weak (by simp))).trans (g_x.weak (by simp))) x_)⟩
      have eF73 := g75.s
      have gF73 := gF66.trans (g75.weak (by simp))
      replace r_values := r_values.up g75.f
      replace r5 := r5.up g75.f
      replace r12 := r12.up g75.f
      replace r19 := r19.up g75.f
      replace o33 := g75.own (by simp [*]) o33.1 o33.2
      replace a34 := a34.up g75.f
      replace o63 := g75.own (by simp [*]) o63.1 o63.2
      replace a64 := a64.up g75.f
      subst r76
      show _ ∧ _
      refine new_tup (K := K) (M := []) eF73 (.cons (Dq.int b65) (.cons (Dq.int b72) .nil)) (by show 2 ≤ 100000; decide) fun v83 F79 H80 g81 r82 => ?_
      have eF79 := g81.s
      have gF79 := gF73.trans (g81.weak (by simp))
      replace r_values := r_values.up g81.f
      replace r5 := r5.up g81.f
      replace r12 := r12.up g81.f
      replace r19 := r19.up g81.f
      replace o33 := g81.own (by simp [*]) o33.1 o33.2
      replace a34 := a34.up g81.f
      replace o63 := g81.own (by simp [*]) o63.1 o63.2
      replace a64 := a64.up g81.f
      replace r82 : Dq K F79 v83 ((e2 PyData.int PyData.int) (b65, b72)) := r82
      obtain ⟨h84, kfb41⟩ := post_guard kfb41
      refine ⟨_, _, _, rfl, rfl, o63.1, own_sz a64 h84, ?_⟩
      have g85 := gF79.putOr (o := .lst (xs62 ++ [v83])) (.inl (by simp)) o63.1 o63.2
      replace o33 : (upd H80 p22 (.lst (xs62 ++ [v83]))) p29 = _ ∧ _ := ⟨(upd_ne np29_p22).trans o33.1, o33.2⟩
      replace o63 : (upd H80 p22 (.lst (xs62 ++ [v83]))) p22 = some (.lst (xs62 ++ [v83])) ∧ F79 p22 = none := ⟨upd_same, o63.2⟩
      replace a64 : DqAll K F79 (xs62 ++ [v83]) (List.map (e2 PyData.int PyData.int) (b41.2 ++ [(b65, b72)])) := by rw [List.map_append]; exact a64.app (.cons r82 .nil)
      have e86 := g85.s
      refine ⟨_, rfl, _, _, rfl, rfl, ?_⟩
      exact kfb41.h _ _ _ g85 ⟨_, _, _, rfl, o63, a64⟩
    have hy88 : ∀ q ∈ [p22], q ∈ [] ∨ H q = none := by intro q hq; simp only [List.mem_cons, List.not_mem_nil, or_false] at hq; rcases hq with rfl; exact (.inr zp22)
    have g87 := Gm.outs [p22] hy88 gH30 (g55.weak (by simp))
    replace r_values := r_values.up g55.f
    replace r5 := r5.up g55.f
    replace r12 := r12.up g55.f
    replace r19 := r19.up g55.f
    replace o33 := g55.own (by simp [*]) o33.1 o33.2
    replace a34 := a34.up g55.f
    have eF53 := g55.s
    obtain ⟨u89, u90, xs91, rfl, o92, a93⟩ := i56
    refine ⟨_, rfl, ?_⟩
    obtain ⟨i94, h95, k⟩ := post_asI k
    have r96 : Dq K F53 v20 (PyData.int i94) := by have z := r19; rw [h95] at z; exact z
    obtain rfl := dp_int r96
    obtain ⟨h97, k⟩ := post_range k
    refine ⟨_, rfl, h97.1, h97.2, ?_⟩
    have hy117 : ∀ q ∈ [p29], q ∈ [] ∨ H q = none := by intro q hq; simp only [List.mem_cons, List.not_mem_nil, or_false] at hq; rcases hq with rfl; exact (.inr zp29)
    refine for_m (M := [p29]) (F := F53) wlk_range (fun b99 F' H' σ' => ∃ (u6 : Option V) (u7 : Option V) (xs4 : List V), σ' = [some v_values, some (V.int i36), some (V.int i94), some (V.ref p22), some (V.ref p29), some (V.int b99.1), u6, u7] ∧ (H' p29 = some (.lst xs4) ∧ F' p29 = none) ∧ DqAll K F' xs4 (List.map (e3 PyData.int PyData.int PyData.int) b99.2)) k eF53 ⟨_, _, _, rfl, o33, a34⟩ (fun b99 x100 v108 σ110 F101 H102 F103 H104 g105 i109 g106 r107 nx kfb99 => ?_) (fun b116 σ115 F111 H112 g113 i114 k => ?_)
    · replace r_values := r_values.up g105.f
      replace r5 := r5.up g105.f
      replace r12 := r12.up g105.f
      replace r19 := r19.up g105.f
      replace o92 := g105.own (by simp [*]) o92.1 o92.2
      replace a93 := a93.up g105.f
      obtain ⟨u118, u119, xs120, rfl, o121, a122⟩ := i109
      replace r_values := r_values.up g106.f
      replace r5 := r5.up g106.f
      replace r12 := r12.up g106.f
      replace r19 := r19.up g106.f
      replace o92 := g106.own (by simp [*]) o92.1 o92.2
      replace a93 := a93.up g106.f
      replace o121 := g106.own (by simp [*]) o121.1 o121.2
      replace a122 := a122.up g106.f
      have eF103 := g106.s
      have gF103 := g105.trans (g106.weak (by simp))
      subst r107
      refine ⟨_, rfl, .inl ⟨rfl, _, sq_of o121.1⟩, _, rfl, _, rfl, ?_⟩
      refine ⟨F103, _, values, b99.1, rfl, eF103, r_values, (post_bd kfb99).mono (fun b123 kfb99 v128 F124 H125 g126 r127 => ?_) (fun e_ z cls_ d_ F_ H_ g_x x_ => z cls_ d_ F_ H_ ((Gm.outs [p29] hy117 g87 (gF103.weak (by simp))).trans (g_x.weak (by simp))) x_)⟩
      have eF124 := g126.s
      have gF124 := gF103.trans (g126.weak (by simp))
      replace r_values := r_values.up g126.f
      replace r5 := r5.up g126.f
      replace r12 := r12.up g126.f
      replace r19 := r19.up g126.f
      replace o92 := g126.own (by simp [*]) o92.1 o92.2
      replace a93 := a93.up g126.f
      replace o121 := g126.own (by simp [*]) o121.1 o121.2
      replace a122 := a122.up g126.f
      subst r127
      refine ⟨_, rfl, _, rfl, _, _, rfl, rfl, ?_⟩
      refine ⟨F124, _, values, (b99.1 + (1 : Int)), rfl, eF124, r_values, (post_bd kfb99).mono (fun b130 kfb99 v135 F131 H132 g133 r134 => ?_) (fun e_ z cls_ d_ F_ H_ g_x x_ => z cls_ d_ F_ H_ ((Gm.outs [p29] hy117 g87 (gF124.weak (by simp))).trans (g_x.weak (by simp))) x_)⟩
      have eF131 := g133.s
      have gF131 := gF124.trans (g133.weak (by simp))
      replace r_values := r_values.up g133.f
      replace r5 := r5.up g133.f
      replace r12 := r12.up g133.f
      replace r19 := r19.up g133.f
      replace o92 := g133.own (by simp [*]) o92.1 o92.2
      replace a93 := a93.up g133.f
      replace o121 := g133.own (by simp [*]) o121.1 o121.2
      replace a122 := a122.up g133.f
      subst r134
      refine ⟨_, rfl, _, rfl, _, _, rfl, rfl, ?_⟩
      refine ⟨F131, _, values, (b99.1 + (2 : Int)), rfl, eF131, r_values, (post_bd kfb99).mono (fun b137 kfb99 v142 F138 H139 g140 r141 => ?_) (fun e_ z cls_ d_ F_ H_ g_x x_ => z cls_ d_ F_ H_ ((Gm.outs [p29] hy117 g87 (gF131.weak (by simp))).trans (g_x.weak (by simp))) x_)⟩
      have eF138 := g140.s
      have gF138 := gF131.trans (g140.weak (by simp))
      replace r_values := r_values.up g140.f
      replace r5 := r5.up g140.f
      replace r12 := r12.up g140.f
      replace r19 := r19.up g140.f
      replace o92 := g140.own (by simp [*]) o92.1 o92.2
      replace a93 := a93.up g140.f
      replace o121 := g140.own (by simp [*]) o121.1 o121.2
      replace a122 := a122.up g140.f
      subst r141
      show _ ∧ _
      refine new_tup (K := K) (M := []) eF138 (.cons (Dq.int b123) (.cons (Dq.int b130) (.cons (Dq.int b137) .nil))) (by show 3 ≤ 100000; decide) fun v148 F144 H145 g146 r147 => ?_
      have eF144 := g146.s
      have gF144 := gF138.trans (g146.weak (by simp))
      replace r_values := r_values.up g146.f
      replace r5 := r5.up g146.f
      replace r12 := r12.up g146.f
      replace r19 := r19.up g146.f
      replace o92 := g146.own (by simp [*]) o92.1 o92.2
      replace a93 := a93.up g146.f
      replace o121 := g146.own (by simp [*]) o121.1 o121.2
      replace a122 := a122.up g146.f
      replace r147 : Dq K F144 v148 ((e3 PyData.int PyData.int PyData.int) (b123, b130, b137)) := r147
      obtain ⟨h149, kfb99⟩ := post_guard kfb99
      refine ⟨_, _, _, rfl, rfl, o121.1, own_sz a122 h149, ?_⟩
      have g150 := gF144.putOr (o := .lst (xs120 ++ [v148])) (.inl (by simp)) o121.1 o121.2
      replace o92 : (upd H145 p29 (.lst (xs120 ++ [v148]))) p22 = _ ∧ _ := ⟨(upd_ne np22_p29).trans o92.1, o92.2⟩
      replace o121 : (upd H145 p29 (.lst (xs120 ++ [v148]))) p29 = some (.lst (xs120 ++ [v148])) ∧ F144 p29 = none := ⟨upd_same, o121.2⟩
      replace a122 : DqAll K F144 (xs120 ++ [v148]) (List.map (e3 PyData.int PyData.int PyData.int) (b99.2 ++ [(b123, b130, b137)])) := by rw [List.map_append]; exact a122.app (.cons r147 .nil)
      have e151 := g150.s
      refine ⟨_, rfl, _, _, rfl, rfl, ?_⟩
      exact kfb99.h _ _ _ g150 ⟨_, _, _, rfl, o121, a122⟩
    have hy153 : ∀ q ∈ [p29], q ∈ [] ∨ H q = none := by intro q hq; simp only [List.mem_cons, List.not_mem_nil, or_false] at hq; rcases hq with rfl; exact (.inr zp29)
    have g152 := Gm.outs [p29] hy153 g87 (g113.weak (by simp))
    replace r_values := r_values.up g113.f
    replace r5 := r5.up g113.f
    replace r12 := r12.up g113.f
    replace r19 := r19.up g113.f
    replace o92 := g113.own (by simp [*]) o92.1 o92.2
    replace a93 := a93.up g113.f
    have eF111 := g113.s
    obtain ⟨u154, u155, xs156, rfl, o157, a158⟩ := i114
    refine ⟨_, rfl, _, rfl, _, rfl, ?_⟩
    obtain ⟨p159, xs160, rfl, s161, a162⟩ := dp_lst r_values
    refine cut_lst (K := K) (M := []) eF111 s161 a162 fun v167 F163 H164 g165 r166 => ?_
    have eF163 := g165.s
    have gF163 := g152.trans (g165.weak (by simp))
    replace r_values := r_values.up g165.f
    replace r5 := r5.up g165.f
    replace r12 := r12.up g165.f
    replace r19 := r19.up g165.f
    replace o92 := g165.own (by simp [*]) o92.1 o92.2
    replace a93 := a93.up g165.f
    replace o157 := g165.own (by simp [*]) o157.1 o157.2
    replace a158 := a158.up g165.f
    replace s161 := g165.f _ _ s161
    replace a162 := a162.up g165.f
    refine ⟨F163, _, (cutL values none (some b116.1)), rfl, eF163, r166, (post_noE k).mono (fun b168 k v173 F169 H170 g171 r172 => ?_) (fun _ z => z)⟩
    have eF169 := g171.s
    have gF169 := gF163.trans (g171.weak (by simp))
    replace r_values := r_values.up g171.f
    replace r5 := r5.up g171.f
    replace r12 := r12.up g171.f
    replace r19 := r19.up g171.f
    replace o92 := g171.own (by simp [*]) o92.1 o92.2
    replace a93 := a93.up g171.f
    replace o157 := g171.own (by simp [*]) o157.1 o157.2
    replace a158 := a158.up g171.f
    replace s161 := g171.f _ _ s161
    replace a162 := a162.up g171.f
    replace r166 := r166.up g171.f
    subst r172
    refine ⟨_, rfl, _, rfl, _, rfl, _, rfl, ?_⟩
    refine ⟨F169, _, values, b116.1, b168, b168, rfl, eF169, r_values, (post_bd k).mono (fun b175 k v180 F176 H177 g178 r179 => ?_) (fun e_ z cls_ d_ F_ H_ g_x x_ => z cls_ d_ F_ H_ (gF169.trans (g_x.weak (by simp))) x_)⟩
    have eF176 := g178.s
    have gF176 := gF169.trans (g178.weak (by simp))
    replace r_values := r_values.up g178.f
    replace r5 := r5.up g178.f
    replace r12 := r12.up g178.f
    replace r19 := r19.up g178.f
    replace o92 := g178.own (by simp [*]) o92.1 o92.2
    replace a93 := a93.up g178.f
    replace o157 := g178.own (by simp [*]) o157.1 o157.2
    replace a158 := a158.up g178.f
    replace s161 := g178.f _ _ s161
    replace a162 := a162.up g178.f
    replace r166 := r166.up g178.f
    refine ⟨_, rfl, ?_⟩
    refine ⟨_, _, _, rfl, .inl (sq_of (eF176 _ _ s161)), len_all a162, _, rfl, _, _, rfl, rfl, _, _, rfl, rfl, _, rfl, ?_⟩
    refine cs k (fun _ k => ?_) (fun _ k => ?_)
    · refine ⟨_, rfl, _, _, rfl, rfl, ?_⟩
      obtain ⟨h182, k⟩ := post_guard k
      refine mk1 h182 (fun d183 y184 => ?_)
      have g185 := gF176.trans (Gm.new (o := .xd [("offset", (V.int (b116.1 + (1 : Int))))]) eF176 y184)
      exact k.h _ _ _ _ g185 ⟨rfl, .inr ⟨_, rfl, upd_same⟩⟩
    · refine ⟨_, rfl, ?_⟩
      refine to_VO (K := K) (M := []) eF176 o92.1 a93 (en := (e2 PyData.int PyData.int)) (l := b58.2) fun v190 F186 H187 g188 r189 => ?_
      have eF186 := g188.s
      have gF186 := gF176.trans (g188.weak (by simp))
      replace r_values := r_values.up g188.f
      replace r5 := r5.up g188.f
      replace r12 := r12.up g188.f
      replace r19 := r19.up g188.f
      replace o92 := g188.own (by simp [*]) o92.1 o92.2
      replace a93 := a93.up g188.f
      replace o157 := g188.own (by simp [*]) o157.1 o157.2
      replace a158 := a158.up g188.f
      replace s161 := g188.f _ _ s161
      replace a162 := a162.up g188.f
      replace r166 := r166.up g188.f
      replace r179 := r179.up g188.f
      refine ⟨_, rfl, ?_⟩
      refine to_VO (K := K) (M := []) eF186 o157.1 a158 (en := (e3 PyData.int PyData.int PyData.int)) (l := b116.2) fun v195 F191 H192 g193 r194 => ?_
      have eF191 := g193.s
      have gF191 := gF186.trans (g193.weak (by simp))
      replace r_values := r_values.up g193.f
      replace r5 := r5.up g193.f
      replace r12 := r12.up g193.f
      replace r19 := r19.up g193.f
      replace o92 := g193.own (by simp [*]) o92.1 o92.2
      replace a93 := a93.up g193.f
      replace o157 := g193.own (by simp [*]) o157.1 o157.2
      replace a158 := a158.up g193.f
      replace s161 := g193.f _ _ s161
      replace a162 := a162.up g193.f
      replace r166 := r166.up g193.f
      replace r179 := r179.up g193.f
      replace r189 := r189.up g193.f
      refine make_WX eF191 r189 r194 ((post_bd k).mono (fun b196 k v201 F197 H198 g199 r200 => ?_) (fun e_ z cls_ d_ F_ H_ g_x x_ => z cls_ d_ F_ H_ (gF191.trans (g_x.weak (by simp))) x_))
      have eF197 := g199.s
      have gF197 := gF191.trans (g199.weak (by simp))
      replace r_values := r_values.up g199.f
      replace r5 := r5.up g199.f
      replace r12 := r12.up g199.f
      replace r19 := r19.up g199.f
      replace o92 := g199.own (by simp [*]) o92.1 o92.2
      replace a93 := a93.up g199.f
      replace o157 := g199.own (by simp [*]) o157.1 o157.2
      replace a158 := a158.up g199.f
      replace s161 := g199.f _ _ s161
      replace a162 := a162.up g199.f
      replace r166 := r166.up g199.f
      replace r179 := r179.up g199.f
      replace r189 := r189.up g199.f
      replace r194 := r194.up g199.f
      exact k.h _ _ _ gF197 r200
/-! ### _law_taken -/
abbrev s_law_taken : Stmt := top 28
theorem sc_law_taken : FnScope ["_law_row", "_law_many", "_law_found", "_law_cell"] ["_law_row", "_law_many"] (defScope s_law_taken) := ⟨rfl, rfl, rfl, by decide +kernel, rfl, by decide +kernel, by decide +kernel⟩
theorem ok_law_taken {P : Program} {w : World} {K : PySem.W.Frag} {mg : Str → Option Value} {base : Heap} {f : Addr} {fd : FuncData} (B : Bi mg) (FF : FunD K "_law_taken" "_law_taken" (defArgs s_law_taken) (defBody s_law_taken) (defScope s_law_taken) [] [] f fd) : FnOk P w K mg base CX0 1 f fd ["_law_row", "_law_many"] (spTaken takenB K) := by
  refine FF.ok sc_law_taken (fun vs H Q E h => ?_) (fun cdv A outer s H vs Q E hr h => ?_)
  · obtain ⟨F, sc, ra, scr, st, many, rfl, _⟩ := h; rfl
  · obtain ⟨F, sc, ra, scr, st, many, rfl, e, ⟨hL, hF, hS⟩, k⟩ := h
    obtain ⟨pos, seed, left⟩ := st
    unfold takenB at k
    split at k
    case isFalse => exact k.elim
    rename_i hc
    obtain ⟨h1, h2, h3, h4, h5, h6⟩ := hc
    simp only at h3 h4 h5 h6 k hL
    have cd : ∀ i : Int, CDv i many := fun i => cdv_small ⟨by omega, by omega⟩
    refine ⟨_, PSs.nox (pss_cons (ps_if (pt_cmpR op_gt (pe_ix ix_list (pv 0) pe_int (fun _ _ => rfl)) pe_int (nomark _))
        (pss_cons (ps_set (i := 2) sc_law_taken.nd rfl (.inl rfl) (pe_op op_modM (pe_callTy call_intM (by rfl) B.int (by decide +kernel) (pa_cons (pe_ix ix_list (pv 0) pe_int (fun _ _ => rfl)) pa_nil)) (pv 1)))
          (pss_cons (ps_asg (pe_op op_divM (pe_ix ix_list (pv 0) pe_int (fun _ _ => rfl)) (pv 1)) (pg_sub (pv 0) pe_int set_list)) (pss_one (ps_ret (pv 2))))) pss_nil)
      (pss_cons (ps_asg (pe_op op_add (pe_ix ix_list (pv 0) pe_int (fun _ _ => rfl)) pe_int) (pg_sub (pv 0) pe_int set_list))
      (pss_cons (ps_if (pt_cmpR op_gt (pe_ix ix_list (pv 0) pe_int (fun _ _ => rfl)) (pe_callB call_lenM (by rfl) B.len (by decide +kernel) (pa_cons (pe_ix ix_list (pv 0) pe_int (fun _ _ => rfl)) pa_nil)) (nomark _))
        (pss_cons (ps_asg (pe_op op_modM (pe_callTy call_intM (by rfl) B.int (by decide +kernel) (pa_cons (pe_op op_add (pe_op op_mulM (pe_ix ix_list (pv 0) pe_int (fun _ _ => rfl)) pe_int) pe_int) pa_nil)) pe_int) (pg_sub (pv 0) pe_int set_list))
          (pss_one (ps_ret (pe_op op_modM (pe_callTy call_intM (by rfl) B.int (by decide +kernel) (pa_cons (pe_op op_divM (pe_ix ix_list (pv 0) pe_int (fun _ _ => rfl)) pe_int) pa_nil)) (pv 1))))) pss_nil)
      (pss_cons (ps_set (i := 3) sc_law_taken.nd rfl (.inl rfl) (pe_ix ix_list (pe_ix ix_list (pv 0) pe_int (fun _ _ => rfl)) (pe_op op_sub (pe_ix ix_list (pv 0) pe_int (fun _ _ => rfl)) pe_int) (fun _ _ => rfl)))
      (pss_cons (ps_asg (pe_op op_modM (pe_callTy call_intM (by rfl) B.int (by decide +kernel) (pa_cons (pe_op op_add (pe_op op_add (pe_op op_mulM (pe_ix ix_list (pv 0) pe_int (fun _ _ => rfl)) pe_int) (pv 3)) pe_int) pa_nil)) pe_int) (pg_sub (pv 0) pe_int set_list))
      (pss_cons (ps_if (pt_cmpR op_ge (pv 3) (pe_op op_pow pe_int pe_int) (nomark _)) (pss_one (ps_asg (pe_op op_divM (pv 3) (pv 1)) (pg_sub (pv 0) pe_int set_list))) pss_nil)
      (pss_one (ps_ret (pe_op op_modM (pe_callTy call_intM (by rfl) B.int (by decide +kernel) (pa_cons (pv 3) pa_nil)) (pv 1)))))))))), ?_⟩
    refine ⟨_, rfl, _, _, _, _, rfl, rfl, sq_of hL, rfl, _, _, rfl, rfl, _, rfl, ?_⟩
    by_cases c1 : left > 0
    · rw [if_pos (show left > 0 from c1)] at k
      rw [if_pos (decide_eq_true c1)]
      refine ⟨_, rfl, _, _, _, _, rfl, rfl, sq_of hL, rfl, _, rfl, _, rfl, _, _, _, rfl, rfl, by omega, rfl, ?_⟩
      refine ⟨_, rfl, _, _, _, _, rfl, rfl, sq_of hL, rfl, _, rfl, _, _, _, rfl, rfl, cd _, rfl, _, rfl, _, _, _, _, rfl, rfl, hL, rfl, _, rfl, ?_⟩
      rw [fmod_pos h1, fdiv_pos h1]
      exact k.h _ F _ (Gm.put e hL hF) ⟨rfl, upd_same, hF, hS⟩
    · rw [if_neg (show ¬ left > 0 from c1)] at k
      rw [if_neg (by simpa using c1)]
      refine ⟨_, rfl, _, _, _, _, rfl, rfl, sq_of hL, rfl, _, _, rfl, rfl, _, rfl, _, _, _, _, rfl, rfl, hL, rfl, ?_⟩
      generalize hq : upd H ra (.lst ([V.ref sc, V.int pos, V.int seed, V.int left].set (Int.toNat 1) ((fun i j => V.int (i + j)) pos 1))) = H1
      have g1 : Gm [ra] F H F H1 := by rw [← hq]; exact Gm.put e hL hF
      have l1 : H1 ra = some (.lst [.ref sc, .int (pos + 1), .int seed, .int left]) := by rw [← hq]; exact upd_same
      clear hq
      refine ⟨_, rfl, _, _, _, _, rfl, rfl, sq_of l1, rfl, _, rfl, _, _, _, _, rfl, rfl, sq_of l1, rfl, _, _, _, rfl, .inl (ex_l g1.s hS), rfl, _, _, rfl, rfl, _, rfl, ?_⟩
      cases c2 : scr[pos.toNat]? with
      | none =>
        rw [c2] at k
        have hlen : pos + 1 > ((scr.map V.int).length : Int) := by
          have := List.getElem?_eq_none_iff.mp c2
          rw [List.length_map]; omega
        rw [if_pos (decide_eq_true hlen)]
        refine ⟨_, rfl, _, _, _, _, rfl, rfl, sq_of l1, rfl, _, _, _, rfl, rfl, cmul_small (by omega) (by decide), rfl, _, _, rfl, rfl, _, rfl, _, _, _, rfl, rfl, by decide, rfl, _, rfl, _, _, _, _, rfl, rfl, l1, rfl, ?_⟩
        have es : (seed * 48271 + 11).fmod 2147483647 = seedN seed 0 := by rw [fmod_pos (by decide)]; unfold seedN; rw [Int.add_zero]
        have g2 : Gm [ra] F H F (upd H1 ra (.lst [.ref sc, .int (pos + 1), .int (seedN seed 0), .int left])) := g1.trans (Gm.put g1.s l1 hF)
        have l2 : (upd H1 ra (.lst [.ref sc, .int (pos + 1), .int (seedN seed 0), .int left])) ra = some (.lst [.ref sc, .int (pos + 1), .int (seedN seed 0), .int left]) := upd_same
        rw [es]
        refine ⟨_, rfl, _, _, _, _, rfl, rfl, sq_of l2, rfl, _, _, _, rfl, rfl, cdv_small ⟨by decide, by decide⟩, rfl, _, rfl, _, rfl, _, _, _, rfl, rfl, by omega, rfl, ?_⟩
        rw [fmod_pos h1, fdiv_pos (by decide)]
        exact k.h _ F _ g2 ⟨rfl, l2, hF, hS⟩
      | some c =>
        rw [c2] at k
        obtain ⟨hp, ec⟩ := List.getElem?_eq_some_iff.mp c2
        have hlen : ¬ pos + 1 > ((scr.map V.int).length : Int) := by rw [List.length_map]; omega
        rw [if_neg (by simpa using hlen)]
        have hat : atI (scr.map V.int) (pos + 1 - 1) = some (.int c) := by
          unfold atI ixN
          rw [if_pos (by omega), if_pos (by rw [List.length_map]; omega)]
          show (scr.map V.int)[(pos + 1 - 1).toNat]? = _
          rw [show (pos + 1 - 1) = pos by omega, List.getElem?_map, c2]; rfl
        refine ⟨_, rfl, _, _, _, _, rfl, rfl, sq_of l1, rfl, _, rfl, _, _, _, _, rfl, rfl, sq_of l1, rfl, _, _, rfl, rfl, _, _, _, _, rfl, rfl, ex_l g1.s hS, hat, ?_⟩
        refine ⟨_, rfl, _, _, _, _, rfl, rfl, sq_of l1, rfl, _, _, _, rfl, rfl, cmul_small (by omega) (by decide), rfl, _, rfl, _, _, rfl, rfl, _, _, rfl, rfl, _, rfl, _, _, _, rfl, rfl, by decide, rfl, _, rfl, _, _, _, _, rfl, rfl, l1, rfl, ?_⟩
        have es : (seed * 48271 + c + 11).fmod 2147483647 = seedN seed c := by rw [fmod_pos (by decide)]; rfl
        have g2 : Gm [ra] F H F (upd H1 ra (.lst [.ref sc, .int (pos + 1), .int (seedN seed c), .int left])) := g1.trans (Gm.put g1.s l1 hF)
        have l2 : (upd H1 ra (.lst [.ref sc, .int (pos + 1), .int (seedN seed c), .int left])) ra = some (.lst [.ref sc, .int (pos + 1), .int (seedN seed c), .int left]) := upd_same
        rw [es]
        refine ⟨_, rfl, _, _, rfl, rfl, ⟨by decide, by decide, by decide⟩, _, _, rfl, rfl, _, rfl, ?_⟩
        have fin : ∀ x, Gm [ra] F H F (upd (upd H1 ra (.lst [.ref sc, .int (pos + 1), .int (seedN seed c), .int left])) ra (.lst [.ref sc, .int (pos + 1), .int (seedN seed c), .int x])) := fun x => g2.trans (Gm.put g2.s l2 hF)
        by_cases c3 : c ≥ 10 ^ 18
        · simp only [if_pos (show c ≥ 10 ^ 18 from c3)] at k
          refine iteP (decide_eq_true c3) ?_
          refine ⟨_, rfl, _, rfl, _, _, _, rfl, rfl, cd _, rfl, _, rfl, _, _, _, _, rfl, rfl, l2, rfl, ?_⟩
          refine ⟨_, rfl, _, rfl, _, rfl, _, _, _, rfl, rfl, by omega, rfl, ?_⟩
          rw [fmod_pos h1, fdiv_pos h1]
          exact k.h _ F _ (fin _) ⟨rfl, upd_same, hF, hS⟩
        · simp only [if_neg (show ¬ c ≥ 10 ^ 18 from c3)] at k
          refine iteN (decide_eq_false c3) ?_
          refine ⟨_, rfl, _, rfl, _, rfl, _, _, _, rfl, rfl, by omega, rfl, ?_⟩
          rw [fmod_pos h1]
          exact k.h _ F _ g2 ⟨rfl, l2, hF, hS⟩

/-! ### _law_weighting -/
abbrev s_law_weighting : Stmt := top 29
theorem sc_law_weighting : FnScope ["_law_row", "_law_masses", "_law_stretches", "_law_spot", "_law_k", "_law_low"] ["_law_row"] (defScope s_law_weighting) := ⟨rfl, rfl, rfl, by decide +kernel, rfl, by decide +kernel, by decide +kernel⟩
def law_weighting (scr : List Int) (st : Rw) : Mm (Wt × Rw) := (takenB scr st ((9 : Int))).bd fun b15 => (takenB scr b15.2 ((4 : Int))).bd fun b22 => (rangeM b22.1).bd fun l30 => (foldM (fun (b31 : (Int × (List (Int × Int)) × Rw)) (x32 : Int) => (takenB scr b31.2.2 ((4 : Int))).bd fun b55 => (takenB scr b55.2 ((20 : Int))).bd fun b62 => (guardM (b31.2.1.length < 100000)).bd fun _ => Mm.ok (((b31.1 + (1 : Int)) + b55.1), (b31.2.1 ++ [(((b31.1 + (1 : Int)) + b55.1), ((1 : Int) + b62.1))]), b62.2)) ((b15.1 - (12 : Int)), [], b22.2) (rangeL 0 b22.1.toNat)).bd fun b48 => (takenB scr b48.2.2 ((9 : Int))).bd fun b85 => (takenB scr b85.2 ((3 : Int))).bd fun b92 => (rangeM b92.1).bd fun l100 => (foldM (fun (b101 : (Int × (List (Int × Int × Int)) × Rw)) (x102 : Int) => (takenB scr b101.2.2 ((3 : Int))).bd fun b125 => (takenB scr b125.2 ((6 : Int))).bd fun b132 => (takenB scr b132.2 ((20 : Int))).bd fun b139 => (guardM (b101.2.1.length < 100000)).bd fun _ => Mm.ok ((((b101.1 + b125.1) + (1 : Int)) + b132.1), (b101.2.1 ++ [((b101.1 + b125.1), (((b101.1 + b125.1) + (1 : Int)) + b132.1), ((1 : Int) + b139.1))]), b139.2)) ((b85.1 - (12 : Int)), [], b92.2) (rangeL 0 b92.1.toNat)).bd fun b118 => (cond (decide (b48.2.1 = [])) (Mm.ok (decide (b118.2.1 = []))) (Mm.ok false)).bd fun b167 => (cond b167 ((takenB scr b118.2.2 ((20 : Int))).bd fun b182 => (guardM (b48.2.1.length < 100000)).bd fun _ => Mm.ok ((b48.2.1 ++ [(b118.1, ((1 : Int) + b182.1))]), b182.2)) (Mm.ok (b48.2.1, b118.2.2))).bd fun b176 => (Weighting_init b176.1 b118.2.1).bd fun b215 => Mm.ok (b215, b176.2)
def sp_law_weighting (K : PySem.W.Frag) (C : Addr) : Sp := fun vs H Q E => ∃ (F : Hp) (sc ra : Addr) (scr : List Int) (st : Rw), vs = [.ref ra] ∧ Ex F H ∧ RowAt K sc ra scr F H st ∧ Post (law_weighting scr st) (fun r => Ret [ra] F H (fun F' H' v => IsW K C F' v r.1 ∧ RowAt K sc ra scr F' H' r.2) Q) (fun _ => False)
theorem ok_law_weighting {P : Program} {w : World} {K : PySem.W.Frag} {mg : Str → Option Value} {base : Heap} {C f : Addr} {fd : FuncData} (B : Bi mg) (FF : FunD K "_law_weighting" "_law_weighting" (defArgs s_law_weighting) (defBody s_law_weighting) (defScope s_law_weighting) [] [] f fd) (G_law_taken : Kn P w K mg base "_law_taken" 1 ["_law_row", "_law_many"] (spTaken takenB K)) (GC_Weighting : KnC P w K mg base (L2.CX P w) "Weighting" C 4 ["self", "masses", "stretches"] (spWX Weighting_init K C)) : FnOk P w K mg base CX0 6 f fd ["_law_row"] (sp_law_weighting K C) := by
  refine FF.ok sc_law_weighting (fun vs H Q E h => ?_) (fun cdv A outer s H vs Q E hr h => ?_)
  · obtain ⟨F, sc, ra, scr, st, rfl, _⟩ := h; rfl
  · obtain ⟨F, sc, ra, scr, st, rfl, e, w, k⟩ := h
    unfold law_weighting at k
    have g_ := Gm.refl (M := [ra]) e
    refine ⟨_, PSs.nox (pss_cons (ps_par3 (i := 1) (j := 2) (l := 3) (by rfl) sc_law_weighting.nd rfl rfl rfl (by decide) (by decide) (by decide) rfl rfl rfl (pa_cons (pe_q (pe_lst (pa_nil))) (pa_cons (pe_q (pe_lst (pa_nil))) (pa_cons (pe_op op_sub (pe_kn G_law_taken (hr.mono (by decide)) (pa_cons (pv 0) (pa_cons (pe_int) (pa_nil)))) (pe_int)) (pa_nil)))) (by rfl)) (pss_cons (ps_for PassesOwn.never rfl (pi_range1 rfl B.range (pa_cons (pe_kn G_law_taken (hr.mono (by decide)) (pa_cons (pv 0) (pa_cons (pe_int) (pa_nil)))) (pa_nil))) (pg_name (i := 4) sc_law_weighting.nd rfl (Or.inl rfl)) (pss_cons (ps_set (i := 3) sc_law_weighting.nd rfl (Or.inl rfl) (pe_op op_add (pe_op op_add (pv 3) (pe_int)) (pe_kn G_law_taken (hr.mono (by decide)) (pa_cons (pv 0) (pa_cons (pe_int) (pa_nil)))))) (pss_one (ps_expr (pe_bm PySem.F.plainAttrs_list PySem.F.slot_list_append PySem.F.type_list_append mt_append (pv 1) (pa_cons (pe_q (pe_tup (pa_cons (pv 3) (pa_cons (pe_op op_add (pe_int) (pe_kn G_law_taken (hr.mono (by decide)) (pa_cons (pv 0) (pa_cons (pe_int) (pa_nil))))) (pa_nil))))) pa_nil)))))) (pss_cons (ps_set (i := 3) sc_law_weighting.nd rfl (Or.inl rfl) (pe_op op_sub (pe_kn G_law_taken (hr.mono (by decide)) (pa_cons (pv 0) (pa_cons (pe_int) (pa_nil)))) (pe_int))) (pss_cons (ps_for PassesOwn.never rfl (pi_range1 rfl B.range (pa_cons (pe_kn G_law_taken (hr.mono (by decide)) (pa_cons (pv 0) (pa_cons (pe_int) (pa_nil)))) (pa_nil))) (pg_name (i := 4) sc_law_weighting.nd rfl (Or.inl rfl)) (pss_cons (ps_set (i := 5) sc_law_weighting.nd rfl (Or.inl rfl) (pe_op op_add (pv 3) (pe_kn G_law_taken (hr.mono (by decide)) (pa_cons (pv 0) (pa_cons (pe_int) (pa_nil)))))) (pss_cons (ps_set (i := 3) sc_law_weighting.nd rfl (Or.inl rfl) (pe_op op_add (pe_op op_add (pv 5) (pe_int)) (pe_kn G_law_taken (hr.mono (by decide)) (pa_cons (pv 0) (pa_cons (pe_int) (pa_nil)))))) (pss_one (ps_expr (pe_bm PySem.F.plainAttrs_list PySem.F.slot_list_append PySem.F.type_list_append mt_append (pv 2) (pa_cons (pe_q (pe_tup (pa_cons (pv 5) (pa_cons (pv 3) (pa_cons (pe_op op_add (pe_int) (pe_kn G_law_taken (hr.mono (by decide)) (pa_cons (pv 0) (pa_cons (pe_int) (pa_nil))))) (pa_nil)))))) pa_nil))))))) (pss_cons (ps_if (PW.pt (pw_and (pt_cmpR (r := rEqM K (eL (e2 PyData.int PyData.int))) (op_eqM (sh_eL (sh_e2 sh_int sh_int)) (units_of hr)) (pv 1) (pe_q (pe_lst (pa_nil))) (nomark _)) (pw_and1 (pt_cmpR (r := rEqM K (eL (e3 PyData.int PyData.int PyData.int))) (op_eqM (sh_eL (sh_e3 sh_int sh_int sh_int)) (units_of hr)) (pv 2) (pe_q (pe_lst (pa_nil))) (nomark _))))) (pss_one (ps_expr (pe_bm PySem.F.plainAttrs_list PySem.F.slot_list_append PySem.F.type_list_append mt_append (pv 1) (pa_cons (pe_q (pe_tup (pa_cons (pv 3) (pa_cons (pe_op op_add (pe_int) (pe_kn G_law_taken (hr.mono (by decide)) (pa_cons (pv 0) (pa_cons (pe_int) (pa_nil))))) (pa_nil))))) pa_nil)))) (pss_nil)) (pss_one (ps_ret (pe_q (pe_knC GC_Weighting (hr.mono (by decide)) (passes_call takes_none5 (fun _ _ _ _ h => h)) (pa_cons (pe_q (pe_callTy call_tuple_of (by rfl) B.tuple (by decide +kernel) (pa_cons (pv 1) pa_nil))) (pa_cons (pe_q (pe_callTy call_tuple_of (by rfl) B.tuple (by decide +kernel) (pa_cons (pv 2) pa_nil))) pa_nil))))))))))), ?_⟩
    show _ ∧ _
    refine new_own (K := K) e .nil (by show 0 ≤ 100000; decide) fun p1 H2 g3 y4 o5 => ?_
    have a6 : DqAll K F [] (List.map (e2 PyData.int PyData.int) []) := .nil
    have np1 := ne_of_none w.1 y4
    have mp1 := np1.symm
    have zp1 := g_.fresh y4
    have eH2 := g3.s
    have gH2 := g_.trans (g3.weak (by simp))
    replace w := w.keep g3
    show _ ∧ _
    refine new_own (K := K) eH2 .nil (by show 0 ≤ 100000; decide) fun p8 H9 g10 y11 o12 => ?_
    have a13 : DqAll K F [] (List.map (e3 PyData.int PyData.int PyData.int) []) := .nil
    have np8 := ne_of_none w.1 y11
    have mp8 := np8.symm
    have np1_p8 := ne_of_none o5.1 y11
    have np8_p1 := np1_p8.symm
    have zp8 := gH2.fresh y11
    have eH9 := g10.s
    have gH9 := gH2.trans (g10.weak (by simp))
    replace w := w.keep g10
    replace o5 := g10.own (by simp) o5.1 o5.2
    refine ⟨_, rfl, ?_⟩
    refine ⟨F, sc, ra, scr, st, (9 : Int), rfl, eH9, w, (post_bd k).mono (fun b15 k v20 F16 H17 g18 ⟨r19, w21⟩ => ?_) (fun _ z => z)⟩
    have eF16 := g18.s
    have gF16 := gH9.trans (g18.weak (by simp))
    replace o5 := g18.own (by simp [*]) o5.1 o5.2
    replace a6 := a6.up g18.f
    replace o12 := g18.own (by simp [*]) o12.1 o12.2
    replace a13 := a13.up g18.f
    subst r19
    refine ⟨_, _, rfl, rfl, _, _, _, rfl, ?_⟩
    refine ⟨_, rfl, ?_⟩
    refine ⟨F16, sc, ra, scr, b15.2, (4 : Int), rfl, eF16, w21, (post_bd k).mono (fun b22 k v27 F23 H24 g25 ⟨r26, w28⟩ => ?_) (fun _ z => z)⟩
    have eF23 := g25.s
    have gF23 := gF16.trans (g25.weak (by simp))
    replace o5 := g25.own (by simp [*]) o5.1 o5.2
    replace a6 := a6.up g25.f
    replace o12 := g25.own (by simp [*]) o12.1 o12.2
    replace a13 := a13.up g25.f
    subst r26
    obtain ⟨h29, k⟩ := post_range k
    refine ⟨_, rfl, h29.1, h29.2, ?_⟩
    refine for_m (M := [p1, ra]) (F := F23) wlk_range (fun b31 F' H' σ' => ∃ (u4 : Option V) (u5 : Option V) (xs1 : List V), σ' = [some (V.ref ra), some (V.ref p1), some (V.ref p8), some (V.int b31.1), u4, u5] ∧ (H' p1 = some (.lst xs1) ∧ F' p1 = none) ∧ DqAll K F' xs1 (List.map (e2 PyData.int PyData.int) b31.2.1) ∧ RowAt K sc ra scr F' H' b31.2.2) k eF23 ⟨_, _, _, rfl, o5, a6, w28⟩ (fun b31 x32 v40 σ42 F33 H34 F35 H36 g37 i41 g38 r39 nx kfb31 => ?_) (fun b48 σ47 F43 H44 g45 i46 k => ?_)
    · replace o12 := g37.own (by simp [*]) o12.1 o12.2
      replace a13 := a13.up g37.f
      obtain ⟨u49, u50, xs51, rfl, o52, a53, w54⟩ := i41
      replace o12 := g38.own (by simp [*]) o12.1 o12.2
      replace a13 := a13.up g38.f
      replace o52 := g38.own (by simp [*]) o52.1 o52.2
      replace a53 := a53.up g38.f
      replace w54 := w54.keep g38
      have eF35 := g38.s
      have gF35 := g37.trans (g38.weak (by simp))
      subst r39
      refine ⟨_, rfl, _, _, rfl, rfl, _, rfl, ?_⟩
      refine ⟨F35, sc, ra, scr, b31.2.2, (4 : Int), rfl, eF35, w54, (post_bd kfb31).mono (fun b55 kfb31 v60 F56 H57 g58 ⟨r59, w61⟩ => ?_) (fun _ z => z)⟩
      have eF56 := g58.s
      have gF56 := gF35.trans (g58.weak (by simp))
      replace o12 := g58.own (by simp [*]) o12.1 o12.2
      replace a13 := a13.up g58.f
      replace o52 := g58.own (by simp [*]) o52.1 o52.2
      replace a53 := a53.up g58.f
      subst r59
      refine ⟨_, _, rfl, rfl, ?_⟩
      refine ⟨_, rfl, .inl ⟨rfl, _, sq_of o52.1⟩, _, rfl, _, rfl, ?_⟩
      refine ⟨F56, sc, ra, scr, b55.2, (20 : Int), rfl, eF56, w61, (post_bd kfb31).mono (fun b62 kfb31 v67 F63 H64 g65 ⟨r66, w68⟩ => ?_) (fun _ z => z)⟩
      have eF63 := g65.s
      have gF63 := gF56.trans (g65.weak (by simp))
      replace o12 := g65.own (by simp [*]) o12.1 o12.2
      replace a13 := a13.up g65.f
      replace o52 := g65.own (by simp [*]) o52.1 o52.2
      replace a53 := a53.up g65.f
      subst r66
      refine ⟨_, _, rfl, rfl, ?_⟩
      show _ ∧ _
      refine new_tup (K := K) (M := []) eF63 (.cons (Dq.int ((b31.1 + (1 : Int)) + b55.1)) (.cons (Dq.int ((1 : Int) + b62.1)) .nil)) (by show 2 ≤ 100000; decide) fun v73 F69 H70 g71 r72 => ?_
      have eF69 := g71.s
      have gF69 := gF63.trans (g71.weak (by simp))
      replace o12 := g71.own (by simp [*]) o12.1 o12.2
      replace a13 := a13.up g71.f
      replace o52 := g71.own (by simp [*]) o52.1 o52.2
      replace a53 := a53.up g71.f
      replace w68 := w68.keep g71
      replace r72 : Dq K F69 v73 ((e2 PyData.int PyData.int) (((b31.1 + (1 : Int)) + b55.1), ((1 : Int) + b62.1))) := r72
      obtain ⟨h74, kfb31⟩ := post_guard kfb31
      refine ⟨_, _, _, rfl, rfl, o52.1, own_sz a53 h74, ?_⟩
      have g75 := gF69.putOr (o := .lst (xs51 ++ [v73])) (.inl (by simp)) o52.1 o52.2
      replace o12 : (upd H70 p1 (.lst (xs51 ++ [v73]))) p8 = _ ∧ _ := ⟨(upd_ne np8_p1).trans o12.1, o12.2⟩
      replace w68 := w68.put np1 (o := .lst (xs51 ++ [v73]))
      replace o52 : (upd H70 p1 (.lst (xs51 ++ [v73]))) p1 = some (.lst (xs51 ++ [v73])) ∧ F69 p1 = none := ⟨upd_same, o52.2⟩
      replace a53 : DqAll K F69 (xs51 ++ [v73]) (List.map (e2 PyData.int PyData.int) (b31.2.1 ++ [(((b31.1 + (1 : Int)) + b55.1), ((1 : Int) + b62.1))])) := by rw [List.map_append]; exact a53.app (.cons r72 .nil)
      have e76 := g75.s
      exact kfb31.h _ _ _ g75 ⟨_, _, _, rfl, o52, a53, w68⟩
    have hy78 : ∀ q ∈ [p1], q ∈ [ra] ∨ H q = none := by intro q hq; simp only [List.mem_cons, List.not_mem_nil, or_false] at hq; rcases hq with rfl; exact (.inr zp1)
    have g77 := Gm.outs [p1] hy78 gF23 (g45.weak (by simp))
    replace o12 := g45.own (by simp [*]) o12.1 o12.2
    replace a13 := a13.up g45.f
    have eF43 := g45.s
    obtain ⟨u79, u80, xs81, rfl, o82, a83, w84⟩ := i46
    refine ⟨_, rfl, ?_⟩
    refine ⟨F43, sc, ra, scr, b48.2.2, (9 : Int), rfl, eF43, w84, (post_bd k).mono (fun b85 k v90 F86 H87 g88 ⟨r89, w91⟩ => ?_) (fun _ z => z)⟩
    have eF86 := g88.s
    have gF86 := g77.trans (g88.weak (by simp))
    replace o12 := g88.own (by simp [*]) o12.1 o12.2
    replace a13 := a13.up g88.f
    replace o82 := g88.own (by simp [*]) o82.1 o82.2
    replace a83 := a83.up g88.f
    subst r89
    refine ⟨_, _, rfl, rfl, ?_⟩
    refine ⟨_, rfl, ?_⟩
    refine ⟨F86, sc, ra, scr, b85.2, (3 : Int), rfl, eF86, w91, (post_bd k).mono (fun b92 k v97 F93 H94 g95 ⟨r96, w98⟩ => ?_) (fun _ z => z)⟩
    have eF93 := g95.s
    have gF93 := gF86.trans (g95.weak (by simp))
    replace o12 := g95.own (by simp [*]) o12.1 o12.2
    replace a13 := a13.up g95.f
    replace o82 := g95.own (by simp [*]) o82.1 o82.2
    replace a83 := a83.up g95.f
    subst r96
    obtain ⟨h99, k⟩ := post_range k
    refine ⟨_, rfl, h99.1, h99.2, ?_⟩
    refine for_m (M := [p8, ra]) (F := F93) wlk_range (fun b101 F' H' σ' => ∃ (u4 : Option V) (u5 : Option V) (xs2 : List V), σ' = [some (V.ref ra), some (V.ref p1), some (V.ref p8), some (V.int b101.1), u4, u5] ∧ (H' p8 = some (.lst xs2) ∧ F' p8 = none) ∧ DqAll K F' xs2 (List.map (e3 PyData.int PyData.int PyData.int) b101.2.1) ∧ RowAt K sc ra scr F' H' b101.2.2) k eF93 ⟨_, _, _, rfl, o12, a13, w98⟩ (fun b101 x102 v110 σ112 F103 H104 F105 H106 g107 i111 g108 r109 nx kfb101 => ?_) (fun b118 σ117 F113 H114 g115 i116 k => ?_)
    · replace o82 := g107.own (by simp [*]) o82.1 o82.2
      replace a83 := a83.up g107.f
      obtain ⟨u119, u120, xs121, rfl, o122, a123, w124⟩ := i111
      replace o82 := g108.own (by simp [*]) o82.1 o82.2
      replace a83 := a83.up g108.f
      replace o122 := g108.own (by simp [*]) o122.1 o122.2
      replace a123 := a123.up g108.f
      replace w124 := w124.keep g108
      have eF105 := g108.s
      have gF105 := g107.trans (g108.weak (by simp))
      subst r109
      refine ⟨_, rfl, _, rfl, ?_⟩
      refine ⟨F105, sc, ra, scr, b101.2.2, (3 : Int), rfl, eF105, w124, (post_bd kfb101).mono (fun b125 kfb101 v130 F126 H127 g128 ⟨r129, w131⟩ => ?_) (fun _ z => z)⟩
      have eF126 := g128.s
      have gF126 := gF105.trans (g128.weak (by simp))
      replace o82 := g128.own (by simp [*]) o82.1 o82.2
      replace a83 := a83.up g128.f
      replace o122 := g128.own (by simp [*]) o122.1 o122.2
      replace a123 := a123.up g128.f
      subst r129
      refine ⟨_, _, rfl, rfl, ?_⟩
      refine ⟨_, rfl, _, _, rfl, rfl, _, rfl, ?_⟩
      refine ⟨F126, sc, ra, scr, b125.2, (6 : Int), rfl, eF126, w131, (post_bd kfb101).mono (fun b132 kfb101 v137 F133 H134 g135 ⟨r136, w138⟩ => ?_) (fun _ z => z)⟩
      have eF133 := g135.s
      have gF133 := gF126.trans (g135.weak (by simp))
      replace o82 := g135.own (by simp [*]) o82.1 o82.2
      replace a83 := a83.up g135.f
      replace o122 := g135.own (by simp [*]) o122.1 o122.2
      replace a123 := a123.up g135.f
      subst r136
      refine ⟨_, _, rfl, rfl, ?_⟩
      refine ⟨_, rfl, .inl ⟨rfl, _, sq_of o122.1⟩, _, rfl, _, rfl, _, rfl, ?_⟩
      refine ⟨F133, sc, ra, scr, b132.2, (20 : Int), rfl, eF133, w138, (post_bd kfb101).mono (fun b139 kfb101 v144 F140 H141 g142 ⟨r143, w145⟩ => ?_) (fun _ z => z)⟩
      have eF140 := g142.s
      have gF140 := gF133.trans (g142.weak (by simp))
      replace o82 := g142.own (by simp [*]) o82.1 o82.2
      replace a83 := a83.up g142.f
      replace o122 := g142.own (by simp [*]) o122.1 o122.2
      replace a123 := a123.up g142.f
      subst r143
      refine ⟨_, _, rfl, rfl, ?_⟩
      show _ ∧ _
      refine new_tup (K := K) (M := []) eF140 (.cons (Dq.int (b101.1 + b125.1)) (.cons (Dq.int (((b101.1 + b125.1) + (1 : Int)) + b132.1)) (.cons (Dq.int ((1 : Int) + b139.1)) .nil))) (by show 3 ≤ 100000; decide) fun v150 F146 H147 g148 r149 => ?_
      have eF146 := g148.s
      have gF146 := gF140.trans (g148.weak (by simp))
      replace o82 := g148.own (by simp [*]) o82.1 o82.2
      replace a83 := a83.up g148.f
      replace o122 := g148.own (by simp [*]) o122.1 o122.2
      replace a123 := a123.up g148.f
      replace w145 := w145.keep g148
      replace r149 : Dq K F146 v150 ((e3 PyData.int PyData.int PyData.int) ((b101.1 + b125.1), (((b101.1 + b125.1) + (1 : Int)) + b132.1), ((1 : Int) + b139.1))) := r149
      obtain ⟨h151, kfb101⟩ := post_guard kfb101
      refine ⟨_, _, _, rfl, rfl, o122.1, own_sz a123 h151, ?_⟩
      have g152 := gF146.putOr (o := .lst (xs121 ++ [v150])) (.inl (by simp)) o122.1 o122.2
      replace o82 : (upd H147 p8 (.lst (xs121 ++ [v150]))) p1 = _ ∧ _ := ⟨(upd_ne np1_p8).trans o82.1, o82.2⟩
      replace w145 := w145.put np8 (o := .lst (xs121 ++ [v150]))
      replace o122 : (upd H147 p8 (.lst (xs121 ++ [v150]))) p8 = some (.lst (xs121 ++ [v150])) ∧ F146 p8 = none := ⟨upd_same, o122.2⟩
      replace a123 : DqAll K F146 (xs121 ++ [v150]) (List.map (e3 PyData.int PyData.int PyData.int) (b101.2.1 ++ [((b101.1 + b125.1), (((b101.1 + b125.1) + (1 : Int)) + b132.1), ((1 : Int) + b139.1))])) := by rw [List.map_append]; exact a123.app (.cons r149 .nil)
      have e153 := g152.s
      exact kfb101.h _ _ _ g152 ⟨_, _, _, rfl, o122, a123, w145⟩
    have hy155 : ∀ q ∈ [p8], q ∈ [ra] ∨ H q = none := by intro q hq; simp only [List.mem_cons, List.not_mem_nil, or_false] at hq; rcases hq with rfl; exact (.inr zp8)
    have g154 := Gm.outs [p8] hy155 gF93 (g115.weak (by simp))
    replace o82 := g115.own (by simp [*]) o82.1 o82.2
    replace a83 := a83.up g115.f
    have eF113 := g115.s
    obtain ⟨u156, u157, xs158, rfl, o159, a160, w161⟩ := i116
    refine ⟨_, rfl, ?_⟩
    show _ ∧ _
    refine new_lst (K := K) (M := []) eF113 .nil (by show 0 ≤ 100000; decide) fun v166 F162 H163 g164 r165 => ?_
    have eF162 := g164.s
    have gF162 := g154.trans (g164.weak (by simp))
    replace o82 := g164.own (by simp [*]) o82.1 o82.2
    replace a83 := a83.up g164.f
    replace o159 := g164.own (by simp [*]) o159.1 o159.2
    replace a160 := a160.up g164.f
    replace w161 := w161.keep g164
    replace r165 : Dq K F162 v166 ((eL (e2 PyData.int PyData.int)) []) := r165
    refine ⟨b48.2.1, [], (own_dp (en := (e2 PyData.int PyData.int)) (l := b48.2.1) o82.1 a83 eF162), r165.dp eF162, ?_⟩
    refine ⟨_, rfl, ?_⟩
    refine and_jM (M := []) eF162 k (fun _ Q' ktb167 => ?_) (fun b167 F168 H169 g170 k => ?_)
    · have gF162_ := Gm.refl (M := []) eF162
      refine ⟨_, rfl, ?_⟩
      show _ ∧ _
      refine new_lst (K := K) (M := []) eF162 .nil (by show 0 ≤ 100000; decide) fun v175 F171 H172 g173 r174 => ?_
      have eF171 := g173.s
      have gF171 := gF162_.trans (g173.weak (by simp))
      replace o82 := g173.own (by simp [*]) o82.1 o82.2
      replace a83 := a83.up g173.f
      replace o159 := g173.own (by simp [*]) o159.1 o159.2
      replace a160 := a160.up g173.f
      replace w161 := w161.keep g173
      replace r165 := r165.up g173.f
      replace r174 : Dq K F171 v175 ((eL (e3 PyData.int PyData.int PyData.int)) []) := r174
      refine ⟨b118.2.1, [], (own_dp (en := (e3 PyData.int PyData.int PyData.int)) (l := b118.2.1) o159.1 a160 eF171), r174.dp eF171, ?_⟩
      refine ⟨_, rfl, ?_⟩
      exact ktb167.h _ _ gF171
    have eF168 := g170.s
    have gF168 := gF162.trans (g170.weak (by simp))
    replace o82 := g170.own (by simp [*]) o82.1 o82.2
    replace a83 := a83.up g170.f
    replace o159 := g170.own (by simp [*]) o159.1 o159.2
    replace a160 := a160.up g170.f
    replace w161 := w161.keep g170
    replace r165 := r165.up g170.f
    refine ifs_jM (M := [p1, ra]) (F := F168) (fun b176 F' H' σ' => ∃ (u4 : Option V) (u5 : Option V) (xs1 : List V), σ' = [some (V.ref ra), some (V.ref p1), some (V.ref p8), some (V.int b118.1), u4, u5] ∧ (H' p1 = some (.lst xs1) ∧ F' p1 = none) ∧ DqAll K F' xs1 (List.map (e2 PyData.int PyData.int) b176.1) ∧ RowAt K sc ra scr F' H' b176.2) k (fun _ nx kjb176 => ?_) (fun _ nx kjb176 => ?_) (fun b176 σ180 F177 H178 g179 i181 k => ?_)
    · have gF168_ := Gm.refl (M := [p1, ra]) eF168
      refine ⟨_, rfl, .inl ⟨rfl, _, sq_of o82.1⟩, _, rfl, _, rfl, ?_⟩
      refine ⟨F168, sc, ra, scr, b118.2.2, (20 : Int), rfl, eF168, w161, (post_bd kjb176).mono (fun b182 kjb176 v187 F183 H184 g185 ⟨r186, w188⟩ => ?_) (fun _ z => z)⟩
      have eF183 := g185.s
      have gF183 := gF168_.trans (g185.weak (by simp))
      replace o82 := g185.own (by simp [*]) o82.1 o82.2
      replace a83 := a83.up g185.f
      replace o159 := g185.own (by simp [*]) o159.1 o159.2
      replace a160 := a160.up g185.f
      replace r165 := r165.up g185.f
      subst r186
      refine ⟨_, _, rfl, rfl, ?_⟩
      show _ ∧ _
      refine new_tup (K := K) (M := []) eF183 (.cons (Dq.int b118.1) (.cons (Dq.int ((1 : Int) + b182.1)) .nil)) (by show 2 ≤ 100000; decide) fun v193 F189 H190 g191 r192 => ?_
      have eF189 := g191.s
      have gF189 := gF183.trans (g191.weak (by simp))
      replace o82 := g191.own (by simp [*]) o82.1 o82.2
      replace a83 := a83.up g191.f
      replace o159 := g191.own (by simp [*]) o159.1 o159.2
      replace a160 := a160.up g191.f
      replace r165 := r165.up g191.f
      replace w188 := w188.keep g191
      replace r192 : Dq K F189 v193 ((e2 PyData.int PyData.int) (b118.1, ((1 : Int) + b182.1))) := r192
      obtain ⟨h194, kjb176⟩ := post_guard kjb176
      refine ⟨_, _, _, rfl, rfl, o82.1, own_sz a83 h194, ?_⟩
      have g195 := gF189.putOr (o := .lst (xs81 ++ [v193])) (.inl (by simp)) o82.1 o82.2
      replace o159 : (upd H190 p1 (.lst (xs81 ++ [v193]))) p8 = _ ∧ _ := ⟨(upd_ne np8_p1).trans o159.1, o159.2⟩
      replace w188 := w188.put np1 (o := .lst (xs81 ++ [v193]))
      replace o82 : (upd H190 p1 (.lst (xs81 ++ [v193]))) p1 = some (.lst (xs81 ++ [v193])) ∧ F189 p1 = none := ⟨upd_same, o82.2⟩
      replace a83 : DqAll K F189 (xs81 ++ [v193]) (List.map (e2 PyData.int PyData.int) (b48.2.1 ++ [(b118.1, ((1 : Int) + b182.1))])) := by rw [List.map_append]; exact a83.app (.cons r192 .nil)
      have e196 := g195.s
      exact kjb176.h _ _ _ g195 ⟨_, _, _, rfl, o82, a83, w188⟩
    · have gF168_ := Gm.refl (M := [p1, ra]) eF168
      exact kjb176.h _ _ _ gF168_ ⟨_, _, _, rfl, o82, a83, w161⟩
    have hy198 : ∀ q ∈ [p1], q ∈ [ra] ∨ H q = none := by intro q hq; simp only [List.mem_cons, List.not_mem_nil, or_false] at hq; rcases hq with rfl; exact (.inr zp1)
    have g197 := Gm.outs [p1] hy198 gF168 (g179.weak (by simp))
    replace o159 := g179.own (by simp [*]) o159.1 o159.2
    replace a160 := a160.up g179.f
    replace r165 := r165.up g179.f
    have eF177 := g179.s
    obtain ⟨u199, u200, xs201, rfl, o202, a203, w204⟩ := i181
    refine ⟨_, rfl, ?_⟩
    refine to_VO (K := K) (M := []) eF177 o202.1 a203 (en := (e2 PyData.int PyData.int)) (l := b176.1) fun v209 F205 H206 g207 r208 => ?_
    have eF205 := g207.s
    have gF205 := g197.trans (g207.weak (by simp))
    replace o159 := g207.own (by simp [*]) o159.1 o159.2
    replace a160 := a160.up g207.f
    replace r165 := r165.up g207.f
    replace o202 := g207.own (by simp [*]) o202.1 o202.2
    replace a203 := a203.up g207.f
    replace w204 := w204.keep g207
    refine ⟨_, rfl, ?_⟩
    refine to_VO (K := K) (M := []) eF205 o159.1 a160 (en := (e3 PyData.int PyData.int PyData.int)) (l := b118.2.1) fun v214 F210 H211 g212 r213 => ?_
    have eF210 := g212.s
    have gF210 := gF205.trans (g212.weak (by simp))
    replace o159 := g212.own (by simp [*]) o159.1 o159.2
    replace a160 := a160.up g212.f
    replace r165 := r165.up g212.f
    replace o202 := g212.own (by simp [*]) o202.1 o202.2
    replace a203 := a203.up g212.f
    replace w204 := w204.keep g212
    replace r208 := r208.up g212.f
    refine make_WX eF210 r208 r213 ((post_bd k).mono (fun b215 k v220 F216 H217 g218 r219 => ?_) (fun _ z => z.elim))
    have eF216 := g218.s
    have gF216 := gF210.trans (g218.weak (by simp))
    replace o159 := g218.own (by simp [*]) o159.1 o159.2
    replace a160 := a160.up g218.f
    replace r165 := r165.up g218.f
    replace o202 := g218.own (by simp [*]) o202.1 o202.2
    replace a203 := a203.up g218.f
    replace w204 := w204.keep g218
    replace r208 := r208.up g218.f
    replace r213 := r213.up g218.f
    exact k.h _ _ _ gF216 ⟨r219, w204⟩
/-! ### _law_checked -/
abbrev s_law_checked : Stmt := top 30
theorem sc_law_checked : FnScope ["_law_items", "_law_check", "_law_item"] ["_law_items"] (defScope s_law_checked) := ⟨rfl, rfl, rfl, by decide +kernel, rfl, by decide +kernel, by decide +kernel⟩
def law_checked (law_items : (List Int)) : Mm (List Int) := (foldM (fun (b5 : Int) (x6 : Int) => (mulM (29 : Int) b5).bd fun m24 => (modM (m24 + x6) (199 : Int)).bd fun m27 => Mm.ok m27) (7 : Int) law_items).bd fun b22 => (guardM (law_items.length + [b22].length ≤ 100000)).bd fun _ => Mm.ok (law_items ++ [b22])
def sp_law_checked (K : PySem.W.Frag) : Sp := fun vs H Q E => ∃ (F : Hp) (v_law_items : V) (law_items : (List Int)), vs = [v_law_items] ∧ Ex F H ∧ Dq K F v_law_items ((eL PyData.int) law_items) ∧ Post (law_checked law_items) (fun r => Ret [] F H (fun F' _ v => Dq K F' v ((eL PyData.int) r)) Q) (fun _ => False)
theorem ok_law_checked {P : Program} {w : World} {K : PySem.W.Frag} {mg : Str → Option Value} {base : Heap} {C f : Addr} {fd : FuncData} (B : Bi mg) (FF : FunD K "_law_checked" "_law_checked" (defArgs s_law_checked) (defBody s_law_checked) (defScope s_law_checked) [] [] f fd) : FnOk P w K mg base CX0 1 f fd ["_law_items"] (sp_law_checked K) := by
  refine FF.ok sc_law_checked (fun vs H Q E h => ?_) (fun cdv A outer s H vs Q E hr h => ?_)
  · obtain ⟨F, v_law_items, law_items, rfl, _⟩ := h; rfl
  · obtain ⟨F, v_law_items, law_items, rfl, e, r_law_items, k⟩ := h
    unfold law_checked at k
    have g_ := Gm.refl (M := []) e
    refine ⟨_, PSs.nox (pss_cons (ps_set (i := 1) sc_law_checked.nd rfl (Or.inl rfl) (pe_int)) (pss_cons (ps_for PassesOwn.never rfl (pi_list (pv 0)) (pg_name (i := 2) sc_law_checked.nd rfl (Or.inl rfl)) (pss_one (ps_set (i := 1) sc_law_checked.nd rfl (Or.inl rfl) (pe_op op_modM (pe_callTy call_intM (by rfl) B.int (by decide +kernel) (pa_cons (pe_op op_add (pe_op op_mulM (pe_int) (pv 1)) (pv 2)) pa_nil)) (pe_int))))) (pss_one (ps_ret (pe_q (pe_op op_cat (pv 0) (pe_q (pe_lst (pa_cons (pv 1) (pa_nil)))))))))), ?_⟩
    refine ⟨_, rfl, ?_⟩
    obtain ⟨p1, xs2, rfl, s3, a4⟩ := dp_lst r_law_items
    refine ⟨_, rfl, ⟨_, (sq_of (e _ _ s3))⟩, ?_⟩
    refine for_m (M := []) (F := F) (wlk_list e s3 a4) (fun b5 F' H' σ' => ∃ (u2 : Option V), σ' = [some (V.ref p1), some (V.int b5), u2]) k e ⟨_, rfl⟩ (fun b5 x6 v14 σ16 F7 H8 F9 H10 g11 i15 g12 r13 nx kfb5 => ?_) (fun b22 σ21 F17 H18 g19 i20 k => ?_)
    · replace r_law_items := r_law_items.up g11.f
      replace s3 := g11.f _ _ s3
      replace a4 := a4.up g11.f
      obtain ⟨u23, rfl⟩ := i15
      replace r_law_items := r_law_items.up g12.f
      replace s3 := g12.f _ _ s3
      replace a4 := a4.up g12.f
      have eF9 := g12.s
      have gF9 := g11.trans (g12.weak (by simp))
      obtain rfl := dp_int r13
      refine ⟨_, rfl, ?_⟩
      obtain ⟨m24, c25, q26, kfb5⟩ := post_mul kfb5
      refine ⟨_, _, _, rfl, rfl, c25, q26, _, rfl, _, _, rfl, rfl, _, rfl, ?_⟩
      obtain ⟨m27, c28, q29, kfb5⟩ := post_mod kfb5
      refine ⟨_, _, _, rfl, rfl, c28, q29, ?_⟩
      exact kfb5.h _ _ _ gF9 ⟨_, rfl⟩
    have g30 := g_.trans (g19.weak (by simp))
    replace r_law_items := r_law_items.up g19.f
    replace s3 := g19.f _ _ s3
    replace a4 := a4.up g19.f
    have eF17 := g19.s
    obtain ⟨u31, rfl⟩ := i20
    refine ⟨_, rfl, _, rfl, ?_⟩
    show _ ∧ _
    refine new_lst (K := K) (M := []) eF17 (.cons (Dq.int b22) .nil) (by show 1 ≤ 100000; decide) fun v36 F32 H33 g34 r35 => ?_
    have eF32 := g34.s
    have gF32 := g30.trans (g34.weak (by simp))
    replace r_law_items := r_law_items.up g34.f
    replace s3 := g34.f _ _ s3
    replace a4 := a4.up g34.f
    replace r35 : Dq K F32 v36 ((eL PyData.int) [b22]) := r35
    obtain ⟨p37, xs38, rfl, s39, a40⟩ := dp_lst r35
    obtain ⟨h42, k⟩ := post_guard k
    refine ⟨_, _, _, _, rfl, rfl, eF32 _ _ s3, eF32 _ _ s39, cat_len a4 a40 h42, new_lstC (K := K) (M := []) (en := PyData.int) (l := law_items) (l' := [b22]) eF32 a4 a40 fun v47 F43 H44 g45 r46 => ?_⟩
    have eF43 := g45.s
    have gF43 := gF32.trans (g45.weak (by simp))
    replace r_law_items := r_law_items.up g45.f
    replace s3 := g45.f _ _ s3
    replace a4 := a4.up g45.f
    replace r35 := r35.up g45.f
    replace s39 := g45.f _ _ s39
    replace a40 := a40.up g45.f
    exact k.h _ _ _ gF43 r46
/-! ### _law_offset -/
abbrev s_law_offset : Stmt := top 31
theorem sc_law_offset : FnScope ["_law_values", "e"] ["_law_values"] (defScope s_law_offset) := ⟨rfl, rfl, rfl, by decide +kernel, rfl, by decide +kernel, by decide +kernel⟩
def law_offset (law_values : (List PyData)) : Mm Xr := (decode_weighting (law_values)).tr (fun e7 => cond (decide (e7.c = 9)) (((Er.f1 e7)).bd fun i15 => Mm.ok (Xr.int i15)) (cond (decide (e7.c = 0)) (Er.g2 e7 fun i22 i23 => Mm.ok (Xr.tup Kw.weighting [i22, i23])) (Mm.bad))) (fun b1 => Mm.ok Xr.non)
def sp_law_offset (K : PySem.W.Frag) : Sp := fun vs H Q E => ∃ (F : Hp) (v_law_values : V) (law_values : (List PyData)), vs = [v_law_values] ∧ Ex F H ∧ Dq K F v_law_values ((eL id) law_values) ∧ Post (law_offset law_values) (fun r => Ret [] F H (fun F' _ v => Dq K F' v (eX r)) Q) (fun _ => False)
theorem ok_law_offset {P : Program} {w : World} {K : PySem.W.Frag} {mg : Str → Option Value} {base : Heap} {C f : Addr} {fd : FuncData} (B : Bi mg) (FF : FunD K "_law_offset" "_law_offset" (defArgs s_law_offset) (defBody s_law_offset) (defScope s_law_offset) [] [] f fd) (G_decode_weighting : Kx P w K mg base "decode_weighting" 6 ["values"] (sp_decode_weighting K C)) (XF_DecodeError : XfC K (He.ga K "DecodeError")) (XF_InvalidWeighting : XfC K (He.ga K "InvalidWeighting")) (cx_DecodeError : mg "DecodeError" = some (.ref (He.ga K "DecodeError"))) (cx_InvalidWeighting : mg "InvalidWeighting" = some (.ref (He.ga K "InvalidWeighting"))) (nf_DecodeError_offset : NoAttr K (He.ga K "DecodeError") "offset") (nf_InvalidWeighting_index : NoAttr K (He.ga K "InvalidWeighting") "index") (nf_InvalidWeighting_part : NoAttr K (He.ga K "InvalidWeighting") "part") (x_DecodeError_DecodeError : PySem.W.exmOne K (.ref (He.ga K "DecodeError")) (.ref (He.ga K "DecodeError")) = some true) (x_InvalidWeighting_DecodeError : PySem.W.exmOne K (.ref (He.ga K "InvalidWeighting")) (.ref (He.ga K "DecodeError")) = some false) (x_InvalidWeighting_InvalidWeighting : PySem.W.exmOne K (.ref (He.ga K "InvalidWeighting")) (.ref (He.ga K "InvalidWeighting")) = some true) : FnOk P w K mg base CX0 7 f fd ["_law_values"] (sp_law_offset K) := by
  refine FF.ok sc_law_offset (fun vs H Q E h => ?_) (fun cdv A outer s H vs Q E hr h => ?_)
  · obtain ⟨F, v_law_values, law_values, rfl, _⟩ := h; rfl
  · obtain ⟨F, v_law_values, law_values, rfl, e, r_law_values, k⟩ := h
    unfold law_offset at k
    have g_ := Gm.refl (M := []) e
    refine ⟨_, PSs.nox (pss_cons (ps_try_manyA rfl rfl sc_law_offset.nd takes_none5 (fun W pn xe tk po => (pss_one (ps_expr (pe_kx G_decode_weighting (hr.mono (by decide)) tk (pa_cons (pv 0) (pa_nil)))))) (.cons (i := 1) (ts := fun a cls d => _) ⟨rfl, by decide, .inl cx_DecodeError⟩ rfl rfl (fun a oe cls d pn hz hf => pss_one (ps_ret (pe_xf XF_DecodeError nf_DecodeError_offset hz hf (pv 1)))) (.cons (i := 1) (ts := fun a cls d => _) ⟨rfl, by decide, .inl cx_InvalidWeighting⟩ rfl rfl (fun a oe cls d pn hz hf => pss_one (ps_ret (pe_q (pe_tup (pa_cons (pe_str) (pa_cons (pe_xf XF_InvalidWeighting nf_InvalidWeighting_part hz hf (pv 1)) (pa_cons (pe_xf XF_InvalidWeighting nf_InvalidWeighting_index hz hf (pv 1)) (pa_nil)))))))) .nil))) (pss_one (ps_ret (pe_non)))), ?_⟩
    refine ⟨_, rfl, ?_⟩
    refine ⟨F, _, law_values, rfl, e, r_law_values, (post_tr k).mono (fun b1 k v6 F2 H3 g4 r5 => ?_) (fun e7 k c8 d9 F10 H11 g12 x13 => ?_)⟩
    · have eF2 := g4.s
      have gF2 := g_.trans (g4.weak (by simp))
      replace r_law_values := r_law_values.up g4.f
      exact k.h _ _ _ gF2 Dq.non
    · have eF10 := g12.s
      have gF10 := g_.trans (g12.weak (by simp))
      replace r_law_values := r_law_values.up g12.f
      rcases post_cond k with ⟨z14, k⟩ | ⟨_, k⟩
      · obtain ⟨i15, h16, k⟩ := post_f1 k
        obtain ⟨rfl, dx17, rfl, h18⟩ := xd1 x13 (of_decide_eq_true z14) h16
        refine ⟨true, x_DecodeError_DecodeError, fun _ a20 y21 => ?_, fun z => nomatch z⟩
        refine ⟨_, rfl, rfl, rfl, _, _, _, rfl, eF10 _ _ h18, rfl, ?_⟩
        exact k.h _ _ _ gF10 (Dq.int i15)
      rcases post_cond k with ⟨z14, k⟩ | ⟨_, k⟩
      · obtain ⟨i22, i23, h24, k⟩ := post_g2 k
        obtain ⟨rfl, dx25, rfl, h26⟩ := xd2 x13 (of_decide_eq_true z14) h24
        refine ⟨false, x_InvalidWeighting_DecodeError, fun z => (nomatch z), fun _ => ⟨true, x_InvalidWeighting_InvalidWeighting, fun _ a28 y29 => ?_, fun z => nomatch z⟩⟩
        refine ⟨_, rfl, rfl, rfl, _, _, _, rfl, eF10 _ _ h26, rfl, ?_⟩
        refine ⟨_, rfl, rfl, rfl, _, _, _, rfl, eF10 _ _ h26, rfl, ?_⟩
        show _ ∧ _
        refine new_tup (K := K) (M := []) eF10 (.cons (Dq.str ("weighting" : Str)) (.cons (Dq.int i22) (.cons (Dq.int i23) .nil))) (by show 3 ≤ 100000; decide) fun v34 F30 H31 g32 r33 => ?_
        have eF30 := g32.s
        have gF30 := gF10.trans (g32.weak (by simp))
        replace r_law_values := r_law_values.up g32.f
        replace r33 : Dq K F30 v34 (eX (Xr.tup Kw.weighting [i22, i23])) := r33
        exact k.h _ _ _ gF30 r33
      exact k.h.elim
/-! ### law -/
abbrev s_law : Stmt := top 32
theorem sc_law : FnScope ["_law_script", "_law_row", "_law_turn", "_law_values", "_law_k", "_law_last", "_law_bad", "_law_base", "_law_item", "_law_at"] ["_law_script"] (defScope s_law) := ⟨rfl, rfl, rfl, by decide +kernel, rfl, by decide +kernel, by decide +kernel⟩
def law (scr : List Int) : Mm Bool := (rangeM (3 : Int)).bd fun l2 => (foldL (R := Bool) (fun (b3 : Rw) (x4 : Int) => (law_weighting scr b3).bd fun b30 => (encode_weighting (b30.1)).bd fun b37 => (takenB scr b30.2 ((b37.length : Int))).bd fun b48 => (law_offset ((List.map PyData.int (cutL b37 none (some b48.1))))).bd fun b60 => (cond (!(decide (b60 = (Xr.int b48.1)))) (Mm.ok (true, b48.2)) ((takenB scr b48.2 ((256 : Int))).bd fun b72 => (guardM (b37.length + [b72.1].length ≤ 100000)).bd fun _ => (law_offset ((List.map PyData.int (b37 ++ [b72.1])))).bd fun b95 => Mm.ok ((!(decide (b95 = (Xr.int (b37.length : Int))))), b72.2))).bd fun b67 => cond b67.1 (Mm.ok (Fl.ret false)) ((takenB scr b67.2 ((4 : Int))).bd fun b107 => (getM [(PyData.int (256 : Int)), (PyData.int ((0 : Int) - (1 : Int))), (PyData.bool true), (PyData.bool false)] b107.1).bd fun i118 => (guardM ((List.map PyData.int (cutL b37 none (some b48.1))).length + [i118].length ≤ 100000)).bd fun _ => (guardM (((List.map PyData.int (cutL b37 none (some b48.1))) ++ [i118]).length + (List.map PyData.int (cutL b37 (some (b48.1 + (1 : Int))) none)).length ≤ 100000)).bd fun _ => (law_offset ((((List.map PyData.int (cutL b37 none (some b48.1))) ++ [i118]) ++ (List.map PyData.int (cutL b37 (some (b48.1 + (1 : Int))) none))))).bd fun b168 => cond (!(decide (b168 = (Xr.int b48.1)))) (Mm.ok (Fl.ret false)) ((getM b37 ((b37.length : Int) - (1 : Int))).bd fun i180 => (takenB scr b107.2 ((198 : Int))).bd fun b185 => (modM ((i180 + (1 : Int)) + b185.1) (199 : Int)).bd fun m192 => (guardM ((cutL b37 none (some ((b37.length : Int) - (1 : Int)))).length + [m192].length ≤ 100000)).bd fun _ => (law_offset ((List.map PyData.int ((cutL b37 none (some ((b37.length : Int) - (1 : Int)))) ++ [m192])))).bd fun b215 => cond (!(decide (b215 = (Xr.int ((b37.length : Int) - (1 : Int)))))) (Mm.ok (Fl.ret false)) (Mm.ok (Fl.go b185.2))))) (Rw.mk 0 0 0) (rangeL 0 (3 : Int).toNat)).bd fun o => o.el (fun b20 => (law_checked ([(113 : Int), (1 : Int), (1 : Int), (0 : Int), (20 : Int), (5 : Int), (40 : Int), (1 : Int)])).bd fun b237 => (law_offset ((List.map PyData.int b237))).bd fun b244 => cond (!(decide (b244 = Xr.non))) (Mm.ok false) ((foldL (R := Bool) (fun (b310 : Rw) (x311 : (Int × Int)) => (guardM ((cutL [(113 : Int), (1 : Int), (1 : Int), (0 : Int), (20 : Int), (5 : Int), (40 : Int), (1 : Int)] none (some x311.2)).length + [x311.1].length ≤ 100000)).bd fun _ => (guardM (((cutL [(113 : Int), (1 : Int), (1 : Int), (0 : Int), (20 : Int), (5 : Int), (40 : Int), (1 : Int)] none (some x311.2)) ++ [x311.1]).length + (cutL [(113 : Int), (1 : Int), (1 : Int), (0 : Int), (20 : Int), (5 : Int), (40 : Int), (1 : Int)] (some (x311.2 + (1 : Int))) none).length ≤ 100000)).bd fun _ => (guardM ((((cutL [(113 : Int), (1 : Int), (1 : Int), (0 : Int), (20 : Int), (5 : Int), (40 : Int), (1 : Int)] none (some x311.2)) ++ [x311.1]) ++ (cutL [(113 : Int), (1 : Int), (1 : Int), (0 : Int), (20 : Int), (5 : Int), (40 : Int), (1 : Int)] (some (x311.2 + (1 : Int))) none)).length + [(0 : Int)].length ≤ 100000)).bd fun _ => (law_checked (((((cutL [(113 : Int), (1 : Int), (1 : Int), (0 : Int), (20 : Int), (5 : Int), (40 : Int), (1 : Int)] none (some x311.2)) ++ [x311.1]) ++ (cutL [(113 : Int), (1 : Int), (1 : Int), (0 : Int), (20 : Int), (5 : Int), (40 : Int), (1 : Int)] (some (x311.2 + (1 : Int))) none)) ++ [(0 : Int)]))).bd fun b411 => (law_offset ((List.map PyData.int b411))).bd fun b418 => cond (!(decide (b418 = (Xr.int x311.2)))) (Mm.ok (Fl.ret false)) (Mm.ok (Fl.go b310))) b20 [((112 : Int), (0 : Int)), ((7 : Int), (1 : Int)), ((5 : Int), (2 : Int)), ((41 : Int), (3 : Int)), ((21 : Int), (4 : Int)), ((0 : Int), (4 : Int)), ((41 : Int), (5 : Int)), ((41 : Int), (6 : Int)), ((0 : Int), (7 : Int)), ((21 : Int), (7 : Int))]).bd fun o => o.el (fun b327 => (law_checked ([(113 : Int), (0 : Int), (0 : Int)])).bd fun b439 => (law_offset ((List.map PyData.int b439))).bd fun b446 => cond (!(decide (b446 = (Xr.tup Kw.weighting [(2 : Int), (0 : Int)])))) (Mm.ok false) ((law_checked ([(113 : Int), (2 : Int), (0 : Int), (9 : Int), (1 : Int), (9 : Int), (1 : Int)])).bd fun b463 => (law_offset ((List.map PyData.int b463))).bd fun b470 => cond (!(decide (b470 = (Xr.tup Kw.weighting [(0 : Int), (1 : Int)])))) (Mm.ok false) ((law_checked ([(113 : Int), (0 : Int), (1 : Int), (9 : Int), (9 : Int), (1 : Int)])).bd fun b487 => (law_offset ((List.map PyData.int b487))).bd fun b494 => Mm.ok (decide (b494 = (Xr.tup Kw.weighting [(1 : Int), (0 : Int)])))))) (fun r => Mm.ok r))) (fun r => Mm.ok r)
def sp_law (K : PySem.W.Frag) : Sp := fun vs H Q _ => ∃ (sc : Addr) (scr : List Int), vs = [.ref sc] ∧ SqL K H sc (scr.map V.int) ∧ Post (law scr) (fun r => ∀ H', Q (.bl r) H') (fun _ => False)
theorem ok_law {P : Program} {w : World} {K : PySem.W.Frag} {mg : Str → Option Value} {base : Heap} {C f : Addr} {fd : FuncData} (B : Bi mg) (FF : FunD K "law" "law" (defArgs s_law) (defBody s_law) (defScope s_law) [] [] f fd) (G_encode_weighting : Kn P w K mg base "encode_weighting" 3 ["weighting"] (sp_encode_weighting K C)) (G_law_weighting : Kn P w K mg base "_law_weighting" 6 ["_law_row"] (sp_law_weighting K C)) (G_law_taken : Kn P w K mg base "_law_taken" 1 ["_law_row", "_law_many"] (spTaken takenB K)) (G_law_offset : Kn P w K mg base "_law_offset" 7 ["_law_values"] (sp_law_offset K)) (G_law_checked : Kn P w K mg base "_law_checked" 1 ["_law_items"] (sp_law_checked K)) : FnOk P w K mg base CX0 8 f fd ["_law_script"] (sp_law K) := by
  refine FF.ok sc_law (fun vs H Q E h => ?_) (fun cdv A outer s H vs Q E hr h => ?_)
  · obtain ⟨sc, scr, rfl, _⟩ := h; rfl
  · obtain ⟨sc, scr, rfl, hs, k⟩ := h
    unfold law at k
    refine ⟨_, PSs.nox (pss_cons (ps_set (i := 1) sc_law.nd rfl (Or.inl rfl) (pe_q (pe_lst (pa_cons (pv 0) (pa_cons pe_int (pa_cons pe_int (pa_cons pe_int pa_nil))))))) (pss_cons (ps_for PassesOwn.never rfl (pi_range1 rfl B.range (pa_cons (pe_int) (pa_nil))) (pg_name (i := 2) sc_law.nd rfl (Or.inl rfl)) (pss_cons (ps_set (i := 3) sc_law.nd rfl (Or.inl rfl) (pe_kn G_encode_weighting (hr.mono (by decide)) (pa_cons (pe_kn G_law_weighting (hr.mono (by decide)) (pa_cons (pv 1) (pa_nil))) (pa_nil)))) (pss_cons (ps_par (i := 4) (j := 5) (by rfl) sc_law.nd rfl rfl (by decide) rfl rfl (pa_cons (pe_kn G_law_taken (hr.mono (by decide)) (pa_cons (pv 1) (pa_cons (pe_callB call_lenM (by rfl) B.len (by decide +kernel) (pa_cons (pv 3) pa_nil)) (pa_nil)))) (pa_cons (pe_op op_sub (pe_callB call_lenM (by rfl) B.len (by decide +kernel) (pa_cons (pv 3) pa_nil)) (pe_int)) (pa_nil))) (by rfl)) (pss_cons (ps_if (PW.pt (pw_or (pt_cmpR (r := rNeM K eX) (op_neM sh_X (units_of hr)) (pe_kn G_law_offset (hr.mono (by decide)) (pa_cons (pe_q (pe_slice sl_list (pv 3) po_none (po_some (pv 4)))) (pa_nil))) (pv 4) (nomark _)) (pw_or1 (pt_cmpR (r := rNeM K eX) (op_neM sh_X (units_of hr)) (pe_kn G_law_offset (hr.mono (by decide)) (pa_cons (pe_q (pe_op op_cat (pv 3) (pe_q (pe_lst (pa_cons (pe_kn G_law_taken (hr.mono (by decide)) (pa_cons (pv 1) (pa_cons (pe_int) (pa_nil)))) (pa_nil)))))) (pa_nil))) (pe_callB call_lenM (by rfl) B.len (by decide +kernel) (pa_cons (pv 3) pa_nil)) (nomark _))))) (pss_one (ps_ret (pe_bl))) pss_nil) (pss_cons (ps_set (i := 6) sc_law.nd rfl (Or.inl rfl) (pe_ix (r := rIxL K) ix_list (pe_q (pe_lst (pa_cons (pe_int) (pa_cons (pe_op op_sub (pe_int) (pe_int)) (pa_cons (pe_bl) (pa_cons (pe_bl) (pa_nil))))))) (pe_kn G_law_taken (hr.mono (by decide)) (pa_cons (pv 1) (pa_cons (pe_int) (pa_nil)))) (fun _ _ => rfl))) (pss_cons (ps_if (pt_cmpR (r := rNeM K eX) (op_neM sh_X (units_of hr)) (pe_kn G_law_offset (hr.mono (by decide)) (pa_cons (pe_q (pe_op op_cat (pe_q (pe_op op_cat (pe_q (pe_slice sl_list (pv 3) po_none (po_some (pv 4)))) (pe_q (pe_lst (pa_cons (pv 6) (pa_nil)))))) (pe_q (pe_slice sl_list (pv 3) (po_some (pe_op op_add (pv 4) (pe_int))) po_none)))) (pa_nil))) (pv 4) (nomark _)) (pss_one (ps_ret (pe_bl))) pss_nil) (pss_one (ps_if (pt_cmpR (r := rNeM K eX) (op_neM sh_X (units_of hr)) (pe_kn G_law_offset (hr.mono (by decide)) (pa_cons (pe_q (pe_op op_cat (pe_q (pe_slice sl_list (pv 3) po_none (po_some (pv 5)))) (pe_q (pe_lst (pa_cons (pe_op op_modM (pe_callTy call_intM (by rfl) B.int (by decide +kernel) (pa_cons (pe_op op_add (pe_op op_add (pe_ix (r := rIxL K) ix_list (pv 3) (pv 5) (fun _ _ => rfl)) (pe_int)) (pe_kn G_law_taken (hr.mono (by decide)) (pa_cons (pv 1) (pa_cons (pe_int) (pa_nil))))) pa_nil)) (pe_int)) (pa_nil)))))) (pa_nil))) (pv 5) (nomark _)) (pss_one (ps_ret (pe_bl))) pss_nil)))))))) (pss_cons (ps_set (i := 7) sc_law.nd rfl (Or.inl rfl) (pe_q (pe_lst (pa_cons (pe_int) (pa_cons (pe_int) (pa_cons (pe_int) (pa_cons (pe_int) (pa_cons (pe_int) (pa_cons (pe_int) (pa_cons (pe_int) (pa_cons (pe_int) (pa_nil)))))))))))) (pss_cons (ps_if (pt_cmp (pc_notN (pe_kn G_law_offset (hr.mono (by decide)) (pa_cons (pe_kn G_law_checked (hr.mono (by decide)) (pa_cons (pv 7) (pa_nil))) (pa_nil)))) rfl) (pss_one (ps_ret (pe_bl))) pss_nil) (pss_cons (ps_for PassesOwn.never rfl (pi_list (pe_q (pe_lst (pa_cons (pe_q (pe_tup (pa_cons (pe_int) (pa_cons (pe_int) (pa_nil))))) (pa_cons (pe_q (pe_tup (pa_cons (pe_int) (pa_cons (pe_int) (pa_nil))))) (pa_cons (pe_q (pe_tup (pa_cons (pe_int) (pa_cons (pe_int) (pa_nil))))) (pa_cons (pe_q (pe_tup (pa_cons (pe_int) (pa_cons (pe_int) (pa_nil))))) (pa_cons (pe_q (pe_tup (pa_cons (pe_int) (pa_cons (pe_int) (pa_nil))))) (pa_cons (pe_q (pe_tup (pa_cons (pe_int) (pa_cons (pe_int) (pa_nil))))) (pa_cons (pe_q (pe_tup (pa_cons (pe_int) (pa_cons (pe_int) (pa_nil))))) (pa_cons (pe_q (pe_tup (pa_cons (pe_int) (pa_cons (pe_int) (pa_nil))))) (pa_cons (pe_q (pe_tup (pa_cons (pe_int) (pa_cons (pe_int) (pa_nil))))) (pa_cons (pe_q (pe_tup (pa_cons (pe_int) (pa_cons (pe_int) (pa_nil))))) (pa_nil)))))))))))))) (pg_tup (by rfl) (pgs_cons (pg_name (i := 8) sc_law.nd rfl (Or.inl rfl)) (pgs_cons (pg_name (i := 9) sc_law.nd rfl (Or.inl rfl)) (pgs_nil)))) (pss_one (ps_if (pt_cmpR (r := rNeM K eX) (op_neM sh_X (units_of hr)) (pe_kn G_law_offset (hr.mono (by decide)) (pa_cons (pe_kn G_law_checked (hr.mono (by decide)) (pa_cons (pe_q (pe_op op_cat (pe_q (pe_op op_cat (pe_q (pe_op op_cat (pe_q (pe_slice sl_list (pv 7) po_none (po_some (pv 9)))) (pe_q (pe_lst (pa_cons (pv 8) (pa_nil)))))) (pe_q (pe_slice sl_list (pv 7) (po_some (pe_op op_add (pv 9) (pe_int))) po_none)))) (pe_q (pe_lst (pa_cons (pe_int) (pa_nil)))))) (pa_nil))) (pa_nil))) (pv 9) (nomark _)) (pss_one (ps_ret (pe_bl))) pss_nil))) (pss_cons (ps_if (pt_cmpR (r := rNeM K eX) (op_neM sh_X (units_of hr)) (pe_kn G_law_offset (hr.mono (by decide)) (pa_cons (pe_kn G_law_checked (hr.mono (by decide)) (pa_cons (pe_q (pe_lst (pa_cons (pe_int) (pa_cons (pe_int) (pa_cons (pe_int) (pa_nil)))))) (pa_nil))) (pa_nil))) (pe_q (pe_tup (pa_cons (pe_str) (pa_cons (pe_int) (pa_cons (pe_int) (pa_nil)))))) (nomark _)) (pss_one (ps_ret (pe_bl))) pss_nil) (pss_cons (ps_if (pt_cmpR (r := rNeM K eX) (op_neM sh_X (units_of hr)) (pe_kn G_law_offset (hr.mono (by decide)) (pa_cons (pe_kn G_law_checked (hr.mono (by decide)) (pa_cons (pe_q (pe_lst (pa_cons (pe_int) (pa_cons (pe_int) (pa_cons (pe_int) (pa_cons (pe_int) (pa_cons (pe_int) (pa_cons (pe_int) (pa_cons (pe_int) (pa_nil)))))))))) (pa_nil))) (pa_nil))) (pe_q (pe_tup (pa_cons (pe_str) (pa_cons (pe_int) (pa_cons (pe_int) (pa_nil)))))) (nomark _)) (pss_one (ps_ret (pe_bl))) pss_nil) (pss_one (ps_ret (pe_cmpR (r := rEqM K eX) (op_eqM sh_X (units_of hr)) (pe_kn G_law_offset (hr.mono (by decide)) (pa_cons (pe_kn G_law_checked (hr.mono (by decide)) (pa_cons (pe_q (pe_lst (pa_cons (pe_int) (pa_cons (pe_int) (pa_cons (pe_int) (pa_cons (pe_int) (pa_cons (pe_int) (pa_cons (pe_int) (pa_nil))))))))) (pa_nil))) (pa_nil))) (pe_q (pe_tup (pa_cons (pe_str) (pa_cons (pe_int) (pa_cons (pe_int) (pa_nil)))))) (nomark _))))))))))), ?_⟩
    refine ⟨_, rfl, ?_⟩
    show _ ∧ _
    refine new_row hs fun ra H0 e w => ?_
    have g_ := Gm.refl (M := [ra]) e
    obtain ⟨h1, k⟩ := post_range k
    refine ⟨_, rfl, h1.1, h1.2, ?_⟩
    refine for_mL (M := [ra]) (F := H) wlk_range (fun b3 F' H' σ' => ∃ (u2 : Option V) (u3 : Option V) (u4 : Option V) (u5 : Option V) (u6 : Option V) (u7 : Option V) (u8 : Option V) (u9 : Option V), σ' = [some (V.ref sc), some (V.ref ra), u2, u3, u4, u5, u6, u7, u8, u9] ∧ RowAt K sc ra scr F' H' b3) k e ⟨_, _, _, _, _, _, _, _, rfl, w⟩ (fun b3 x4 v12 σ14 F5 H6 F7 H8 g9 i13 g10 r11 nx kfb3 => ?_) (fun b20 σ19 F15 H16 g17 i18 k => ?_)
    · obtain ⟨u21, u22, u23, u24, u25, u26, u27, u28, rfl, w29⟩ := i13
      replace w29 := w29.keep g10
      have eF7 := g10.s
      have gF7 := g9.trans (g10.weak (by simp))
      subst r11
      refine ⟨_, rfl, ?_⟩
      refine ⟨F7, sc, ra, scr, b3, rfl, eF7, w29, (post_bd kfb3).mono (fun b30 kfb3 v35 F31 H32 g33 ⟨r34, w36⟩ => ?_) (fun _ z => z)⟩
      have eF31 := g33.s
      have gF31 := gF7.trans (g33.weak (by simp))
      refine ⟨F31, _, b30.1, rfl, eF31, r34, (post_bd kfb3).mono (fun b37 kfb3 v42 F38 H39 g40 r41 => ?_) (fun _ z => z)⟩
      have eF38 := g40.s
      have gF38 := gF31.trans (g40.weak (by simp))
      replace w36 := w36.keep g40
      replace r34 := r34.up g40.f
      refine ⟨_, rfl, _, rfl, ?_⟩
      obtain ⟨p44, xs45, rfl, s46, a47⟩ := dp_lst r41
      refine ⟨_, _, _, rfl, .inl (sq_of (eF38 _ _ s46)), len_all a47, ?_⟩
      refine ⟨F38, sc, ra, scr, b30.2, (b37.length : Int), rfl, eF38, w36, (post_bd kfb3).mono (fun b48 kfb3 v53 F49 H50 g51 ⟨r52, w54⟩ => ?_) (fun _ z => z)⟩
      have eF49 := g51.s
      have gF49 := gF38.trans (g51.weak (by simp))
      replace r34 := r34.up g51.f
      replace r41 := r41.up g51.f
      replace s46 := g51.f _ _ s46
      replace a47 := a47.up g51.f
      subst r52
      refine ⟨_, rfl, ?_⟩
      refine ⟨_, _, _, rfl, .inl (sq_of (eF49 _ _ s46)), len_all a47, _, _, rfl, rfl, _, _, rfl, ?_⟩
      refine ⟨_, rfl, _, rfl, _, rfl, ?_⟩
      refine cut_lst (K := K) (M := []) eF49 s46 a47 fun v59 F55 H56 g57 r58 => ?_
      have eF55 := g57.s
      have gF55 := gF49.trans (g57.weak (by simp))
      replace r34 := r34.up g57.f
      replace r41 := r41.up g57.f
      replace s46 := g57.f _ _ s46
      replace a47 := a47.up g57.f
      replace w54 := w54.keep g57
      refine ⟨F55, _, (List.map PyData.int (cutL b37 none (some b48.1))), rfl, eF55, (dq_LI r58), (post_bd kfb3).mono (fun b60 kfb3 v65 F61 H62 g63 r64 => ?_) (fun _ z => z)⟩
      have eF61 := g63.s
      have gF61 := gF55.trans (g63.weak (by simp))
      replace r34 := r34.up g63.f
      replace r41 := r41.up g63.f
      replace s46 := g63.f _ _ s46
      replace a47 := a47.up g63.f
      replace w54 := w54.keep g63
      replace r58 := r58.up g63.f
      refine ⟨_, rfl, b60, (Xr.int b48.1), r64.dp eF61, (Dq.int b48.1).dp eF61, ?_⟩
      refine ⟨_, rfl, ?_⟩
      refine or_jS (M := [ra]) (fun st' F' H' => RowAt K sc ra scr F' H' st') eF61 w54 kfb3 (fun _ Q' kfb3tb67 => ?_) (fun b67 F68 H69 g70 w71 kfb3 => ?_)
      · have gF61_ := Gm.refl (M := [ra]) eF61
        refine ⟨_, rfl, _, rfl, ?_⟩
        refine ⟨F61, sc, ra, scr, b48.2, (256 : Int), rfl, eF61, w54, (post_bd kfb3tb67).mono (fun b72 kfb3tb67 v77 F73 H74 g75 ⟨r76, w78⟩ => ?_) (fun _ z => z)⟩
        have eF73 := g75.s
        have gF73 := gF61_.trans (g75.weak (by simp))
        replace r34 := r34.up g75.f
        replace r41 := r41.up g75.f
        replace s46 := g75.f _ _ s46
        replace a47 := a47.up g75.f
        replace r58 := r58.up g75.f
        replace r64 := r64.up g75.f
        subst r76
        show _ ∧ _
        refine new_lst (K := K) (M := []) eF73 (.cons (Dq.int b72.1) .nil) (by show 1 ≤ 100000; decide) fun v83 F79 H80 g81 r82 => ?_
        have eF79 := g81.s
        have gF79 := gF73.trans (g81.weak (by simp))
        replace r34 := r34.up g81.f
        replace r41 := r41.up g81.f
        replace s46 := g81.f _ _ s46
        replace a47 := a47.up g81.f
        replace r58 := r58.up g81.f
        replace r64 := r64.up g81.f
        replace w78 := w78.keep g81
        replace r82 : Dq K F79 v83 ((eL PyData.int) [b72.1]) := r82
        obtain ⟨p84, xs85, rfl, s86, a87⟩ := dp_lst r82
        obtain ⟨h89, kfb3tb67⟩ := post_guard kfb3tb67
        refine ⟨_, _, _, _, rfl, rfl, eF79 _ _ s46, eF79 _ _ s86, cat_len a47 a87 h89, new_lstC (K := K) (M := []) (en := PyData.int) (l := b37) (l' := [b72.1]) eF79 a47 a87 fun v94 F90 H91 g92 r93 => ?_⟩
        have eF90 := g92.s
        have gF90 := gF79.trans (g92.weak (by simp))
        replace r34 := r34.up g92.f
        replace r41 := r41.up g92.f
        replace s46 := g92.f _ _ s46
        replace a47 := a47.up g92.f
        replace r58 := r58.up g92.f
        replace r64 := r64.up g92.f
        replace w78 := w78.keep g92
        replace r82 := r82.up g92.f
        replace s86 := g92.f _ _ s86
        replace a87 := a87.up g92.f
        refine ⟨F90, _, (List.map PyData.int (b37 ++ [b72.1])), rfl, eF90, (dq_LI r93), (post_bd kfb3tb67).mono (fun b95 kfb3tb67 v100 F96 H97 g98 r99 => ?_) (fun _ z => z)⟩
        have eF96 := g98.s
        have gF96 := gF90.trans (g98.weak (by simp))
        replace r34 := r34.up g98.f
        replace r41 := r41.up g98.f
        replace s46 := g98.f _ _ s46
        replace a47 := a47.up g98.f
        replace r58 := r58.up g98.f
        replace r64 := r64.up g98.f
        replace w78 := w78.keep g98
        replace r82 := r82.up g98.f
        replace s86 := g98.f _ _ s86
        replace a87 := a87.up g98.f
        replace r93 := r93.up g98.f
        refine ⟨_, rfl, ?_⟩
        refine ⟨_, _, _, rfl, .inl (sq_of (eF96 _ _ s46)), len_all a47, b95, (Xr.int (b37.length : Int)), r99.dp eF96, (Dq.int (b37.length : Int)).dp eF96, ?_⟩
        refine ⟨_, rfl, ?_⟩
        exact kfb3tb67.h _ _ gF96 w78
      have eF68 := g70.s
      have gF68 := gF61.trans (g70.weak (by simp))
      replace r34 := r34.up g70.f
      replace r41 := r41.up g70.f
      replace s46 := g70.f _ _ s46
      replace a47 := a47.up g70.f
      replace r58 := r58.up g70.f
      replace r64 := r64.up g70.f
      refine cs kfb3 (fun _ kfb3 => ?_) (fun _ kfb3 => ?_)
      · exact (show Post (Mm.ok _) _ _ from kfb3.h).h _
      · refine ⟨_, _, rfl, rfl, ?_⟩
        show _ ∧ _
        refine new_lst (K := K) (M := []) eF68 (.cons (Dq.int (256 : Int)) (.cons (Dq.int ((0 : Int) - (1 : Int))) (.cons (Dq.bl true) (.cons (Dq.bl false) .nil)))) (by show 4 ≤ 100000; decide) fun v106 F102 H103 g104 r105 => ?_
        have eF102 := g104.s
        have gF102 := gF68.trans (g104.weak (by simp))
        replace r34 := r34.up g104.f
        replace r41 := r41.up g104.f
        replace s46 := g104.f _ _ s46
        replace a47 := a47.up g104.f
        replace r58 := r58.up g104.f
        replace r64 := r64.up g104.f
        replace w71 := w71.keep g104
        replace r105 : Dq K F102 v106 ((eL id) [(PyData.int (256 : Int)), (PyData.int ((0 : Int) - (1 : Int))), (PyData.bool true), (PyData.bool false)]) := r105
        refine ⟨_, rfl, ?_⟩
        refine ⟨F102, sc, ra, scr, b67.2, (4 : Int), rfl, eF102, w71, (post_bd kfb3).mono (fun b107 kfb3 v112 F108 H109 g110 ⟨r111, w113⟩ => ?_) (fun _ z => z)⟩
        have eF108 := g110.s
        have gF108 := gF102.trans (g110.weak (by simp))
        replace r34 := r34.up g110.f
        replace r41 := r41.up g110.f
        replace s46 := g110.f _ _ s46
        replace a47 := a47.up g110.f
        replace r58 := r58.up g110.f
        replace r64 := r64.up g110.f
        replace r105 := r105.up g110.f
        subst r111
        obtain ⟨p114, xs115, rfl, s116, a117⟩ := dp_lst r105
        obtain ⟨i118, h119, kfb3⟩ := post_get kfb3
        obtain ⟨v120, h121, r122⟩ := dq_at a117 h119
        refine ⟨_, _, _, _, rfl, rfl, (sq_of (eF108 _ _ s116)), h121, ?_⟩
        refine ⟨_, rfl, _, rfl, _, rfl, ?_⟩
        refine cut_lst (K := K) (M := []) eF108 s46 a47 fun v127 F123 H124 g125 r126 => ?_
        have eF123 := g125.s
        have gF123 := gF108.trans (g125.weak (by simp))
        replace r34 := r34.up g125.f
        replace r41 := r41.up g125.f
        replace s46 := g125.f _ _ s46
        replace a47 := a47.up g125.f
        replace r58 := r58.up g125.f
        replace r64 := r64.up g125.f
        replace r105 := r105.up g125.f
        replace w113 := w113.keep g125
        replace s116 := g125.f _ _ s116
        replace a117 := a117.up g125.f
        replace r122 := r122.up g125.f
        refine ⟨_, rfl, ?_⟩
        show _ ∧ _
        refine new_lst (K := K) (M := []) eF123 (.cons r122 .nil) (by show 1 ≤ 100000; decide) fun v132 F128 H129 g130 r131 => ?_
        have eF128 := g130.s
        have gF128 := gF123.trans (g130.weak (by simp))
        replace r34 := r34.up g130.f
        replace r41 := r41.up g130.f
        replace s46 := g130.f _ _ s46
        replace a47 := a47.up g130.f
        replace r58 := r58.up g130.f
        replace r64 := r64.up g130.f
        replace r105 := r105.up g130.f
        replace w113 := w113.keep g130
        replace s116 := g130.f _ _ s116
        replace a117 := a117.up g130.f
        replace r122 := r122.up g130.f
        replace r126 := r126.up g130.f
        replace r131 : Dq K F128 v132 ((eL id) [i118]) := r131
        obtain ⟨p133, xs134, rfl, s135, a136⟩ := dp_lst r126
        obtain ⟨p137, xs138, rfl, s139, a140⟩ := dp_lst r131
        obtain ⟨h142, kfb3⟩ := post_guard kfb3
        refine ⟨_, _, _, _, rfl, rfl, eF128 _ _ s135, eF128 _ _ s139, cat_len (all_LI a136) a140 h142, new_lstC (K := K) (M := []) (en := id) (l := (List.map PyData.int (cutL b37 none (some b48.1)))) (l' := [i118]) eF128 (all_LI a136) a140 fun v147 F143 H144 g145 r146 => ?_⟩
        have eF143 := g145.s
        have gF143 := gF128.trans (g145.weak (by simp))
        replace r34 := r34.up g145.f
        replace r41 := r41.up g145.f
        replace s46 := g145.f _ _ s46
        replace a47 := a47.up g145.f
        replace r58 := r58.up g145.f
        replace r64 := r64.up g145.f
        replace r105 := r105.up g145.f
        replace w113 := w113.keep g145
        replace s116 := g145.f _ _ s116
        replace a117 := a117.up g145.f
        replace r122 := r122.up g145.f
        replace r126 := r126.up g145.f
        replace r131 := r131.up g145.f
        replace s135 := g145.f _ _ s135
        replace a136 := a136.up g145.f
        replace s139 := g145.f _ _ s139
        replace a140 := a140.up g145.f
        refine ⟨_, rfl, _, rfl, _, _, rfl, rfl, _, rfl, ?_⟩
        refine cut_lst (K := K) (M := []) eF143 s46 a47 fun v152 F148 H149 g150 r151 => ?_
        have eF148 := g150.s
        have gF148 := gF143.trans (g150.weak (by simp))
        replace r34 := r34.up g150.f
        replace r41 := r41.up g150.f
        replace s46 := g150.f _ _ s46
        replace a47 := a47.up g150.f
        replace r58 := r58.up g150.f
        replace r64 := r64.up g150.f
        replace r105 := r105.up g150.f
        replace w113 := w113.keep g150
        replace s116 := g150.f _ _ s116
        replace a117 := a117.up g150.f
        replace r122 := r122.up g150.f
        replace r126 := r126.up g150.f
        replace r131 := r131.up g150.f
        replace s135 := g150.f _ _ s135
        replace a136 := a136.up g150.f
        replace s139 := g150.f _ _ s139
        replace a140 := a140.up g150.f
        replace r146 := r146.up g150.f
        obtain ⟨p153, xs154, rfl, s155, a156⟩ := dp_lst r146
        obtain ⟨p157, xs158, rfl, s159, a160⟩ := dp_lst r151
        obtain ⟨h162, kfb3⟩ := post_guard kfb3
        refine ⟨_, _, _, _, rfl, rfl, eF148 _ _ s155, eF148 _ _ s159, cat_len a156 (all_LI a160) h162, new_lstC (K := K) (M := []) (en := id) (l := ((List.map PyData.int (cutL b37 none (some b48.1))) ++ [i118])) (l' := (List.map PyData.int (cutL b37 (some (b48.1 + (1 : Int))) none))) eF148 a156 (all_LI a160) fun v167 F163 H164 g165 r166 => ?_⟩
        have eF163 := g165.s
        have gF163 := gF148.trans (g165.weak (by simp))
        replace r34 := r34.up g165.f
        replace r41 := r41.up g165.f
        replace s46 := g165.f _ _ s46
        replace a47 := a47.up g165.f
        replace r58 := r58.up g165.f
        replace r64 := r64.up g165.f
        replace r105 := r105.up g165.f
        replace w113 := w113.keep g165
        replace s116 := g165.f _ _ s116
        replace a117 := a117.up g165.f
        replace r122 := r122.up g165.f
        replace r126 := r126.up g165.f
        replace r131 := r131.up g165.f
        replace s135 := g165.f _ _ s135
        replace a136 := a136.up g165.f
        replace s139 := g165.f _ _ s139
        replace a140 := a140.up g165.f
        replace r146 := r146.up g165.f
        replace r151 := r151.up g165.f
        replace s155 := g165.f _ _ s155
        replace a156 := a156.up g165.f
        replace s159 := g165.f _ _ s159
        replace a160 := a160.up g165.f
        refine ⟨F163, _, (((List.map PyData.int (cutL b37 none (some b48.1))) ++ [i118]) ++ (List.map PyData.int (cutL b37 (some (b48.1 + (1 : Int))) none))), rfl, eF163, r166, (post_bd kfb3).mono (fun b168 kfb3 v173 F169 H170 g171 r172 => ?_) (fun _ z => z)⟩
        have eF169 := g171.s
        have gF169 := gF163.trans (g171.weak (by simp))
        replace r34 := r34.up g171.f
        replace r41 := r41.up g171.f
        replace s46 := g171.f _ _ s46
        replace a47 := a47.up g171.f
        replace r58 := r58.up g171.f
        replace r64 := r64.up g171.f
        replace r105 := r105.up g171.f
        replace w113 := w113.keep g171
        replace s116 := g171.f _ _ s116
        replace a117 := a117.up g171.f
        replace r122 := r122.up g171.f
        replace r126 := r126.up g171.f
        replace r131 := r131.up g171.f
        replace s135 := g171.f _ _ s135
        replace a136 := a136.up g171.f
        replace s139 := g171.f _ _ s139
        replace a140 := a140.up g171.f
        replace r146 := r146.up g171.f
        replace r151 := r151.up g171.f
        replace s155 := g171.f _ _ s155
        replace a156 := a156.up g171.f
        replace s159 := g171.f _ _ s159
        replace a160 := a160.up g171.f
        replace r166 := r166.up g171.f
        refine ⟨_, rfl, b168, (Xr.int b48.1), r172.dp eF169, (Dq.int b48.1).dp eF169, ?_⟩
        refine ⟨_, rfl, ?_⟩
        refine cs kfb3 (fun _ kfb3 => ?_) (fun _ kfb3 => ?_)
        · exact (show Post (Mm.ok _) _ _ from kfb3.h).h _
        · refine ⟨_, rfl, _, rfl, _, rfl, ?_⟩
          refine cut_lst (K := K) (M := []) eF169 s46 a47 fun v179 F175 H176 g177 r178 => ?_
          have eF175 := g177.s
          have gF175 := gF169.trans (g177.weak (by simp))
          replace r34 := r34.up g177.f
          replace r41 := r41.up g177.f
          replace s46 := g177.f _ _ s46
          replace a47 := a47.up g177.f
          replace r58 := r58.up g177.f
          replace r64 := r64.up g177.f
          replace r105 := r105.up g177.f
          replace w113 := w113.keep g177
          replace s116 := g177.f _ _ s116
          replace a117 := a117.up g177.f
          replace r122 := r122.up g177.f
          replace r126 := r126.up g177.f
          replace r131 := r131.up g177.f
          replace s135 := g177.f _ _ s135
          replace a136 := a136.up g177.f
          replace s139 := g177.f _ _ s139
          replace a140 := a140.up g177.f
          replace r146 := r146.up g177.f
          replace r151 := r151.up g177.f
          replace s155 := g177.f _ _ s155
          replace a156 := a156.up g177.f
          replace s159 := g177.f _ _ s159
          replace a160 := a160.up g177.f
          replace r166 := r166.up g177.f
          replace r172 := r172.up g177.f
          refine ⟨_, rfl, _, rfl, ?_⟩
          obtain ⟨i180, h181, kfb3⟩ := post_get kfb3
          obtain ⟨v182, h183, r184⟩ := dq_at a47 h181
          refine ⟨_, _, _, _, rfl, rfl, (sq_of (eF175 _ _ s46)), h183, ?_⟩
          obtain rfl := dp_int r184
          refine ⟨_, _, rfl, rfl, _, rfl, ?_⟩
          refine ⟨F175, sc, ra, scr, b107.2, (198 : Int), rfl, eF175, w113, (post_bd kfb3).mono (fun b185 kfb3 v190 F186 H187 g188 ⟨r189, w191⟩ => ?_) (fun _ z => z)⟩
          have eF186 := g188.s
          have gF186 := gF175.trans (g188.weak (by simp))
          replace r34 := r34.up g188.f
          replace r41 := r41.up g188.f
          replace s46 := g188.f _ _ s46
          replace a47 := a47.up g188.f
          replace r58 := r58.up g188.f
          replace r64 := r64.up g188.f
          replace r105 := r105.up g188.f
          replace s116 := g188.f _ _ s116
          replace a117 := a117.up g188.f
          replace r122 := r122.up g188.f
          replace r126 := r126.up g188.f
          replace r131 := r131.up g188.f
          replace s135 := g188.f _ _ s135
          replace a136 := a136.up g188.f
          replace s139 := g188.f _ _ s139
          replace a140 := a140.up g188.f
          replace r146 := r146.up g188.f
          replace r151 := r151.up g188.f
          replace s155 := g188.f _ _ s155
          replace a156 := a156.up g188.f
          replace s159 := g188.f _ _ s159
          replace a160 := a160.up g188.f
          replace r166 := r166.up g188.f
          replace r172 := r172.up g188.f
          replace r178 := r178.up g188.f
          subst r189
          refine ⟨_, _, rfl, rfl, _, rfl, ?_⟩
          obtain ⟨m192, c193, q194, kfb3⟩ := post_mod kfb3
          refine ⟨_, _, _, rfl, rfl, c193, q194, ?_⟩
          show _ ∧ _
          refine new_lst (K := K) (M := []) eF186 (.cons (Dq.int m192) .nil) (by show 1 ≤ 100000; decide) fun v199 F195 H196 g197 r198 => ?_
          have eF195 := g197.s
          have gF195 := gF186.trans (g197.weak (by simp))
          replace r34 := r34.up g197.f
          replace r41 := r41.up g197.f
          replace s46 := g197.f _ _ s46
          replace a47 := a47.up g197.f
          replace r58 := r58.up g197.f
          replace r64 := r64.up g197.f
          replace r105 := r105.up g197.f
          replace s116 := g197.f _ _ s116
          replace a117 := a117.up g197.f
          replace r122 := r122.up g197.f
          replace r126 := r126.up g197.f
          replace r131 := r131.up g197.f
          replace s135 := g197.f _ _ s135
          replace a136 := a136.up g197.f
          replace s139 := g197.f _ _ s139
          replace a140 := a140.up g197.f
          replace r146 := r146.up g197.f
          replace r151 := r151.up g197.f
          replace s155 := g197.f _ _ s155
          replace a156 := a156.up g197.f
          replace s159 := g197.f _ _ s159
          replace a160 := a160.up g197.f
          replace r166 := r166.up g197.f
          replace r172 := r172.up g197.f
          replace r178 := r178.up g197.f
          replace w191 := w191.keep g197
          replace r198 : Dq K F195 v199 ((eL PyData.int) [m192]) := r198
          obtain ⟨p200, xs201, rfl, s202, a203⟩ := dp_lst r178
          obtain ⟨p204, xs205, rfl, s206, a207⟩ := dp_lst r198
          obtain ⟨h209, kfb3⟩ := post_guard kfb3
          refine ⟨_, _, _, _, rfl, rfl, eF195 _ _ s202, eF195 _ _ s206, cat_len a203 a207 h209, new_lstC (K := K) (M := []) (en := PyData.int) (l := (cutL b37 none (some ((b37.length : Int) - (1 : Int))))) (l' := [m192]) eF195 a203 a207 fun v214 F210 H211 g212 r213 => ?_⟩
          have eF210 := g212.s
          have gF210 := gF195.trans (g212.weak (by simp))
          replace r34 := r34.up g212.f
          replace r41 := r41.up g212.f
          replace s46 := g212.f _ _ s46
          replace a47 := a47.up g212.f
          replace r58 := r58.up g212.f
          replace r64 := r64.up g212.f
          replace r105 := r105.up g212.f
          replace s116 := g212.f _ _ s116
          replace a117 := a117.up g212.f
          replace r122 := r122.up g212.f
          replace r126 := r126.up g212.f
          replace r131 := r131.up g212.f
          replace s135 := g212.f _ _ s135
          replace a136 := a136.up g212.f
          replace s139 := g212.f _ _ s139
          replace a140 := a140.up g212.f
          replace r146 := r146.up g212.f
          replace r151 := r151.up g212.f
          replace s155 := g212.f _ _ s155
          replace a156 := a156.up g212.f
          replace s159 := g212.f _ _ s159
          replace a160 := a160.up g212.f
          replace r166 := r166.up g212.f
          replace r172 := r172.up g212.f
          replace r178 := r178.up g212.f
          replace w191 := w191.keep g212
          replace r198 := r198.up g212.f
          replace s202 := g212.f _ _ s202
          replace a203 := a203.up g212.f
          replace s206 := g212.f _ _ s206
          replace a207 := a207.up g212.f
          refine ⟨F210, _, (List.map PyData.int ((cutL b37 none (some ((b37.length : Int) - (1 : Int)))) ++ [m192])), rfl, eF210, (dq_LI r213), (post_bd kfb3).mono (fun b215 kfb3 v220 F216 H217 g218 r219 => ?_) (fun _ z => z)⟩
          have eF216 := g218.s
          have gF216 := gF210.trans (g218.weak (by simp))
          replace r34 := r34.up g218.f
          replace r41 := r41.up g218.f
          replace s46 := g218.f _ _ s46
          replace a47 := a47.up g218.f
          replace r58 := r58.up g218.f
          replace r64 := r64.up g218.f
          replace r105 := r105.up g218.f
          replace s116 := g218.f _ _ s116
          replace a117 := a117.up g218.f
          replace r122 := r122.up g218.f
          replace r126 := r126.up g218.f
          replace r131 := r131.up g218.f
          replace s135 := g218.f _ _ s135
          replace a136 := a136.up g218.f
          replace s139 := g218.f _ _ s139
          replace a140 := a140.up g218.f
          replace r146 := r146.up g218.f
          replace r151 := r151.up g218.f
          replace s155 := g218.f _ _ s155
          replace a156 := a156.up g218.f
          replace s159 := g218.f _ _ s159
          replace a160 := a160.up g218.f
          replace r166 := r166.up g218.f
          replace r172 := r172.up g218.f
          replace r178 := r178.up g218.f
          replace w191 := w191.keep g218
          replace r198 := r198.up g218.f
          replace s202 := g218.f _ _ s202
          replace a203 := a203.up g218.f
          replace s206 := g218.f _ _ s206
          replace a207 := a207.up g218.f
          replace r213 := r213.up g218.f
          refine ⟨_, rfl, b215, (Xr.int ((b37.length : Int) - (1 : Int))), r219.dp eF216, (Dq.int ((b37.length : Int) - (1 : Int))).dp eF216, ?_⟩
          refine ⟨_, rfl, ?_⟩
          refine cs kfb3 (fun _ kfb3 => ?_) (fun _ kfb3 => ?_)
          · exact (show Post (Mm.ok _) _ _ from kfb3.h).h _
          · exact kfb3.h _ _ _ gF216 ⟨_, _, _, _, _, _, _, _, rfl, w191⟩
    have g222 := g_.trans (g17.weak (by simp))
    have eF15 := g17.s
    obtain ⟨u223, u224, u225, u226, u227, u228, u229, u230, rfl, w231⟩ := i18
    show _ ∧ _
    refine new_lst (K := K) (M := []) eF15 (.cons (Dq.int (113 : Int)) (.cons (Dq.int (1 : Int)) (.cons (Dq.int (1 : Int)) (.cons (Dq.int (0 : Int)) (.cons (Dq.int (20 : Int)) (.cons (Dq.int (5 : Int)) (.cons (Dq.int (40 : Int)) (.cons (Dq.int (1 : Int)) .nil)))))))) (by show 8 ≤ 100000; decide) fun v236 F232 H233 g234 r235 => ?_
    have eF232 := g234.s
    have gF232 := g222.trans (g234.weak (by simp))
    replace w231 := w231.keep g234
    replace r235 : Dq K F232 v236 ((eL PyData.int) [(113 : Int), (1 : Int), (1 : Int), (0 : Int), (20 : Int), (5 : Int), (40 : Int), (1 : Int)]) := r235
    refine ⟨_, rfl, ?_⟩
    refine ⟨F232, _, [(113 : Int), (1 : Int), (1 : Int), (0 : Int), (20 : Int), (5 : Int), (40 : Int), (1 : Int)], rfl, eF232, r235, (post_bd k).mono (fun b237 k v242 F238 H239 g240 r241 => ?_) (fun _ z => z)⟩
    have eF238 := g240.s
    have gF238 := gF232.trans (g240.weak (by simp))
    replace w231 := w231.keep g240
    replace r235 := r235.up g240.f
    refine ⟨F238, _, (List.map PyData.int b237), rfl, eF238, (dq_LI r241), (post_bd k).mono (fun b244 k v249 F245 H246 g247 r248 => ?_) (fun _ z => z)⟩
    have eF245 := g247.s
    have gF245 := gF238.trans (g247.weak (by simp))
    replace w231 := w231.keep g247
    replace r235 := r235.up g247.f
    replace r241 := r241.up g247.f
    refine ⟨_, rfl, ?_⟩
    rw [none_X r248]
    refine cs k (fun _ k => ?_) (fun _ k => ?_)
    · exact k.h _
    · show _ ∧ _
      refine new_tup (K := K) (M := []) eF245 (.cons (Dq.int (112 : Int)) (.cons (Dq.int (0 : Int)) .nil)) (by show 2 ≤ 100000; decide) fun v255 F251 H252 g253 r254 => ?_
      have eF251 := g253.s
      have gF251 := gF245.trans (g253.weak (by simp))
      replace w231 := w231.keep g253
      replace r235 := r235.up g253.f
      replace r241 := r241.up g253.f
      replace r248 := r248.up g253.f
      replace r254 : Dq K F251 v255 ((e2 PyData.int PyData.int) ((112 : Int), (0 : Int))) := r254
      show _ ∧ _
      refine new_tup (K := K) (M := []) eF251 (.cons (Dq.int (7 : Int)) (.cons (Dq.int (1 : Int)) .nil)) (by show 2 ≤ 100000; decide) fun v260 F256 H257 g258 r259 => ?_
      have eF256 := g258.s
      have gF256 := gF251.trans (g258.weak (by simp))
      replace w231 := w231.keep g258
      replace r235 := r235.up g258.f
      replace r241 := r241.up g258.f
      replace r248 := r248.up g258.f
      replace r254 := r254.up g258.f
      replace r259 : Dq K F256 v260 ((e2 PyData.int PyData.int) ((7 : Int), (1 : Int))) := r259
      show _ ∧ _
      refine new_tup (K := K) (M := []) eF256 (.cons (Dq.int (5 : Int)) (.cons (Dq.int (2 : Int)) .nil)) (by show 2 ≤ 100000; decide) fun v265 F261 H262 g263 r264 => ?_
      have eF261 := g263.s
      have gF261 := gF256.trans (g263.weak (by simp))
      replace w231 := w231.keep g263
      replace r235 := r235.up g263.f
      replace r241 := r241.up g263.f
      replace r248 := r248.up g263.f
      replace r254 := r254.up g263.f
      replace r259 := r259.up g263.f
      replace r264 : Dq K F261 v265 ((e2 PyData.int PyData.int) ((5 : Int), (2 : Int))) := r264
      show _ ∧ _
      refine new_tup (K := K) (M := []) eF261 (.cons (Dq.int (41 : Int)) (.cons (Dq.int (3 : Int)) .nil)) (by show 2 ≤ 100000; decide) fun v270 F266 H267 g268 r269 => ?_
      have eF266 := g268.s
      have gF266 := gF261.trans (g268.weak (by simp))
      replace w231 := w231.keep g268
      replace r235 := r235.up g268.f
      replace r241 := r241.up g268.f
      replace r248 := r248.up g268.f
      replace r254 := r254.up g268.f
      replace r259 := r259.up g268.f
      replace r264 := r264.up g268.f
      replace r269 : Dq K F266 v270 ((e2 PyData.int PyData.int) ((41 : Int), (3 : Int))) := r269
      show _ ∧ _
      refine new_tup (K := K) (M := []) eF266 (.cons (Dq.int (21 : Int)) (.cons (Dq.int (4 : Int)) .nil)) (by show 2 ≤ 100000; decide) fun v275 F271 H272 g273 r274 => ?_
      have eF271 := g273.s
      have gF271 := gF266.trans (g273.weak (by simp))
      replace w231 := w231.keep g273
      replace r235 := r235.up g273.f
      replace r241 := r241.up g273.f
      replace r248 := r248.up g273.f
      replace r254 := r254.up g273.f
      replace r259 := r259.up g273.f
      replace r264 := r264.up g273.f
      replace r269 := r269.up g273.f
      replace r274 : Dq K F271 v275 ((e2 PyData.int PyData.int) ((21 : Int), (4 : Int))) := r274
      show _ ∧ _
      refine new_tup (K := K) (M := []) eF271 (.cons (Dq.int (0 : Int)) (.cons (Dq.int (4 : Int)) .nil)) (by show 2 ≤ 100000; decide) fun v280 F276 H277 g278 r279 => ?_
      have eF276 := g278.s
      have gF276 := gF271.trans (g278.weak (by simp))
      replace w231 := w231.keep g278
      replace r235 := r235.up g278.f
      replace r241 := r241.up g278.f
      replace r248 := r248.up g278.f
      replace r254 := r254.up g278.f
      replace r259 := r259.up g278.f
      replace r264 := r264.up g278.f
      replace r269 := r269.up g278.f
      replace r274 := r274.up g278.f
      replace r279 : Dq K F276 v280 ((e2 PyData.int PyData.int) ((0 : Int), (4 : Int))) := r279
      show _ ∧ _
      refine new_tup (K := K) (M := []) eF276 (.cons (Dq.int (41 : Int)) (.cons (Dq.int (5 : Int)) .nil)) (by show 2 ≤ 100000; decide) fun v285 F281 H282 g283 r284 => ?_
      have eF281 := g283.s
      have gF281 := gF276.trans (g283.weak (by simp))
      replace w231 := w231.keep g283
      replace r235 := r235.up g283.f
      replace r241 := r241.up g283.f
      replace r248 := r248.up g283.f
      replace r254 := r254.up g283.f
      replace r259 := r259.up g283.f
      replace r264 := r264.up g283.f
      replace r269 := r269.up g283.f
      replace r274 := r274.up g283.f
      replace r279 := r279.up g283.f
      replace r284 : Dq K F281 v285 ((e2 PyData.int PyData.int) ((41 : Int), (5 : Int))) := r284
      show _ ∧ _
      refine new_tup (K := K) (M := []) eF281 (.cons (Dq.int (41 : Int)) (.cons (Dq.int (6 : Int)) .nil)) (by show 2 ≤ 100000; decide) fun v290 F286 H287 g288 r289 => ?_
      have eF286 := g288.s
      have gF286 := gF281.trans (g288.weak (by simp))
      replace w231 := w231.keep g288
      replace r235 := r235.up g288.f
      replace r241 := r241.up g288.f
      replace r248 := r248.up g288.f
      replace r254 := r254.up g288.f
      replace r259 := r259.up g288.f
      replace r264 := r264.up g288.f
      replace r269 := r269.up g288.f
      replace r274 := r274.up g288.f
      replace r279 := r279.up g288.f
      replace r284 := r284.up g288.f
      replace r289 : Dq K F286 v290 ((e2 PyData.int PyData.int) ((41 : Int), (6 : Int))) := r289
      show _ ∧ _
      refine new_tup (K := K) (M := []) eF286 (.cons (Dq.int (0 : Int)) (.cons (Dq.int (7 : Int)) .nil)) (by show 2 ≤ 100000; decide) fun v295 F291 H292 g293 r294 => ?_
      have eF291 := g293.s
      have gF291 := gF286.trans (g293.weak (by simp))
      replace w231 := w231.keep g293
      replace r235 := r235.up g293.f
      replace r241 := r241.up g293.f
      replace r248 := r248.up g293.f
      replace r254 := r254.up g293.f
      replace r259 := r259.up g293.f
      replace r264 := r264.up g293.f
      replace r269 := r269.up g293.f
      replace r274 := r274.up g293.f
      replace r279 := r279.up g293.f
      replace r284 := r284.up g293.f
      replace r289 := r289.up g293.f
      replace r294 : Dq K F291 v295 ((e2 PyData.int PyData.int) ((0 : Int), (7 : Int))) := r294
      show _ ∧ _
      refine new_tup (K := K) (M := []) eF291 (.cons (Dq.int (21 : Int)) (.cons (Dq.int (7 : Int)) .nil)) (by show 2 ≤ 100000; decide) fun v300 F296 H297 g298 r299 => ?_
      have eF296 := g298.s
      have gF296 := gF291.trans (g298.weak (by simp))
      replace w231 := w231.keep g298
      replace r235 := r235.up g298.f
      replace r241 := r241.up g298.f
      replace r248 := r248.up g298.f
      replace r254 := r254.up g298.f
      replace r259 := r259.up g298.f
      replace r264 := r264.up g298.f
      replace r269 := r269.up g298.f
      replace r274 := r274.up g298.f
      replace r279 := r279.up g298.f
      replace r284 := r284.up g298.f
      replace r289 := r289.up g298.f
      replace r294 := r294.up g298.f
      replace r299 : Dq K F296 v300 ((e2 PyData.int PyData.int) ((21 : Int), (7 : Int))) := r299
      show _ ∧ _
      refine new_lst (K := K) (M := []) eF296 (.cons r254 (.cons r259 (.cons r264 (.cons r269 (.cons r274 (.cons r279 (.cons r284 (.cons r289 (.cons r294 (.cons r299 .nil)))))))))) (by show 10 ≤ 100000; decide) fun v305 F301 H302 g303 r304 => ?_
      have eF301 := g303.s
      have gF301 := gF296.trans (g303.weak (by simp))
      replace w231 := w231.keep g303
      replace r235 := r235.up g303.f
      replace r241 := r241.up g303.f
      replace r248 := r248.up g303.f
      replace r254 := r254.up g303.f
      replace r259 := r259.up g303.f
      replace r264 := r264.up g303.f
      replace r269 := r269.up g303.f
      replace r274 := r274.up g303.f
      replace r279 := r279.up g303.f
      replace r284 := r284.up g303.f
      replace r289 := r289.up g303.f
      replace r294 := r294.up g303.f
      replace r299 := r299.up g303.f
      replace r304 : Dq K F301 v305 ((eL (e2 PyData.int PyData.int)) [((112 : Int), (0 : Int)), ((7 : Int), (1 : Int)), ((5 : Int), (2 : Int)), ((41 : Int), (3 : Int)), ((21 : Int), (4 : Int)), ((0 : Int), (4 : Int)), ((41 : Int), (5 : Int)), ((41 : Int), (6 : Int)), ((0 : Int), (7 : Int)), ((21 : Int), (7 : Int))]) := r304
      obtain ⟨p306, xs307, rfl, s308, a309⟩ := dp_lst r304
      refine ⟨_, rfl, ⟨_, (sq_of (eF301 _ _ s308))⟩, ?_⟩
      refine for_mL (M := [ra]) (F := F301) (wlk_list eF301 s308 a309) (fun b310 F' H' σ' => ∃ (u2 : Option V) (u3 : Option V) (u4 : Option V) (u5 : Option V) (u6 : Option V) (u8 : Option V) (u9 : Option V), σ' = [some (V.ref sc), some (V.ref ra), u2, u3, u4, u5, u6, some v236, u8, u9] ∧ RowAt K sc ra scr F' H' b310) k eF301 ⟨_, _, _, _, _, _, _, rfl, w231⟩ (fun b310 x311 v319 σ321 F312 H313 F314 H315 g316 i320 g317 r318 nx kfb310 => ?_) (fun b327 σ326 F322 H323 g324 i325 k => ?_)
      · replace r235 := r235.up g316.f
        replace r241 := r241.up g316.f
        replace r248 := r248.up g316.f
        replace r254 := r254.up g316.f
        replace r259 := r259.up g316.f
        replace r264 := r264.up g316.f
        replace r269 := r269.up g316.f
        replace r274 := r274.up g316.f
        replace r279 := r279.up g316.f
        replace r284 := r284.up g316.f
        replace r289 := r289.up g316.f
        replace r294 := r294.up g316.f
        replace r299 := r299.up g316.f
        replace r304 := r304.up g316.f
        replace s308 := g316.f _ _ s308
        replace a309 := a309.up g316.f
        obtain ⟨u328, u329, u330, u331, u332, u333, u334, rfl, w335⟩ := i320
        replace r235 := r235.up g317.f
        replace r241 := r241.up g317.f
        replace r248 := r248.up g317.f
        replace r254 := r254.up g317.f
        replace r259 := r259.up g317.f
        replace r264 := r264.up g317.f
        replace r269 := r269.up g317.f
        replace r274 := r274.up g317.f
        replace r279 := r279.up g317.f
        replace r284 := r284.up g317.f
        replace r289 := r289.up g317.f
        replace r294 := r294.up g317.f
        replace r299 := r299.up g317.f
        replace r304 := r304.up g317.f
        replace s308 := g317.f _ _ s308
        replace a309 := a309.up g317.f
        replace w335 := w335.keep g317
        have eF314 := g317.s
        have gF314 := g316.trans (g317.weak (by simp))
        obtain ⟨p336, x337, x338, rfl, s339, d340, d341⟩ := dp_tup2 r318
        obtain rfl := dp_int d340
        obtain rfl := dp_int d341
        refine ⟨_, _, rfl, ex_t eF314 s339, rfl, _, _, rfl, _, _, rfl, rfl, ?_⟩
        refine ⟨_, rfl, _, rfl, _, rfl, ?_⟩
        obtain ⟨p342, xs343, rfl, s344, a345⟩ := dp_lst r235
        refine cut_lst (K := K) (M := []) eF314 s344 a345 fun v350 F346 H347 g348 r349 => ?_
        have eF346 := g348.s
        have gF346 := gF314.trans (g348.weak (by simp))
        replace r235 := r235.up g348.f
        replace r241 := r241.up g348.f
        replace r248 := r248.up g348.f
        replace r254 := r254.up g348.f
        replace r259 := r259.up g348.f
        replace r264 := r264.up g348.f
        replace r269 := r269.up g348.f
        replace r274 := r274.up g348.f
        replace r279 := r279.up g348.f
        replace r284 := r284.up g348.f
        replace r289 := r289.up g348.f
        replace r294 := r294.up g348.f
        replace r299 := r299.up g348.f
        replace r304 := r304.up g348.f
        replace s308 := g348.f _ _ s308
        replace a309 := a309.up g348.f
        replace w335 := w335.keep g348
        replace r318 := r318.up g348.f
        replace s339 := ex_t g348.f s339
        replace s344 := g348.f _ _ s344
        replace a345 := a345.up g348.f
        refine ⟨_, rfl, ?_⟩
        show _ ∧ _
        refine new_lst (K := K) (M := []) eF346 (.cons (Dq.int x311.1) .nil) (by show 1 ≤ 100000; decide) fun v355 F351 H352 g353 r354 => ?_
        have eF351 := g353.s
        have gF351 := gF346.trans (g353.weak (by simp))
        replace r235 := r235.up g353.f
        replace r241 := r241.up g353.f
        replace r248 := r248.up g353.f
        replace r254 := r254.up g353.f
        replace r259 := r259.up g353.f
        replace r264 := r264.up g353.f
        replace r269 := r269.up g353.f
        replace r274 := r274.up g353.f
        replace r279 := r279.up g353.f
        replace r284 := r284.up g353.f
        replace r289 := r289.up g353.f
        replace r294 := r294.up g353.f
        replace r299 := r299.up g353.f
        replace r304 := r304.up g353.f
        replace s308 := g353.f _ _ s308
        replace a309 := a309.up g353.f
        replace w335 := w335.keep g353
        replace r318 := r318.up g353.f
        replace s339 := ex_t g353.f s339
        replace s344 := g353.f _ _ s344
        replace a345 := a345.up g353.f
        replace r349 := r349.up g353.f
        replace r354 : Dq K F351 v355 ((eL PyData.int) [x311.1]) := r354
        obtain ⟨p356, xs357, rfl, s358, a359⟩ := dp_lst r349
        obtain ⟨p360, xs361, rfl, s362, a363⟩ := dp_lst r354
        obtain ⟨h365, kfb310⟩ := post_guard kfb310
        refine ⟨_, _, _, _, rfl, rfl, eF351 _ _ s358, eF351 _ _ s362, cat_len a359 a363 h365, new_lstC (K := K) (M := []) (en := PyData.int) (l := (cutL [(113 : Int), (1 : Int), (1 : Int), (0 : Int), (20 : Int), (5 : Int), (40 : Int), (1 : Int)] none (some x311.2))) (l' := [x311.1]) eF351 a359 a363 fun v370 F366 H367 g368 r369 => ?_⟩
        have eF366 := g368.s
        have gF366 := gF351.trans (g368.weak (by simp))
        replace r235 := r235.up g368.f
        replace r241 := r241.up g368.f
        replace r248 := r248.up g368.f
        replace r254 := r254.up g368.f
        replace r259 := r259.up g368.f
        replace r264 := r264.up g368.f
        replace r269 := r269.up g368.f
        replace r274 := r274.up g368.f
        replace r279 := r279.up g368.f
        replace r284 := r284.up g368.f
        replace r289 := r289.up g368.f
        replace r294 := r294.up g368.f
        replace r299 := r299.up g368.f
        replace r304 := r304.up g368.f
        replace s308 := g368.f _ _ s308
        replace a309 := a309.up g368.f
        replace w335 := w335.keep g368
        replace r318 := r318.up g368.f
        replace s339 := ex_t g368.f s339
        replace s344 := g368.f _ _ s344
        replace a345 := a345.up g368.f
        replace r349 := r349.up g368.f
        replace r354 := r354.up g368.f
        replace s358 := g368.f _ _ s358
        replace a359 := a359.up g368.f
        replace s362 := g368.f _ _ s362
        replace a363 := a363.up g368.f
        refine ⟨_, rfl, _, rfl, _, _, rfl, rfl, _, rfl, ?_⟩
        refine cut_lst (K := K) (M := []) eF366 s344 a345 fun v375 F371 H372 g373 r374 => ?_
        have eF371 := g373.s
        have gF371 := gF366.trans (g373.weak (by simp))
        replace r235 := r235.up g373.f
        replace r241 := r241.up g373.f
        replace r248 := r248.up g373.f
        replace r254 := r254.up g373.f
        replace r259 := r259.up g373.f
        replace r264 := r264.up g373.f
        replace r269 := r269.up g373.f
        replace r274 := r274.up g373.f
        replace r279 := r279.up g373.f
        replace r284 := r284.up g373.f
        replace r289 := r289.up g373.f
        replace r294 := r294.up g373.f
        replace r299 := r299.up g373.f
        replace r304 := r304.up g373.f
        replace s308 := g373.f _ _ s308
        replace a309 := a309.up g373.f
        replace w335 := w335.keep g373
        replace r318 := r318.up g373.f
        replace s339 := ex_t g373.f s339
        replace s344 := g373.f _ _ s344
        replace a345 := a345.up g373.f
        replace r349 := r349.up g373.f
        replace r354 := r354.up g373.f
        replace s358 := g373.f _ _ s358
        replace a359 := a359.up g373.f
        replace s362 := g373.f _ _ s362
        replace a363 := a363.up g373.f
        replace r369 := r369.up g373.f
        obtain ⟨p376, xs377, rfl, s378, a379⟩ := dp_lst r369
        obtain ⟨p380, xs381, rfl, s382, a383⟩ := dp_lst r374
        obtain ⟨h385, kfb310⟩ := post_guard kfb310
        refine ⟨_, _, _, _, rfl, rfl, eF371 _ _ s378, eF371 _ _ s382, cat_len a379 a383 h385, new_lstC (K := K) (M := []) (en := PyData.int) (l := ((cutL [(113 : Int), (1 : Int), (1 : Int), (0 : Int), (20 : Int), (5 : Int), (40 : Int), (1 : Int)] none (some x311.2)) ++ [x311.1])) (l' := (cutL [(113 : Int), (1 : Int), (1 : Int), (0 : Int), (20 : Int), (5 : Int), (40 : Int), (1 : Int)] (some (x311.2 + (1 : Int))) none)) eF371 a379 a383 fun v390 F386 H387 g388 r389 => ?_⟩
        have eF386 := g388.s
        have gF386 := gF371.trans (g388.weak (by simp))
        replace r235 := r235.up g388.f
        replace r241 := r241.up g388.f
        replace r248 := r248.up g388.f
        replace r254 := r254.up g388.f
        replace r259 := r259.up g388.f
        replace r264 := r264.up g388.f
        replace r269 := r269.up g388.f
        replace r274 := r274.up g388.f
        replace r279 := r279.up g388.f
        replace r284 := r284.up g388.f
        replace r289 := r289.up g388.f
        replace r294 := r294.up g388.f
        replace r299 := r299.up g388.f
        replace r304 := r304.up g388.f
        replace s308 := g388.f _ _ s308
        replace a309 := a309.up g388.f
        replace w335 := w335.keep g388
        replace r318 := r318.up g388.f
        replace s339 := ex_t g388.f s339
        replace s344 := g388.f _ _ s344
        replace a345 := a345.up g388.f
        replace r349 := r349.up g388.f
        replace r354 := r354.up g388.f
        replace s358 := g388.f _ _ s358
        replace a359 := a359.up g388.f
        replace s362 := g388.f _ _ s362
        replace a363 := a363.up g388.f
        replace r369 := r369.up g388.f
        replace r374 := r374.up g388.f
        replace s378 := g388.f _ _ s378
        replace a379 := a379.up g388.f
        replace s382 := g388.f _ _ s382
        replace a383 := a383.up g388.f
        show _ ∧ _
        refine new_lst (K := K) (M := []) eF386 (.cons (Dq.int (0 : Int)) .nil) (by show 1 ≤ 100000; decide) fun v395 F391 H392 g393 r394 => ?_
        have eF391 := g393.s
        have gF391 := gF386.trans (g393.weak (by simp))
        replace r235 := r235.up g393.f
        replace r241 := r241.up g393.f
        replace r248 := r248.up g393.f
        replace r254 := r254.up g393.f
        replace r259 := r259.up g393.f
        replace r264 := r264.up g393.f
        replace r269 := r269.up g393.f
        replace r274 := r274.up g393.f
        replace r279 := r279.up g393.f
        replace r284 := r284.up g393.f
        replace r289 := r289.up g393.f
        replace r294 := r294.up g393.f
        replace r299 := r299.up g393.f
        replace r304 := r304.up g393.f
        replace s308 := g393.f _ _ s308
        replace a309 := a309.up g393.f
        replace w335 := w335.keep g393
        replace r318 := r318.up g393.f
        replace s339 := ex_t g393.f s339
        replace s344 := g393.f _ _ s344
        replace a345 := a345.up g393.f
        replace r349 := r349.up g393.f
        replace r354 := r354.up g393.f
        replace s358 := g393.f _ _ s358
        replace a359 := a359.up g393.f
        replace s362 := g393.f _ _ s362
        replace a363 := a363.up g393.f
        replace r369 := r369.up g393.f
        replace r374 := r374.up g393.f
        replace s378 := g393.f _ _ s378
        replace a379 := a379.up g393.f
        replace s382 := g393.f _ _ s382
        replace a383 := a383.up g393.f
        replace r389 := r389.up g393.f
        replace r394 : Dq K F391 v395 ((eL PyData.int) [(0 : Int)]) := r394
        obtain ⟨p396, xs397, rfl, s398, a399⟩ := dp_lst r389
        obtain ⟨p400, xs401, rfl, s402, a403⟩ := dp_lst r394
        obtain ⟨h405, kfb310⟩ := post_guard kfb310
        refine ⟨_, _, _, _, rfl, rfl, eF391 _ _ s398, eF391 _ _ s402, cat_len a399 a403 h405, new_lstC (K := K) (M := []) (en := PyData.int) (l := (((cutL [(113 : Int), (1 : Int), (1 : Int), (0 : Int), (20 : Int), (5 : Int), (40 : Int), (1 : Int)] none (some x311.2)) ++ [x311.1]) ++ (cutL [(113 : Int), (1 : Int), (1 : Int), (0 : Int), (20 : Int), (5 : Int), (40 : Int), (1 : Int)] (some (x311.2 + (1 : Int))) none))) (l' := [(0 : Int)]) eF391 a399 a403 fun v410 F406 H407 g408 r409 => ?_⟩
        have eF406 := g408.s
        have gF406 := gF391.trans (g408.weak (by simp))
        replace r235 := r235.up g408.f
        replace r241 := r241.up g408.f
        replace r248 := r248.up g408.f
        replace r254 := r254.up g408.f
        replace r259 := r259.up g408.f
        replace r264 := r264.up g408.f
        replace r269 := r269.up g408.f
        replace r274 := r274.up g408.f
        replace r279 := r279.up g408.f
        replace r284 := r284.up g408.f
        replace r289 := r289.up g408.f
        replace r294 := r294.up g408.f
        replace r299 := r299.up g408.f
        replace r304 := r304.up g408.f
        replace s308 := g408.f _ _ s308
        replace a309 := a309.up g408.f
        replace w335 := w335.keep g408
        replace r318 := r318.up g408.f
        replace s339 := ex_t g408.f s339
        replace s344 := g408.f _ _ s344
        replace a345 := a345.up g408.f
        replace r349 := r349.up g408.f
        replace r354 := r354.up g408.f
        replace s358 := g408.f _ _ s358
        replace a359 := a359.up g408.f
        replace s362 := g408.f _ _ s362
        replace a363 := a363.up g408.f
        replace r369 := r369.up g408.f
        replace r374 := r374.up g408.f
        replace s378 := g408.f _ _ s378
        replace a379 := a379.up g408.f
        replace s382 := g408.f _ _ s382
        replace a383 := a383.up g408.f
        replace r389 := r389.up g408.f
        replace r394 := r394.up g408.f
        replace s398 := g408.f _ _ s398
        replace a399 := a399.up g408.f
        replace s402 := g408.f _ _ s402
        replace a403 := a403.up g408.f
        refine ⟨F406, _, ((((cutL [(113 : Int), (1 : Int), (1 : Int), (0 : Int), (20 : Int), (5 : Int), (40 : Int), (1 : Int)] none (some x311.2)) ++ [x311.1]) ++ (cutL [(113 : Int), (1 : Int), (1 : Int), (0 : Int), (20 : Int), (5 : Int), (40 : Int), (1 : Int)] (some (x311.2 + (1 : Int))) none)) ++ [(0 : Int)]), rfl, eF406, r409, (post_bd kfb310).mono (fun b411 kfb310 v416 F412 H413 g414 r415 => ?_) (fun _ z => z)⟩
        have eF412 := g414.s
        have gF412 := gF406.trans (g414.weak (by simp))
        replace r235 := r235.up g414.f
        replace r241 := r241.up g414.f
        replace r248 := r248.up g414.f
        replace r254 := r254.up g414.f
        replace r259 := r259.up g414.f
        replace r264 := r264.up g414.f
        replace r269 := r269.up g414.f
        replace r274 := r274.up g414.f
        replace r279 := r279.up g414.f
        replace r284 := r284.up g414.f
        replace r289 := r289.up g414.f
        replace r294 := r294.up g414.f
        replace r299 := r299.up g414.f
        replace r304 := r304.up g414.f
        replace s308 := g414.f _ _ s308
        replace a309 := a309.up g414.f
        replace w335 := w335.keep g414
        replace r318 := r318.up g414.f
        replace s339 := ex_t g414.f s339
        replace s344 := g414.f _ _ s344
        replace a345 := a345.up g414.f
        replace r349 := r349.up g414.f
        replace r354 := r354.up g414.f
        replace s358 := g414.f _ _ s358
        replace a359 := a359.up g414.f
        replace s362 := g414.f _ _ s362
        replace a363 := a363.up g414.f
        replace r369 := r369.up g414.f
        replace r374 := r374.up g414.f
        replace s378 := g414.f _ _ s378
        replace a379 := a379.up g414.f
        replace s382 := g414.f _ _ s382
        replace a383 := a383.up g414.f
        replace r389 := r389.up g414.f
        replace r394 := r394.up g414.f
        replace s398 := g414.f _ _ s398
        replace a399 := a399.up g414.f
        replace s402 := g414.f _ _ s402
        replace a403 := a403.up g414.f
        replace r409 := r409.up g414.f
        refine ⟨F412, _, (List.map PyData.int b411), rfl, eF412, (dq_LI r415), (post_bd kfb310).mono (fun b418 kfb310 v423 F419 H420 g421 r422 => ?_) (fun _ z => z)⟩
        have eF419 := g421.s
        have gF419 := gF412.trans (g421.weak (by simp))
        replace r235 := r235.up g421.f
        replace r241 := r241.up g421.f
        replace r248 := r248.up g421.f
        replace r254 := r254.up g421.f
        replace r259 := r259.up g421.f
        replace r264 := r264.up g421.f
        replace r269 := r269.up g421.f
        replace r274 := r274.up g421.f
        replace r279 := r279.up g421.f
        replace r284 := r284.up g421.f
        replace r289 := r289.up g421.f
        replace r294 := r294.up g421.f
        replace r299 := r299.up g421.f
        replace r304 := r304.up g421.f
        replace s308 := g421.f _ _ s308
        replace a309 := a309.up g421.f
        replace w335 := w335.keep g421
        replace r318 := r318.up g421.f
        replace s339 := ex_t g421.f s339
        replace s344 := g421.f _ _ s344
        replace a345 := a345.up g421.f
        replace r349 := r349.up g421.f
        replace r354 := r354.up g421.f
        replace s358 := g421.f _ _ s358
        replace a359 := a359.up g421.f
        replace s362 := g421.f _ _ s362
        replace a363 := a363.up g421.f
        replace r369 := r369.up g421.f
        replace r374 := r374.up g421.f
        replace s378 := g421.f _ _ s378
        replace a379 := a379.up g421.f
        replace s382 := g421.f _ _ s382
        replace a383 := a383.up g421.f
        replace r389 := r389.up g421.f
        replace r394 := r394.up g421.f
        replace s398 := g421.f _ _ s398
        replace a399 := a399.up g421.f
        replace s402 := g421.f _ _ s402
        replace a403 := a403.up g421.f
        replace r409 := r409.up g421.f
        replace r415 := r415.up g421.f
        refine ⟨_, rfl, b418, (Xr.int x311.2), r422.dp eF419, (Dq.int x311.2).dp eF419, ?_⟩
        refine ⟨_, rfl, ?_⟩
        refine cs kfb310 (fun _ kfb310 => ?_) (fun _ kfb310 => ?_)
        · exact (show Post (Mm.ok _) _ _ from kfb310.h).h _
        · exact kfb310.h _ _ _ gF419 ⟨_, _, _, _, _, _, _, rfl, w335⟩
      have g425 := gF301.trans (g324.weak (by simp))
      replace r235 := r235.up g324.f
      replace r241 := r241.up g324.f
      replace r248 := r248.up g324.f
      replace r254 := r254.up g324.f
      replace r259 := r259.up g324.f
      replace r264 := r264.up g324.f
      replace r269 := r269.up g324.f
      replace r274 := r274.up g324.f
      replace r279 := r279.up g324.f
      replace r284 := r284.up g324.f
      replace r289 := r289.up g324.f
      replace r294 := r294.up g324.f
      replace r299 := r299.up g324.f
      replace r304 := r304.up g324.f
      replace s308 := g324.f _ _ s308
      replace a309 := a309.up g324.f
      have eF322 := g324.s
      obtain ⟨u426, u427, u428, u429, u430, u431, u432, rfl, w433⟩ := i325
      show _ ∧ _
      refine new_lst (K := K) (M := []) eF322 (.cons (Dq.int (113 : Int)) (.cons (Dq.int (0 : Int)) (.cons (Dq.int (0 : Int)) .nil))) (by show 3 ≤ 100000; decide) fun v438 F434 H435 g436 r437 => ?_
      have eF434 := g436.s
      have gF434 := g425.trans (g436.weak (by simp))
      replace r235 := r235.up g436.f
      replace r241 := r241.up g436.f
      replace r248 := r248.up g436.f
      replace r254 := r254.up g436.f
      replace r259 := r259.up g436.f
      replace r264 := r264.up g436.f
      replace r269 := r269.up g436.f
      replace r274 := r274.up g436.f
      replace r279 := r279.up g436.f
      replace r284 := r284.up g436.f
      replace r289 := r289.up g436.f
      replace r294 := r294.up g436.f
      replace r299 := r299.up g436.f
      replace r304 := r304.up g436.f
      replace s308 := g436.f _ _ s308
      replace a309 := a309.up g436.f
      replace w433 := w433.keep g436
      replace r437 : Dq K F434 v438 ((eL PyData.int) [(113 : Int), (0 : Int), (0 : Int)]) := r437
      refine ⟨F434, _, [(113 : Int), (0 : Int), (0 : Int)], rfl, eF434, r437, (post_bd k).mono (fun b439 k v444 F440 H441 g442 r443 => ?_) (fun _ z => z)⟩
      have eF440 := g442.s
      have gF440 := gF434.trans (g442.weak (by simp))
      replace r235 := r235.up g442.f
      replace r241 := r241.up g442.f
      replace r248 := r248.up g442.f
      replace r254 := r254.up g442.f
      replace r259 := r259.up g442.f
      replace r264 := r264.up g442.f
      replace r269 := r269.up g442.f
      replace r274 := r274.up g442.f
      replace r279 := r279.up g442.f
      replace r284 := r284.up g442.f
      replace r289 := r289.up g442.f
      replace r294 := r294.up g442.f
      replace r299 := r299.up g442.f
      replace r304 := r304.up g442.f
      replace s308 := g442.f _ _ s308
      replace a309 := a309.up g442.f
      replace w433 := w433.keep g442
      replace r437 := r437.up g442.f
      refine ⟨F440, _, (List.map PyData.int b439), rfl, eF440, (dq_LI r443), (post_bd k).mono (fun b446 k v451 F447 H448 g449 r450 => ?_) (fun _ z => z)⟩
      have eF447 := g449.s
      have gF447 := gF440.trans (g449.weak (by simp))
      replace r235 := r235.up g449.f
      replace r241 := r241.up g449.f
      replace r248 := r248.up g449.f
      replace r254 := r254.up g449.f
      replace r259 := r259.up g449.f
      replace r264 := r264.up g449.f
      replace r269 := r269.up g449.f
      replace r274 := r274.up g449.f
      replace r279 := r279.up g449.f
      replace r284 := r284.up g449.f
      replace r289 := r289.up g449.f
      replace r294 := r294.up g449.f
      replace r299 := r299.up g449.f
      replace r304 := r304.up g449.f
      replace s308 := g449.f _ _ s308
      replace a309 := a309.up g449.f
      replace w433 := w433.keep g449
      replace r437 := r437.up g449.f
      replace r443 := r443.up g449.f
      show _ ∧ _
      refine new_tup (K := K) (M := []) eF447 (.cons (Dq.str ("weighting" : Str)) (.cons (Dq.int (2 : Int)) (.cons (Dq.int (0 : Int)) .nil))) (by show 3 ≤ 100000; decide) fun v457 F453 H454 g455 r456 => ?_
      have eF453 := g455.s
      have gF453 := gF447.trans (g455.weak (by simp))
      replace r235 := r235.up g455.f
      replace r241 := r241.up g455.f
      replace r248 := r248.up g455.f
      replace r254 := r254.up g455.f
      replace r259 := r259.up g455.f
      replace r264 := r264.up g455.f
      replace r269 := r269.up g455.f
      replace r274 := r274.up g455.f
      replace r279 := r279.up g455.f
      replace r284 := r284.up g455.f
      replace r289 := r289.up g455.f
      replace r294 := r294.up g455.f
      replace r299 := r299.up g455.f
      replace r304 := r304.up g455.f
      replace s308 := g455.f _ _ s308
      replace a309 := a309.up g455.f
      replace w433 := w433.keep g455
      replace r437 := r437.up g455.f
      replace r443 := r443.up g455.f
      replace r450 := r450.up g455.f
      replace r456 : Dq K F453 v457 (eX (Xr.tup Kw.weighting [(2 : Int), (0 : Int)])) := r456
      refine ⟨b446, (Xr.tup Kw.weighting [(2 : Int), (0 : Int)]), r450.dp eF453, r456.dp eF453, ?_⟩
      refine ⟨_, rfl, ?_⟩
      refine cs k (fun _ k => ?_) (fun _ k => ?_)
      · exact k.h _
      · show _ ∧ _
        refine new_lst (K := K) (M := []) eF453 (.cons (Dq.int (113 : Int)) (.cons (Dq.int (2 : Int)) (.cons (Dq.int (0 : Int)) (.cons (Dq.int (9 : Int)) (.cons (Dq.int (1 : Int)) (.cons (Dq.int (9 : Int)) (.cons (Dq.int (1 : Int)) .nil))))))) (by show 7 ≤ 100000; decide) fun v462 F458 H459 g460 r461 => ?_
        have eF458 := g460.s
        have gF458 := gF453.trans (g460.weak (by simp))
        replace r235 := r235.up g460.f
        replace r241 := r241.up g460.f
        replace r248 := r248.up g460.f
        replace r254 := r254.up g460.f
        replace r259 := r259.up g460.f
        replace r264 := r264.up g460.f
        replace r269 := r269.up g460.f
        replace r274 := r274.up g460.f
        replace r279 := r279.up g460.f
        replace r284 := r284.up g460.f
        replace r289 := r289.up g460.f
        replace r294 := r294.up g460.f
        replace r299 := r299.up g460.f
        replace r304 := r304.up g460.f
        replace s308 := g460.f _ _ s308
        replace a309 := a309.up g460.f
        replace w433 := w433.keep g460
        replace r437 := r437.up g460.f
        replace r443 := r443.up g460.f
        replace r450 := r450.up g460.f
        replace r456 := r456.up g460.f
        replace r461 : Dq K F458 v462 ((eL PyData.int) [(113 : Int), (2 : Int), (0 : Int), (9 : Int), (1 : Int), (9 : Int), (1 : Int)]) := r461
        refine ⟨F458, _, [(113 : Int), (2 : Int), (0 : Int), (9 : Int), (1 : Int), (9 : Int), (1 : Int)], rfl, eF458, r461, (post_bd k).mono (fun b463 k v468 F464 H465 g466 r467 => ?_) (fun _ z => z)⟩
        have eF464 := g466.s
        have gF464 := gF458.trans (g466.weak (by simp))
        replace r235 := r235.up g466.f
        replace r241 := r241.up g466.f
        replace r248 := r248.up g466.f
        replace r254 := r254.up g466.f
        replace r259 := r259.up g466.f
        replace r264 := r264.up g466.f
        replace r269 := r269.up g466.f
        replace r274 := r274.up g466.f
        replace r279 := r279.up g466.f
        replace r284 := r284.up g466.f
        replace r289 := r289.up g466.f
        replace r294 := r294.up g466.f
        replace r299 := r299.up g466.f
        replace r304 := r304.up g466.f
        replace s308 := g466.f _ _ s308
        replace a309 := a309.up g466.f
        replace w433 := w433.keep g466
        replace r437 := r437.up g466.f
        replace r443 := r443.up g466.f
        replace r450 := r450.up g466.f
        replace r456 := r456.up g466.f
        replace r461 := r461.up g466.f
        refine ⟨F464, _, (List.map PyData.int b463), rfl, eF464, (dq_LI r467), (post_bd k).mono (fun b470 k v475 F471 H472 g473 r474 => ?_) (fun _ z => z)⟩
        have eF471 := g473.s
        have gF471 := gF464.trans (g473.weak (by simp))
        replace r235 := r235.up g473.f
        replace r241 := r241.up g473.f
        replace r248 := r248.up g473.f
        replace r254 := r254.up g473.f
        replace r259 := r259.up g473.f
        replace r264 := r264.up g473.f
        replace r269 := r269.up g473.f
        replace r274 := r274.up g473.f
        replace r279 := r279.up g473.f
        replace r284 := r284.up g473.f
        replace r289 := r289.up g473.f
        replace r294 := r294.up g473.f
        replace r299 := r299.up g473.f
        replace r304 := r304.up g473.f
        replace s308 := g473.f _ _ s308
        replace a309 := a309.up g473.f
        replace w433 := w433.keep g473
        replace r437 := r437.up g473.f
        replace r443 := r443.up g473.f
        replace r450 := r450.up g473.f
        replace r456 := r456.up g473.f
        replace r461 := r461.up g473.f
        replace r467 := r467.up g473.f
        show _ ∧ _
        refine new_tup (K := K) (M := []) eF471 (.cons (Dq.str ("weighting" : Str)) (.cons (Dq.int (0 : Int)) (.cons (Dq.int (1 : Int)) .nil))) (by show 3 ≤ 100000; decide) fun v481 F477 H478 g479 r480 => ?_
        have eF477 := g479.s
        have gF477 := gF471.trans (g479.weak (by simp))
        replace r235 := r235.up g479.f
        replace r241 := r241.up g479.f
        replace r248 := r248.up g479.f
        replace r254 := r254.up g479.f
        replace r259 := r259.up g479.f
        replace r264 := r264.up g479.f
        replace r269 := r269.up g479.f
        replace r274 := r274.up g479.f
        replace r279 := r279.up g479.f
        replace r284 := r284.up g479.f
        replace r289 := r289.up g479.f
        replace r294 := r294.up g479.f
        replace r299 := r299.up g479.f
        replace r304 := r304.up g479.f
        replace s308 := g479.f _ _ s308
        replace a309 := a309.up g479.f
        replace w433 := w433.keep g479
        replace r437 := r437.up g479.f
        replace r443 := r443.up g479.f
        replace r450 := r450.up g479.f
        replace r456 := r456.up g479.f
        replace r461 := r461.up g479.f
        replace r467 := r467.up g479.f
        replace r474 := r474.up g479.f
        replace r480 : Dq K F477 v481 (eX (Xr.tup Kw.weighting [(0 : Int), (1 : Int)])) := r480
        refine ⟨b470, (Xr.tup Kw.weighting [(0 : Int), (1 : Int)]), r474.dp eF477, r480.dp eF477, ?_⟩
        refine ⟨_, rfl, ?_⟩
        refine cs k (fun _ k => ?_) (fun _ k => ?_)
        · exact k.h _
        · show _ ∧ _
          refine new_lst (K := K) (M := []) eF477 (.cons (Dq.int (113 : Int)) (.cons (Dq.int (0 : Int)) (.cons (Dq.int (1 : Int)) (.cons (Dq.int (9 : Int)) (.cons (Dq.int (9 : Int)) (.cons (Dq.int (1 : Int)) .nil)))))) (by show 6 ≤ 100000; decide) fun v486 F482 H483 g484 r485 => ?_
          have eF482 := g484.s
          have gF482 := gF477.trans (g484.weak (by simp))
          replace r235 := r235.up g484.f
          replace r241 := r241.up g484.f
          replace r248 := r248.up g484.f
          replace r254 := r254.up g484.f
          replace r259 := r259.up g484.f
          replace r264 := r264.up g484.f
          replace r269 := r269.up g484.f
          replace r274 := r274.up g484.f
          replace r279 := r279.up g484.f
          replace r284 := r284.up g484.f
          replace r289 := r289.up g484.f
          replace r294 := r294.up g484.f
          replace r299 := r299.up g484.f
          replace r304 := r304.up g484.f
          replace s308 := g484.f _ _ s308
          replace a309 := a309.up g484.f
          replace w433 := w433.keep g484
          replace r437 := r437.up g484.f
          replace r443 := r443.up g484.f
          replace r450 := r450.up g484.f
          replace r456 := r456.up g484.f
          replace r461 := r461.up g484.f
          replace r467 := r467.up g484.f
          replace r474 := r474.up g484.f
          replace r480 := r480.up g484.f
          replace r485 : Dq K F482 v486 ((eL PyData.int) [(113 : Int), (0 : Int), (1 : Int), (9 : Int), (9 : Int), (1 : Int)]) := r485
          refine ⟨F482, _, [(113 : Int), (0 : Int), (1 : Int), (9 : Int), (9 : Int), (1 : Int)], rfl, eF482, r485, (post_bd k).mono (fun b487 k v492 F488 H489 g490 r491 => ?_) (fun _ z => z)⟩
          have eF488 := g490.s
          have gF488 := gF482.trans (g490.weak (by simp))
          replace r235 := r235.up g490.f
          replace r241 := r241.up g490.f
          replace r248 := r248.up g490.f
          replace r254 := r254.up g490.f
          replace r259 := r259.up g490.f
          replace r264 := r264.up g490.f
          replace r269 := r269.up g490.f
          replace r274 := r274.up g490.f
          replace r279 := r279.up g490.f
          replace r284 := r284.up g490.f
          replace r289 := r289.up g490.f
          replace r294 := r294.up g490.f
          replace r299 := r299.up g490.f
          replace r304 := r304.up g490.f
          replace s308 := g490.f _ _ s308
          replace a309 := a309.up g490.f
          replace w433 := w433.keep g490
          replace r437 := r437.up g490.f
          replace r443 := r443.up g490.f
          replace r450 := r450.up g490.f
          replace r456 := r456.up g490.f
          replace r461 := r461.up g490.f
          replace r467 := r467.up g490.f
          replace r474 := r474.up g490.f
          replace r480 := r480.up g490.f
          replace r485 := r485.up g490.f
          refine ⟨F488, _, (List.map PyData.int b487), rfl, eF488, (dq_LI r491), (post_bd k).mono (fun b494 k v499 F495 H496 g497 r498 => ?_) (fun _ z => z)⟩
          have eF495 := g497.s
          have gF495 := gF488.trans (g497.weak (by simp))
          replace r235 := r235.up g497.f
          replace r241 := r241.up g497.f
          replace r248 := r248.up g497.f
          replace r254 := r254.up g497.f
          replace r259 := r259.up g497.f
          replace r264 := r264.up g497.f
          replace r269 := r269.up g497.f
          replace r274 := r274.up g497.f
          replace r279 := r279.up g497.f
          replace r284 := r284.up g497.f
          replace r289 := r289.up g497.f
          replace r294 := r294.up g497.f
          replace r299 := r299.up g497.f
          replace r304 := r304.up g497.f
          replace s308 := g497.f _ _ s308
          replace a309 := a309.up g497.f
          replace w433 := w433.keep g497
          replace r437 := r437.up g497.f
          replace r443 := r443.up g497.f
          replace r450 := r450.up g497.f
          replace r456 := r456.up g497.f
          replace r461 := r461.up g497.f
          replace r467 := r467.up g497.f
          replace r474 := r474.up g497.f
          replace r480 := r480.up g497.f
          replace r485 := r485.up g497.f
          replace r491 := r491.up g497.f
          show _ ∧ _
          refine new_tup (K := K) (M := []) eF495 (.cons (Dq.str ("weighting" : Str)) (.cons (Dq.int (1 : Int)) (.cons (Dq.int (0 : Int)) .nil))) (by show 3 ≤ 100000; decide) fun v505 F501 H502 g503 r504 => ?_
          have eF501 := g503.s
          have gF501 := gF495.trans (g503.weak (by simp))
          replace r235 := r235.up g503.f
          replace r241 := r241.up g503.f
          replace r248 := r248.up g503.f
          replace r254 := r254.up g503.f
          replace r259 := r259.up g503.f
          replace r264 := r264.up g503.f
          replace r269 := r269.up g503.f
          replace r274 := r274.up g503.f
          replace r279 := r279.up g503.f
          replace r284 := r284.up g503.f
          replace r289 := r289.up g503.f
          replace r294 := r294.up g503.f
          replace r299 := r299.up g503.f
          replace r304 := r304.up g503.f
          replace s308 := g503.f _ _ s308
          replace a309 := a309.up g503.f
          replace w433 := w433.keep g503
          replace r437 := r437.up g503.f
          replace r443 := r443.up g503.f
          replace r450 := r450.up g503.f
          replace r456 := r456.up g503.f
          replace r461 := r461.up g503.f
          replace r467 := r467.up g503.f
          replace r474 := r474.up g503.f
          replace r480 := r480.up g503.f
          replace r485 := r485.up g503.f
          replace r491 := r491.up g503.f
          replace r498 := r498.up g503.f
          replace r504 : Dq K F501 v505 (eX (Xr.tup Kw.weighting [(1 : Int), (0 : Int)])) := r504
          refine ⟨b494, (Xr.tup Kw.weighting [(1 : Int), (0 : Int)]), r498.dp eF501, r504.dp eF501, ?_⟩
          exact k.h _
end L

set_option Elab.async false
set_option linter.all false
set_option maxRecDepth 100000
set_option maxHeartbeats 0
namespace L
open PySem L2 Evl Wk
abbrev sp_p_masses : Stmt := inClass (top 11) 1
abbrev sp_p_stretches : Stmt := inClass (top 11) 2
/-! ### the head -/
def fileN : Str := "/claim/cut.py"
abbrev s_InvalidWeighting_init : Stmt := inClass (top 2) 0
def dd_InvalidWeighting_init : He5.DefA := ⟨initAt "InvalidWeighting" "__init__", "__init__", "InvalidWeighting.__init__", defArgs s_InvalidWeighting_init, defBody s_InvalidWeighting_init, defScope s_InvalidWeighting_init, [], []⟩
theorem ok_InvalidWeighting_init {P : Program} {w : World} {K : PySem.W.Frag} {mg : Str → Option Value} {base : Heap} {fd : FuncData} {cda cc : Addr} (I : IniD K P mg "InvalidWeighting" "__init__" "InvalidWeighting.__init__" (defArgs s_InvalidWeighting_init) (defBody s_InvalidWeighting_init) (defScope s_InvalidWeighting_init) fd cda cc) (nf_part : NoAttr K (He.ga K "InvalidWeighting") "part") (nf_index : NoAttr K (He.ga K "InvalidWeighting") "index") : FnOk P w K mg base CX0 1 (He.ma K (He.ga K "InvalidWeighting") "__init__") fd ["self", "part", "index"] (spI2 (He.ga K "InvalidWeighting") "part" "index") := by
  obtain ⟨⟨oc, od, kV, doc, pm, ct, an, osl, rfl, lk⟩, cd, sc, _, _⟩ := I
  refine fn_ofS (N := ["self", "part", "index", "__class__"]) (fun _ => rfl) lk cd (NdefX.nscope_by (by decide +kernel)) sc rfl rfl rfl (fun _ => rfl) (fun _ => rfl) (fun vs H Q E h => ?_) (fun A outer s H vs Q E h => ?_)
  · obtain ⟨a, i, j, rfl, _⟩ := h; rfl
  · obtain ⟨a, i, j, rfl, hi, hj, ha, k⟩ := h
    refine ⟨a, _, _, rfl, ha, pa_cons (pe_joined (.cons pe_str (.cons (pe_fmt (pv 1)) (.cons pe_str (.cons (pe_fmt (pv 2)) .nil))))) pa_nil, pss_cons (ps_ost (pv 0) (pv 1)) (pss_one (ps_ost (pv 0) (pv 2))), ?_⟩
    refine js2 (by decide +kernel) (by decide +kernel) hi hj (fun Q q => ⟨_, rfl, q⟩) (fun Q q => ⟨_, rfl, q⟩) (fun y => ?_)
    refine ⟨by show 1 ≤ 1000; decide, ha, ?_⟩
    refine ⟨_, rfl, _, rfl, a, _, rfl, sc.oex, nf_part, .inl ⟨ha, fun dx hd hn => ?_⟩⟩
    refine ⟨_, rfl, _, rfl, a, _, rfl, sc.oex, nf_index, .inr ⟨dx, _, upd_same, ?_, by show 1 ≤ 900; decide, k dx hd hn⟩⟩
    rw [upd_ne hn, upd_same]
abbrev s_DecodeError_init : Stmt := inClass (top 3) 0
def dd_DecodeError_init : He5.DefA := ⟨initAt "DecodeError" "__init__", "__init__", "DecodeError.__init__", defArgs s_DecodeError_init, defBody s_DecodeError_init, defScope s_DecodeError_init, [], []⟩
theorem ok_DecodeError_init {P : Program} {w : World} {K : PySem.W.Frag} {mg : Str → Option Value} {base : Heap} {fd : FuncData} {cda cc : Addr} (I : IniD K P mg "DecodeError" "__init__" "DecodeError.__init__" (defArgs s_DecodeError_init) (defBody s_DecodeError_init) (defScope s_DecodeError_init) fd cda cc) (nf_offset : NoAttr K (He.ga K "DecodeError") "offset") : FnOk P w K mg base CX0 1 (He.ma K (He.ga K "DecodeError") "__init__") fd ["self", "offset"] (spI1 (He.ga K "DecodeError") "offset") := by
  obtain ⟨⟨oc, od, kV, doc, pm, ct, an, osl, rfl, lk⟩, cd, sc, _, _⟩ := I
  refine fn_ofS (N := ["self", "offset", "__class__"]) (fun _ => rfl) lk cd (NdefX.nscope_by (by decide +kernel)) sc rfl rfl rfl (fun _ => rfl) (fun _ => rfl) (fun vs H Q E h => ?_) (fun A outer s H vs Q E h => ?_)
  · obtain ⟨a, i, rfl, _⟩ := h; rfl
  · obtain ⟨a, i, rfl, hi, ha, k⟩ := h
    refine ⟨a, _, _, rfl, ha, pa_cons (pe_joined (.cons pe_str (.cons (pe_fmt (pv 1)) .nil))) pa_nil, pss_one (ps_ost (pv 0) (pv 1)), ?_⟩
    refine js1 (by decide +kernel) hi (fun Q q => ⟨_, rfl, q⟩) (fun y => ?_)
    refine ⟨by show 1 ≤ 1000; decide, ha, ?_⟩
    exact ⟨_, rfl, _, rfl, a, _, rfl, sc.oex, nf_offset, .inl ⟨ha, fun dx hd hn => k dx hd hn⟩⟩
def es : List He5.DefA := [dd_InvalidWeighting_init, dd_DecodeError_init]
def dd_whole_within : He5.DefA := ⟨gAt "whole_within", "whole_within", "whole_within", defArgs s_whole_within, defBody s_whole_within, defScope s_whole_within, [], []⟩
def dd_whole_within_d : He5.DefA := ⟨gAt "whole_within", "whole_within", "whole_within", defArgs s_whole_within_d, defBody s_whole_within_d, defScope s_whole_within_d, [], []⟩
def dd_is_place : He5.DefA := ⟨gAt "is_place", "is_place", "is_place", defArgs s_is_place, defBody s_is_place, defScope s_is_place, [], []⟩
def dd_is_mass : He5.DefA := ⟨gAt "is_mass", "is_mass", "is_mass", defArgs s_is_mass, defBody s_is_mass, defScope s_is_mass, [], []⟩
def dd_check_masses : He5.DefA := ⟨gAt "check_masses", "check_masses", "check_masses", defArgs s_check_masses, defBody s_check_masses, defScope s_check_masses, [], []⟩
def dd_check_stretches : He5.DefA := ⟨gAt "check_stretches", "check_stretches", "check_stretches", defArgs s_check_stretches, defBody s_check_stretches, defScope s_check_stretches, [], []⟩
def dd_Weighting_init : He5.DefA := ⟨initAt "Weighting" "__init__", "__init__", "Weighting.__init__", defArgs s_Weighting_init, defBody s_Weighting_init, defScope s_Weighting_init, [], []⟩
def dd_checksum : He5.DefA := ⟨gAt "checksum", "checksum", "checksum", defArgs s_checksum, defBody s_checksum, defScope s_checksum, [], []⟩
def dd_checksum_d : He5.DefA := ⟨gAt "checksum", "checksum", "checksum", defArgs s_checksum_d, defBody s_checksum_d, defScope s_checksum_d, [], []⟩
def dd_encode_weighting : He5.DefA := ⟨gAt "encode_weighting", "encode_weighting", "encode_weighting", defArgs s_encode_weighting, defBody s_encode_weighting, defScope s_encode_weighting, [], []⟩
def dd_item_at : He5.DefA := ⟨gAt "item_at", "item_at", "item_at", defArgs s_item_at, defBody s_item_at, defScope s_item_at, [], []⟩
def dd_place_at : He5.DefA := ⟨gAt "place_at", "place_at", "place_at", defArgs s_place_at, defBody s_place_at, defScope s_place_at, [], []⟩
def dd_mass_at : He5.DefA := ⟨gAt "mass_at", "mass_at", "mass_at", defArgs s_mass_at, defBody s_mass_at, defScope s_mass_at, [], []⟩
def dd_decode_weighting : He5.DefA := ⟨gAt "decode_weighting", "decode_weighting", "decode_weighting", defArgs s_decode_weighting, defBody s_decode_weighting, defScope s_decode_weighting, [], []⟩
def dd_law_taken : He5.DefA := ⟨gAt "_law_taken", "_law_taken", "_law_taken", defArgs s_law_taken, defBody s_law_taken, defScope s_law_taken, [], []⟩
def dd_law_weighting : He5.DefA := ⟨gAt "_law_weighting", "_law_weighting", "_law_weighting", defArgs s_law_weighting, defBody s_law_weighting, defScope s_law_weighting, [], []⟩
def dd_law_checked : He5.DefA := ⟨gAt "_law_checked", "_law_checked", "_law_checked", defArgs s_law_checked, defBody s_law_checked, defScope s_law_checked, [], []⟩
def dd_law_offset : He5.DefA := ⟨gAt "_law_offset", "_law_offset", "_law_offset", defArgs s_law_offset, defBody s_law_offset, defScope s_law_offset, [], []⟩
def dd_law : He5.DefA := ⟨gAt "law", "law", "law", defArgs s_law, defBody s_law, defScope s_law, [], []⟩
def dd_p_masses : He5.DefA := ⟨propG "Weighting" "masses", "masses", "Weighting.masses", defArgs sp_p_masses, defBody sp_p_masses, defScope sp_p_masses, [], []⟩
def dd_p_stretches : He5.DefA := ⟨propG "Weighting" "stretches", "stretches", "Weighting.stretches", defArgs sp_p_stretches, defBody sp_p_stretches, defScope sp_p_stretches, [], []⟩
def fn : List He5.DefA := [dd_whole_within, dd_whole_within_d, dd_is_place, dd_is_mass, dd_check_masses, dd_check_stretches, dd_Weighting_init, dd_checksum, dd_checksum_d, dd_encode_weighting, dd_item_at, dd_place_at, dd_mass_at, dd_decode_weighting, dd_law_taken, dd_law_weighting, dd_law_checked, dd_law_offset, dd_law, dd_p_masses, dd_p_stretches]
def fa : List He.Fa := [.free "len", .free "int", .free "bool", .free "str", .free "abs", .free "sum", .free "min", .free "max", .free "list", .free "tuple", .free "set", .free "dict", .free "sorted", .free "range", .free "enumerate", .free "zip", .free "reversed", .free "isinstance", .glo "whole_within", .glo "is_place", .glo "is_mass", .glo "check_masses", .glo "check_stretches", .glo "checksum", .glo "encode_weighting", .glo "item_at", .glo "place_at", .glo "mass_at", .glo "decode_weighting", .glo "_law_taken", .glo "_law_weighting", .glo "_law_checked", .glo "_law_offset", .glo "law", .glo "Weighting", .cls "Weighting", .mkr "Weighting", .noat "Weighting" "_masses", .noat "Weighting" "_stretches", .glo "DecodeError", .glo "InvalidWeighting", .noat "DecodeError" "offset", .noat "InvalidWeighting" "index", .noat "InvalidWeighting" "part", .exm "DecodeError" "DecodeError" true, .exm "InvalidWeighting" "DecodeError" false, .exm "InvalidWeighting" "InvalidWeighting" true, .free "super", .int "FARTHEST" (20), .int "HEAVIEST" (20), .int "MOST_MASSES" (6), .int "MOST_STRETCHES" (4), .int "CHECK_FACTOR" (29), .int "CHECK_MODULUS" (199), .int "CHECK_START" (7), .int "MARK" (113)]
def ex (K : PySem.W.Frag) : Bool := propB "Weighting" "masses" K && (propB "Weighting" "stretches" K && (xfB K (He.ga K "DecodeError") && (xfB K (He.ga K "InvalidWeighting") && (supB "InvalidWeighting" fileN K && (supB "DecodeError" fileN K)))))
abbrev R : PySem.W.OpenRow := PySem.W.OpenLaw.row PySem.Challenge.rw_fewreadings_k45_codes_rejected
def asL : List Addr := [3, 6, 4, 24, 46, 67, 76, 114, 125, 132, 139, 146, 153, 160, 167, 174, 181, 188, 195, 202, 209, 216, 223, 0, 23, 45, 66, 75, 113, 124, 131, 138, 145, 152, 159, 166, 173, 180, 187, 194, 201, 208, 215, 222, 22, 25, 43, 44, 64, 65, 70, 71, 72, 73, 74, 88, 96, 104, 111, 112, 115, 116, 119, 120, 121, 122, 123, 126, 127, 128, 129, 130, 133, 134, 135, 136, 137, 140, 141, 142, 143, 144, 147, 148, 149, 150, 151, 154, 155, 156, 157, 158, 161, 162, 163, 164, 165, 168, 169, 170, 171, 172, 175, 176, 177, 178, 179, 182, 183, 184, 185, 186, 189, 190, 191, 192, 193, 196, 197, 198, 199, 200, 203, 204, 205, 206, 207, 210, 211, 212, 213, 214, 217, 218, 219, 220, 221, 42, 31, 63, 52, 87, 95, 103, 110, 37, 38, 39, 40, 41, 58, 59, 60, 61, 62, 84, 85, 86, 94, 102, 105, 106, 107, 108, 109, 89, 90, 91, 92, 93, 97, 98, 99, 100, 101, 2]
abbrev hk : PySem.W.Hook := hookXS asL fa fn es ex
def ob (s : PySem.W.SharedT) : He.AlD := obsXS asL fa fn es ex (HandSHeadRun.getT s)
theorem ob_eq (s : PySem.W.SharedT) : ob s = hk.obs s.abs := obsXS_eq (HandSHeadRun.getT_eq s)
abbrev looseN : List Str := (["ReadingError", "InvalidWeighting", "DecodeError", "whole_within", "FARTHEST", "HEAVIEST", "MOST_MASSES", "MOST_STRETCHES", "Weighting", "is_place", "is_mass", "check_masses", "check_stretches", "MARK", "CHECK_START", "CHECK_FACTOR", "CHECK_MODULUS", "checksum", "encode_weighting", "item_at"] : List Str) ++ (["place_at", "mass_at", "decode_weighting", "_law_taken", "_law_weighting", "_law_checked", "_law_offset"] : List Str)
abbrev vw : Program := PySem.W.view R.prog [32]
theorem run (w : World) : HandSHeadRun.RunEq R vw hk ob 6000 looseN w := by
  intro os
  kernel_rfl
theorem facts {P : Program} {w : World} {K : PySem.W.Frag} {h : Heap} {mg : Str → Option Value} {f : Addr} (X : K.In h) (G : h.Ns mainGlobals mg) (hfa : mg ("law" : Str) = some (.ref f)) (c0 : SaysXS fa fn es ex K) (hPf : ((P.main.file : Str) == fileN) = true) (hPt : (P.main.scope.names.lookup ("super" : Str)).isSome = false) :
    ∃ fd : FuncData, (∀ (s : Shared) (v : Value), BindsTo s fd ⟨[v], []⟩ [("_law_script", v)]) ∧ ∀ base : Heap, K.In base → base.Ns mainGlobals mg → FnOk P w K mg base CX0 8 f fd ["_law_script"] (sp_law K) := by
  have c := c0.old
  have B : Bi mg := ⟨He.free_ok X G (c.fact 0 (f := .free "len") rfl), He.free_ok X G (c.fact 1 (f := .free "int") rfl), He.free_ok X G (c.fact 2 (f := .free "bool") rfl), He.free_ok X G (c.fact 3 (f := .free "str") rfl), He.free_ok X G (c.fact 4 (f := .free "abs") rfl), He.free_ok X G (c.fact 5 (f := .free "sum") rfl), He.free_ok X G (c.fact 6 (f := .free "min") rfl), He.free_ok X G (c.fact 7 (f := .free "max") rfl), He.free_ok X G (c.fact 8 (f := .free "list") rfl), He.free_ok X G (c.fact 9 (f := .free "tuple") rfl), He.free_ok X G (c.fact 10 (f := .free "set") rfl), He.free_ok X G (c.fact 11 (f := .free "dict") rfl), He.free_ok X G (c.fact 12 (f := .free "sorted") rfl), He.free_ok X G (c.fact 13 (f := .free "range") rfl), He.free_ok X G (c.fact 14 (f := .free "enumerate") rfl), He.free_ok X G (c.fact 15 (f := .free "zip") rfl), He.free_ok X G (c.fact 16 (f := .free "reversed") rfl), He.free_ok X G (c.fact 17 (f := .free "isinstance") rfl)⟩
  obtain ⟨fd_whole_within, F_whole_within⟩ := c.def_ 0 (d := dd_whole_within) rfl
  obtain ⟨fd_whole_within_d, F_whole_within_d⟩ := c.def_ 1 (d := dd_whole_within_d) rfl
  obtain ⟨fd_is_place, F_is_place⟩ := c.def_ 2 (d := dd_is_place) rfl
  obtain ⟨fd_is_mass, F_is_mass⟩ := c.def_ 3 (d := dd_is_mass) rfl
  obtain ⟨fd_check_masses, F_check_masses⟩ := c.def_ 4 (d := dd_check_masses) rfl
  obtain ⟨fd_check_stretches, F_check_stretches⟩ := c.def_ 5 (d := dd_check_stretches) rfl
  obtain ⟨fd_Weighting_init, F_Weighting_init⟩ := c.def_ 6 (d := dd_Weighting_init) rfl
  obtain ⟨fd_checksum, F_checksum⟩ := c.def_ 7 (d := dd_checksum) rfl
  obtain ⟨fd_checksum_d, F_checksum_d⟩ := c.def_ 8 (d := dd_checksum_d) rfl
  obtain ⟨fd_encode_weighting, F_encode_weighting⟩ := c.def_ 9 (d := dd_encode_weighting) rfl
  obtain ⟨fd_item_at, F_item_at⟩ := c.def_ 10 (d := dd_item_at) rfl
  obtain ⟨fd_place_at, F_place_at⟩ := c.def_ 11 (d := dd_place_at) rfl
  obtain ⟨fd_mass_at, F_mass_at⟩ := c.def_ 12 (d := dd_mass_at) rfl
  obtain ⟨fd_decode_weighting, F_decode_weighting⟩ := c.def_ 13 (d := dd_decode_weighting) rfl
  obtain ⟨fd_law_taken, F_law_taken⟩ := c.def_ 14 (d := dd_law_taken) rfl
  obtain ⟨fd_law_weighting, F_law_weighting⟩ := c.def_ 15 (d := dd_law_weighting) rfl
  obtain ⟨fd_law_checked, F_law_checked⟩ := c.def_ 16 (d := dd_law_checked) rfl
  obtain ⟨fd_law_offset, F_law_offset⟩ := c.def_ 17 (d := dd_law_offset) rfl
  obtain ⟨fd_law, F_law⟩ := c.def_ 18 (d := dd_law) rfl
  obtain ⟨fd_p_masses, F_p_masses⟩ := c.def_ 19 (d := dd_p_masses) rfl
  obtain ⟨fd_p_stretches, F_p_stretches⟩ := c.def_ 20 (d := dd_p_stretches) rfl
  have e0 := c.ext
  obtain ⟨x0, e1⟩ := He.ba e0
  obtain ⟨x1, e2⟩ := He.ba e1
  obtain ⟨x2, e3⟩ := He.ba e2
  obtain ⟨x3, e4⟩ := He.ba e3
  obtain ⟨x4, e5⟩ := He.ba e4
  have x5 := e5
  have cx_DecodeError := He.glo_ok X G (c.fact 39 (f := .glo "DecodeError") rfl)
  have cx_InvalidWeighting := He.glo_ok X G (c.fact 40 (f := .glo "InvalidWeighting") rfl)
  have nf_DecodeError_offset := He.noat_ok (c.fact 41 (f := .noat "DecodeError" "offset") rfl)
  have nf_InvalidWeighting_index := He.noat_ok (c.fact 42 (f := .noat "InvalidWeighting" "index") rfl)
  have nf_InvalidWeighting_part := He.noat_ok (c.fact 43 (f := .noat "InvalidWeighting" "part") rfl)
  have x_DecodeError_DecodeError := He.exm_ok (c.fact 44 (f := .exm "DecodeError" "DecodeError" true) rfl)
  have x_InvalidWeighting_DecodeError := He.exm_ok (c.fact 45 (f := .exm "InvalidWeighting" "DecodeError" false) rfl)
  have x_InvalidWeighting_InvalidWeighting := He.exm_ok (c.fact 46 (f := .exm "InvalidWeighting" "InvalidWeighting" true) rfl)
  have XF_DecodeError := xfB_ok x2
  have XF_InvalidWeighting := xfB_ok x3
  have sup0 := He.free_ok X G (c.fact 47 (f := .free "super") rfl)
  obtain ⟨fd_InvalidWeighting, cda_InvalidWeighting, cc_InvalidWeighting, I_InvalidWeighting⟩ := c0.ini (P := P) (mg := mg) (x := "InvalidWeighting") (file := fileN) 0 (d := dd_InvalidWeighting_init) rfl rfl x4 hPf sup0 hPt
  obtain ⟨fd_DecodeError, cda_DecodeError, cc_DecodeError, I_DecodeError⟩ := c0.ini (P := P) (mg := mg) (x := "DecodeError") (file := fileN) 1 (d := dd_DecodeError_init) rfl rfl x5 hPf sup0 hPt
  have c_FARTHEST := He.int_ok X G (c.fact 48 (f := .int "FARTHEST" (20)) rfl)
  have c_HEAVIEST := He.int_ok X G (c.fact 49 (f := .int "HEAVIEST" (20)) rfl)
  have c_MOST_MASSES := He.int_ok X G (c.fact 50 (f := .int "MOST_MASSES" (6)) rfl)
  have c_MOST_STRETCHES := He.int_ok X G (c.fact 51 (f := .int "MOST_STRETCHES" (4)) rfl)
  have c_CHECK_FACTOR := He.int_ok X G (c.fact 52 (f := .int "CHECK_FACTOR" (29)) rfl)
  have c_CHECK_MODULUS := He.int_ok X G (c.fact 53 (f := .int "CHECK_MODULUS" (199)) rfl)
  have c_CHECK_START := He.int_ok X G (c.fact 54 (f := .int "CHECK_START" (7)) rfl)
  have c_MARK := He.int_ok X G (c.fact 55 (f := .int "MARK" (113)) rfl)
  have cl := He.cls_ok (c.fact 35 (f := .cls "Weighting") rfl)
  have n_masses := He.noat_ok (c.fact 37 (f := .noat "Weighting" "_masses") rfl)
  have n_stretches := He.noat_ok (c.fact 38 (f := .noat "Weighting" "_stretches") rfl)
  have e := hfa.symm.trans (He.glo_ok X G (c.fact 33 (f := .glo "law") rfl))
  cases e
  have bl := FunD.bindsA (ps := ["_law_script"]) F_law fun _ _ _ _ _ _ us hl => match us, hl with | [_], _ => rfl
  refine ⟨fd_law, fun s v => bl s [v] rfl, fun base _ _ => ?_⟩
  have cl_W := cl
  have na_masses := n_masses
  have na_stretches := n_stretches
  have c_W := He.glo_ok X G (c.fact 34 (f := .glo "Weighting") rfl)
  have GP_masses : KnP P w K mg base (He.ga K "Weighting") "masses" "_masses" := knP_of x0 cl n_masses F_p_masses ⟨rfl, rfl, rfl, by decide +kernel, rfl, by decide +kernel, by decide +kernel⟩ rfl fun _ _ _ _ _ _ us hl => match us, hl with | [_], _ => rfl
  have GP_stretches : KnP P w K mg base (He.ga K "Weighting") "stretches" "_stretches" := knP_of x1 cl n_stretches F_p_stretches ⟨rfl, rfl, rfl, by decide +kernel, rfl, by decide +kernel, by decide +kernel⟩ rfl fun _ _ _ _ _ _ us hl => match us, hl with | [_], _ => rfl
  have GX_InvalidWeighting : KnX P w K mg base "InvalidWeighting" 1 ["self", "part", "index"] (spI2 (He.ga K "InvalidWeighting") "part" "index") := ⟨⟨_, ok_InvalidWeighting_init I_InvalidWeighting nf_InvalidWeighting_part nf_InvalidWeighting_index, I_InvalidWeighting.binds rfl (fun _ _ _ _ _ _ _ us hl => match us, hl with | [_, _, _], _ => rfl)⟩, I_InvalidWeighting.sc.oex, I_InvalidWeighting.ini, I_InvalidWeighting.typ, cx_InvalidWeighting⟩
  have GX_DecodeError : KnX P w K mg base "DecodeError" 1 ["self", "offset"] (spI1 (He.ga K "DecodeError") "offset") := ⟨⟨_, ok_DecodeError_init I_DecodeError nf_DecodeError_offset, I_DecodeError.binds rfl (fun _ _ _ _ _ _ _ us hl => match us, hl with | [_, _], _ => rfl)⟩, I_DecodeError.sc.oex, I_DecodeError.ini, I_DecodeError.typ, cx_DecodeError⟩
  have G_whole_within : Kn P w K mg base "whole_within" 1 ["number", "low", "high"] (sp_whole_within K) := ⟨_, _, ok_whole_within (C := He.ga K "Weighting") B F_whole_within, He.glo_ok X G (c.fact 18 (f := .glo "whole_within") rfl), F_whole_within.kp, F_whole_within.bindsN fun _ _ _ _ _ _ us hl => match us, hl with | [_, _, _], _ => rfl⟩
  have G_whole_within_d : Kn P w K mg base "whole_within" 1 ["number", "low", "high"] (sp_whole_within_d K) := ⟨_, _, ok_whole_within_d (C := He.ga K "Weighting") B F_whole_within_d, He.glo_ok X G (c.fact 18 (f := .glo "whole_within") rfl), F_whole_within_d.kp, F_whole_within_d.bindsN fun _ _ _ _ _ _ us hl => match us, hl with | [_, _, _], _ => rfl⟩
  have G_is_place : Kn P w K mg base "is_place" 2 ["number"] (sp_is_place K) := ⟨_, _, ok_is_place (C := He.ga K "Weighting") B F_is_place G_whole_within c_FARTHEST, He.glo_ok X G (c.fact 19 (f := .glo "is_place") rfl), F_is_place.kp, F_is_place.bindsN fun _ _ _ _ _ _ us hl => match us, hl with | [_], _ => rfl⟩
  have G_is_mass : Kn P w K mg base "is_mass" 2 ["number"] (sp_is_mass K) := ⟨_, _, ok_is_mass (C := He.ga K "Weighting") B F_is_mass G_whole_within c_HEAVIEST, He.glo_ok X G (c.fact 20 (f := .glo "is_mass") rfl), F_is_mass.kp, F_is_mass.bindsN fun _ _ _ _ _ _ us hl => match us, hl with | [_], _ => rfl⟩
  have G_check_masses : Kx P w K mg base "check_masses" 3 ["masses"] (sp_check_masses K) := ⟨_, _, ok_check_masses (C := He.ga K "Weighting") B F_check_masses G_is_place G_is_mass c_FARTHEST c_MOST_MASSES GX_InvalidWeighting, He.glo_ok X G (c.fact 21 (f := .glo "check_masses") rfl), F_check_masses.kp, F_check_masses.bindsN fun _ _ _ _ _ _ us hl => match us, hl with | [_], _ => rfl⟩
  have G_check_stretches : Kx P w K mg base "check_stretches" 3 ["stretches"] (sp_check_stretches K) := ⟨_, _, ok_check_stretches (C := He.ga K "Weighting") B F_check_stretches G_is_place G_is_mass c_FARTHEST c_MOST_STRETCHES GX_InvalidWeighting, He.glo_ok X G (c.fact 22 (f := .glo "check_stretches") rfl), F_check_stretches.kp, F_check_stretches.bindsN fun _ _ _ _ _ _ us hl => match us, hl with | [_], _ => rfl⟩
  have GC_Weighting : KnC P w K mg base (L2.CX P w) "Weighting" (He.ga K "Weighting") 4 ["self", "masses", "stretches"] (spWX Weighting_init K (He.ga K "Weighting")) := ⟨⟨_, _, He.mkr_ok (c.fact 36 (f := .mkr "Weighting") rfl), ok_Weighting_init (C := He.ga K "Weighting") B cl n_masses n_stretches F_Weighting_init G_check_masses G_check_stretches GX_InvalidWeighting, F_Weighting_init.bindsN fun _ _ _ _ _ _ us hl => match us, hl with | [_, _, _], _ => rfl⟩, He.glo_ok X G (c.fact 34 (f := .glo "Weighting") rfl)⟩
  have G_checksum : Kn P w K mg base "checksum" 1 ["items"] (sp_checksum K) := ⟨_, _, ok_checksum (C := He.ga K "Weighting") B F_checksum c_CHECK_FACTOR c_CHECK_MODULUS c_CHECK_START, He.glo_ok X G (c.fact 23 (f := .glo "checksum") rfl), F_checksum.kp, F_checksum.bindsN fun _ _ _ _ _ _ us hl => match us, hl with | [_], _ => rfl⟩
  have G_checksum_d : Kn P w K mg base "checksum" 1 ["items"] (sp_checksum_d K) := ⟨_, _, ok_checksum_d (C := He.ga K "Weighting") B F_checksum_d c_CHECK_FACTOR c_CHECK_MODULUS c_CHECK_START, He.glo_ok X G (c.fact 23 (f := .glo "checksum") rfl), F_checksum_d.kp, F_checksum_d.bindsN fun _ _ _ _ _ _ us hl => match us, hl with | [_], _ => rfl⟩
  have G_encode_weighting : Kn P w K mg base "encode_weighting" 3 ["weighting"] (sp_encode_weighting K (He.ga K "Weighting")) := ⟨_, _, ok_encode_weighting (C := He.ga K "Weighting") B F_encode_weighting G_checksum c_FARTHEST c_MARK GP_masses GP_stretches, He.glo_ok X G (c.fact 24 (f := .glo "encode_weighting") rfl), F_encode_weighting.kp, F_encode_weighting.bindsN fun _ _ _ _ _ _ us hl => match us, hl with | [_], _ => rfl⟩
  have G_item_at : Kx P w K mg base "item_at" 3 ["values", "offset", "low", "high"] (sp_item_at K) := ⟨_, _, ok_item_at (C := He.ga K "Weighting") B F_item_at G_whole_within_d GX_DecodeError, He.glo_ok X G (c.fact 25 (f := .glo "item_at") rfl), F_item_at.kp, F_item_at.bindsN fun _ _ _ _ _ _ us hl => match us, hl with | [_, _, _, _], _ => rfl⟩
  have G_place_at : Kx P w K mg base "place_at" 4 ["values", "offset"] (sp_place_at K) := ⟨_, _, ok_place_at (C := He.ga K "Weighting") B F_place_at G_item_at c_FARTHEST, He.glo_ok X G (c.fact 26 (f := .glo "place_at") rfl), F_place_at.kp, F_place_at.bindsN fun _ _ _ _ _ _ us hl => match us, hl with | [_, _], _ => rfl⟩
  have G_mass_at : Kx P w K mg base "mass_at" 4 ["values", "offset"] (sp_mass_at K) := ⟨_, _, ok_mass_at (C := He.ga K "Weighting") B F_mass_at G_item_at c_HEAVIEST, He.glo_ok X G (c.fact 27 (f := .glo "mass_at") rfl), F_mass_at.kp, F_mass_at.bindsN fun _ _ _ _ _ _ us hl => match us, hl with | [_, _], _ => rfl⟩
  have G_decode_weighting : Kx P w K mg base "decode_weighting" 6 ["values"] (sp_decode_weighting K (He.ga K "Weighting")) := ⟨_, _, ok_decode_weighting (C := He.ga K "Weighting") B F_decode_weighting G_item_at G_place_at G_mass_at G_checksum_d c_MARK c_MOST_MASSES c_MOST_STRETCHES GC_Weighting GX_DecodeError, He.glo_ok X G (c.fact 28 (f := .glo "decode_weighting") rfl), F_decode_weighting.kp, F_decode_weighting.bindsN fun _ _ _ _ _ _ us hl => match us, hl with | [_], _ => rfl⟩
  have G_law_taken : Kn P w K mg base "_law_taken" 1 ["_law_row", "_law_many"] (spTaken takenB K) := ⟨_, _, ok_law_taken B F_law_taken, He.glo_ok X G (c.fact 29 (f := .glo "_law_taken") rfl), F_law_taken.kp, F_law_taken.bindsN fun _ _ _ _ _ _ us hl => match us, hl with | [_, _], _ => rfl⟩
  have G_law_weighting : Kn P w K mg base "_law_weighting" 6 ["_law_row"] (sp_law_weighting K (He.ga K "Weighting")) := ⟨_, _, ok_law_weighting (C := He.ga K "Weighting") B F_law_weighting G_law_taken GC_Weighting, He.glo_ok X G (c.fact 30 (f := .glo "_law_weighting") rfl), F_law_weighting.kp, F_law_weighting.bindsN fun _ _ _ _ _ _ us hl => match us, hl with | [_], _ => rfl⟩
  have G_law_checked : Kn P w K mg base "_law_checked" 1 ["_law_items"] (sp_law_checked K) := ⟨_, _, ok_law_checked (C := He.ga K "Weighting") B F_law_checked, He.glo_ok X G (c.fact 31 (f := .glo "_law_checked") rfl), F_law_checked.kp, F_law_checked.bindsN fun _ _ _ _ _ _ us hl => match us, hl with | [_], _ => rfl⟩
  have G_law_offset : Kn P w K mg base "_law_offset" 7 ["_law_values"] (sp_law_offset K) := ⟨_, _, ok_law_offset (C := He.ga K "Weighting") B F_law_offset G_decode_weighting XF_DecodeError XF_InvalidWeighting cx_DecodeError cx_InvalidWeighting nf_DecodeError_offset nf_InvalidWeighting_index nf_InvalidWeighting_part x_DecodeError_DecodeError x_InvalidWeighting_DecodeError x_InvalidWeighting_InvalidWeighting, He.glo_ok X G (c.fact 32 (f := .glo "_law_offset") rfl), F_law_offset.kp, F_law_offset.bindsN fun _ _ _ _ _ _ us hl => match us, hl with | [_], _ => rfl⟩
  exact ok_law (C := He.ga K "Weighting") B F_law G_encode_weighting G_law_weighting G_law_taken G_law_offset G_law_checked
open PySem PySem.W PySem.Calls PyProof.Rows
theorem of_law (math : ∀ scr : List Int, scr.length ≤ 63 → law scr = .ok true) : PySem.Challenge.rw_fewreadings_k45_codes_rejected.Holds := by
  w_on; o_law
  refine HandSHeadRun.head_any (r := R) (q := vw) (H := hk) (ob := ob) (M := 6000) (loose := looseN) (d := HandSHeadRun.topDef R.prog 32) (kwd := []) ob_eq
    (by kernel_rfl) (fun s => by kernel_rfl) run (by kernel_rfl) (by kernel_rfl) (by kernel_rfl) (by rfl) (by first | assumption | decide +kernel) (by decide +kernel) ⟨rfl, rfl, rfl, rfl, rfl, by decide +kernel⟩ ?hw ?hc
  case hw => w_witness2
  case hc =>
    refine L2.walk_ofE (l := PySem.Challenge.rw_fewreadings_k45_codes_rejected) (n := 63) (k := 8) (x := "_law_script") (CX := L2.CX0) rfl (by decide) (by kernel_rfl) ⟨rfl, by decide, by decide⟩ ?F (fun _ _ _ _ z => z)
    intro w mg fa h Y G hmg0
    obtain ⟨K, KX, c⟩ := Y
    have hmg : mg ("law" : PySem.Str) = some (.ref fa) := by
      have e : (HandSHeadRun.topDef R.prog 32).name = ("law" : PySem.Str) := by kernel_rfl
      rw [← e]
      exact hmg0
    obtain ⟨fd, hb, hF⟩ := facts (P := PySem.Challenge.rw_fewreadings_k45_codes_rejected.prog) (w := w) KX G hmg c (by kernel_rfl) (by kernel_rfl)
    refine ⟨K, fd, sp_law K, KX, hb, fun H a ns hl _ hS => ⟨a, ns, rfl, hS, ?_⟩, hF⟩
    rw [math ns hl]
    exact ⟨fun H => rfl⟩
end L

set_option Elab.async false
set_option linter.all false
set_option maxRecDepth 100000
set_option maxHeartbeats 2000000
set_option exponentiation.threshold 100
namespace L
open PySem L2 Evl Wk
/-! ### fractions, in any terms -/
/-! ### places, weights, polynomials that are handed in -/
theorem weights_fold {f : Unit → Int × (Int × Int) → Mm Unit} {count : Int} (hf : ∀ s y, f s y = cond ((decide (y.1 = count)) || (decide (y.2.2 = (0 : Int)))) (Mm.bad) (Mm.ok ())) : ∀ (l : List (Int × Int)) (k : Int), k + l.length ≤ count → (∀ x ∈ l, x.2 ≠ 0) → foldM f () (numL k l) = .ok ()
  | [], k, _, _ => rfl
  | x :: l, k, h, hn => by
    rw [List.length_cons] at h
    unfold numL foldM
    rw [hf, cF (by rw [decide_eq_false (by show ¬ k = count; omega), decide_eq_false (hn x (List.mem_cons_self ..))]; rfl), bdo]
    exact weights_fold hf l (k + 1) (by omega) fun y hy => hn y (List.mem_cons_of_mem _ hy)
def toR (l : List Int) : List Rat := l.map fun x => ((x : Int) : Rat)
theorem toR_fr (l : List Int) : (toR l).map fr = l.map fun x => (x, (1 : Int)) := by
  unfold toR
  rw [List.map_map]
  exact List.map_congr_left fun x _ => fr_of_int x
theorem toR_sq {l : List Int} {c : Nat} (h : ∀ x ∈ l, x.natAbs < 2 ^ c) (h0 : 0 < c) : Sqs c (toR l) := fun q hq => by
  obtain ⟨x, hx, rfl⟩ := List.mem_map.mp hq
  exact sq_int (h x hx) h0
def zipR (ps ws : List Rat) (f : List Rat) : List Rat := (ps.zip ws).map fun x => x.2 * ev f x.1
def Rd (ps ws f : List Rat) : Rat := (zipR ps ws f).sum
/-! ### the law's own fractions -/
/-! ### what the law draws -/
structure PlB (most : Nat) (x : List (Int × Int)) (ps : List Rat) : Prop where
  rx : All2 (fun p x => Rx 7 x p) ps x
  asc : ps.Pairwise (· < ·)
  len : ps.length ≤ most
  pos : 0 < ps.length
  dn : ∃ B : Int, 1 ≤ B ∧ B ≤ 3 ∧ ∀ p ∈ ps, ∃ s : Int, s.natAbs ≤ 40 ∧ p = (s : Rat) / (B : Rat)
theorem rat_lt_div {a b c : Int} (h : 0 < c) (k : a < b) : (a : Rat) / (c : Rat) < (b : Rat) / (c : Rat) := by
  have e : (a : Rat) < (b : Rat) := Rat.intCast_lt_intCast.mpr k
  have f : (0 : Rat) < (c : Rat) := Rat.intCast_pos.mpr h
  rw [Rat.div_def, Rat.div_def]
  exact Rat.mul_lt_mul_of_pos_right e (Rat.inv_pos.mpr f)
/-! ### weightings that are right, their sums -/
theorem pow_fold {f : Int → Int → Mm Int} {base : Int} {b : Nat} (hb : base.natAbs < 2 ^ b) (hf : ∀ s x, f s x = (mulM s base).bd fun m => Mm.ok m) : ∀ (l : List Int) (s : Int) (a : Nat), s.natAbs < 2 ^ a → a + b * (l.length + 1) ≤ 900000 → foldM f s l = .ok (s * base ^ l.length)
  | [], s, a, _, _ => by simp [foldM]
  | x :: l, s, a, ha, h => by
    have e : a + b + b * (l.length + 1) ≤ 900000 := by
      rw [List.length_cons] at h
      have : b * (l.length + 1 + 1) = b * (l.length + 1) + b := by rw [Nat.mul_succ]
      omega
    unfold foldM
    rw [hf, mul_ok ha hb (by omega)]
    show foldM f (s * base) l = _
    rw [pow_fold hb hf l (s * base) (a + b) (mul_lt ha hb (Nat.le_refl _)) e, List.length_cons, Int.mul_assoc, Int.pow_succ']
theorem pow_lt {base : Int} {b : Nat} (hb : base.natAbs < 2 ^ b) : ∀ n : Nat, (base ^ n).natAbs < 2 ^ (b * n + 1)
  | 0 => by simp
  | n + 1 => by
    rw [Int.pow_succ]
    exact mul_lt (pow_lt hb n) hb (by rw [Nat.mul_succ]; omega)
theorem sum_lt {a : Nat} : ∀ l : List Int, (∀ x ∈ l, x.natAbs < 2 ^ a) → l.sum.natAbs < 2 ^ (a + l.length)
  | [], _ => by
    have := two_le (a + 0)
    show 0 < 2 ^ (a + 0)
    omega
  | x :: l, h => by
    rw [List.sum_cons]
    refine add_lt (h x (List.mem_cons_self ..)) (sum_lt l fun y hy => h y (List.mem_cons_of_mem _ hy)) ?_ ?_ <;> (rw [List.length_cons]; omega)
structure Good (w : Wt) : Prop where
  ms : ∀ m ∈ w.1, m.1.natAbs ≤ 20 ∧ 1 ≤ m.2 ∧ m.2 ≤ 20
  ss : ∀ s ∈ w.2, s.1.natAbs ≤ 20 ∧ s.2.1.natAbs ≤ 20 ∧ 1 ≤ s.2.2 ∧ s.2.2 ≤ 20 ∧ s.1 < s.2.1
  lm : w.1.length ≤ 6
  ls : w.2.length ≤ 4
  ne : w.1 ≠ [] ∨ w.2 ≠ []
def mI (k : Nat) (m : Int × Int) : Int := m.2 * m.1 ^ k
def sI (k : Nat) (s : Int × Int × Int) : Int := s.2.2 * (s.2.1 ^ (k + 1) - s.1 ^ (k + 1))
def PS (w : Wt) (k : Nat) : Rat := (((w.1.map (mI k)).sum * ((k : Int) + 1) + (w.2.map (sI k)).sum : Int) : Rat) / (((k : Int) + 1 : Int) : Rat)
theorem pow_lt20 {x : Int} {k : Nat} (h : x.natAbs ≤ 20) (hk : k ≤ 61) : (x ^ k).natAbs < 2 ^ 306 := up_lt (pow_lt (b := 5) (by omega) k) (by omega)
theorem mI_lt {k : Nat} {m : Int × Int} (h : m.1.natAbs ≤ 20 ∧ 1 ≤ m.2 ∧ m.2 ≤ 20) (hk : k ≤ 60) : (mI k m).natAbs < 2 ^ 320 :=
  mul_lt (a := 5) (by omega) (pow_lt20 h.1 (by omega)) (by decide)
theorem sI_lt {k : Nat} {s : Int × Int × Int} (h : s.1.natAbs ≤ 20 ∧ s.2.1.natAbs ≤ 20 ∧ 1 ≤ s.2.2 ∧ s.2.2 ≤ 20 ∧ s.1 < s.2.1) (hk : k ≤ 60) : (sI k s).natAbs < 2 ^ 320 :=
  mul_lt (a := 5) (by omega) (sub_lt (n := 307) (pow_lt20 h.2.1 (by omega)) (pow_lt20 h.1 (by omega)) (by decide) (by decide)) (by decide)
theorem small_lt {k : Nat} (hk : k ≤ 60) : ((k : Int) + 1).natAbs < 2 ^ 6 := by
  have : (2 : Nat) ^ 6 = 64 := by decide
  omega
theorem sums_lt {w : Wt} (g : Good w) {k : Nat} (hk : k ≤ 60) : (w.1.map (mI k)).sum.natAbs < 2 ^ 326 ∧ (w.2.map (sI k)).sum.natAbs < 2 ^ 326 := by
  constructor
  · refine up_lt (sum_lt (a := 320) _ fun x hx => ?_) (by rw [List.length_map]; have := g.lm; omega)
    obtain ⟨m, hm, rfl⟩ := List.mem_map.mp hx
    exact mI_lt (g.ms m hm) hk
  · refine up_lt (sum_lt (a := 320) _ fun x hx => ?_) (by rw [List.length_map]; have := g.ls; omega)
    obtain ⟨m, hm, rfl⟩ := List.mem_map.mp hx
    exact sI_lt (g.ss m hm) hk
theorem sq_PS {w : Wt} (g : Good w) {k : Nat} (hk : k ≤ 60) : Sq 340 (PS w k) := by
  obtain ⟨a, b⟩ := sums_lt g hk
  refine sq_div (by omega) ?_ (up_lt (small_lt hk) (by decide))
  exact add_lt (mul_lt a (small_lt hk) (Nat.le_refl _)) b (by decide) (by decide)
theorem whole_ok {n l h : Int} (a : l ≤ n) (b : n ≤ h) : whole_within n l h = .ok true := by
  unfold whole_within
  rw [decide_eq_true a, decide_eq_true b]
  rfl
theorem sum_cast {α : Type} (f : α → Int) : ∀ l : List α, (l.map fun x => ((f x : Int) : Rat)).sum = (((l.map f).sum : Int) : Rat)
  | [] => rfl
  | x :: l => by
    rw [List.map_cons, List.sum_cons, List.map_cons, List.sum_cons, sum_cast f l]
    push_cast
    rfl
theorem sum_castD {α : Type} (f : α → Int) (c : Rat) : ∀ l : List α, (l.map fun x => ((f x : Int) : Rat) / c).sum = (((l.map f).sum : Int) : Rat) / c
  | [] => by
    show (0 : Rat) = ((0 : Int) : Rat) / c
    push_cast
    grind
  | x :: l => by
    rw [List.map_cons, List.sum_cons, List.map_cons, List.sum_cons, sum_castD f c l]
    push_cast
    grind
theorem sum_nn : ∀ l : List Int, (∀ x ∈ l, 0 < x) → 0 ≤ l.sum ∧ (l ≠ [] → 0 < l.sum)
  | [], _ => ⟨by decide, fun h => absurd rfl h⟩
  | x :: l, h => by
    have a := (sum_nn l fun y hy => h y (List.mem_cons_of_mem _ hy)).1
    have b := h x (List.mem_cons_self ..)
    rw [List.sum_cons]
    exact ⟨by omega, fun _ => by omega⟩
theorem PS0_pos {w : Wt} (g : Good w) : 0 < PS w 0 := by
  have a := sum_nn (w.1.map (mI 0)) fun x hx => by
    obtain ⟨m, hm, rfl⟩ := List.mem_map.mp hx
    have := g.ms m hm
    unfold mI
    rw [Int.pow_zero]
    omega
  have b := sum_nn (w.2.map (sI 0)) fun x hx => by
    obtain ⟨s, hs, rfl⟩ := List.mem_map.mp hx
    have := g.ss s hs
    unfold sI
    rw [Int.pow_succ, Int.pow_zero, Int.pow_succ, Int.pow_zero, Int.one_mul, Int.one_mul]
    exact Int.mul_pos (by omega) (by omega)
  have c : 0 < (w.1.map (mI 0)).sum + (w.2.map (sI 0)).sum := by
    rcases g.ne with h | h
    · have := a.2 (by simpa using h)
      omega
    · have := b.2 (by simpa using h)
      omega
  unfold PS
  have e : (((w.1.map (mI 0)).sum * (((0 : Nat) : Int) + 1) + (w.2.map (sI 0)).sum : Int) : Rat) / (((((0 : Nat) : Int) + 1 : Int)) : Rat) = (((w.1.map (mI 0)).sum + (w.2.map (sI 0)).sum : Int) : Rat) := by
    push_cast
    grind
  rw [e]
  exact Rat.intCast_pos.mpr c
theorem pow_lt12 {x : Int} {k : Nat} (h : x.natAbs ≤ 20) (hk : k ≤ 13) : (x ^ k).natAbs < 2 ^ 66 := up_lt (pow_lt (b := 5) (by omega) k) (by omega)
theorem sq_PS12 {w : Wt} (g : Good w) {k : Nat} (hk : k ≤ 12) : Sq 90 (PS w k) := by
  have sm : ((k : Int) + 1).natAbs < 2 ^ 4 := by
    have : (2 : Nat) ^ 4 = 16 := by decide
    omega
  have a : (w.1.map (mI k)).sum.natAbs < 2 ^ 80 := by
    refine up_lt (sum_lt (a := 72) _ fun x hx => ?_) (by rw [List.length_map]; have := g.lm; omega)
    obtain ⟨m, hm, rfl⟩ := List.mem_map.mp hx
    have q := g.ms m hm
    exact mul_lt (a := 5) (by omega) (pow_lt12 q.1 (by omega)) (by decide)
  have b : (w.2.map (sI k)).sum.natAbs < 2 ^ 80 := by
    refine up_lt (sum_lt (a := 72) _ fun x hx => ?_) (by rw [List.length_map]; have := g.ls; omega)
    obtain ⟨s, hs, rfl⟩ := List.mem_map.mp hx
    have q := g.ss s hs
    exact mul_lt (a := 5) (by omega) (sub_lt (n := 67) (pow_lt12 q.2.1 (by omega)) (pow_lt12 q.1 (by omega)) (by decide) (by decide)) (by decide)
  refine sq_div (by omega) ?_ (up_lt sm (by decide))
  exact add_lt (mul_lt a sm (Nat.le_refl _)) b (by decide) (by decide)
def tW (w : Wt) (x : Int × Rat) : Rat := x.2 * PS w x.1.toNat
def WS (w : Wt) (l : List Rat) : Rat := ((numL 0 l).map (tW w)).sum
structure MsOk (ms : Ms) : Prop where
  each : ∀ m ∈ ms, m.1.natAbs ≤ 20 ∧ 1 ≤ m.2 ∧ m.2 ≤ 20
  asc : (ms.map (·.1)).Pairwise (· < ·)
  len : ms.length ≤ 6
theorem zeroW : MsOk [(0, 1)] := ⟨by decide, by decide, by decide⟩
def SsTo : Int → Ss → Int → Prop
  | a, [], z => a ≤ z
  | a, s :: l, z => a ≤ s.1 ∧ s.1 < s.2.1 ∧ 1 ≤ s.2.2 ∧ s.2.2 ≤ 20 ∧ SsTo s.2.1 l z
theorem SsTo.le : ∀ {l : Ss} {a z : Int}, SsTo a l z → a ≤ z
  | [], _, _, h => h
  | s :: l, a, z, h => by
    have := SsTo.le h.2.2.2.2
    have := h.1
    have := h.2.1
    omega
theorem SsTo.up : ∀ {l : Ss} {a z z' : Int}, SsTo a l z → z ≤ z' → SsTo a l z'
  | [], _, _, _, h, k => Int.le_trans h k
  | s :: l, _, _, _, ⟨a, b, c, d, e⟩, k => ⟨a, b, c, d, SsTo.up e k⟩
theorem SsTo.low : ∀ {l : Ss} {a a' z : Int}, SsTo a l z → a' ≤ a → SsTo a' l z
  | [], _, _, _, h, k => Int.le_trans k h
  | s :: l, _, _, _, ⟨a, b, c, d, e⟩, k => ⟨Int.le_trans k a, b, c, d, e⟩
theorem SsTo.app {lo hi h : Int} : ∀ {l : Ss} {a y : Int}, SsTo a l y → y ≤ lo → lo < hi → 1 ≤ h → h ≤ 20 → SsTo a (l ++ [(lo, hi, h)]) hi
  | [], a, y, h1, h2, h3, h4, h5 => ⟨Int.le_trans h1 h2, h3, h4, h5, Int.le_refl _⟩
  | s :: l, a, y, ⟨a1, b, c, d, e⟩, h2, h3, h4, h5 => ⟨a1, b, c, d, SsTo.app e h2 h3 h4 h5⟩
theorem SsTo.each : ∀ {l : Ss} {a z : Int}, SsTo a l z → -20 ≤ a → z ≤ 20 → ∀ s ∈ l, s.1.natAbs ≤ 20 ∧ s.2.1.natAbs ≤ 20 ∧ 1 ≤ s.2.2 ∧ s.2.2 ≤ 20 ∧ s.1 < s.2.1
  | [], _, _, _, _, _, _, h => by cases h
  | t :: l, a, z, ⟨a1, b, c, d, e⟩, ha, hz, s, h => by
    have := SsTo.le e
    rcases List.mem_cons.mp h with rfl | h
    · omega
    · exact SsTo.each e (by omega) hz s h
theorem is_place_ok {n : Int} (h : n.natAbs ≤ 20) : is_place n = .ok true := by
  unfold is_place
  rw [whole_ok (by omega) (by omega)]
  rfl
theorem is_mass_ok {n : Int} (h : 1 ≤ n) (h2 : n ≤ 20) : is_mass n = .ok true := by
  unfold is_mass
  rw [whole_ok h h2]
  rfl
structure WOk (w : Wt) : Prop where
  ms : MsOk w.1
  ss : SsTo (-20) w.2 20
  ls : w.2.length ≤ 4
  ne : w.1 ≠ [] ∨ w.2 ≠ []
theorem WOk.good {w : Wt} (h : WOk w) : Good w := ⟨h.ms.each, h.ss.each (by decide) (by decide), h.ms.len, h.ls, h.ne⟩
theorem map_id3 (l : Ss) : l.map (fun x => (x.1, x.2.1, x.2.2)) = l := by
  conv => rhs; rw [← List.map_id l]
  rfl
theorem map_id2 (l : Ms) : l.map (fun x => (x.1, x.2)) = l := by
  conv => rhs; rw [← List.map_id l]
  rfl
/-! ### a weighting that is made where an exception may leave -/
theorem check_masses_ok {ms : Ms} (g : MsOk ms) : check_masses ms = .ok () := by
  unfold check_masses
  rw [enumL_eq]
  have k : ∀ (l : Ms) (k a : Int), 0 ≤ k → k + l.length ≤ 6 → (∀ m ∈ l, m.1.natAbs ≤ 20 ∧ 1 ≤ m.2 ∧ m.2 ≤ 20) → (l.map (·.1)).Pairwise (· < ·) → (∀ m ∈ l, a < m.1) →
      ∃ r, foldM (fun (b5 : Int) (x6 : (Int × (Int × Int))) => (cond (decide (x6.1 = (6 : Int))) (Mm.ok true) ((noEx (is_place (x6.2.1))).bd fun b42 => (cond (!b42) (Mm.ok true) ((noEx (is_mass (x6.2.2))).bd fun b53 => Mm.ok ((!b53) || (decide (x6.2.1 ≤ b5))))).bd fun b49 => Mm.ok b49)).bd fun b38 => cond b38 ((guardM ((0 : Int).natAbs < 18446744073709551616)).bd fun _ => (guardM (x6.1.natAbs < 18446744073709551616)).bd fun _ => Mm.ex ⟨0, [(0 : Int), x6.1]⟩) (Mm.ok x6.2.1)) a (numL k l) = .ok r := by
    intro l
    induction l with
    | nil => intro k a _ _ _ _ _; exact ⟨a, rfl⟩
    | cons m l ih =>
      intro k a h0 h1 h2 h3 h4
      obtain ⟨q1, q2⟩ := List.pairwise_cons.mp (show (m.1 :: l.map (·.1)).Pairwise (· < ·) from h3)
      obtain ⟨r, hr⟩ := ih (k + 1) m.1 (by omega) (by rw [List.length_cons] at h1; omega) (fun x hx => h2 x (List.mem_cons_of_mem _ hx)) q2 (fun x hx => q1 x.1 (List.mem_map_of_mem hx))
      refine ⟨r, ?_⟩
      have hm := h2 m (List.mem_cons_self ..)
      have ha := h4 m (List.mem_cons_self ..)
      unfold numL foldM
      rw [show decide ((k, m).1 = 6) = false from decide_eq_false (by show ¬ k = 6; rw [List.length_cons] at h1; omega)]
      simp only [bdo, noEx_ok, cond_false, cond_true, Bool.not_true, Bool.false_or, is_place_ok hm.1, is_mass_ok hm.2.1 hm.2.2, decide_eq_false (show ¬ m.1 ≤ a by omega)]
      exact hr
  obtain ⟨r, hr⟩ := k ms 0 (-20 - 1) (by decide) (by have := g.len; omega) g.each g.asc (fun m hm => by have := g.each m hm; omega)
  rw [hr]
  rfl
theorem check_stretches_ok {ss : Ss} {z : Int} (g : SsTo (-20) ss z) (hz : z ≤ 20) (hl : ss.length ≤ 4) : check_stretches ss = .ok () := by
  unfold check_stretches
  rw [enumL_eq]
  have k : ∀ (l : Ss) (k a : Int), 0 ≤ k → k + l.length ≤ 4 → -20 ≤ a → SsTo a l z →
      ∃ r, foldM (fun (b5 : Int) (x6 : (Int × (Int × Int × Int))) => (cond (decide (x6.1 = (4 : Int))) (Mm.ok true) ((noEx (is_place (x6.2.1))).bd fun b45 => (cond (!b45) (Mm.ok true) ((noEx (is_place (x6.2.2.1))).bd fun b56 => (cond (!b56) (Mm.ok true) ((noEx (is_mass (x6.2.2.2))).bd fun b67 => Mm.ok (!b67))).bd fun b63 => Mm.ok b63)).bd fun b52 => Mm.ok b52)).bd fun b41 => cond b41 ((guardM ((1 : Int).natAbs < 18446744073709551616)).bd fun _ => (guardM (x6.1.natAbs < 18446744073709551616)).bd fun _ => Mm.ex ⟨0, [(1 : Int), x6.1]⟩) (cond ((decide (x6.2.1 < b5)) || (decide (x6.2.2.1 ≤ x6.2.1))) ((guardM ((1 : Int).natAbs < 18446744073709551616)).bd fun _ => (guardM (x6.1.natAbs < 18446744073709551616)).bd fun _ => Mm.ex ⟨0, [(1 : Int), x6.1]⟩) (Mm.ok x6.2.2.1))) a (numL k l) = .ok r := by
    intro l
    induction l with
    | nil => intro k a _ _ _ _; exact ⟨a, rfl⟩
    | cons m l ih =>
      intro k a h0 h1 h2 h3
      obtain ⟨q1, q2, q3, q4, q5⟩ := h3
      have q6 := q5.le
      obtain ⟨r, hr⟩ := ih (k + 1) m.2.1 (by omega) (by rw [List.length_cons] at h1; omega) (by omega) q5
      refine ⟨r, ?_⟩
      unfold numL foldM
      rw [show decide ((k, m).1 = 4) = false from decide_eq_false (by show ¬ k = 4; rw [List.length_cons] at h1; omega)]
      simp only [bdo, noEx_ok, cond_false, cond_true, Bool.not_true, Bool.false_or, is_place_ok (show m.1.natAbs ≤ 20 by omega), is_place_ok (show m.2.1.natAbs ≤ 20 by omega), is_mass_ok q3 q4, decide_eq_false (show ¬ m.1 < a by omega), decide_eq_false (show ¬ m.2.1 ≤ m.1 by omega)]
      exact hr
  obtain ⟨r, hr⟩ := k ss 0 (-20) (by decide) (by omega) (by decide) g
  rw [hr]
  rfl
theorem init_ok {w : Wt} (h : WOk w) : Weighting_init w.1 w.2 = .ok w := by
  have hm := h.ms.len
  have hs := h.ls
  unfold Weighting_init
  rw [check_masses_ok h.ms]
  show (check_stretches w.2).bd _ = _
  rw [check_stretches_ok h.ss (by decide) h.ls]
  have e : cond (decide ((w.1.length : Int) = 0)) (Mm.ok (decide ((w.2.length : Int) = 0))) (Mm.ok false) = Mm.ok false := by
    by_cases q : (w.1.length : Int) = 0
    · rw [decide_eq_true q]
      rcases h.ne with n | n
      · exact absurd (List.length_eq_zero_iff.mp (by omega)) n
      · rw [decide_eq_false (show ¬ (w.2.length : Int) = 0 from fun z => n (List.length_eq_zero_iff.mp (by omega)))]
        rfl
    · rw [decide_eq_false q]
      rfl
  show Mm.bd (cond (decide ((w.1.length : Int) = 0)) (Mm.ok (decide ((w.2.length : Int) = 0))) (Mm.ok false)) _ = _
  rw [e]
  show (guardM _).bd _ = _
  rw [bd_guard (by omega), mapMm_eq (f := fun (x28 : Int × Int) => Mm.ok (x28.1, x28.2)) (g := fun x => (x.1, x.2)) _ fun x hx => rfl, map_id2, noEx_ok]
  show (guardM _).bd _ = _
  rw [bd_guard (by omega), mapMm_eq (f := fun (x75 : Int × Int × Int) => Mm.ok (x75.1, x75.2.1, x75.2.2)) (g := fun x => (x.1, x.2.1, x.2.2)) _ fun x hx => rfl, map_id3, noEx_ok]
  rfl
/-! ### polynomials by their roots -/
def rp (p : Rat) : Rat → List Rat → List Rat
  | z, [] => [z]
  | z, x :: l => (z - x * p) :: rp p x l
theorem rp_len (p : Rat) : ∀ (l : List Rat) (z : Rat), (rp p z l).length = l.length + 1
  | [], _ => rfl
  | x :: l, z => by
    unfold rp
    rw [List.length_cons, rp_len p l, List.length_cons]
theorem zip_rp (p : Rat) : ∀ (l : List Rat) (z : Rat), ((z :: l).zip (l.map (· * p) ++ [0])).map (fun x => x.1 - x.2) = rp p z l
  | [], z => by
    show [z - 0] = [z]
    congr 1
    grind
  | x :: l, z => by
    rw [List.map_cons, List.cons_append, List.zip_cons_cons, List.map_cons, zip_rp p l x]
    rfl
def WRf (ps l : List Rat) : List Rat := ps.foldl (fun l p => rp p 0 l) l
def WR (ps : List Rat) : List Rat := WRf ps [1]
theorem WRf_len : ∀ (ps l : List Rat), (WRf ps l).length = l.length + ps.length
  | [], l => rfl
  | p :: ps, l => by
    show (WRf ps (rp p 0 l)).length = _
    rw [WRf_len ps, rp_len, List.length_cons]
    omega
theorem WR_len (ps : List Rat) : (WR ps).length = ps.length + 1 := by
  unfold WR
  rw [WRf_len]
  show 1 + _ = _
  omega
/-! ### what has a bottom in common -/
def Dv (D : Int) (a : Nat) (q : Rat) : Prop := ∃ n : Int, q = (n : Rat) / (D : Rat) ∧ n.natAbs < 2 ^ a
theorem Dv.sq {D : Int} {a : Nat} {q : Rat} (h : Dv D a q) (h0 : 0 < D) (hD : D.natAbs < 2 ^ a) : Sq a q := by
  obtain ⟨n, rfl, hn⟩ := h
  exact sq_div h0 hn hD
theorem Dv.up {D : Int} {a b : Nat} {q : Rat} (h : Dv D a q) (k : a ≤ b) : Dv D b q := by
  obtain ⟨n, e, hn⟩ := h
  exact ⟨n, e, up_lt hn k⟩
theorem dv_zero {D : Int} {a : Nat} : Dv D a 0 := ⟨0, by push_cast; grind, by have := two_le a; show 0 < 2 ^ a; omega⟩
theorem dv_step {D B : Int} {a e : Nat} {z x p : Rat} (hD : 0 < D) (hB : 0 < B) (hz : Dv D a z) (hx : Dv D a x) (hp : Dv B e p) (hBe : B.natAbs < 2 ^ e) : Dv (D * B) (a + e + 1) (z - x * p) := by
  obtain ⟨n, rfl, hn⟩ := hz
  obtain ⟨m, rfl, hm⟩ := hx
  obtain ⟨s, rfl, hs⟩ := hp
  refine ⟨n * B - m * s, ?_, sub_lt (mul_lt hn hBe (Nat.le_refl _)) (mul_lt hm hs (Nat.le_refl _)) (by omega) (by omega)⟩
  have k1 := intc_ne (n := D) (by omega)
  have k2 := intc_ne (n := B) (by omega)
  push_cast
  grind
theorem dv_last {D B : Int} {a e : Nat} {z : Rat} (hD : 0 < D) (hB : 0 < B) (hz : Dv D a z) (hBe : B.natAbs < 2 ^ e) : Dv (D * B) (a + e + 1) z := by
  obtain ⟨n, rfl, hn⟩ := hz
  refine ⟨n * B, ?_, mul_lt hn hBe (by omega)⟩
  have k1 := intc_ne (n := D) (by omega)
  have k2 := intc_ne (n := B) (by omega)
  push_cast
  grind
theorem rp_dv {D B : Int} {a e : Nat} {p : Rat} (hD : 0 < D) (hB : 0 < B) (hp : Dv B e p) (hBe : B.natAbs < 2 ^ e) : ∀ (l : List Rat) (z : Rat), Dv D a z → (∀ x ∈ l, Dv D a x) → ∀ q ∈ rp p z l, Dv (D * B) (a + e + 1) q
  | [], z, hz, _, q, hq => by
    rw [List.mem_singleton.mp hq]
    exact dv_last hD hB hz hBe
  | x :: l, z, hz, hl, q, hq => by
    have hx := hl x (List.mem_cons_self ..)
    rcases List.mem_cons.mp hq with rfl | hq
    · exact dv_step hD hB hz hx hp hBe
    · exact rp_dv hD hB hp hBe l x hx (fun y hy => hl y (List.mem_cons_of_mem _ hy)) q hq
theorem wrf_dv {B : Int} {e : Nat} (hB : 0 < B) (hBe : B.natAbs < 2 ^ e) : ∀ (ps l : List Rat) (D : Int) (a : Nat), 0 < D → (∀ p ∈ ps, Dv B e p) → (∀ x ∈ l, Dv D a x) → ∀ q ∈ WRf ps l, Dv (D * B ^ ps.length) (a + (e + 1) * ps.length) q
  | [], l, D, a, _, _, hl, q, hq => by
    rw [List.length_nil, Int.pow_zero, Int.mul_one]
    exact hl q hq
  | p :: ps, l, D, a, hD, hp, hl, q, hq => by
    have h := wrf_dv hB hBe ps (rp p 0 l) (D * B) (a + e + 1) (Int.mul_pos hD hB) (fun q hq => hp q (List.mem_cons_of_mem _ hq)) (rp_dv hD hB (hp p (List.mem_cons_self ..)) hBe l 0 dv_zero hl) q hq
    have e1 : D * B * B ^ ps.length = D * B ^ (p :: ps).length := by rw [List.length_cons, Int.pow_succ, Int.mul_assoc, Int.mul_comm B]
    have e2 : a + e + 1 + (e + 1) * ps.length = a + (e + 1) * (p :: ps).length := by rw [List.length_cons, Nat.mul_succ]; omega
    rw [e1, e2] at h
    exact h
structure PB (B : Int) (e : Nat) (ps : List Rat) : Prop where
  b0 : 0 < B
  be : B.natAbs < 2 ^ e
  each : ∀ p ∈ ps, Dv B e p
theorem PB.sq {B : Int} {e : Nat} {ps : List Rat} (h : PB B e ps) : Sqs e ps := fun p hp => (h.each p hp).sq h.b0 h.be
theorem PB.sub {B : Int} {e : Nat} {ps qs : List Rat} (h : PB B e ps) (k : ∀ p ∈ qs, p ∈ ps) : PB B e qs := ⟨h.b0, h.be, fun p hp => h.each p (k p hp)⟩
theorem pow_ltZ {B : Int} {e : Nat} (h : B.natAbs < 2 ^ e) : ∀ n : Nat, (B ^ n).natAbs < 2 ^ (e * n + 1)
  | 0 => by simp
  | n + 1 => by
    rw [Int.pow_succ]
    exact mul_lt (pow_ltZ h n) h (by rw [Nat.mul_succ]; omega)
theorem pow_posZ {B : Int} (h : 0 < B) : ∀ n : Nat, 0 < B ^ n
  | 0 => by rw [Int.pow_zero]; decide
  | n + 1 => by
    rw [Int.pow_succ]
    exact Int.mul_pos (pow_posZ h n) h
theorem dv_one {a : Nat} : Dv 1 (a + 1) 1 := ⟨1, by decide +kernel, by have := two_le a; show 1 < 2 ^ (a + 1); rw [Nat.pow_succ]; omega⟩
theorem WR_sq {B : Int} {e : Nat} {ps : List Rat} (h : PB B e ps) : Sqs (1 + (e + 1) * ps.length) (WR ps) := fun q hq => by
  have d := wrf_dv h.b0 h.be ps [1] 1 1 (by decide) h.each (fun x hx => by rw [List.mem_singleton.mp hx]; exact dv_one) q hq
  rw [Int.one_mul] at d
  refine d.sq (pow_posZ h.b0 _) (up_lt (pow_ltZ h.be _) ?_)
  rw [Nat.succ_mul]
  omega
/-! ### values -/
theorem ev_rp (p x : Rat) : ∀ (l : List Rat) (z : Rat), ev (rp p z l) x = z + ev l x * (x - p)
  | [], z => by
    show z + x * 0 = z + 0 * (x - p)
    grind
  | c :: l, z => by
    show (z - c * p) + x * ev (rp p c l) x = z + (c + x * ev l x) * (x - p)
    rw [ev_rp p x l c]
    grind
def prd (x : Rat) (ps : List Rat) : Rat := ps.foldl (fun a p => a * (x - p)) 1
theorem prd_from (x : Rat) : ∀ (ps : List Rat) (a : Rat), ps.foldl (fun a p => a * (x - p)) a = a * prd x ps
  | [], a => by
    show a = a * 1
    grind
  | p :: ps, a => by
    unfold prd
    rw [List.foldl_cons, List.foldl_cons, prd_from x ps, prd_from x ps]
    grind
theorem prd_cons (x p : Rat) (ps : List Rat) : prd x (p :: ps) = (x - p) * prd x ps := by
  unfold prd
  rw [List.foldl_cons, prd_from]
  show 1 * (x - p) * prd x ps = _
  unfold prd
  grind
theorem ev_WRf (x : Rat) : ∀ (ps l : List Rat), ev (WRf ps l) x = ev l x * prd x ps
  | [], l => by
    show ev l x = ev l x * 1
    grind
  | p :: ps, l => by
    show ev (WRf ps (rp p 0 l)) x = _
    rw [ev_WRf x ps, ev_rp, prd_cons]
    grind
theorem ev_WR (x : Rat) (ps : List Rat) : ev (WR ps) x = prd x ps := by
  unfold WR
  rw [ev_WRf]
  show (1 + x * 0) * _ = _
  grind
theorem prd_ne {x : Rat} : ∀ {ps : List Rat}, x ∉ ps → prd x ps ≠ 0
  | [], _ => by
    show (1 : Rat) ≠ 0
    decide
  | p :: ps, h => by
    have h1 : x ≠ p := fun e => h (by rw [e]; exact List.mem_cons_self ..)
    have h2 := prd_ne (x := x) (ps := ps) fun e => h (List.mem_cons_of_mem _ e)
    rw [prd_cons]
    intro z
    rcases Rat.mul_eq_zero.mp z with q | q
    · exact h1 (by grind)
    · exact h2 q
theorem prd_zero {x : Rat} : ∀ {ps : List Rat}, x ∈ ps → prd x ps = 0
  | [], h => by cases h
  | p :: ps, h => by
    rw [prd_cons]
    rcases List.mem_cons.mp h with rfl | h
    · grind
    · rw [prd_zero h]
      grind
theorem prd_sq {B : Int} {e : Nat} {x : Rat} : ∀ {ps : List Rat}, 0 < B → B.natAbs < 2 ^ e → Dv B e x → (∀ p ∈ ps, Dv B e p) → Sq (1 + (e + 1) * ps.length) (prd x ps)
  | [], _, _, _, _ => one_sq
  | p :: ps, hB, hBe, hx, hp => by
    have ih := prd_sq (ps := ps) hB hBe hx fun q hq => hp q (List.mem_cons_of_mem _ hq)
    have d : Sq (e + 1) (x - p) := by
      obtain ⟨n, rfl, hn⟩ := hx
      obtain ⟨m, rfl, hm⟩ := hp p (List.mem_cons_self ..)
      have k := intc_ne (n := B) (by omega)
      have e1 : (n : Rat) / (B : Rat) - (m : Rat) / (B : Rat) = ((n - m : Int) : Rat) / (B : Rat) := by
        push_cast
        grind
      rw [e1]
      exact sq_div hB (sub_lt hn hm (by omega) (by omega)) (up_lt hBe (by omega))
    rw [prd_cons]
    exact sq_mul d ih (by rw [List.length_cons, Nat.mul_succ]; omega)
/-! ### the polynomial that is 1 at one place and 0 at the others -/
def oth (ps : List Rat) (i : Nat) : List Rat := ps.take i ++ ps.drop (i + 1)
def LB (ps : List Rat) (i : Nat) : List Rat := (WR (oth ps i)).map fun c => c / prd (ps.getD i 0) (oth ps i)
theorem oth_len {ps : List Rat} {i : Nat} (h : i < ps.length) : (oth ps i).length = ps.length - 1 := by
  unfold oth
  rw [List.length_append, List.length_take, List.length_drop]
  omega
theorem oth_mem {ps : List Rat} {i : Nat} {q : Rat} (h : q ∈ oth ps i) : q ∈ ps := by
  rcases List.mem_append.mp h with h | h
  · exact List.mem_of_mem_take h
  · exact List.mem_of_mem_drop h
theorem oth_not {ps : List Rat} {i : Nat} (ha : ps.Pairwise (· < ·)) (h : i < ps.length) : ps[i] ∉ oth ps i := by
  have e : ps = ps.take i ++ ps[i] :: ps.drop (i + 1) := by
    rw [← List.drop_eq_getElem_cons h, List.take_append_drop]
  have k : ∀ (l r : List Rat) (x : Rat), (l ++ x :: r).Pairwise (· < ·) → x ∉ l ++ r := fun l r x hp hx => by
    obtain ⟨_, h2, h3⟩ := List.pairwise_append.mp hp
    rcases List.mem_append.mp hx with q | q
    · exact absurd (h3 x q x (List.mem_cons_self ..)) (by grind)
    · exact absurd ((List.pairwise_cons.mp h2).1 x q) (by grind)
  exact k _ _ _ (by rw [← e]; exact ha)
theorem getD_at {ps : List Rat} {i : Nat} (h : i < ps.length) : ps.getD i 0 = ps[i] := by
  rw [List.getD_eq_getElem?_getD, List.getElem?_eq_getElem h]
  rfl
theorem cut_lo {α : Type} (l : List α) (n : Nat) (h : n ≤ l.length) : cutL l none (some (n : Int)) = l.take n := by
  unfold cutL
  rw [HT.sIx_none, HT.sIx_nat, Nat.min_eq_left h]
  rfl
theorem cut_hi {α : Type} (l : List α) (n : Nat) (h : n ≤ l.length) : cutL l (some (n : Int)) none = l.drop n := by
  unfold cutL
  rw [HT.sIx_none, HT.sIx_nat, Nat.min_eq_left h]
  exact List.take_of_length_le (by rw [List.length_drop]; omega)
theorem LB_len {ps : List Rat} {i : Nat} (h : i < ps.length) : (LB ps i).length = ps.length := by
  unfold LB
  rw [List.length_map, WR_len, oth_len h]
  omega
theorem LB_sq {B : Int} {e : Nat} {ps : List Rat} (hp : PB B e ps) (ha : ps.Pairwise (· < ·)) {i : Nat} (h : i < ps.length) : Sqs (2 * (1 + (e + 1) * (ps.length - 1))) (LB ps i) := fun q hq => by
  have ho : PB B e (oth ps i) := hp.sub fun p hp => oth_mem hp
  obtain ⟨c, hc, rfl⟩ := List.mem_map.mp hq
  have s1 := WR_sq ho c hc
  have s2 := prd_sq (ps := oth ps i) hp.b0 hp.be (hp.each ps[i] (List.getElem_mem h)) ho.each
  rw [oth_len h] at s1 s2
  have ne := prd_ne (oth_not ha h)
  rw [getD_at h]
  exact sq_divB s1 s2 ne (by omega)
/-! ### weights -/
def Wts (w : Wt) (ps : List Rat) : List Rat := (List.range ps.length).map fun i => WS w (LB ps i)
theorem Wts_len (w : Wt) (ps : List Rat) : (Wts w ps).length = ps.length := by
  unfold Wts
  rw [List.length_map, List.length_range]
theorem WS_sq {w : Wt} (g : Good w) {B : Int} {e : Nat} {ps : List Rat} (hp : PB B e ps) (ha : ps.Pairwise (· < ·)) (hl : ps.length ≤ 6) (he : e ≤ 30) {i : Nat} (h : i < ps.length) : Sq (1 + (2 * (1 + (e + 1) * (ps.length - 1)) + 91) * ps.length) (WS w (LB ps i)) := by
  have sL := LB_sq hp ha h
  have k : ∀ l : List (Int × Rat), (∀ x ∈ l, Sq (2 * (1 + (e + 1) * (ps.length - 1)) + 90) (tW w x)) → Sq (1 + (2 * (1 + (e + 1) * (ps.length - 1)) + 91) * l.length) (l.map (tW w)).sum := fun l => by
    induction l with
    | nil => intro _; exact zero_sqn (by omega)
    | cons x l ih =>
      intro hx
      rw [List.map_cons, List.sum_cons]
      exact sq_add (hx x (List.mem_cons_self ..)) (ih fun y hy => hx y (List.mem_cons_of_mem _ hy)) (by rw [List.length_cons, Nat.mul_succ]; omega)
  have q := k (numL 0 (LB ps i)) fun x hx => by
    obtain ⟨a, b, m⟩ := numL_mem _ 0 x hx
    have := LB_len h
    exact sq_mul (sL _ m) (sq_PS12 g (by omega)) (Nat.le_refl _)
  rw [numL_len, LB_len h] at q
  exact q
/-! ### indexes -/
theorem filMm_eq {α γ : Type} {f : α → Mm (Option γ)} (g : α → Option γ) : ∀ l : List α, (∀ x ∈ l, f x = .ok (g x)) → filMm f l = .ok (l.filterMap g)
  | [], _ => rfl
  | x :: l, h => by
    unfold filMm
    rw [h x (List.mem_cons_self ..), bdo, filMm_eq g l fun y hy => h y (List.mem_cons_of_mem _ hy), bdo, List.filterMap_cons]
    cases g x <;> rfl
theorem filMm_map {α β γ : Type} {f : β → Mm (Option γ)} {g : α → β} : ∀ l : List α, filMm f (l.map g) = filMm (fun x => f (g x)) l
  | [] => rfl
  | x :: l => by
    rw [List.map_cons]
    unfold filMm
    rw [filMm_map l]
theorem numL_fst {α : Type} : ∀ (l : List α) (k : Int), (numL k l).map (·.1) = rangeL k l.length
  | [], k => rfl
  | x :: l, k => by
    unfold numL
    rw [List.map_cons, numL_fst l, List.length_cons, rangeL_succ]
theorem numL_at {α : Type} {l : List α} {y : Int × α} (h : y ∈ numL 0 l) : l[y.1.toNat]? = some y.2 ∧ 0 ≤ y.1 := by
  have k : ∀ (l pre : List α) (y : Int × α), y ∈ numL (pre.length : Int) l → (pre ++ l)[y.1.toNat]? = some y.2 := fun l => by
    induction l with
    | nil => intro pre y h; cases h
    | cons x l ih =>
      intro pre y h
      rcases List.mem_cons.mp h with rfl | h
      · show (pre ++ x :: l)[((pre.length : Int)).toNat]? = some x
        rw [Int.toNat_natCast]
        simp
      · have := ih (pre ++ [x]) y (by rw [List.length_append, List.length_singleton]; exact h)
        simpa using this
  exact ⟨by simpa using k l [] y h, (numL_mem l 0 y h).1⟩
def idx (P : Rat → Bool) (l : List Rat) : List Int := (numL 0 l).filterMap fun y => if P y.2 then some y.1 else none
theorem idx_prog {f : Int × (Int × Int) → Mm (Option Int)} (P : Rat → Bool) (l : List Rat) (hf : ∀ (i : Int) (q : Rat), q ∈ l → f (i, fr q) = .ok (if P q then some i else none)) : filMm f (enumL (l.map fr)) = .ok (idx P l) := by
  rw [enumL_eq, numL_map, filMm_map]
  exact filMm_eq _ _ fun y hy => hf y.1 y.2 (numL_mem l 0 y hy).2.2
theorem idx_law {f : Int → Mm (Option Int)} (P : Rat → Bool) (l : List Rat) (hf : ∀ (i : Nat) (q : Rat), l[i]? = some q → f (i : Int) = .ok (if P q then some (i : Int) else none)) : filMm f (rangeL 0 l.length) = .ok (idx P l) := by
  rw [← numL_fst, filMm_map]
  refine filMm_eq _ _ fun y hy => ?_
  obtain ⟨h1, h2⟩ := numL_at hy
  have e : y.1 = ((y.1.toNat : Nat) : Int) := by omega
  have := hf y.1.toNat y.2 h1
  rw [← e] at this
  exact this
theorem fr_isz (q : Rat) : decide (fr q = ((0, 1) : Int × Int)) = decide (q = 0) := by
  rw [← fr_zero]
  exact decide_eq_decide.mpr ⟨fr_inj, fun h => by rw [h]⟩
theorem fr_isp (q : Rat) : decide ((fr q).1 > (0 : Int)) = decide (0 < q) := decide_eq_decide.mpr (by
  constructor
  · intro h
    have v := fr_val q
    have p : (0 : Rat) < ((fr q).1 : Rat) := Rat.intCast_pos.mpr h
    have d : (0 : Rat) < ((fr q).2 : Rat) := Rat.intCast_pos.mpr (den_posI q)
    rw [← v, Rat.div_def]
    exact Rat.mul_pos p (Rat.inv_pos.mpr d)
  · exact fun h => num_pos' h)
structure Pls (n : Nat) (pl : List (Int × Int)) (ps : List Rat) : Prop where
  rx : All2 (fun p x => Rx 7 x p) ps pl
  asc : ps.Pairwise (· < ·)
  len : ps.length ≤ n
  pos : 0 < ps.length
  pb : ∃ B, PB B 6 ps
theorem PlB.pls {n : Nat} {pl : List (Int × Int)} {ps : List Rat} (h : PlB n pl ps) : Pls n pl ps := by
  obtain ⟨B, b1, b3, hB⟩ := h.dn
  have e6 : (2 : Nat) ^ 6 = 64 := by decide
  refine ⟨h.rx, h.asc, h.len, h.pos, B, by omega, by omega, fun p hp => ?_⟩
  obtain ⟨s, s1, s2⟩ := hB p hp
  exact ⟨s, s2, by omega⟩
theorem int_pls {n : Nat} (zs : List Int) (h : zs.Pairwise (· < ·)) (hb : ∀ z ∈ zs, z.natAbs ≤ 40) (hl : zs.length ≤ n) (h0 : 0 < zs.length) : Pls n (zs.map fun z => (z, (1 : Int))) (zs.map fun z => ((z : Int) : Rat)) := by
  have e6 : (2 : Nat) ^ 6 = 64 := by decide
  have e7 : (2 : Nat) ^ 7 = 128 := by decide
  refine ⟨?_, ?_, by rw [List.length_map]; exact hl, by rw [List.length_map]; exact h0, 1, by decide, by decide, fun p hp => ?_⟩
  · clear h hl h0
    induction zs with
    | nil => exact .nil
    | cons z zs ih => exact .cons (rx_int (by have := hb z (List.mem_cons_self ..); omega) (by decide)) (ih fun y hy => hb y (List.mem_cons_of_mem _ hy))
  · rw [List.pairwise_map]
    exact h.imp fun k => Rat.intCast_lt_intCast.mpr k
  · obtain ⟨z, hz, rfl⟩ := List.mem_map.mp hp
    refine ⟨z, ?_, by have := hb z hz; omega⟩
    push_cast
    grind
theorem mass_places (w : Wt) : w.1.map (fun x => (x.1, (1 : Int))) = (w.1.map (·.1)).map fun z => (z, (1 : Int)) := by rw [List.map_map]; rfl
/-! ### interpolation -/
theorem ev_map_mul (c x : Rat) : ∀ l : List Rat, ev (l.map (c * ·)) x = c * ev l x
  | [] => by
    show (0 : Rat) = c * 0
    grind
  | y :: l => by
    show c * y + x * ev (l.map (c * ·)) x = c * (y + x * ev l x)
    rw [ev_map_mul c x l]
    grind
theorem ev_zipWith (x : Rat) : ∀ l r : List Rat, l.length = r.length → ev (List.zipWith (· + ·) l r) x = ev l x + ev r x
  | [], [], _ => by
    show (0 : Rat) = 0 + 0
    grind
  | [], _ :: _, h => by cases h
  | _ :: _, [], h => by cases h
  | a :: l, b :: r, h => by
    show a + b + x * ev (List.zipWith (· + ·) l r) x = a + x * ev l x + (b + x * ev r x)
    rw [ev_zipWith x l r (by simpa using h)]
    grind
theorem ev_LB (ps : List Rat) (i : Nat) (x : Rat) : ev (LB ps i) x = prd x (oth ps i) / prd (ps.getD i 0) (oth ps i) := by
  unfold LB
  rw [map_divI, ev_map_mul, ev_WR]
  grind
where map_divI {c : Rat} {l : List Rat} : l.map (fun y => y / c) = l.map ((1 / c) * ·) := List.map_congr_left fun y _ => by grind
theorem mem_oth {ps : List Rat} {i j : Nat} (hj : j < ps.length) (h : j ≠ i) : ps[j] ∈ oth ps i := by
  unfold oth
  by_cases q : j < i
  · refine List.mem_append_left _ (List.mem_iff_getElem.mpr ⟨j, by rw [List.length_take]; omega, ?_⟩)
    rw [List.getElem_take]
  · refine List.mem_append_right _ (List.mem_iff_getElem.mpr ⟨j - (i + 1), by rw [List.length_drop]; omega, ?_⟩)
    rw [List.getElem_drop]
    congr 1
    omega
theorem ev_LB_self {ps : List Rat} (ha : ps.Pairwise (· < ·)) {i : Nat} (h : i < ps.length) : ev (LB ps i) ps[i] = 1 := by
  rw [ev_LB, getD_at h]
  have := prd_ne (oth_not ha h)
  grind
theorem ev_LB_other {ps : List Rat} {i j : Nat} (hj : j < ps.length) (h : j ≠ i) : ev (LB ps i) ps[j] = 0 := by
  rw [ev_LB, prd_zero (mem_oth hj h)]
  grind
def IPk (ps ys : List Rat) : Nat → List Rat
  | 0 => List.replicate ps.length 0
  | k + 1 => List.zipWith (· + ·) (IPk ps ys k) ((LB ps k).map (ys.getD k 0 * ·))
def IP (ps ys : List Rat) : List Rat := IPk ps ys ps.length
theorem IPk_len (ps ys : List Rat) : ∀ k, k ≤ ps.length → (IPk ps ys k).length = ps.length
  | 0, _ => by
    unfold IPk
    rw [List.length_replicate]
  | k + 1, h => by
    unfold IPk
    rw [List.length_zipWith, IPk_len ps ys k (by omega), List.length_map, LB_len (by omega), Nat.min_self]
theorem IP_len (ps ys : List Rat) : (IP ps ys).length = ps.length := IPk_len ps ys _ (Nat.le_refl _)
theorem ev_repl (x : Rat) : ∀ n : Nat, ev (List.replicate n 0) x = 0
  | 0 => rfl
  | n + 1 => by
    rw [List.replicate_succ]
    show 0 + x * ev (List.replicate n 0) x = 0
    rw [ev_repl x n]
    grind
theorem ev_IPk {ps ys : List Rat} (ha : ps.Pairwise (· < ·)) {j : Nat} (hj : j < ps.length) : ∀ k, k ≤ ps.length → ev (IPk ps ys k) ps[j] = if j < k then ys.getD j 0 else 0
  | 0, _ => by
    rw [if_neg (by omega)]
    exact ev_repl _ _
  | k + 1, h => by
    have ih := ev_IPk ha hj k (ys := ys) (by omega)
    show ev (List.zipWith (· + ·) (IPk ps ys k) ((LB ps k).map (ys.getD k 0 * ·))) ps[j] = _
    rw [ev_zipWith _ _ _ (by rw [IPk_len ps ys k (by omega), List.length_map, LB_len (by omega)]), ih, ev_map_mul]
    by_cases q : j = k
    · subst q
      rw [ev_LB_self ha hj, if_neg (by omega), if_pos (by omega)]
      grind
    · rw [ev_LB_other hj q]
      by_cases z : j < k
      · rw [if_pos z, if_pos (by omega)]
        grind
      · rw [if_neg z, if_neg (by omega)]
        grind
theorem ev_IP {ps ys : List Rat} (ha : ps.Pairwise (· < ·)) {j : Nat} (hj : j < ps.length) : ev (IP ps ys) ps[j] = ys.getD j 0 := by
  unfold IP
  rw [ev_IPk ha hj _ (Nat.le_refl _), if_pos hj]
theorem ev_IPf {ps : List Rat} (ha : ps.Pairwise (· < ·)) (f : Rat → Rat) : ∀ p ∈ ps, ev (IP ps (ps.map f)) p = f p := fun p hp => by
  obtain ⟨i, hi, rfl⟩ := List.getElem_of_mem hp
  rw [ev_IP ha hi, List.getD_eq_getElem?_getD, List.getElem?_map, List.getElem?_eq_getElem hi]
  rfl
/-! ### a polynomial is told by as many worths as it has coefficients -/
def sx (p : Rat) : List Rat → List Rat
  | [] => []
  | c :: l => ev (c :: l) p :: sx p l
theorem sx_len (p : Rat) : ∀ l, (sx p l).length = l.length
  | [] => rfl
  | c :: l => by
    unfold sx
    rw [List.length_cons, sx_len p l, List.length_cons]
theorem rp_sx (p : Rat) : ∀ (l : List Rat) (z c : Rat), z = c + ev l p * p → rp p z (sx p l) = c :: l
  | [], z, c, h => by
    show [z] = [c]
    congr 1
    rw [h]
    show c + 0 * p = c
    grind
  | d :: l, z, c, h => by
    show (z - ev (d :: l) p * p) :: rp p (ev (d :: l) p) (sx p l) = c :: d :: l
    rw [rp_sx p l (ev (d :: l) p) d (by show d + p * ev l p = d + ev l p * p; grind), h]
    congr 1
    grind
theorem factor {p : Rat} {c : Rat} {l : List Rat} (h : ev (c :: l) p = 0) : rp p 0 (sx p l) = c :: l := rp_sx p l 0 c (by
  have : c + p * ev l p = 0 := h
  grind)
theorem rp_zero (p : Rat) : ∀ (l : List Rat) (z : Rat), z = 0 → (∀ c ∈ l, c = 0) → ∀ c ∈ rp p z l, c = 0
  | [], z, hz, _, c, hc => by rw [List.mem_singleton.mp hc, hz]
  | x :: l, z, hz, h, c, hc => by
    have hx := h x (List.mem_cons_self ..)
    rcases List.mem_cons.mp hc with rfl | hc
    · rw [hz, hx]
      grind
    · exact rp_zero p l x hx (fun y hy => h y (List.mem_cons_of_mem _ hy)) c hc
theorem zero_of_roots : ∀ (ps l : List Rat), ps.Pairwise (· ≠ ·) → l.length ≤ ps.length → (∀ p ∈ ps, ev l p = 0) → ∀ c ∈ l, c = 0
  | _, [], _, _, _, c, hc => by cases hc
  | [], _ :: _, _, h, _, c, hc => by simp at h
  | p :: ps, c :: l, hn, hl, hr, d, hd => by
    obtain ⟨n1, n2⟩ := List.pairwise_cons.mp hn
    have f := factor (hr p (List.mem_cons_self ..))
    rw [List.length_cons, List.length_cons] at hl
    have z := zero_of_roots ps (sx p l) n2 (by rw [sx_len]; omega) fun q hq => by
      have e := hr q (List.mem_cons_of_mem _ hq)
      rw [← f, ev_rp] at e
      have : q - p ≠ 0 := fun z => n1 q hq (by grind)
      grind
    rw [← f] at hd
    exact rp_zero p _ 0 rfl z d hd
theorem asc_ne {ps : List Rat} (h : ps.Pairwise (· < ·)) : ps.Pairwise (· ≠ ·) := h.imp fun {a b} k e => by rw [e] at k; exact absurd k (by grind)
theorem same_poly {ps : List Rat} (hn : ps.Pairwise (· ≠ ·)) {l r : List Rat} (h1 : l.length = r.length) (h2 : l.length ≤ ps.length) (h : ∀ p ∈ ps, ev l p = ev r p) : l = r := by
  have z := zero_of_roots ps (List.zipWith (· + ·) l (r.map ((-1) * ·))) hn (by rw [List.length_zipWith, List.length_map]; omega) fun p hp => by
    rw [ev_zipWith _ _ _ (by rw [List.length_map]; exact h1), ev_map_mul, h p hp]
    grind
  have k : ∀ l r : List Rat, l.length = r.length → (∀ c ∈ List.zipWith (· + ·) l (r.map ((-1) * ·)), c = 0) → l = r := fun l => by
    induction l with
    | nil =>
      intro r h _
      cases r with
      | nil => rfl
      | cons => cases h
    | cons a l ih =>
      intro r h k
      cases r with
      | nil => cases h
      | cons b r =>
        have e := k (a + -1 * b) (by simp)
        rw [ih r (by simpa using h) fun c hc => k c (by simp only [List.map_cons, List.zipWith_cons_cons]; exact List.mem_cons_of_mem _ hc)]
        congr 1
        grind
  exact k l r h1 z
def tl (l : List Rat) : Nat → Nat
  | 0 => 0
  | n + 1 => if l.getD n 0 = 0 then tl l n else n + 1
def trim (l : List Rat) : List Rat := l.take (tl l l.length)
theorem tl_le (l : List Rat) : ∀ n, tl l n ≤ n
  | 0 => Nat.le_refl _
  | n + 1 => by
    unfold tl
    split
    · have := tl_le l n
      omega
    · exact Nat.le_refl _
theorem tl_zero {l : List Rat} : ∀ {n k : Nat}, tl l n ≤ k → k < n → l.getD k 0 = 0
  | 0, k, _, h => absurd h (by omega)
  | n + 1, k, h, h2 => by
    unfold tl at h
    split at h
    · rename_i z
      by_cases q : k = n
      · rw [q]; exact z
      · exact tl_zero h (by omega)
    · omega
theorem tl_min {l : List Rat} {m : Nat} : ∀ {n : Nat}, (∀ k, m ≤ k → k < n → l.getD k 0 = 0) → tl l n ≤ m
  | 0, _ => Nat.zero_le _
  | n + 1, h => by
    unfold tl
    split
    · exact tl_min fun k h1 h2 => h k h1 (by omega)
    · rename_i z
      apply Classical.byContradiction
      intro q
      exact z (h n (by omega) (by omega))
theorem getD_beyond {l : List Rat} {k : Nat} (h : l.length ≤ k) : l.getD k 0 = 0 := by
  rw [List.getD_eq_getElem?_getD, List.getElem?_eq_none h]
  rfl
theorem ev_take (x : Rat) : ∀ (l : List Rat) (m : Nat), (∀ k, m ≤ k → l.getD k 0 = 0) → ev (l.take m) x = ev l x
  | [], m, _ => by rw [List.take_nil]
  | c :: l, 0, h => by
    have z : ∀ r : List Rat, (∀ k, r.getD k 0 = 0) → ev r x = 0 := fun r => by
      induction r with
      | nil => intro _; rfl
      | cons d r ih =>
        intro hr
        have h0 : d = 0 := hr 0
        show d + x * ev r x = 0
        rw [ih fun k => hr (k + 1), h0]
        grind
    rw [z (c :: l) fun k => h k (Nat.zero_le _)]
    rfl
  | c :: l, m + 1, h => by
    rw [List.take_succ_cons]
    show c + x * ev (l.take m) x = c + x * ev l x
    rw [ev_take x l m fun k hk => h (k + 1) (by omega)]
theorem trim_ev (l : List Rat) (x : Rat) : ev (trim l) x = ev l x := ev_take x l _ fun k hk => by
  by_cases q : k < l.length
  · exact tl_zero hk q
  · exact getD_beyond (by omega)
theorem trim_len (l : List Rat) : (trim l).length = tl l l.length := by
  unfold trim
  rw [List.length_take]
  have := tl_le l l.length
  omega
theorem trim_le {l : List Rat} {m : Nat} : (trim l).length ≤ m ↔ ∀ k, m ≤ k → l.getD k 0 = 0 := by
  rw [trim_len]
  constructor
  · intro h k hk
    by_cases q : k < l.length
    · exact tl_zero (by omega) q
    · exact getD_beyond (by omega)
  · exact fun h => tl_min fun k h1 _ => h k h1
theorem tl_congr {l r : List Rat} : ∀ {n : Nat}, (∀ k, k < n → l.getD k 0 = r.getD k 0) → tl l n = tl r n
  | 0, _ => rfl
  | n + 1, h => by
    unfold tl
    rw [h n (by omega), tl_congr fun k hk => h k (by omega)]
theorem getD_app_lt {l r : List Rat} {k : Nat} (h : k < l.length) : (l ++ r).getD k 0 = l.getD k 0 := by
  rw [List.getD_eq_getElem?_getD, List.getD_eq_getElem?_getD, List.getElem?_append_left h]
theorem getD_snoc (l : List Rat) (x : Rat) : (l ++ [x]).getD l.length 0 = x := by
  rw [List.getD_eq_getElem?_getD]
  simp
theorem trim_snoc0 (l : List Rat) : trim (l ++ [0]) = trim l := by
  unfold trim
  rw [List.length_append, List.length_singleton]
  have e : tl (l ++ [0]) (l.length + 1) = tl l l.length := by
    show (if (l ++ [0]).getD l.length 0 = 0 then tl (l ++ [0]) l.length else l.length + 1) = _
    rw [getD_snoc, if_pos rfl]
    exact tl_congr fun k hk => getD_app_lt hk
  rw [e, List.take_append_of_le_length (tl_le _ _)]
theorem trim_snoc {l : List Rat} {x : Rat} (h : x ≠ 0) : trim (l ++ [x]) = l ++ [x] := by
  unfold trim
  rw [List.length_append, List.length_singleton]
  have e : tl (l ++ [x]) (l.length + 1) = l.length + 1 := by
    show (if (l ++ [x]).getD l.length 0 = 0 then tl (l ++ [x]) l.length else l.length + 1) = _
    rw [getD_snoc, if_neg h]
  rw [e]
  exact List.take_of_length_le (by simp)
theorem trim_mem {l : List Rat} {c : Rat} (h : c ∈ trim l) : c ∈ l := List.mem_of_mem_take h
theorem trim_pop : ∀ (N : Nat) (l : List Rat), l.length < N → foldW (fun (b137 : (List (Int × Int))) => (cond (!(decide (b137 = []))) ((getM b137 (-(1 : Int))).bd fun i170 => Mm.ok (decide (i170 = ((0 : Int), (1 : Int))))) (Mm.ok false)).bd fun b166 => Mm.ok b166) (fun (b138 : (List (Int × Int))) => (popN b138).bd fun _ => Mm.ok (List.dropLast b138)) N (l.map fr) = .ok ((trim l).map fr) := fun N => by
  induction N with
  | zero => intro l h; omega
  | succ N ih =>
    intro l hl
    unfold foldW
    rcases List.eq_nil_or_concat l with q | ⟨r, x, q⟩
    · subst q
      rfl
    · rw [List.concat_eq_append] at q
      subst q
      rw [List.length_append, List.length_singleton] at hl
      have e1 : (r ++ [x]).map fr = r.map fr ++ [fr x] := by rw [List.map_append]; rfl
      rw [e1, cT (c := !decide (r.map fr ++ [fr x] = [])) (by rw [decide_eq_false (by simp)]; rfl), getM_last, bdo, bdo, bdo, show decide (fr x = ((0 : Int), (1 : Int))) = decide (x = 0) from by
        rw [← fr_zero]
        exact decide_eq_decide.mpr ⟨fr_inj, fun h => by rw [h]⟩]
      by_cases z : x = 0
      · have p1 : popN (r.map fr ++ [fr x]) = .ok (r.map fr ++ [fr x]).dropLast := by
          cases h : r.map fr with
          | nil => rfl
          | cons a b => rfl
        rw [decide_eq_true z, z, trim_snoc0, ← ih r (by omega)]
        rw [z] at p1
        show ((popN _).bd fun _ => Mm.ok _).bd _ = _
        rw [p1, bdo, bdo]
        congr 1
        simp
      · rw [decide_eq_false z, trim_snoc z, e1]
/-! ### fitting a degree -/
def Fit (ps ys : List Rat) (m : Nat) : Prop := ∃ r : List Rat, r.length ≤ m ∧ ∀ j, j < ps.length → ev r (ps.getD j 0) = ys.getD j 0
theorem ev_pad (x : Rat) (n : Nat) : ∀ l : List Rat, ev (l ++ List.replicate n 0) x = ev l x
  | [] => ev_repl x n
  | c :: l => by
    show c + x * ev (l ++ List.replicate n 0) x = c + x * ev l x
    rw [ev_pad x n l]
theorem ev_IPg {ps ys : List Rat} (ha : ps.Pairwise (· < ·)) {j : Nat} (hj : j < ps.length) : ev (IP ps ys) (ps.getD j 0) = ys.getD j 0 := by
  rw [getD_at hj]
  exact ev_IP ha hj
theorem fit_iff {ps ys : List Rat} {m : Nat} (ha : ps.Pairwise (· < ·)) : (trim (IP ps ys)).length ≤ m ↔ Fit ps ys m := by
  constructor
  · exact fun h => ⟨trim (IP ps ys), h, fun j hj => by rw [trim_ev, ev_IPg ha hj]⟩
  · rintro ⟨r, hr, h⟩
    have il := IP_len ps ys
    by_cases q : ps.length ≤ m
    · have := tl_le (IP ps ys) (IP ps ys).length
      rw [trim_len]
      omega
    · have e : IP ps ys = r ++ List.replicate (ps.length - r.length) 0 := same_poly (asc_ne ha) (by rw [List.length_append, List.length_replicate]; omega) (by omega) fun p hp => by
        obtain ⟨i, hi, rfl⟩ := List.getElem_of_mem hp
        rw [ev_IP ha hi, ev_pad, ← h i hi, getD_at hi]
      rw [trim_le]
      intro k hk
      rw [e, List.getD_eq_getElem?_getD]
      by_cases z : r.length ≤ k
      · rw [List.getElem?_append_right z]
        by_cases y : k - r.length < ps.length - r.length
        · rw [List.getElem?_replicate, if_pos y]
          rfl
        · rw [List.getElem?_eq_none (by rw [List.length_replicate]; omega)]
          rfl
      · omega
theorem pad_len (l : List Rat) {n : Nat} (h : l.length ≤ n) : (l ++ List.replicate (n - l.length) 0).length = n := by
  rw [List.length_append, List.length_replicate]
  omega
theorem same_ev {ps l r : List Rat} {m : Nat} (hn : ps.Pairwise (· ≠ ·)) (hm : m ≤ ps.length) (h1 : l.length ≤ m) (h2 : r.length ≤ m) (h : ∀ p ∈ ps, ev l p = ev r p) (x : Rat) : ev l x = ev r x := by
  have := same_poly hn (l := l ++ List.replicate (m - l.length) 0) (r := r ++ List.replicate (m - r.length) 0) (by rw [pad_len l h1, pad_len r h2]) (by rw [pad_len l h1]; exact hm) fun p hp => by rw [ev_pad, ev_pad, h p hp]
  rw [← ev_pad x (m - l.length) l, this, ev_pad]
theorem take_asc {ps : List Rat} (h : ps.Pairwise (· < ·)) (m : Nat) : (ps.take m).Pairwise (· < ·) := h.sublist (List.take_sublist ..)
theorem getD_take {l : List Rat} {m j : Nat} (h : j < m) : (l.take m).getD j 0 = l.getD j 0 := by
  rw [List.getD_eq_getElem?_getD, List.getD_eq_getElem?_getD, List.getElem?_take_of_lt h]
theorem fit_first {ps ys : List Rat} {m : Nat} (ha : ps.Pairwise (· < ·)) : (∀ j, j < ps.length → ev (IP (ps.take m) (ys.take m)) (ps.getD j 0) = ys.getD j 0) ↔ Fit ps ys m := by
  have il := IP_len (ps.take m) (ys.take m)
  rw [List.length_take] at il
  have at_ : ∀ j, j < m → j < ps.length → ev (IP (ps.take m) (ys.take m)) (ps.getD j 0) = ys.getD j 0 := fun j h1 h2 => by
    have := ev_IPg (ys := ys.take m) (take_asc ha m) (j := j) (by rw [List.length_take]; omega)
    rw [getD_take h1, getD_take h1] at this
    exact this
  constructor
  · exact fun h => ⟨IP (ps.take m) (ys.take m), by omega, h⟩
  · rintro ⟨r, hr, h⟩ j hj
    by_cases q : ps.length ≤ m
    · exact at_ j (by omega) hj
    · rw [← h j hj]
      refine same_ev (ps := ps.take m) (m := m) (asc_ne (take_asc ha m)) (by rw [List.length_take]; omega) (by omega) hr (fun p hp => ?_) _
      obtain ⟨i, hi, rfl⟩ := List.getElem_of_mem hp
      rw [List.length_take] at hi
      rw [List.getElem_take]
      have e := getD_at (ps := ps) (i := i) (by omega)
      rw [← e, at_ i (by omega) (by omega), h i (by omega)]
/-! ### the polynomial through readings, as the program tells it -/
theorem LB_sq6 {B : Int} {e : Nat} {ps : List Rat} (hp : PB B e ps) (ha : ps.Pairwise (· < ·)) (hl : ps.length ≤ 6) (he : e ≤ 10) {i : Nat} (h : i < ps.length) : Sqs 112 (LB ps i) := by
  have m : (e + 1) * (ps.length - 1) ≤ 11 * 5 := Nat.mul_le_mul (by omega) (by omega)
  exact (LB_sq hp ha h).up (by omega)
theorem zw_sq {a b : Nat} : ∀ l r : List Rat, Sqs a l → Sqs b r → Sqs (a + b + 1) (List.zipWith (· + ·) l r)
  | [], _, _, _ => fun q hq => by cases hq
  | _ :: _, [], _, _ => fun q hq => by cases hq
  | x :: l, y :: r, h1, h2 => fun q hq => by
    rw [List.zipWith_cons_cons] at hq
    rcases List.mem_cons.mp hq with rfl | hq
    · exact sq_add (h1 x (List.mem_cons_self ..)) (h2 y (List.mem_cons_self ..)) (by omega)
    · exact zw_sq l r (fun z hz => h1 z (List.mem_cons_of_mem _ hz)) (fun z hz => h2 z (List.mem_cons_of_mem _ hz)) q hq
theorem getD_sq {ys : List Rat} {c : Nat} (hy : Sqs c ys) (h0 : 0 < c) (k : Nat) : Sq c (ys.getD k 0) := by
  by_cases q : k < ys.length
  · rw [getD_at q]
    exact hy _ (List.getElem_mem q)
  · rw [getD_beyond (by omega)]
    exact zero_sqn h0
theorem IPk_sq {B : Int} {e c : Nat} {ps ys : List Rat} (hp : PB B e ps) (ha : ps.Pairwise (· < ·)) (hl : ps.length ≤ 6) (he : e ≤ 10) (hy : Sqs c ys) (h0 : 0 < c) : ∀ k, k ≤ ps.length → Sqs (1 + (c + 113) * k) (IPk ps ys k)
  | 0, _ => fun q hq => by
    rw [List.eq_of_mem_replicate hq]
    exact zero_sqn (by omega)
  | k + 1, h => by
    have a := IPk_sq hp ha hl he hy h0 k (by omega)
    have b : Sqs (c + 112) ((LB ps k).map (ys.getD k 0 * ·)) := fun q hq => by
      obtain ⟨z, hz, rfl⟩ := List.mem_map.mp hq
      exact sq_mul (getD_sq hy h0 k) (LB_sq6 hp ha hl he (by omega) z hz) (Nat.le_refl _)
    exact (zw_sq _ _ a b).up (by rw [Nat.mul_succ]; omega)
theorem IP_sq {B : Int} {e c : Nat} {ps ys : List Rat} (hp : PB B e ps) (ha : ps.Pairwise (· < ·)) (hl : ps.length ≤ 6) (he : e ≤ 10) (hy : Sqs c ys) (h0 : 0 < c) : Sqs (1 + (c + 113) * 6) (IP ps ys) := by
  have m : (c + 113) * ps.length ≤ (c + 113) * 6 := Nat.mul_le_mul_left _ hl
  exact (IPk_sq hp ha hl he hy h0 _ (Nat.le_refl _)).up (by omega)
theorem zip_map_fr (l r : List Rat) : (l.map fr).zip (r.map fr) = (l.zip r).map fun x => (fr x.1, fr x.2) := by
  rw [List.zip_map]
  rfl
theorem zw_zip (l r : List Rat) : (l.zip r).map (fun x => x.1 + x.2) = List.zipWith (· + ·) l r := by
  rw [List.zip, List.map_zipWith]
theorem rep0 (n : Nat) (h : n ≤ 100000) : repM [((0, 1) : Int × Int)] (n : Int) = .ok ((List.replicate n (0 : Rat)).map fr) := by
  have k : ∀ n : Nat, (List.replicate n [((0, 1) : Int × Int)]).flatten = List.replicate n (0, 1) := fun n => by
    induction n with
    | zero => rfl
    | succ n ih =>
      rw [List.replicate_succ, List.flatten_cons, ih, List.replicate_succ]
      rfl
  unfold repM
  rw [if_pos ⟨by omega, by omega, by show 1 * _ ≤ _; omega⟩, Int.toNat_natCast, k, List.map_replicate, fr_zero]
theorem oth_asc {ps : List Rat} (ha : ps.Pairwise (· < ·)) (i : Nat) : (oth ps i).Pairwise (· < ·) := by
  have s : (oth ps i).Sublist ps := by
    unfold oth
    conv => rhs; rw [← List.take_append_drop i ps]
    exact (List.Sublist.refl _).append (List.drop_sublist_drop_left _ (by omega))
  exact ha.sublist s
def alone (ps ys : List Rat) (m : Nat) (i : Nat) : Bool := decide ((trim (IP (oth ps i) (oth ys i))).length ≤ m)
def FA (ps ys : List Rat) (m : Nat) : List Int := (rangeL 0 ps.length).filterMap fun x => if alone ps ys m x.toNat then some x else none
theorem rng_nat {n : Nat} {x : Int} (h : x ∈ rangeL 0 n) : ∃ k : Nat, x = (k : Int) ∧ k < n := by
  obtain ⟨i, hi, rfl⟩ := List.mem_map.mp h
  have := List.mem_range.mp hi
  exact ⟨i, by omega, this⟩
theorem readings_fold {f : Unit → Int × (Int × Int) → Mm Unit} (hf : ∀ s y, f s y = cond (decide (y.2.2 = (0 : Int))) (Mm.bad) (Mm.ok ())) : ∀ (l : List (Int × Int)) (k : Int), (∀ x ∈ l, x.2 ≠ 0) → foldM f () (numL k l) = .ok ()
  | [], k, _ => rfl
  | x :: l, k, hn => by
    unfold numL foldM
    rw [hf, cF (decide_eq_false (hn x (List.mem_cons_self ..))), bdo]
    exact readings_fold hf l (k + 1) fun y hy => hn y (List.mem_cons_of_mem _ hy)
structure FR (B : Int) (e c : Nat) (pl yl : List (Int × Int)) (ps ys : List Rat) : Prop where
  rp : All2 (fun p x => Rx 30 x p) ps pl
  ry : All2 (fun p x => Rx c x p) ys yl
  pb : PB B e ps
  asc : ps.Pairwise (· < ·)
  len : ps.length ≤ 6
  pos : 0 < ps.length
  eq : ys.length = ps.length
  e10 : e ≤ 10
  c0 : 0 < c
  c1 : c ≤ 180
theorem FR.sy {B : Int} {e c : Nat} {pl yl : List (Int × Int)} {ps ys : List Rat} (h : FR B e c pl yl ps ys) : Sqs c ys := h.ry.left fun _ _ r => r.sq
def mend (ps ys : List Rat) (i : Nat) : List Rat := ys.take i ++ (ev (IP (oth ps i) (oth ys i)) (ps.getD i 0) :: ys.drop (i + 1))
def Rep (ps ys : List Rat) (m : Nat) : Option (List Rat) := if (trim (IP ps ys)).length ≤ m then some ys else match FA ps ys m with
  | [i] => some (mend ps ys i.toNat)
  | _ => none
/-! ### weightings that the law draws -/
structure Sml (w : Wt) : Prop where
  ok : WOk w
  lm : w.1.length ≤ 3
  ls : w.2.length ≤ 2
  lo : ∀ m ∈ w.1, -12 ≤ m.1 ∧ m.1 ≤ 12
  hi : 1 < w.1.length → ∀ m ∈ w.1, m.1 < 12
theorem asc_app {l : Ms} {p m : Int} (h : (l.map (·.1)).Pairwise (· < ·)) (k : ∀ x ∈ l, x.1 < p) : ((l ++ [(p, m)]).map (·.1)).Pairwise (· < ·) := by
  rw [List.map_append]
  refine List.pairwise_append.mpr ⟨h, List.pairwise_singleton .., fun a ha b hb => ?_⟩
  obtain ⟨x, hx, rfl⟩ := List.mem_map.mp ha
  rw [List.mem_singleton.mp hb]
  exact k x hx
theorem law_weighting_okB {scr : List Int} {st : Rw} {N : Nat} (r : Rk N st) (hN : N < 9000) : Yes (law_weighting scr st) fun r => Sml r.1 ∧ Rk (N + 30) r.2 := by
  unfold law_weighting
  refine (takenB_ok r (by omega) (by omega) (by omega)).bd fun a ha => ?_
  refine (takenB_ok ha.2 (by omega) (by omega) (by omega)).bd fun b hb => ?_
  have a1 := ha.1
  have b1 := hb.1
  rw [range_ok (by omega) (by omega), bdo]
  refine (yes_fold (fun (s : Int × Ms × Rw) (l : List Int) => ((s.2.1.map (·.1)).Pairwise (· < ·) ∧ (∀ m ∈ s.2.1, (-12 ≤ m.1 ∧ m.1 ≤ s.1) ∧ 1 ≤ m.2 ∧ m.2 ≤ 20) ∧ s.2.1.length + l.length ≤ 3) ∧ (-12 ≤ s.1 ∧ s.1 + 4 * l.length ≤ 8) ∧ ∃ M, Rk M s.2.2 ∧ M + 2 * l.length ≤ N + 10) _ _ ⟨⟨.nil, (fun m hm => by cases hm), by rw [rangeL_len]; show 0 + _ ≤ 3; omega⟩, ⟨by show -12 ≤ a.1 - 12; omega, by rw [rangeL_len]; show a.1 - 12 + _ ≤ 8; omega⟩, N + 2, hb.2, by rw [rangeL_len]; omega⟩ fun s x l hs => ?_).bd fun c hc => ?_
  · obtain ⟨⟨p1, p2, p3⟩, ⟨q1, q2⟩, M, rk, hM⟩ := hs
    rw [List.length_cons] at p3 q2 hM
    refine (takenB_ok rk (by omega) (by omega) (by omega)).bd fun d hd => ?_
    refine (takenB_ok hd.2 (by omega) (by omega) (by omega)).bd fun e he => ?_
    have d1 := hd.1
    have e1 := he.1
    refine .guard (by omega) (.ok ⟨⟨asc_app p1 fun x hx => by have := (p2 x hx).1; omega, fun m hm => ?_, by rw [List.length_append, List.length_singleton]; omega⟩, ⟨by show -12 ≤ s.1 + 1 + d.1; omega, by show s.1 + 1 + d.1 + 4 * (l.length : Int) ≤ 8; omega⟩, M + 2, he.2, by omega⟩)
    rcases List.mem_append.mp hm with h | h
    · have := p2 m h
      exact ⟨⟨this.1.1, by show m.1 ≤ s.1 + 1 + d.1; omega⟩, this.2⟩
    · rw [List.mem_singleton.mp h]
      exact ⟨⟨by show -12 ≤ s.1 + 1 + d.1; omega, Int.le_refl _⟩, by show 1 ≤ 1 + e.1; omega, by show 1 + e.1 ≤ 20; omega⟩
  · obtain ⟨⟨p1, p2, p3⟩, ⟨q1, q2⟩, M, rk, hM⟩ := hc
    rw [List.length_nil] at p3 q2 hM
    refine (takenB_ok rk (by omega) (by omega) (by omega)).bd fun d hd => ?_
    refine (takenB_ok hd.2 (by omega) (by omega) (by omega)).bd fun e he => ?_
    have d1 := hd.1
    have e1 := he.1
    rw [range_ok (by omega) (by omega), bdo]
    refine (yes_fold (fun (s : Int × Ss × Rw) (l : List Int) => (SsTo (-20) s.2.1 s.1 ∧ s.2.1.length + l.length ≤ 2 ∧ (s.2.1 = [] → -12 ≤ s.1 ∧ s.1 ≤ -4)) ∧ (-12 ≤ s.1 ∧ s.1 + 8 * l.length ≤ 12) ∧ ∃ M, Rk M s.2.2 ∧ M + 3 * l.length ≤ N + 20) _ _ ⟨⟨by show (-20 : Int) ≤ d.1 - 12; omega, by rw [rangeL_len]; show 0 + _ ≤ 2; omega, fun _ => ⟨by show -12 ≤ d.1 - 12; omega, by show d.1 - 12 ≤ -4; omega⟩⟩, ⟨by show -12 ≤ d.1 - 12; omega, by rw [rangeL_len]; show d.1 - 12 + _ ≤ 12; omega⟩, M + 2, he.2, by rw [rangeL_len]; omega⟩ fun s x l hs => ?_).bd fun f hf' => ?_
    · obtain ⟨⟨w1, w2, w3⟩, ⟨v1, v2⟩, M', rk', hM'⟩ := hs
      rw [List.length_cons] at w2 v2 hM'
      refine (takenB_ok rk' (by omega) (by omega) (by omega)).bd fun g hg => ?_
      refine (takenB_ok hg.2 (by omega) (by omega) (by omega)).bd fun h hh => ?_
      refine (takenB_ok hh.2 (by omega) (by omega) (by omega)).bd fun i hi => ?_
      have g1 := hg.1
      have h1 := hh.1
      have i1 := hi.1
      refine .guard (by omega) (.ok ⟨⟨w1.app (by omega) (by omega) (by omega) (by omega), by rw [List.length_append, List.length_singleton]; omega, fun z => by simp at z⟩, ⟨by show -12 ≤ s.1 + g.1 + 1 + h.1; omega, by show s.1 + g.1 + 1 + h.1 + 8 * (l.length : Int) ≤ 12; omega⟩, M' + 3, hi.2, by omega⟩)
    · obtain ⟨⟨w1, w2, w3⟩, ⟨v1, v2⟩, M', rk', hM'⟩ := hf'
      rw [List.length_nil] at w2 v2 hM'
      have done : ∀ (ms : Ms) (st' : Rw), ((ms.map (·.1)).Pairwise (· < ·)) → (∀ m ∈ ms, (-12 ≤ m.1 ∧ m.1 ≤ 12) ∧ 1 ≤ m.2 ∧ m.2 ≤ 20) → ms.length ≤ 3 → (1 < ms.length → ∀ m ∈ ms, m.1 < 12) → (ms ≠ [] ∨ f.2.1 ≠ []) → Rk (N + 30) st' → Yes ((Weighting_init ms f.2.1).bd fun b215 => Mm.ok (b215, st')) fun r => Sml r.1 ∧ Rk (N + 30) r.2 := fun ms st' h1 h2 h3 h6 h4 h5 => by
        have ok : WOk (ms, f.2.1) := ⟨⟨fun m hm => by have := h2 m hm; omega, h1, by show ms.length ≤ 6; omega⟩, w1.up (by omega), by show f.2.1.length ≤ 4; omega, h4⟩
        refine .eq (init_ok ok) (.ok ⟨⟨ok, h3, by show f.2.1.length ≤ 2; omega, fun m hm => (h2 m hm).1, h6⟩, h5⟩)
      have p2' : ∀ m ∈ c.2.1, (-12 ≤ m.1 ∧ m.1 ≤ 12) ∧ 1 ≤ m.2 ∧ m.2 ≤ 20 := fun m hm => by have := p2 m hm; omega
      by_cases z1 : c.2.1 = []
      · rw [cT (decide_eq_true z1), bdo]
        by_cases z2 : f.2.1 = []
        · rw [cT (c := decide (f.2.1 = [])) (decide_eq_true z2)]
          have := w3 z2
          obtain ⟨k, ek, hk, rk2⟩ := takenB_ok (scr := scr) (many := 20) rk' (by omega) (by omega) (by omega)
          rw [ek, bdo, guard_ok (by rw [z1]; decide), bdo, bdo]
          refine done _ _ ?_ ?_ ?_ ?_ ?_ (rk2.up (by omega))
          · rw [z1]
            simp
          · rw [z1]
            intro m hm
            simp only [List.nil_append, List.mem_singleton] at hm
            rw [hm]
            exact ⟨⟨this.1, by show f.1 ≤ 12; omega⟩, by show 1 ≤ 1 + k.1; omega, by show 1 + k.1 ≤ 20; omega⟩
          · rw [z1]
            show 1 ≤ 3
            decide
          · rw [z1]
            intro z
            exact absurd z (by simp)
          · exact .inl (by simp)
        · rw [cF (c := decide (f.2.1 = [])) (decide_eq_false z2), bdo]
          exact done _ _ p1 p2' p3 (fun _ m hm => by have := p2 m hm; omega) (.inr z2) (rk'.up (by omega))
      · rw [cF (c := decide (c.2.1 = [])) (decide_eq_false z1), bdo, cF rfl, bdo]
        exact done _ _ p1 p2' p3 (fun _ m hm => by have := p2 m hm; omega) (.inl z1) (rk'.up (by omega))
/-! ### own powers -/
theorem pow_int (i : Int) (k : Nat) : (i : Rat) ^ k = ((i ^ k : Int) : Rat) := by
  push_cast
  rfl
theorem PS_eq2 (w : Wt) (k : Nat) : PS w k = (w.1.map fun m => ((m.2 : Int) : Rat) * (m.1 : Rat) ^ k).sum + (w.2.map fun s => (((s.2.1 ^ (k + 1) - s.1 ^ (k + 1)) * s.2.2 : Int) : Rat) / (((k : Int) + 1 : Int) : Rat)).sum := by
  have a : (w.1.map fun m => ((m.2 : Int) : Rat) * (m.1 : Rat) ^ k) = w.1.map fun m => ((mI k m : Int) : Rat) := List.map_congr_left fun m _ => by
    unfold mI
    rw [pow_int]
    push_cast
    rfl
  have b : (w.2.map fun s => (((s.2.1 ^ (k + 1) - s.1 ^ (k + 1)) * s.2.2 : Int) : Rat) / (((k : Int) + 1 : Int) : Rat)) = w.2.map fun s => ((sI k s : Int) : Rat) / (((k : Int) + 1 : Int) : Rat) := List.map_congr_left fun s _ => by
    unfold sI
    rw [Int.mul_comm]
  rw [a, b, sum_cast, sum_castD]
  unfold PS
  have n := intc_ne (n := (k : Int) + 1) (by omega)
  push_cast
  push_cast at n
  grind
/-! ### own weights -/
theorem rp_scale (c p : Rat) : ∀ (l : List Rat) (z : Rat), rp p (c * z) (l.map (c * ·)) = (rp p z l).map (c * ·)
  | [], z => rfl
  | x :: l, z => by
    show (c * z - c * x * p) :: rp p (c * x) (l.map (c * ·)) = (c * (z - x * p)) :: (rp p x l).map (c * ·)
    rw [rp_scale c p l x]
    congr 1
    grind
theorem rp_scale0 (c p : Rat) (l : List Rat) : rp p 0 (l.map (c * ·)) = (rp p 0 l).map (c * ·) := by
  have := rp_scale c p l 0
  rw [show c * 0 = (0 : Rat) by grind] at this
  exact this
theorem setM_mid {α : Type} (l r : List α) (x v : α) : setM (l ++ x :: r) (l.length : Int) v = .ok (l ++ v :: r) := by
  unfold setM ixN
  rw [if_pos (by omega), if_pos (by simp; omega)]
  show Mm.ok ((l ++ x :: r).set ((l.length : Int).toNat) v) = _
  rw [Int.toNat_natCast]
  congr 1
  simp
theorem rx_neg {n : Nat} {x : Int × Int} {q : Rat} (h : Rx n x q) : Rx n ((0 : Int) - x.1, x.2) (-q) := ⟨h.nz, by have := h.t; show ((0 : Int) - x.1).natAbs < 2 ^ n; omega, h.b, by
  have k := intc_ne h.nz
  rw [← h.v]
  show (((0 : Int) - x.1 : Int) : Rat) / (x.2 : Rat) = _
  push_cast
  grind⟩
theorem rx_inv {n : Nat} {q : Rat} (h : Sq n q) (hq : q ≠ 0) : Rx n ((fr q).2, (fr q).1) (1 / q) := ⟨(rx_fr h).top hq, h.d, h.1, by
  have a := intc_ne ((rx_fr h).top hq)
  have b := intc_ne (rx_fr h).nz
  have v := (rx_fr h).v
  have e : (1 : Rat) / q = 1 / (((fr q).1 : Rat) / ((fr q).2 : Rat)) := by rw [v]
  rw [e]
  show ((fr q).2 : Rat) / ((fr q).1 : Rat) = _
  grind⟩
def tlp (p : Rat) (l : List Rat) : List Rat := l.map (fun y => y * -p) ++ [0]
theorem getM_midI {α : Type} {l r : List α} {x : α} {i : Int} (h : i = l.length) : getM (l ++ x :: r) i = .ok x := by
  rw [h]
  exact getM_mid l r x
theorem setM_midI {α : Type} {l r : List α} {x v : α} {i : Int} (h : i = l.length) : setM (l ++ x :: r) i v = .ok (l ++ v :: r) := by
  rw [h]
  exact setM_mid l r x v
def LBD (x : Rat) (D : List Rat) : List Rat := (WR D).map fun c => c / prd x D
theorem WR_snoc (D : List Rat) (q : Rat) : WR (D ++ [q]) = rp q 0 (WR D) := by
  unfold WR WRf
  rw [List.foldl_append]
  rfl
theorem prd_snoc (x : Rat) (D : List Rat) (q : Rat) : prd x (D ++ [q]) = prd x D * (x - q) := by
  unfold prd
  rw [List.foldl_append]
  rfl
theorem map_div (c : Rat) (l : List Rat) : l.map (fun y => y / c) = l.map ((1 / c) * ·) := List.map_congr_left fun y _ => by grind
theorem LBD_snoc (x : Rat) (D : List Rat) (q : Rat) (h1 : prd x D ≠ 0) (h2 : x - q ≠ 0) : (rp q 0 (LBD x D)).map (fun y => y * (1 / (x - q))) = LBD x (D ++ [q]) := by
  unfold LBD
  rw [WR_snoc, prd_snoc, map_div, rp_scale0, List.map_map]
  refine List.map_congr_left fun y _ => ?_
  show 1 / prd x D * y * (1 / (x - q)) = y / (prd x D * (x - q))
  grind
theorem LBD_sq {B : Int} {e : Nat} {x : Rat} {D : List Rat} (hB : 0 < B) (hBe : B.natAbs < 2 ^ e) (hx : Dv B e x) (hD : ∀ p ∈ D, Dv B e p) (hn : x ∉ D) : Sqs (2 * (1 + (e + 1) * D.length)) (LBD x D) := fun q hq => by
  obtain ⟨c, hc, rfl⟩ := List.mem_map.mp hq
  exact sq_divB (WR_sq ⟨hB, hBe, hD⟩ c hc) (prd_sq hB hBe hx hD) (prd_ne hn) (by omega)
theorem LBD_len (x : Rat) (D : List Rat) : (LBD x D).length = D.length + 1 := by
  unfold LBD
  rw [List.length_map, WR_len]
theorem rangeL_app (k : Int) (a b : Nat) : rangeL k (a + b) = rangeL k a ++ rangeL (k + a) b := by
  unfold rangeL
  rw [List.range_add, List.map_append, List.map_map]
  congr 1
  refine List.map_congr_left fun i _ => ?_
  show k + ((a + i : Nat) : Int) = k + (a : Int) + (i : Int)
  omega
theorem sum_num {w : Wt} (l : List Rat) : WS w l = ((numL 0 l).map (tW w)).sum := rfl
/-! ### the law's polynomial through readings -/
theorem appL {α γ : Type} {p : α → γ → Prop} {l l' : List α} {r r' : List γ} (h : All2 p l r) (h' : All2 p l' r') : All2 p (l ++ l') (r ++ r') := by
  induction h with
  | nil => exact h'
  | cons a _ ih => exact .cons a ih
theorem takeL {α γ : Type} {p : α → γ → Prop} {l : List α} {r : List γ} (h : All2 p l r) : ∀ n, All2 p (l.take n) (r.take n) := by
  induction h with
  | nil => intro n; rw [List.take_nil, List.take_nil]; exact .nil
  | cons a _ ih =>
    intro n
    cases n with
    | zero => exact .nil
    | succ n => exact .cons a (ih n)
theorem dropL {α γ : Type} {p : α → γ → Prop} {l : List α} {r : List γ} (h : All2 p l r) : ∀ n, All2 p (l.drop n) (r.drop n) := by
  induction h with
  | nil => intro n; rw [List.drop_nil, List.drop_nil]; exact .nil
  | cons a b ih =>
    intro n
    cases n with
    | zero => exact .cons a b
    | succ n => exact ih n
theorem cut_take {α : Type} (l : List α) (n : Nat) : cutL l none (some (n : Int)) = l.take n := by
  by_cases h : n ≤ l.length
  · exact cut_lo l n h
  · unfold cutL
    rw [HT.sIx_none, HT.sIx_nat, Nat.min_eq_right (by omega), List.take_of_length_le (l := l) (i := n) (by omega)]
    exact List.take_of_length_le (Nat.le_refl _)
theorem cut_drop {α : Type} (l : List α) (n : Nat) : cutL l (some (n : Int)) none = l.drop n := by
  by_cases h : n ≤ l.length
  · exact cut_hi l n h
  · unfold cutL
    rw [HT.sIx_none, HT.sIx_nat, Nat.min_eq_right (by omega), List.drop_eq_nil_of_le (as := l) (i := n) (by omega), List.drop_eq_nil_of_le (as := l) (i := l.length) (Nat.le_refl _), List.take_nil]
theorem hornerX {f : Int × Int → Int × Int → Mm (Int × Int)} {p : Rat} {b c : Nat} (hp : Sq b p) (N : Nat) (hf : ∀ y x, Rx c y x → ∀ q a, Sq a q → a + b + c + 1 ≤ N → f (fr q) y = .ok (fr (q * p + x))) : ∀ {l : List Rat} {r : List (Int × Int)}, All2 (fun q y => Rx c y q) l r → (b + c + 1) * l.length + 1 ≤ N → foldM f ((0, 1) : Int × Int) r.reverse = .ok (fr (ev l p)) := by
  intro l r h
  induction h with
  | nil =>
    intro _
    show Mm.ok _ = _
    rw [← fr_zero]
    rfl
  | cons a h ih =>
    rename_i x y l r
    intro hN
    have e : (b + c + 1) * (x :: l).length = (b + c + 1) * l.length + (b + c + 1) := by rw [List.length_cons, Nat.mul_succ]
    have hl : Sqs c l := h.left fun _ _ r => r.sq
    rw [List.reverse_cons, foldM_app, ih (by omega)]
    show (f _ y).bd _ = _
    rw [hf y x a _ _ (ev_sq hp l hl) (by omega)]
    show Mm.ok _ = _
    congr 2
    show _ = x + p * ev l p
    grind
theorem all_loop {α : Type} {f : Unit → α → Mm (Fl Bool Unit)} (P : α → Bool) : ∀ l : List α, (∀ x ∈ l, f () x = cond (!(P x)) (.ok (.ret false)) (.ok (.go ()))) → (foldL f () l).bd (fun o => o.el (fun _ => Mm.ok true) (fun r => Mm.ok r)) = .ok (l.all P)
  | [], _ => rfl
  | x :: l, h => by
    unfold foldL
    rw [h x (List.mem_cons_self ..), List.all_cons]
    cases hx : P x with
    | false => rfl
    | true =>
      rw [cF (c := !true) rfl, bdo]
      exact all_loop P l fun y hy => h y (List.mem_cons_of_mem _ hy)
/-! ### codes, written and read -/
def ckS (c x : Int) : Int := (29 * c + x) % 199
def ck (l : List Int) : Int := l.foldl ckS 7
def msC : Ms → List Int
  | [] => []
  | m :: l => (m.1 + 20) :: m.2 :: msC l
def ssC : Ss → List Int
  | [] => []
  | s :: l => (s.1 + 20) :: (s.2.1 + 20) :: s.2.2 :: ssC l
theorem msC_len : ∀ l : Ms, (msC l).length = 2 * l.length
  | [] => rfl
  | m :: l => by
    have := msC_len l
    unfold msC
    simp only [List.length_cons]
    omega
theorem ssC_len : ∀ l : Ss, (ssC l).length = 3 * l.length
  | [] => rfl
  | m :: l => by
    have := ssC_len l
    unfold ssC
    simp only [List.length_cons]
    omega
def bodyC (w : Wt) : List Int := [(113 : Int), (w.1.length : Int), (w.2.length : Int)] ++ msC w.1 ++ ssC w.2
theorem ck_fold {f : Int → Int → Mm Int} (hf : ∀ c x, f c x = (mulM (29 : Int) c).bd fun m24 => (modM (m24 + x) (199 : Int)).bd fun m27 => Mm.ok m27) : ∀ (l : List Int) (c : Int), 0 ≤ c → c < 199 → foldM f c l = .ok (l.foldl ckS c)
  | [], c, _, _ => rfl
  | x :: l, c, h0, h1 => by
    unfold foldM
    rw [hf, mul_ok (a := 5) (b := 8) (by decide) (by omega) (by decide), bdo, mod_ok (by decide), bdo, bdo]
    exact ck_fold hf l _ (Int.emod_nonneg _ (by decide)) (Int.emod_lt_of_pos _ (by decide))
theorem checksum_ok (l : List Int) : checksum l = .ok (ck l) := by
  unfold checksum
  rw [ck_fold (fun _ _ => rfl) l 7 (by decide) (by decide), bdo]
  rfl
theorem law_checked_ok (l : List Int) (h : l.length ≤ 1000) : law_checked l = .ok (l ++ [ck l]) := by
  unfold law_checked
  rw [ck_fold (fun _ _ => rfl) l 7 (by decide) (by decide), bdo, guard_ok (by rw [List.length_singleton]; omega), bdo]
  rfl
theorem ms_fold {f : List Int → Int × Int → Mm (List Int)} (hf : ∀ b x, f b x = (guardM (b.length + [(x.1 + (20 : Int)), x.2].length ≤ 100000)).bd fun _ => Mm.ok (b ++ [(x.1 + (20 : Int)), x.2])) : ∀ (l : Ms) (b : List Int), b.length + 2 * l.length ≤ 1000 → foldM f b l = .ok (b ++ msC l)
  | [], b, _ => by
    unfold foldM msC
    rw [List.append_nil]
  | x :: l, b, h => by
    rw [List.length_cons] at h
    unfold foldM
    rw [hf, guard_ok (by simp only [List.length_cons, List.length_nil]; omega), bdo, bdo, ms_fold hf l _ (by simp only [List.length_append, List.length_cons, List.length_nil]; omega), List.append_assoc]
    rfl
theorem ss_fold {f : List Int → Int × Int × Int → Mm (List Int)} (hf : ∀ b x, f b x = (guardM (b.length + [(x.1 + (20 : Int)), (x.2.1 + (20 : Int)), x.2.2].length ≤ 100000)).bd fun _ => Mm.ok (b ++ [(x.1 + (20 : Int)), (x.2.1 + (20 : Int)), x.2.2])) : ∀ (l : Ss) (b : List Int), b.length + 3 * l.length ≤ 1000 → foldM f b l = .ok (b ++ ssC l)
  | [], b, _ => by
    unfold foldM ssC
    rw [List.append_nil]
  | x :: l, b, h => by
    rw [List.length_cons] at h
    unfold foldM
    rw [hf, guard_ok (by simp only [List.length_cons, List.length_nil]; omega), bdo, bdo, ss_fold hf l _ (by simp only [List.length_append, List.length_cons, List.length_nil]; omega), List.append_assoc]
    rfl
theorem ms_foldS {f : List Int × Rw → Int × Int → Mm (List Int × Rw)} (hf : ∀ b x, f b x = (guardM (b.1.length + [(x.1 + (20 : Int)), x.2].length ≤ 100000)).bd fun _ => Mm.ok ((b.1 ++ [(x.1 + (20 : Int)), x.2]), b.2)) : ∀ (l : Ms) (b : List Int) (r : Rw), b.length + 2 * l.length ≤ 1000 → foldM f (b, r) l = .ok (b ++ msC l, r)
  | [], b, r, _ => by
    unfold foldM msC
    rw [List.append_nil]
  | x :: l, b, r, h => by
    rw [List.length_cons] at h
    unfold foldM
    rw [hf, guard_ok (by simp only [List.length_cons, List.length_nil]; omega), bdo, bdo, ms_foldS hf l _ r (by simp only [List.length_append, List.length_cons, List.length_nil]; omega), List.append_assoc]
    rfl
theorem ss_foldS {f : List Int × Rw → Int × Int × Int → Mm (List Int × Rw)} (hf : ∀ b x, f b x = (guardM (b.1.length + [(x.1 + (20 : Int)), (x.2.1 + (20 : Int)), x.2.2].length ≤ 100000)).bd fun _ => Mm.ok ((b.1 ++ [(x.1 + (20 : Int)), (x.2.1 + (20 : Int)), x.2.2]), b.2)) : ∀ (l : Ss) (b : List Int) (r : Rw), b.length + 3 * l.length ≤ 1000 → foldM f (b, r) l = .ok (b ++ ssC l, r)
  | [], b, r, _ => by
    unfold foldM ssC
    rw [List.append_nil]
  | x :: l, b, r, h => by
    rw [List.length_cons] at h
    unfold foldM
    rw [hf, guard_ok (by simp only [List.length_cons, List.length_nil]; omega), bdo, bdo, ss_foldS hf l _ r (by simp only [List.length_append, List.length_cons, List.length_nil]; omega), List.append_assoc]
    rfl
theorem bodyC_len {w : Wt} (g : Good w) : (bodyC w).length = 3 + 2 * w.1.length + 3 * w.2.length := by
  unfold bodyC
  rw [List.length_append, List.length_append, msC_len, ssC_len]
  rfl
theorem encode_ok {w : Wt} (g : Good w) : encode_weighting w = .ok (bodyC w ++ [ck (bodyC w)]) := by
  have lm := g.lm
  have ls := g.ls
  have lb := bodyC_len g
  unfold encode_weighting
  rw [ms_fold (fun _ _ => rfl) w.1 _ (by simp only [List.length_cons, List.length_nil]; omega), bdo, ss_fold (fun _ _ => rfl) w.2 _ (by rw [List.length_append, msC_len]; simp only [List.length_cons, List.length_nil]; omega), bdo]
  show (checksum (bodyC w)).bd _ = _
  rw [checksum_ok, bdo]
  refine (bd_guard (by show (bodyC w).length < 100000; omega)).trans rfl
theorem at_app {pre l : List Int} {x : Int} {k : Nat} (h : l[k]? = some x) : (pre ++ l)[pre.length + k]? = some x := by
  rw [List.getElem?_append_right (by omega)]
  rw [show pre.length + k - pre.length = k by omega]
  exact h
def spW : Wt := ([(((0 : Int) - (20 : Int)), (20 : Int)), ((20 : Int), (1 : Int))], [(((0 : Int) - (20 : Int)), (20 : Int), (20 : Int))])
/-! ### codes that are bent -/
abbrev vI (l : List Int) : List PyData := l.map PyData.int
theorem checksum_d_ok (l : List Int) : checksum_d (vI l) = .ok (ck l) := by
  have k : ∀ (l : List Int) (c : Int), 0 ≤ c → c < 199 → foldM (fun (b5 : Int) (x6 : PyData) => (mulM (29 : Int) b5).bd fun m24 => (asI x6).bd fun i27 => (modM (m24 + i27) (199 : Int)).bd fun m30 => Mm.ok m30) c (vI l) = .ok (l.foldl ckS c) := by
    intro l
    induction l with
    | nil => intro c _ _; rfl
    | cons x l ih =>
      intro c h0 h1
      show ((mulM (29 : Int) c).bd fun m24 => (asI (PyData.int x)).bd fun i27 => (modM (m24 + i27) (199 : Int)).bd fun m30 => Mm.ok m30).bd _ = _
      rw [mul_ok (a := 5) (b := 8) (by decide) (by omega) (by decide), bdo, show asI (PyData.int x) = .ok x from rfl, bdo, mod_ok (by decide), bdo, bdo]
      exact ih _ (Int.emod_nonneg _ (by decide)) (Int.emod_lt_of_pos _ (by decide))
  unfold checksum_d
  exact (bd_eq (k l 7 (by decide) (by decide))).trans rfl
theorem item_good {vs : List PyData} {i : Nat} {x lo hi : Int} (h : vs[i]? = some (.int x)) (h1 : lo ≤ x) (h2 : x ≤ hi) : item_at vs (i : Int) lo hi = .ok (.int x) := by
  have hl : i < vs.length := (List.getElem?_eq_some_iff.mp h).1
  have w : whole_within_d (.int x) lo hi = .ok true := by
    show Mm.ok (true && (!false && (decide (lo ≤ x) && decide (x ≤ hi)))) = _
    rw [decide_eq_true h1, decide_eq_true h2]
    rfl
  unfold item_at
  rw [cF (decide_eq_false (by omega)), getM_nat h, bdo, w, noEx_ok, bdo, bdo, cF (c := !true) rfl, bdo]
theorem item_bad {vs : List PyData} {i : Nat} {y : PyData} {lo hi : Int} (h : vs[i]? = some y) (hi' : vs.length ≤ 10000) (hb : whole_within_d y lo hi = .ok false) : item_at vs (i : Int) lo hi = .ex ⟨9, [(i : Int)]⟩ := by
  have hl : i < vs.length := (List.getElem?_eq_some_iff.mp h).1
  unfold item_at
  rw [cF (decide_eq_false (by omega)), getM_nat h, bdo, hb, noEx_ok, bdo, bdo, cT (c := !false) rfl, guard_ok (by rw [Int.natAbs_natCast]; omega), bdo]
theorem item_end {vs : List PyData} {lo hi : Int} (hi' : vs.length ≤ 10000) : item_at vs (vs.length : Int) lo hi = .ex ⟨9, [(vs.length : Int)]⟩ := by
  unfold item_at
  rw [cT (decide_eq_true rfl), bdo, cT rfl, guard_ok (by rw [Int.natAbs_natCast]; omega), bdo]
theorem place_good {vs : List PyData} {i : Nat} {p : Int} (h : vs[i]? = some (.int (p + 20))) (h1 : p.natAbs ≤ 20) : place_at vs (i : Int) = .ok p := by
  unfold place_at
  rw [mul_ok (a := 2) (b := 5) (by decide) (by decide) (by decide), bdo, item_good h (by omega) (by omega), bdo, show asI (PyData.int (p + 20)) = .ok (p + 20) from rfl, bdo]
  congr 1
  omega
theorem mass_good {vs : List PyData} {i : Nat} {p : Int} (h : vs[i]? = some (.int p)) (h1 : 1 ≤ p) (h2 : p ≤ 20) : mass_at vs (i : Int) = .ok p := by
  unfold mass_at
  rw [item_good h h1 h2, bdo, show asI (PyData.int p) = .ok p from rfl, bdo]
theorem place_ex {vs : List PyData} {i : Int} {e : Er} (h : item_at vs i 0 40 = .ex e) : place_at vs i = .ex e := by
  unfold place_at
  rw [mul_ok (a := 2) (b := 5) (by decide) (by decide) (by decide), bdo, show (2 : Int) * 20 = 40 by decide, h]
  rfl
theorem mass_ex {vs : List PyData} {i : Int} {e : Er} (h : item_at vs i 1 20 = .ex e) : mass_at vs i = .ex e := by
  unfold mass_at
  rw [h]
  rfl
structure At (vs : List PyData) (l : List Int) (k : Nat) : Prop where
  agr : ∀ (i : Nat) (x : Int), i < k → l[i]? = some x → vs[i]? = some (.int x)
  rej : k + 1 < l.length → ∀ lo hi : Int, 0 ≤ lo → hi ≤ 200 → item_at vs (k : Int) lo hi = .ex ⟨9, [(k : Int)]⟩
theorem bd_ex' {α β : Type} {m : Mm α} {e : Er} {f : α → Mm β} (h : m = .ex e) : m.bd f = .ex e := by subst h; rfl
theorem dm_rej {vs : List PyData} {l tail : List Int} {k : Nat} (A : At vs l k) (ht : tail ≠ []) {f : Int × Ms → Int → Mm (Int × Ms)} (hf : ∀ b x, f b x = (place_at vs (b.1)).bd fun b61 => (mass_at vs ((b.1 + (1 : Int)))).bd fun b68 => (guardM (b.2.length < 100000)).bd fun _ => Mm.ok ((b.1 + (2 : Int)), (b.2 ++ [(b61, b68)]))) :
    ∀ (rest : Ms) (pre : List Int) (done : Ms) (a : Int), l = pre ++ (msC rest ++ tail) → (∀ m ∈ rest, m.1.natAbs ≤ 20 ∧ 1 ≤ m.2 ∧ m.2 ≤ 20) → done.length + rest.length ≤ 6 → pre.length ≤ k →
      foldM f ((pre.length : Int), done) (rangeL a rest.length) = if (pre ++ msC rest).length ≤ k then .ok (((pre ++ msC rest).length : Int), done ++ rest) else .ex ⟨9, [(k : Int)]⟩
  | [], pre, done, a, _, _, _, hk => by
    unfold msC
    rw [List.append_nil, List.append_nil, if_pos hk]
    rfl
  | m :: rest, pre, done, a, e, h, hl, hk => by
    obtain ⟨b1, b2, b3⟩ := h m (List.mem_cons_self ..)
    rw [List.length_cons] at hl
    have tl : 0 < tail.length := List.length_pos_iff.mpr ht
    have ll : l.length = pre.length + 2 + 2 * rest.length + tail.length := by
      rw [e, List.length_append, List.length_append, msC_len, List.length_cons]
      omega
    have ml : (pre ++ msC (m :: rest)).length = pre.length + 2 + 2 * rest.length := by
      rw [List.length_append, msC_len, List.length_cons]
      omega
    have g0 : l[pre.length]? = some (m.1 + 20) := by rw [e]; exact at_app (k := 0) rfl
    have g1 : l[pre.length + 1]? = some m.2 := by rw [e]; exact at_app (k := 1) rfl
    have e1 : (pre.length : Int) + 1 = ((pre.length + 1 : Nat) : Int) := by omega
    rw [List.length_cons, rangeL_succ]
    unfold foldM
    rw [hf]
    show ((place_at vs (pre.length : Int)).bd fun b61 => _).bd _ = _
    by_cases k0 : pre.length = k
    · have r := A.rej (by omega) 0 40 (by decide) (by decide)
      rw [← k0] at r
      rw [if_neg (by rw [ml]; omega), place_ex r]
      show Mm.ex _ = _
      rw [k0]
    · rw [place_good (A.agr _ _ (by omega) g0) b1, bdo]
      show ((mass_at vs ((pre.length : Int) + 1)).bd fun b68 => _).bd _ = _
      by_cases k1 : pre.length + 1 = k
      · have r := A.rej (by omega) 1 20 (by decide) (by decide)
        rw [← k1] at r
        rw [if_neg (by rw [ml]; omega), e1, mass_ex r]
        show Mm.ex _ = _
        rw [k1]
      · rw [e1, mass_good (A.agr _ _ (by omega) g1) b2 b3, bdo, guard_ok (by show done.length < 100000; omega), bdo, bdo]
        have e2 : (pre.length : Int) + 2 = ((pre ++ [m.1 + 20, m.2]).length : Int) := by rw [List.length_append]; rfl
        show foldM f ((pre.length : Int) + 2, done ++ [m]) _ = _
        have ih := dm_rej A ht hf rest (pre ++ [m.1 + 20, m.2]) (done ++ [m]) (a + 1) (by rw [e]; simp [msC]) (fun x hx => h x (List.mem_cons_of_mem _ hx)) (by rw [List.length_append, List.length_singleton]; omega) (by rw [List.length_append]; show pre.length + 2 ≤ k; omega)
        have z : (pre ++ [m.1 + 20, m.2]) ++ msC rest = pre ++ msC (m :: rest) := by simp [msC]
        rw [z] at ih
        rw [e2, ih]
        simp
theorem ds_rej {vs : List PyData} {l tail : List Int} {k : Nat} (A : At vs l k) (ht : tail ≠ []) {f : Int × Ss → Int → Mm (Int × Ss)} (hf : ∀ b x, f b x = (place_at vs (b.1)).bd fun b115 => (place_at vs ((b.1 + (1 : Int)))).bd fun b122 => (mass_at vs ((b.1 + (2 : Int)))).bd fun b129 => (guardM (b.2.length < 100000)).bd fun _ => Mm.ok ((b.1 + (3 : Int)), (b.2 ++ [(b115, b122, b129)]))) :
    ∀ (rest : Ss) (pre : List Int) (done : Ss) (a : Int), l = pre ++ (ssC rest ++ tail) → (∀ s ∈ rest, s.1.natAbs ≤ 20 ∧ s.2.1.natAbs ≤ 20 ∧ 1 ≤ s.2.2 ∧ s.2.2 ≤ 20 ∧ s.1 < s.2.1) → done.length + rest.length ≤ 6 → pre.length ≤ k →
      foldM f ((pre.length : Int), done) (rangeL a rest.length) = if (pre ++ ssC rest).length ≤ k then .ok (((pre ++ ssC rest).length : Int), done ++ rest) else .ex ⟨9, [(k : Int)]⟩
  | [], pre, done, a, _, _, _, hk => by
    unfold ssC
    rw [List.append_nil, List.append_nil, if_pos hk]
    rfl
  | m :: rest, pre, done, a, e, h, hl, hk => by
    obtain ⟨b1, b2, b3, b4, b5⟩ := h m (List.mem_cons_self ..)
    rw [List.length_cons] at hl
    have tl : 0 < tail.length := List.length_pos_iff.mpr ht
    have ll : l.length = pre.length + 3 + 3 * rest.length + tail.length := by
      rw [e, List.length_append, List.length_append, ssC_len, List.length_cons]
      omega
    have ml : (pre ++ ssC (m :: rest)).length = pre.length + 3 + 3 * rest.length := by
      rw [List.length_append, ssC_len, List.length_cons]
      omega
    have g0 : l[pre.length]? = some (m.1 + 20) := by rw [e]; exact at_app (k := 0) rfl
    have g1 : l[pre.length + 1]? = some (m.2.1 + 20) := by rw [e]; exact at_app (k := 1) rfl
    have g2 : l[pre.length + 2]? = some m.2.2 := by rw [e]; exact at_app (k := 2) rfl
    have e1 : (pre.length : Int) + 1 = ((pre.length + 1 : Nat) : Int) := by omega
    have e2 : (pre.length : Int) + 2 = ((pre.length + 2 : Nat) : Int) := by omega
    rw [List.length_cons, rangeL_succ]
    unfold foldM
    rw [hf]
    show ((place_at vs (pre.length : Int)).bd fun b61 => _).bd _ = _
    by_cases k0 : pre.length = k
    · have r := A.rej (by omega) 0 40 (by decide) (by decide)
      rw [← k0] at r
      rw [if_neg (by rw [ml]; omega), place_ex r]
      show Mm.ex _ = _
      rw [k0]
    · rw [place_good (A.agr _ _ (by omega) g0) b1, bdo]
      show ((place_at vs ((pre.length : Int) + 1)).bd fun b68 => _).bd _ = _
      by_cases k1 : pre.length + 1 = k
      · have r := A.rej (by omega) 0 40 (by decide) (by decide)
        rw [← k1] at r
        rw [if_neg (by rw [ml]; omega), e1, place_ex r]
        show Mm.ex _ = _
        rw [k1]
      · rw [e1, place_good (A.agr _ _ (by omega) g1) b2, bdo]
        show ((mass_at vs ((pre.length : Int) + 2)).bd fun b68 => _).bd _ = _
        by_cases k2 : pre.length + 2 = k
        · have r := A.rej (by omega) 1 20 (by decide) (by decide)
          rw [← k2] at r
          rw [if_neg (by rw [ml]; omega), e2, mass_ex r]
          show Mm.ex _ = _
          rw [k2]
        · rw [e2, mass_good (A.agr _ _ (by omega) g2) b3 b4, bdo, guard_ok (by show done.length < 100000; omega), bdo, bdo]
          have e3 : (pre.length : Int) + 3 = ((pre ++ [m.1 + 20, m.2.1 + 20, m.2.2]).length : Int) := by rw [List.length_append]; rfl
          show foldM f ((pre.length : Int) + 3, done ++ [m]) _ = _
          have ih := ds_rej A ht hf rest (pre ++ [m.1 + 20, m.2.1 + 20, m.2.2]) (done ++ [m]) (a + 1) (by rw [e]; simp [ssC]) (fun x hx => h x (List.mem_cons_of_mem _ hx)) (by rw [List.length_append, List.length_singleton]; omega) (by rw [List.length_append]; show pre.length + 3 ≤ k; omega)
          have z : (pre ++ [m.1 + 20, m.2.1 + 20, m.2.2]) ++ ssC rest = pre ++ ssC (m :: rest) := by simp [ssC]
          rw [z] at ih
          rw [e3, ih]
          simp
def codeC (w : Wt) : List Int := bodyC w ++ [ck (bodyC w)]
theorem codeC_len {w : Wt} (g : Good w) : (codeC w).length = 3 + 2 * w.1.length + 3 * w.2.length + 1 := by
  unfold codeC
  rw [List.length_append, bodyC_len g]
  rfl
theorem ck_rg (l : List Int) : 0 ≤ ck l ∧ ck l < 199 := by
  have k : ∀ (l : List Int) (c : Int), 0 ≤ c → c < 199 → 0 ≤ l.foldl ckS c ∧ l.foldl ckS c < 199 := by
    intro l
    induction l with
    | nil => intro c h0 h1; exact ⟨h0, h1⟩
    | cons x l ih => intro c _ _; exact ih _ (Int.emod_nonneg _ (by decide)) (Int.emod_lt_of_pos _ (by decide))
  exact k l 7 (by decide) (by decide)
theorem take_vI {vs : List PyData} {b : List Int} (h : ∀ (i : Nat) (x : Int), i < b.length → b[i]? = some x → vs[i]? = some (.int x)) : vs.take b.length = vI b := by
  apply List.ext_getElem?
  intro i
  by_cases c : i < b.length
  · have e : b[i]? = some b[i] := List.getElem?_eq_getElem c
    rw [List.getElem?_take_of_lt c, h i _ c e]
    show _ = (b.map PyData.int)[i]?
    rw [List.getElem?_map, e]
    rfl
  · rw [List.getElem?_eq_none (by rw [List.length_take]; omega), List.getElem?_eq_none (by rw [List.length_map]; omega)]
theorem codeC_at {w : Wt} : (codeC w)[0]? = some 113 ∧ (codeC w)[1]? = some (w.1.length : Int) ∧ (codeC w)[2]? = some (w.2.length : Int) ∧ codeC w = [(113 : Int), (w.1.length : Int), (w.2.length : Int)] ++ (msC w.1 ++ (ssC w.2 ++ [ck (bodyC w)])) ∧
    codeC w = ([(113 : Int), (w.1.length : Int), (w.2.length : Int)] ++ msC w.1) ++ (ssC w.2 ++ [ck (bodyC w)]) := by
  have ev : codeC w = [(113 : Int), (w.1.length : Int), (w.2.length : Int)] ++ (msC w.1 ++ (ssC w.2 ++ [ck (bodyC w)])) := by
    unfold codeC
    conv => lhs; unfold bodyC
    simp [List.append_assoc]
    rfl
  refine ⟨by rw [ev]; rfl, by rw [ev]; rfl, by rw [ev]; rfl, ev, by rw [ev, List.append_assoc]⟩
theorem decode_rej {w : Wt} (ok : WOk w) {vs : List PyData} {k : Nat} (A : At vs (codeC w) k) (hk : k < (codeC w).length) (hl : vs.length ≤ 10000) (hlast : k + 1 = (codeC w).length → item_at vs (k : Int) (ck (bodyC w)) (ck (bodyC w)) = .ex ⟨9, [(k : Int)]⟩) : decode_weighting vs = .ex ⟨9, [(k : Int)]⟩ := by
  have g := ok.good
  have lm := g.lm
  have ls := g.ls
  have lc := codeC_len g
  have lb := bodyC_len g
  obtain ⟨a0, a1, a2, ev, ev2⟩ := codeC_at (w := w)
  unfold decode_weighting
  by_cases k0 : k = 0
  · subst k0
    exact bd_ex' (A.rej (by omega) 113 113 (by decide) (by decide))
  rw [show item_at vs (0 : Int) (113 : Int) (113 : Int) = .ok (.int 113) from item_good (i := 0) (A.agr 0 _ (by omega) a0) (by decide) (by decide), bdo]
  by_cases k1 : k = 1
  · subst k1
    exact bd_ex' (A.rej (by omega) 0 6 (by decide) (by decide))
  rw [show item_at vs (1 : Int) (0 : Int) (6 : Int) = .ok (.int (w.1.length : Int)) from item_good (i := 1) (A.agr 1 _ (by omega) a1) (by omega) (by omega), bdo]
  by_cases k2 : k = 2
  · subst k2
    exact bd_ex' (A.rej (by omega) 0 4 (by decide) (by decide))
  rw [show item_at vs (2 : Int) (0 : Int) (4 : Int) = .ok (.int (w.2.length : Int)) from item_good (i := 2) (A.agr 2 _ (by omega) a2) (by omega) (by omega), bdo]
  rw [show asI (PyData.int (w.1.length : Int)) = .ok (w.1.length : Int) from rfl, bdo, rangeM_ok (by omega), bdo, Int.toNat_natCast]
  have f1 := dm_rej A (tail := ssC w.2 ++ [ck (bodyC w)]) (by simp) (f := fun (b41 : (Int × (List (Int × Int)))) (x42 : Int) => (place_at vs (b41.1)).bd fun b65 => (mass_at vs ((b41.1 + (1 : Int)))).bd fun b72 => (guardM (b41.2.length < 100000)).bd fun _ => Mm.ok ((b41.1 + (2 : Int)), (b41.2 ++ [(b65, b72)]))) (fun _ _ => rfl) w.1 [(113 : Int), (w.1.length : Int), (w.2.length : Int)] [] 0 ev g.ms (by rw [List.length_nil]; omega) (by show 3 ≤ k; omega)
  have l1 : ([(113 : Int), (w.1.length : Int), (w.2.length : Int)] ++ msC w.1).length = 3 + 2 * w.1.length := by
    rw [List.length_append, msC_len]
    rfl
  by_cases c1 : 3 + 2 * w.1.length ≤ k
  · rw [if_pos (by rw [l1]; exact c1)] at f1
    refine (bd_eq f1).trans ?_
    rw [List.nil_append, show asI (PyData.int (w.2.length : Int)) = .ok (w.2.length : Int) from rfl, bdo, rangeM_ok (by omega), bdo, Int.toNat_natCast]
    have f2 := ds_rej A (tail := [ck (bodyC w)]) (by simp) (f := fun (b99 : (Int × (List (Int × Int × Int)))) (x100 : Int) => (place_at vs (b99.1)).bd fun b123 => (place_at vs ((b99.1 + (1 : Int)))).bd fun b130 => (mass_at vs ((b99.1 + (2 : Int)))).bd fun b137 => (guardM (b99.2.length < 100000)).bd fun _ => Mm.ok ((b99.1 + (3 : Int)), (b99.2 ++ [(b123, b130, b137)]))) (fun _ _ => rfl) w.2 _ [] 0 ev2 g.ss (by rw [List.length_nil]; omega) (by rw [l1]; exact c1)
    have bl : ([(113 : Int), (w.1.length : Int), (w.2.length : Int)] ++ msC w.1 ++ ssC w.2).length = (bodyC w).length := rfl
    rw [bl] at f2
    by_cases c2 : (bodyC w).length ≤ k
    · rw [if_pos c2] at f2
      refine (bd_eq f2).trans ?_
      have kn : k = (bodyC w).length := by omega
      have tk : vs.take (bodyC w).length = vI (bodyC w) := take_vI fun i x hi hx => A.agr i x (by omega) (by unfold codeC; rw [List.getElem?_append_left hi]; exact hx)
      show ((noEx (checksum_d (cutL vs none (some ((bodyC w).length : Int))))).bd _) = _
      rw [cut_take, tk, checksum_d_ok, noEx_ok, bdo]
      have r := hlast (by omega)
      rw [kn] at r ⊢
      exact bd_ex' r
    · rw [if_neg c2] at f2
      exact bd_ex' f2
  · rw [if_neg (by rw [l1]; exact c1)] at f1
    exact bd_ex' f1
theorem decode_more {w : Wt} (ok : WOk w) {vs : List PyData} (A : At vs (codeC w) (codeC w).length) (hl : vs.length ≤ 10000) (hv : (codeC w).length < vs.length) : decode_weighting vs = .ex ⟨9, [((codeC w).length : Int)]⟩ := by
  have g := ok.good
  have lm := g.lm
  have ls := g.ls
  have lc := codeC_len g
  have lb := bodyC_len g
  obtain ⟨a0, a1, a2, ev, ev2⟩ := codeC_at (w := w)
  unfold decode_weighting
  rw [show item_at vs (0 : Int) (113 : Int) (113 : Int) = .ok (.int 113) from item_good (i := 0) (A.agr 0 _ (by omega) a0) (by decide) (by decide), bdo]
  rw [show item_at vs (1 : Int) (0 : Int) (6 : Int) = .ok (.int (w.1.length : Int)) from item_good (i := 1) (A.agr 1 _ (by omega) a1) (by omega) (by omega), bdo]
  rw [show item_at vs (2 : Int) (0 : Int) (4 : Int) = .ok (.int (w.2.length : Int)) from item_good (i := 2) (A.agr 2 _ (by omega) a2) (by omega) (by omega), bdo]
  rw [show asI (PyData.int (w.1.length : Int)) = .ok (w.1.length : Int) from rfl, bdo, rangeM_ok (by omega), bdo, Int.toNat_natCast]
  have l1 : ([(113 : Int), (w.1.length : Int), (w.2.length : Int)] ++ msC w.1).length = 3 + 2 * w.1.length := by
    rw [List.length_append, msC_len]
    rfl
  have f1 := dm_rej A (tail := ssC w.2 ++ [ck (bodyC w)]) (by simp) (f := fun (b41 : (Int × (List (Int × Int)))) (x42 : Int) => (place_at vs (b41.1)).bd fun b65 => (mass_at vs ((b41.1 + (1 : Int)))).bd fun b72 => (guardM (b41.2.length < 100000)).bd fun _ => Mm.ok ((b41.1 + (2 : Int)), (b41.2 ++ [(b65, b72)]))) (fun _ _ => rfl) w.1 [(113 : Int), (w.1.length : Int), (w.2.length : Int)] [] 0 ev g.ms (by rw [List.length_nil]; omega) (by show 3 ≤ _; omega)
  rw [if_pos (by rw [l1]; omega)] at f1
  refine (bd_eq f1).trans ?_
  rw [List.nil_append, show asI (PyData.int (w.2.length : Int)) = .ok (w.2.length : Int) from rfl, bdo, rangeM_ok (by omega), bdo, Int.toNat_natCast]
  have f2 := ds_rej A (tail := [ck (bodyC w)]) (by simp) (f := fun (b99 : (Int × (List (Int × Int × Int)))) (x100 : Int) => (place_at vs (b99.1)).bd fun b123 => (place_at vs ((b99.1 + (1 : Int)))).bd fun b130 => (mass_at vs ((b99.1 + (2 : Int)))).bd fun b137 => (guardM (b99.2.length < 100000)).bd fun _ => Mm.ok ((b99.1 + (3 : Int)), (b99.2 ++ [(b123, b130, b137)]))) (fun _ _ => rfl) w.2 _ [] 0 ev2 g.ss (by rw [List.length_nil]; omega) (by rw [l1]; omega)
  have bl : ([(113 : Int), (w.1.length : Int), (w.2.length : Int)] ++ msC w.1 ++ ssC w.2).length = (bodyC w).length := rfl
  rw [bl, if_pos (by omega)] at f2
  refine (bd_eq f2).trans ?_
  have tk : vs.take (bodyC w).length = vI (bodyC w) := take_vI fun i x hi hx => A.agr i x (by omega) (by unfold codeC; rw [List.getElem?_append_left hi]; exact hx)
  show ((noEx (checksum_d (cutL vs none (some ((bodyC w).length : Int))))).bd _) = _
  rw [cut_take, tk, checksum_d_ok, noEx_ok, bdo]
  have a3 : (codeC w)[(bodyC w).length]? = some (ck (bodyC w)) := at_app (k := 0) rfl
  refine (bd_eq (item_good (A.agr _ _ (by omega) a3) (Int.le_refl _) (Int.le_refl _))).trans ?_
  rw [cT (decide_eq_true (by show (vs.length : Int) > ((bodyC w).length : Int) + 1; omega))]
  have e : ((bodyC w).length : Int) + 1 = ((codeC w).length : Int) := by omega
  show (guardM ((((bodyC w).length : Int) + 1).natAbs < 18446744073709551616)).bd (fun _ => Mm.ex ⟨9, [((bodyC w).length : Int) + 1]⟩) = _
  rw [e, guard_ok (by rw [Int.natAbs_natCast]; omega), bdo]
theorem offset_of {vs : List PyData} {i : Int} (h : decode_weighting vs = .ex ⟨9, [i]⟩) : law_offset vs = .ok (Xr.int i) := by
  unfold law_offset
  rw [h]
  rfl
theorem at_take {l : List Int} {k : Nat} (hk : k < l.length) (hl : l.length ≤ 1000) : At (vI (l.take k)) l k ∧ ∀ lo hi : Int, item_at (vI (l.take k)) (k : Int) lo hi = .ex ⟨9, [(k : Int)]⟩ := by
  have len : (vI (l.take k)).length = k := by
    show (List.map PyData.int (l.take k)).length = k
    rw [List.length_map, List.length_take]
    omega
  have R : ∀ lo hi : Int, item_at (vI (l.take k)) (k : Int) lo hi = .ex ⟨9, [(k : Int)]⟩ := fun lo hi => by
    have := item_end (vs := vI (l.take k)) (lo := lo) (hi := hi) (by omega)
    rw [len] at this
    exact this
  refine ⟨⟨fun i x hi hx => ?_, fun _ lo hi _ _ => R lo hi⟩, R⟩
  show (List.map PyData.int (l.take k))[i]? = _
  rw [List.getElem?_map, List.getElem?_take_of_lt hi, hx]
  rfl
theorem at_put {l : List Int} {k : Nat} {y : PyData} {r : List PyData} (hk : k < l.length) (hl : l.length ≤ 1000) (hr : r.length ≤ 1000) : (∀ (i : Nat) (x : Int), i < k → l[i]? = some x → (vI (l.take k) ++ y :: r)[i]? = some (.int x)) ∧ (vI (l.take k) ++ y :: r)[k]? = some y ∧ (vI (l.take k) ++ y :: r).length ≤ 10000 := by
  have len : (vI (l.take k)).length = k := by
    show (List.map PyData.int (l.take k)).length = k
    rw [List.length_map, List.length_take]
    omega
  refine ⟨fun i x hi hx => ?_, ?_, ?_⟩
  · rw [List.getElem?_append_left (by omega)]
    show (List.map PyData.int (l.take k))[i]? = _
    rw [List.getElem?_map, List.getElem?_take_of_lt hi, hx]
    rfl
  · rw [List.getElem?_append_right (by omega), len, Nat.sub_self]
    rfl
  · rw [List.length_append, len, List.length_cons]
    omega
def badY (y : PyData) : Prop := y = .int 256 ∨ y = .int (0 - 1) ∨ ∃ b, y = .bool b
theorem badY_w {y : PyData} (h : badY y) {lo hi : Int} (h0 : 0 ≤ lo) (h1 : hi ≤ 200) : whole_within_d y lo hi = .ok false := by
  rcases h with rfl | rfl | ⟨b, rfl⟩
  · show Mm.ok (true && (!false && (decide (lo ≤ 256) && decide ((256 : Int) ≤ hi)))) = _
    rw [decide_eq_false (show ¬ (256 : Int) ≤ hi by omega), Bool.and_false]
    rfl
  · show Mm.ok (true && (!false && (decide (lo ≤ (0 - 1 : Int)) && decide ((0 - 1 : Int) ≤ hi)))) = _
    rw [decide_eq_false (show ¬ lo ≤ (0 - 1 : Int) by omega), Bool.false_and]
    rfl
  · rfl
theorem off_take {w : Wt} (ok : WOk w) {k : Nat} (hk : k < (codeC w).length) : law_offset (vI ((codeC w).take k)) = .ok (Xr.int (k : Int)) := by
  have g := ok.good
  have lc := codeC_len g
  have lm := g.lm
  have ls := g.ls
  obtain ⟨A, R⟩ := at_take (l := codeC w) hk (by omega)
  have lv : (vI ((codeC w).take k)).length ≤ 10000 := by
    show (List.map PyData.int ((codeC w).take k)).length ≤ 10000
    rw [List.length_map, List.length_take]
    omega
  exact offset_of (decode_rej ok A hk lv fun _ => R _ _)
theorem off_more {w : Wt} (ok : WOk w) (x : Int) : law_offset (vI (codeC w ++ [x])) = .ok (Xr.int ((codeC w).length : Int)) := by
  have g := ok.good
  have lc := codeC_len g
  have lm := g.lm
  have ls := g.ls
  have len : (vI (codeC w ++ [x])).length = (codeC w).length + 1 := by
    show (List.map PyData.int (codeC w ++ [x])).length = _
    rw [List.length_map, List.length_append]
    rfl
  refine offset_of (decode_more ok ⟨fun i y hi hy => ?_, fun h => by omega⟩ (by omega) (by omega))
  show (List.map PyData.int (codeC w ++ [x]))[i]? = _
  rw [List.getElem?_map, List.getElem?_append_left hi, hy]
  rfl
theorem off_bad {w : Wt} (ok : WOk w) {k : Nat} (hk : k < (codeC w).length) {y : PyData} (hy : badY y) : law_offset ((vI ((codeC w).take k) ++ [y]) ++ vI ((codeC w).drop (k + 1))) = .ok (Xr.int (k : Int)) := by
  have g := ok.good
  have lc := codeC_len g
  have lm := g.lm
  have ls := g.ls
  have hr : (vI ((codeC w).drop (k + 1))).length ≤ 1000 := by
    show (List.map PyData.int ((codeC w).drop (k + 1))).length ≤ 1000
    rw [List.length_map, List.length_drop]
    omega
  obtain ⟨a1, a2, a3⟩ := at_put (l := codeC w) (k := k) (y := y) (r := vI ((codeC w).drop (k + 1))) hk (by omega) hr
  rw [List.append_assoc]
  have c := ck_rg (bodyC w)
  exact offset_of (decode_rej ok ⟨a1, fun _ lo hi h0 h1 => item_bad a2 a3 (badY_w hy h0 h1)⟩ hk a3 fun _ => item_bad a2 a3 (badY_w hy c.1 (by omega)))
theorem off_last {w : Wt} (ok : WOk w) {x : Int} (hx : x ≠ ck (bodyC w)) : law_offset (vI ((codeC w).take (bodyC w).length ++ [x])) = .ok (Xr.int ((bodyC w).length : Int)) := by
  have g := ok.good
  have lc := codeC_len g
  have lb := bodyC_len g
  have lm := g.lm
  have ls := g.ls
  obtain ⟨a1, a2, a3⟩ := at_put (l := codeC w) (k := (bodyC w).length) (y := .int x) (r := []) (by omega) (by omega) (by show 0 ≤ 1000; decide)
  have e : vI ((codeC w).take (bodyC w).length ++ [x]) = vI ((codeC w).take (bodyC w).length) ++ [PyData.int x] := List.map_append ..
  rw [e]
  refine offset_of (decode_rej ok ⟨a1, fun h => by omega⟩ (by omega) a3 fun _ => item_bad a2 a3 ?_)
  show Mm.ok (true && (!false && (decide (ck (bodyC w) ≤ x) && decide (x ≤ ck (bodyC w))))) = _
  by_cases c : ck (bodyC w) ≤ x
  · rw [decide_eq_false (show ¬ x ≤ ck (bodyC w) by omega), Bool.and_false]
    rfl
  · rw [decide_eq_false c, Bool.false_and]
    rfl
theorem law_true (scr : List Int) (hl : scr.length ≤ 63) : law scr = .ok true := by
  suffices h : Yes (law scr) fun b => b = true by
    obtain ⟨b, e, rfl⟩ := h
    exact e
  unfold law
  rw [range_ok (by decide) (by decide), bdo]
  refine (yes_foldL (fun (s : Rw) n => ∃ M, Rk M s ∧ M + 40 * n ≤ 400) _ _ ⟨0, ⟨by decide, by decide, by decide, by decide⟩, by rw [rangeL_len]; decide⟩ fun s x n hx hs => ?_).bd fun o ho => ?_
  · obtain ⟨M, rk, hM⟩ := hs
    refine (law_weighting_okB rk (by omega)).bd fun w hw => ?_
    obtain ⟨sm, rw1⟩ := hw
    have ok := sm.ok
    have g := ok.good
    have lm := g.lm
    have ls := g.ls
    have lb := bodyC_len g
    have lc := codeC_len g
    refine .eq (show encode_weighting w.1 = .ok (codeC w.1) from encode_ok g) ?_
    refine (takenB_ok rw1 (by omega) (by omega) (by omega)).bd fun t ht => ?_
    have t1 := ht.1
    obtain ⟨k, hk⟩ : ∃ k : Nat, t.1 = (k : Int) := ⟨t.1.toNat, by omega⟩
    have kl : k < (codeC w.1).length := by omega
    rw [hk, cut_take]
    refine .eq (off_take ok kl) ?_
    rw [cF (c := !decide (Xr.int (k : Int) = Xr.int (k : Int))) (by rw [decide_eq_true rfl]; rfl)]
    refine (show Yes ((takenB scr t.2 ((256 : Int))).bd fun b72 => (guardM ((codeC w.1).length + [b72.1].length ≤ 100000)).bd fun _ => (law_offset ((List.map PyData.int (codeC w.1 ++ [b72.1])))).bd fun b95 => Mm.ok ((!(decide (b95 = (Xr.int ((codeC w.1).length : Int))))), b72.2)) fun r => r.1 = false ∧ Rk (M + 32) r.2 from ?_).bd fun b hb => ?_
    · refine (takenB_ok ht.2 (by omega) (by omega) (by omega)).bd fun u hu => ?_
      refine .guard (by rw [List.length_singleton]; omega) ?_
      refine .eq (off_more ok u.1) ?_
      rw [decide_eq_true rfl]
      exact .ok ⟨rfl, hu.2⟩
    · rw [hb.1, cF (c := false) rfl]
      refine (takenB_ok hb.2 (by omega) (by omega) (by omega)).bd fun u hu => ?_
      have u1 := hu.1
      obtain ⟨y, gy, hy⟩ : ∃ y, getM [(PyData.int (256 : Int)), (PyData.int ((0 : Int) - (1 : Int))), (PyData.bool true), (PyData.bool false)] u.1 = .ok y ∧ badY y := by
        obtain ⟨j, hj⟩ : ∃ j : Nat, u.1 = (j : Int) := ⟨u.1.toNat, by omega⟩
        rw [hj] at u1 ⊢
        have : j = 0 ∨ j = 1 ∨ j = 2 ∨ j = 3 := by omega
        rcases this with rfl | rfl | rfl | rfl
        · exact ⟨_, getM_nat (i := 0) rfl, .inl rfl⟩
        · exact ⟨_, getM_nat (i := 1) rfl, .inr (.inl rfl)⟩
        · exact ⟨_, getM_nat (i := 2) rfl, .inr (.inr ⟨_, rfl⟩)⟩
        · exact ⟨_, getM_nat (i := 3) rfl, .inr (.inr ⟨_, rfl⟩)⟩
      refine .eq gy ?_
      have e1 : (k : Int) + 1 = ((k + 1 : Nat) : Int) := by omega
      rw [e1, cut_drop]
      refine .guard (by rw [List.length_map, List.length_take, List.length_singleton]; omega) ?_
      refine .guard (by rw [List.length_append, List.length_map, List.length_take, List.length_singleton, List.length_map, List.length_drop]; omega) ?_
      refine .eq (off_bad ok kl hy) ?_
      rw [cF (c := !decide (Xr.int (k : Int) = Xr.int (k : Int))) (by rw [decide_eq_true rfl]; rfl)]
      have e2 : ((codeC w.1).length : Int) - 1 = ((bodyC w.1).length : Int) := by omega
      have a3 : (codeC w.1)[(bodyC w.1).length]? = some (ck (bodyC w.1)) := at_app (k := 0) rfl
      rw [e2]
      refine .eq (getM_nat a3) ?_
      refine (takenB_ok hu.2 (by omega) (by omega) (by omega)).bd fun v hv => ?_
      have v1 := hv.1
      have c := ck_rg (bodyC w.1)
      rw [mod_ok (by decide), bdo, cut_take]
      refine .guard (by rw [List.length_take, List.length_singleton]; omega) ?_
      refine .eq (off_last ok (x := (ck (bodyC w.1) + 1 + v.1) % 199) (by omega)) ?_
      rw [cF (c := !decide (Xr.int ((bodyC w.1).length : Int) = Xr.int ((bodyC w.1).length : Int))) (by rw [decide_eq_true rfl]; rfl)]
      exact .ok ⟨_, rfl, M + 40, hv.2.up (by omega), by omega⟩
  · obtain ⟨s', rfl, _⟩ := ho
    exact ⟨true, by rfl, rfl⟩
end L

theorem PySem.Challenge.cw_fewreadings_k45_codes_rejected_holds : PySem.Challenge.rw_fewreadings_k45_codes_rejected.Holds := by
  exact L.of_law L.law_true
