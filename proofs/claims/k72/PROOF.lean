import PyProof.Rows.All
import Wide.All
import OpenK.AllK
import Wide.FinOn
import HandS.ForMost
import HandS.ForExc
import HandS.Walk
import HandS.Wide
import HandS.Evl
import HandS.Deep
import HandS.Gcd
import HandS.TupAny
import HandS.Strs
import HandS.Defaults
import KE.GoesMore
import HandS.IsInst
import HandS.Property
import HandS.SetFor
import HandS.Head0
import HandS.Head1
import HandS.Head2
import HandS.HeadEnd
import HandS.HeadHook1
import HandS.HeadHook2
import HandS.HeadNt
import HandS.Ends
import HandS.Head3
import HandS.Star
import HandS.Style
import HandS.Iter
import HandS.List
import PySem.Challenge.RW_fewreadings_k72_whole_false_readings_by
set_option Elab.async false
set_option linter.all false
set_option maxRecDepth 100000
set_option maxHeartbeats 4000000
namespace Wk
open PySem L2 Evl

/-! ### outcomes -/
structure Er where
  c : Nat
  fs : List Int
inductive Mm (α : Type) where
  | ok (a : α)
  | ex (e : Er)
  | bad
def Mm.bd {α β : Type} (m : Mm α) (f : α → Mm β) : Mm β := match m with
  | .ok a => f a
  | .ex e => .ex e
  | .bad => .bad
def Out {α : Type} (m : Mm α) (p : α → Prop) (q : Er → Prop) : Prop := match m with
  | .ok a => p a
  | .ex e => q e
  | .bad => False
/-- what holds of an outcome -/
structure Post {α : Type} (m : Mm α) (p : α → Prop) (q : Er → Prop) : Prop where
  h : Out m p q
section
variable {α β : Type} {m : Mm α} {f : α → Mm β} {p : α → Prop} {r : β → Prop} {q : Er → Prop}
theorem post_bd (h : Post (m.bd f) r q) : Post m (fun a => Post (f a) r q) q := by
  cases m with
  | ok a => exact ⟨⟨h.h⟩⟩
  | ex e => exact ⟨h.h⟩
  | bad => exact ⟨h.h⟩
theorem Post.mono {p' : α → Prop} {q' : Er → Prop} (h : Post m p q) (hp : ∀ a, p a → p' a) (hq : ∀ e, q e → q' e) : Post m p' q' := by
  cases m with
  | ok a => exact ⟨hp a h.h⟩
  | ex e => exact ⟨hq e h.h⟩
  | bad => exact ⟨h.h⟩
theorem Post.of_ok {a : α} (e : m = .ok a) (h : p a) : Post m p q := by
  rw [e]; exact ⟨h⟩
theorem Post.elim {C : Prop} (h : Post (Mm.bad : Mm α) p q) : C := h.h.elim
theorem post_ok {a : α} (h : Post (.ok a) p q) : p a := h.h
end
@[simp] theorem bd_ok {α β : Type} (a : α) (f : α → Mm β) : (Mm.ok a).bd f = f a := rfl
@[simp] theorem bd_ex {α β : Type} (e : Er) (f : α → Mm β) : (Mm.ex e : Mm α).bd f = .ex e := rfl
@[simp] theorem bd_bad {α β : Type} (f : α → Mm β) : (Mm.bad : Mm α).bd f = .bad := rfl
def guardM (c : Prop) [Decidable c] : Mm Unit := if c then .ok () else .bad
instance {i j : Int} : Decidable (CMulW i j) := by unfold CMulW; exact inferInstance
instance {i j : Int} : Decidable (CDivW i j) := by unfold CDivW; exact inferInstance
def CDv (_ j : Int) : Prop := j ≠ 0 ∧ j.natAbs.log2 < 9000
instance {i j : Int} : Decidable (CDv i j) := by unfold CDv; exact inferInstance
def mulM (i j : Int) : Mm Int := if CMulW i j then .ok (i * j) else .bad
def divM (i j : Int) : Mm Int := if CDv i j then .ok (i.fdiv j) else .bad
def modM (i j : Int) : Mm Int := if j ≠ 0 then .ok (i.fmod j) else .bad
def getM {α : Type} (xs : List α) (i : Int) : Mm α := match atI xs i with
  | some a => .ok a
  | none => .bad
section
variable {β : Type} {f : Int → Mm β} {r : β → Prop} {q : Er → Prop} {i j : Int}
theorem post_mul (h : Post ((mulM i j).bd f) r q) : ∃ m, CMulW i j ∧ i * j = m ∧ Post (f m) r q := by
  unfold mulM at h
  split at h
  · exact ⟨_, ‹_›, rfl, ⟨h.h⟩⟩
  · exact h.h.elim
theorem post_div (h : Post ((divM i j).bd f) r q) : ∃ m, CDv i j ∧ i.fdiv j = m ∧ Post (f m) r q := by
  unfold divM at h
  split at h
  · exact ⟨_, ‹_›, rfl, ⟨h.h⟩⟩
  · exact h.h.elim
theorem post_mod (h : Post ((modM i j).bd f) r q) : ∃ m, j ≠ 0 ∧ i.fmod j = m ∧ Post (f m) r q := by
  unfold modM at h
  split at h
  · exact ⟨_, ‹_›, rfl, ⟨h.h⟩⟩
  · exact h.h.elim
theorem post_get {α : Type} {xs : List α} {f : α → Mm β} (h : Post ((getM xs i).bd f) r q) : ∃ a, atI xs i = some a ∧ Post (f a) r q := by
  unfold getM at h
  split at h
  · exact ⟨_, ‹_›, ⟨h.h⟩⟩
  · exact h.h.elim
theorem post_guard {c : Prop} [Decidable c] {f : Unit → Mm β} (h : Post ((guardM c).bd f) r q) : c ∧ Post (f ()) r q := by
  unfold guardM at h
  split at h
  · exact ⟨‹_›, ⟨h.h⟩⟩
  · exact h.h.elim
end
section
variable {X : Cx}
theorem op_divM : OpR X (binaryOp .FloorDiv) (fun x y H Q => ∃ i j m, x = .int i ∧ y = .int j ∧ CDv i j ∧ i.fdiv j = m ∧ Q (.int m) H) := by
  intro pins s σ H x y v u Q I rx ry h
  obtain ⟨i, j, m, rfl, rfl, c, rfl, q⟩ := h
  exact (opI (C := CDv) (g := fun i j => i.fdiv j) fun i j _ _ _ _ _ hc q => PyProof.Rows.floordiv_int hc.1 q (.inl (PyProof.noPylong_of_log2 hc.2))) pins s σ H _ _ v u Q I rx ry ⟨i, j, rfl, rfl, c, q⟩
theorem op_mulM : OpR X (binaryOp .Mult) (fun x y H Q => ∃ i j m, x = .int i ∧ y = .int j ∧ CMulW i j ∧ i * j = m ∧ Q (.int m) H) := by
  intro pins s σ H x y v u Q I rx ry h
  obtain ⟨i, j, m, rfl, rfl, c, rfl, q⟩ := h
  exact op_mulW pins s σ H _ _ v u Q I rx ry ⟨i, j, rfl, rfl, c, q⟩
theorem op_modM : OpR X (binaryOp .Mod) (fun x y H Q => ∃ i j m, x = .int i ∧ y = .int j ∧ j ≠ 0 ∧ i.fmod j = m ∧ Q (.int m) H) := by
  intro pins s σ H x y v u Q I rx ry h
  obtain ⟨i, j, m, rfl, rfl, c, rfl, q⟩ := h
  exact op_modN pins s σ H _ _ v u Q I rx ry ⟨i, j, rfl, rfl, c, q⟩
theorem pe_gint {x : Str} {i : Int} {pos : Pos} (h : ∃ t, X.mg x = some (.int i t)) (hg : Gl X x := by rfl) (hd : (x == ("__debug__" : Str)) = false := by decide) : PE X (.Name x pos) (tC (.int i)) := by
  obtain ⟨t, h⟩ := h
  exact pe_glob hg h ⟨t, rfl⟩ hd
theorem pe_gref {x : Str} {a : Addr} {pos : Pos} (h : X.mg x = some (.ref a)) (hg : Gl X x := by rfl) (hd : (x == ("__debug__" : Str)) = false := by decide) : PE X (.Name x pos) (tC (.ref a)) := pe_glob hg h rfl hd
end

/-! ### heaps: F what is fixed, H all -/
structure Gm (M : List Addr) (F H F' H' : Hp) : Prop where
  f : Ex F F'
  s : Ex F' H'
  h : ∀ a o, a ∉ M → H a = some o → H' a = some o
  n : ∀ a o, H a = some o → F a = none → F' a = none
  m : ∀ a o, H a = some o → ∃ o', H' a = some o'
section
variable {M : List Addr} {F H F1 H1 F2 H2 : Hp}
theorem Gm.refl (e : Ex F H) : Gm M F H F H := ⟨Ex.refl _, e, fun _ _ _ h => h, fun _ _ _ h => h, fun _ o h => ⟨o, h⟩⟩
theorem Gm.trans (a : Gm M F H F1 H1) (b : Gm M F1 H1 F2 H2) : Gm M F H F2 H2 :=
  ⟨a.f.trans b.f, b.s, fun x o hx h => b.h x o hx (a.h x o hx h), fun x o h hf => by
    obtain ⟨o', h'⟩ := a.m x o h
    exact b.n x o' h' (a.n x o h hf), fun x o h => by
    obtain ⟨o', h'⟩ := a.m x o h
    exact b.m x o' h'⟩
theorem Gm.up (a : Gm [] F H F1 H1) : Gm M F H F1 H1 := ⟨a.f, a.s, fun x o _ h => a.h x o (by simp) h, a.n, a.m⟩
/-- an owned object of the caller's that the callee leaves -/
theorem Gm.own (a : Gm M F H F1 H1) {p : Addr} {o : HO} (hp : p ∉ M) (h : H p = some o) (f : F p = none) : H1 p = some o ∧ F1 p = none := ⟨a.h p o hp h, a.n p o h f⟩
theorem Gm.fresh (a : Gm M F H F1 H1) {p : Addr} (h : H1 p = none) : H p = none := by
  cases e : H p with
  | none => rfl
  | some o =>
    obtain ⟨o', h'⟩ := a.m p o e
    rw [h] at h'
    cases h'
/-- a new fixed object -/
theorem Gm.new (e : Ex F H) {p : Addr} {o : HO} (h : H p = none) : Gm M F H (upd F p o) (upd H p o) := by
  have hf : F p = none := by
    cases q : F p with
    | none => rfl
    | some u => rw [e p u q] at h; cases h
  refine ⟨Ex.new hf, fun a u ha => ?_, fun a u _ ha => ?_, fun a u ha hn => ?_, fun a u ha => ?_⟩
  · by_cases q : a = p
    · subst q; rw [upd_same] at ha ⊢; exact ha
    · rw [upd_ne q] at ha ⊢; exact e a u ha
  · rw [upd_ne (ne_of_none ha h)]; exact ha
  · rw [upd_ne (ne_of_none ha h)]; exact hn
  · exact ⟨u, by rw [upd_ne (ne_of_none ha h)]; exact ha⟩
/-- a new object that may change -/
theorem Gm.newM (e : Ex F H) {p : Addr} {o : HO} (h : H p = none) : Gm M F H F (upd H p o) := by
  refine ⟨Ex.refl _, fun a u ha => ?_, fun a u _ ha => ?_, fun a u ha hn => hn, fun a u ha => ?_⟩
  · rw [upd_ne (ne_of_none (e a u ha) h)]; exact e a u ha
  · rw [upd_ne (ne_of_none ha h)]; exact ha
  · exact ⟨u, by rw [upd_ne (ne_of_none ha h)]; exact ha⟩
/-- an own object changes -/
theorem Gm.put (e : Ex F H) {p : Addr} {o u : HO} (h : H p = some u) (hf : F p = none) : Gm (p :: M) F H F (upd H p o) := by
  refine ⟨Ex.refl _, fun a u ha => ?_, fun a u hM ha => ?_, fun a u ha hn => hn, fun a u ha => ?_⟩
  · have q : a ≠ p := fun q => by rw [q, hf] at ha; cases ha
    rw [upd_ne q]; exact e a u ha
  · have q : a ≠ p := fun q => hM (by rw [q]; simp)
    rw [upd_ne q]; exact ha
  · by_cases q : a = p
    · subst q; exact ⟨o, upd_same⟩
    · exact ⟨u, by rw [upd_ne q]; exact ha⟩
/-- a change of an object that is younger than F0 H0 -/
theorem Gm.putYoung {F0 H0 : Hp} (g : Gm M F0 H0 F H) {p : Addr} {o u : HO} (h : H p = some u) (hf : F p = none) (h0 : H0 p = none) : Gm M F0 H0 F (upd H p o) := by
  refine ⟨g.f, fun a u ha => ?_, fun a u hM ha => ?_, g.n, fun a u ha => ?_⟩
  · have q : a ≠ p := fun q => by rw [q, hf] at ha; cases ha
    rw [upd_ne q]; exact g.s a u ha
  · have q : a ≠ p := fun q => by rw [q, h0] at ha; cases ha
    rw [upd_ne q]; exact g.h a u hM ha
  · by_cases q : a = p
    · subst q; exact ⟨o, upd_same⟩
    · obtain ⟨o', h'⟩ := g.m a u ha
      exact ⟨o', by rw [upd_ne q]; exact h'⟩
/-- an own young object is fixed -/
theorem Gm.fix {F0 H0 : Hp} (g : Gm M F0 H0 F H) {p : Addr} {o : HO} (h : H p = some o) (hf : F p = none) (h0 : H0 p = none) : Gm M F0 H0 (upd F p o) H := by
  refine ⟨fun a u ha => ?_, fun a u ha => ?_, g.h, fun a u ha hn => ?_, g.m⟩
  · have q : a ≠ p := fun q => by
      have z := g.f a u ha
      rw [q, hf] at z; cases z
    rw [upd_ne q]; exact g.f a u ha
  · by_cases q : a = p
    · subst q; rw [upd_same] at ha; rw [h]; exact ha
    · rw [upd_ne q] at ha; exact g.s a u ha
  · have q : a ≠ p := fun q => by rw [q, h0] at ha; cases ha
    rw [upd_ne q]; exact g.n a u ha hn
end

/-- what follows an answer -/
def Ret (M : List Addr) (F H : Hp) (S : Hp → Hp → V → Prop) (Q : VK) : Prop := ∀ v F' H', Gm M F H F' H' → S F' H' v → Q v H'
theorem Ret.then_ {M : List Addr} {F H F1 H1 : Hp} {S : Hp → Hp → V → Prop} {Q : VK} (k : Ret M F H S Q) (g : Gm M F H F1 H1) : Ret M F1 H1 S Q := fun v F' H' g' s => k v F' H' (g.trans g') s

/-! ### data -/
mutual
inductive Dq (K : PySem.W.Frag) (H : Hp) : V → PyData → Prop
  | non : Dq K H .non .none
  | bl (b : Bool) : Dq K H (.bl b) (.bool b)
  | int (i : Int) : Dq K H (.int i) (.int i)
  | str (x : Str) : Dq K H (.str x) (.str x)
  | lst {a : Addr} {xs : List V} {ds : List PyData} : H a = some (.lst xs) → DqAll K H xs ds → Dq K H (.ref a) (.list ds)
  | tup {a : Addr} {xs : List V} {ds : List PyData} : SqT K H a xs → DqAll K H xs ds → Dq K H (.ref a) (.tuple ds)
inductive DqAll (K : PySem.W.Frag) (H : Hp) : List V → List PyData → Prop
  | nil : DqAll K H [] []
  | cons {v : V} {vs : List V} {d : PyData} {ds : List PyData} : Dq K H v d → DqAll K H vs ds → DqAll K H (v :: vs) (d :: ds)
end
section
variable {K : PySem.W.Frag} {F F' H H' : Hp}
mutual
theorem dp_mono (e : Ex F F') : ∀ (d : PyData) (v : V), Dq K F v d → Dq K F' v d
  | .none, _, .non => .non
  | .bool _, _, .bl b => .bl b
  | .int _, _, .int i => .int i
  | .str _, _, .str x => .str x
  | .list ds, _, .lst h a => .lst (e _ _ h) (dpAll_mono e ds _ a)
  | .tuple ds, _, .tup h a => .tup (ex_t e h) (dpAll_mono e ds _ a)
  | .dict _, _, h => by cases h
theorem dpAll_mono (e : Ex F F') : ∀ (ds : List PyData) (vs : List V), DqAll K F vs ds → DqAll K F' vs ds
  | [], _, .nil => .nil
  | d :: ds, _, .cons h a => .cons (dp_mono e d _ h) (dpAll_mono e ds _ a)
end
mutual
theorem dq_dp : ∀ (d : PyData) (v : V), Dq K F v d → Dp K F v d
  | .none, _, .non => .non
  | .bool _, _, .bl b => .bl b
  | .int _, _, .int i => .int i
  | .str _, _, .str x => .str x
  | .list ds, _, .lst h a => .lst (sq_of h) (dqAll_dp ds _ a)
  | .tuple ds, _, .tup h a => .tup h (dqAll_dp ds _ a)
  | .dict _, _, h => by cases h
theorem dqAll_dp : ∀ (ds : List PyData) (vs : List V), DqAll K F vs ds → DpAll K F vs ds
  | [], _, .nil => .nil
  | d :: ds, _, .cons h a => .cons (dq_dp d _ h) (dqAll_dp ds _ a)
end
theorem _root_.Wk.Dq.dp {v : V} {d : PyData} (h : Dq K F v d) (e : Ex F F') : Dp K F' v d := dq_dp d v (dp_mono e d v h)
theorem _root_.Wk.Dq.up {v : V} {d : PyData} (h : Dq K F v d) (e : Ex F F') : Dq K F' v d := dp_mono e d v h
theorem _root_.Wk.DqAll.up {v : List V} {d : List PyData} (h : DqAll K F v d) (e : Ex F F') : DqAll K F' v d := dpAll_mono e d v h
theorem _root_.Wk.DqAll.len {vs : List V} {ds : List PyData} (h : DqAll K F vs ds) : vs.length = ds.length := by
  induction ds generalizing vs with
  | nil => cases h; rfl
  | cons d ds ih => cases h with | cons h a => simp [ih a]
theorem _root_.Wk.DqAll.get {vs : List V} {ds : List PyData} (h : DqAll K F vs ds) : ∀ {i : Nat} {d : PyData}, ds[i]? = some d → ∃ v, vs[i]? = some v ∧ Dq K F v d := by
  induction ds generalizing vs with
  | nil => intro i d e; simp at e
  | cons d ds ih =>
    cases h with
    | cons h a =>
      intro i x e
      cases i with
      | zero => simp at e; subst e; exact ⟨_, rfl, h⟩
      | succ i => simpa using ih a (by simpa using e)
theorem _root_.Wk.DqAll.getV {vs : List V} {ds : List PyData} (h : DqAll K F vs ds) : ∀ {i : Nat} {v : V}, vs[i]? = some v → ∃ d, ds[i]? = some d ∧ Dq K F v d := by
  induction ds generalizing vs with
  | nil => cases h; intro i d e; simp at e
  | cons d ds ih =>
    cases h with
    | cons h a =>
      intro i x e
      cases i with
      | zero => simp at e; subst e; exact ⟨_, rfl, h⟩
      | succ i => simpa using ih a (by simpa using e)
theorem _root_.Wk.DqAll.app {vs ws : List V} {ds es : List PyData} (h : DqAll K F vs ds) (h2 : DqAll K F ws es) : DqAll K F (vs ++ ws) (ds ++ es) := by
  induction ds generalizing vs with
  | nil => cases h; exact h2
  | cons d ds ih => cases h with | cons h a => exact .cons h (ih a)
theorem _root_.Wk.DqAll.take {vs : List V} {ds : List PyData} (h : DqAll K F vs ds) : ∀ n, DqAll K F (vs.take n) (ds.take n) := by
  induction ds generalizing vs with
  | nil => cases h; intro n; simp; exact .nil
  | cons d ds ih =>
    cases h with
    | cons h a =>
      intro n
      cases n with
      | zero => exact .nil
      | succ n => exact .cons h (ih a n)
theorem _root_.Wk.DqAll.drop {vs : List V} {ds : List PyData} (h : DqAll K F vs ds) : ∀ n, DqAll K F (vs.drop n) (ds.drop n) := by
  induction ds generalizing vs with
  | nil => cases h; intro n; simp; exact .nil
  | cons d ds ih =>
    cases h with
    | cons h a =>
      intro n
      cases n with
      | zero => exact .cons h a
      | succ n => exact ih a n
theorem dp_int {v : V} {i : Int} (h : Dq K F v (.int i)) : v = .int i := by cases h; rfl
theorem dp_bl {v : V} {b : Bool} (h : Dq K F v (.bool b)) : v = .bl b := by cases h; rfl
theorem dp_non {v : V} (h : Dq K F v .none) : v = .non := by cases h; rfl
theorem dp_str {v : V} {x : Str} (h : Dq K F v (.str x)) : v = .str x := by cases h; rfl
theorem dp_lst {v : V} {ds : List PyData} (h : Dq K F v (.list ds)) : ∃ p xs, v = .ref p ∧ F p = some (.lst xs) ∧ DqAll K F xs ds := by
  cases h with | lst h a => exact ⟨_, _, rfl, h, a⟩
theorem dp_tup {v : V} {ds : List PyData} (h : Dq K F v (.tuple ds)) : ∃ p xs, v = .ref p ∧ SqT K F p xs ∧ DqAll K F xs ds := by
  cases h with | tup h a => exact ⟨_, _, rfl, h, a⟩
theorem dp_tup2 {v : V} {d e : PyData} (h : Dq K F v (.tuple [d, e])) : ∃ p x y, v = .ref p ∧ SqT K F p [x, y] ∧ Dq K F x d ∧ Dq K F y e := by
  obtain ⟨p, xs, rfl, hs, a⟩ := dp_tup h
  cases a with | cons h1 a => cases a with | cons h2 a => cases a; exact ⟨p, _, _, rfl, hs, h1, h2⟩
theorem dp_tup3 {v : V} {d e f : PyData} (h : Dq K F v (.tuple [d, e, f])) : ∃ p x y z, v = .ref p ∧ SqT K F p [x, y, z] ∧ Dq K F x d ∧ Dq K F y e ∧ Dq K F z f := by
  obtain ⟨p, xs, rfl, hs, a⟩ := dp_tup h
  cases a with | cons h1 a => cases a with | cons h2 a => cases a with | cons h3 a => cases a; exact ⟨p, _, _, _, rfl, hs, h1, h2, h3⟩
end

/-! ### new tuples, new lists -/
section
variable {K : PySem.W.Frag} {M : List Addr} {F H : Hp} {Q : VK} {xs : List V} {ds : List PyData}
theorem new_tup (e : Ex F H) (a : DqAll K F xs ds) (hl : xs.length ≤ 100000) (k : Ret M F H (fun F' _ v => Dq K F' v (.tuple ds)) Q) : xs.length ≤ sizeLine ∧ ∀ p, H p = none → Q (.ref p) (upd H p (.tup xs)) :=
  ⟨sz_of hl, fun p hp => by
    have g : Gm M F H (upd F p (.tup xs)) (upd H p (.tup xs)) := Gm.new e hp
    exact k _ _ _ g (.tup (st_of upd_same) (a.up g.f))⟩
theorem new_lst (e : Ex F H) (a : DqAll K F xs ds) (hl : xs.length ≤ 100000) (k : Ret M F H (fun F' _ v => Dq K F' v (.list ds)) Q) : xs.length ≤ sizeLine ∧ ∀ p, H p = none → Q (.ref p) (upd H p (.lst xs)) :=
  ⟨sz_of hl, fun p hp => by
    have g : Gm M F H (upd F p (.lst xs)) (upd H p (.lst xs)) := Gm.new e hp
    exact k _ _ _ g (.lst upd_same (a.up g.f))⟩
end

/-! ### encoders -/
def eN (_ : Unit) : PyData := .none
def e2 {α β : Type} (f : α → PyData) (g : β → PyData) (p : α × β) : PyData := .tuple [f p.1, g p.2]
def e1 {α : Type} (f : α → PyData) (p : α) : PyData := .tuple [f p]
def e3 {α β γ : Type} (f : α → PyData) (g : β → PyData) (h : γ → PyData) (p : α × β × γ) : PyData := .tuple [f p.1, g p.2.1, h p.2.2]
def eL {α : Type} (f : α → PyData) (l : List α) : PyData := .list (l.map f)
def eV {α : Type} (f : α → PyData) (l : List α) : PyData := .tuple (l.map f)
def eO {α : Type} (f : α → PyData) (o : Option α) : PyData := match o with
  | none => .none
  | some a => f a
/-- data of a depth at most n whose equality is that of the values -/
structure Sh {α : Type} [DecidableEq α] (f : α → PyData) (n : Nat) : Prop where
  lay : ∀ a, (f a).canLay0 = true
  dep : ∀ a, (f a).depth ≤ n
  eq : ∀ a b, PyData.eqv (f a) (f b) = decide (a = b)
section
variable {α β γ : Type} [DecidableEq α] [DecidableEq β] [DecidableEq γ] {f : α → PyData} {g : β → PyData} {h : γ → PyData} {n m k : Nat}
theorem Sh.shaped (s : Sh f n) (hn : n ≤ 64 := by decide) (a : α) : SeqAt.shaped (f a) = true := by
  unfold SeqAt.shaped
  rw [s.lay a, Bool.true_and]
  exact decide_eq_true (Nat.le_trans (s.dep a) hn)
theorem sh_int : Sh PyData.int 0 := ⟨fun _ => by simp [PyData.canLay0], fun _ => by simp [PyData.depth], fun a b => by simp only [PyData.eqv]; exact Bool.eq_iff_iff.mpr (by simp)⟩
theorem sh_bool : Sh PyData.bool 0 := ⟨fun _ => by simp [PyData.canLay0], fun _ => by simp [PyData.depth], fun a b => by simp only [PyData.eqv]; exact Bool.eq_iff_iff.mpr (by simp)⟩
theorem sh_n : Sh eN 0 := ⟨fun _ => by simp [eN, PyData.canLay0], fun _ => by simp [eN, PyData.depth], fun a b => by simp [eN, PyData.eqv]⟩
theorem sh_e2 (a : Sh f n) (b : Sh g m) : Sh (e2 f g) (max n m + 1) := ⟨fun x => by simp [e2, PyData.canLay0, PyData.canLayAll0, a.lay, b.lay], fun x => by
    have := a.dep x.1
    have := b.dep x.2
    simp [e2, PyData.depth, PyData.depthAll]
    omega, fun x y => by
    obtain ⟨x1, x2⟩ := x
    obtain ⟨y1, y2⟩ := y
    simp only [e2, PyData.eqv, PyData.eqvAll, a.eq, b.eq]
    exact Bool.eq_iff_iff.mpr (by simp)⟩
theorem sh_e3 (a : Sh f n) (b : Sh g m) (c : Sh h k) : Sh (e3 f g h) (max (max n m) k + 1) := ⟨fun x => by simp [e3, PyData.canLay0, PyData.canLayAll0, a.lay, b.lay, c.lay], fun x => by
    have := a.dep x.1
    have := b.dep x.2.1
    have := c.dep x.2.2
    simp [e3, PyData.depth, PyData.depthAll]
    omega, fun x y => by
    obtain ⟨x1, x2, x3⟩ := x
    obtain ⟨y1, y2, y3⟩ := y
    simp only [e3, PyData.eqv, PyData.eqvAll, a.eq, b.eq, c.eq]
    exact Bool.eq_iff_iff.mpr (by simp)⟩
theorem lay_map (a : Sh f n) : ∀ l : List α, PyData.canLayAll0 (l.map f) = true
  | [] => by simp [PyData.canLayAll0]
  | x :: l => by simp [PyData.canLayAll0, a.lay, lay_map a l]
theorem dep_map (a : Sh f n) : ∀ l : List α, PyData.depthAll (l.map f) ≤ n
  | [] => by simp [PyData.depthAll]
  | x :: l => by
    have := a.dep x
    have := dep_map a l
    simp [PyData.depthAll]
    omega
theorem eqv_map (a : Sh f n) : ∀ l r : List α, PyData.eqvAll (l.map f) (r.map f) = decide (l = r)
  | [], [] => by simp [PyData.eqvAll]
  | [], _ :: _ => by simp [PyData.eqvAll]
  | _ :: _, [] => by simp [PyData.eqvAll]
  | x :: l, y :: r => by
    simp only [List.map_cons, PyData.eqvAll, a.eq, eqv_map a l r]
    exact Bool.eq_iff_iff.mpr (by simp)
theorem sh_eL (a : Sh f n) : Sh (eL f) (n + 1) := ⟨fun l => by simp [eL, PyData.canLay0, lay_map a l], fun l => by
    have := dep_map a l
    simp [eL, PyData.depth]
    omega, fun l r => by simp only [eL, PyData.eqv]; exact eqv_map a l r⟩
theorem sh_eV (a : Sh f n) : Sh (eV f) (n + 1) := ⟨fun l => by simp [eV, PyData.canLay0, lay_map a l], fun l => by
    have := dep_map a l
    simp [eV, PyData.depth]
    omega, fun l r => by simp only [eV, PyData.eqv]; exact eqv_map a l r⟩
end
/-! == and != of such data -/
section
variable {X : Cx} {α : Type} [DecidableEq α] {f : α → PyData} {n : Nat}
def rEqM (K : PySem.W.Frag) (f : α → PyData) : R2 := fun x y H Q => ∃ a b : α, Dp K H x (f a) ∧ Dp K H y (f b) ∧ Q (.bl (decide (a = b))) H
def rNeM (K : PySem.W.Frag) (f : α → PyData) : R2 := fun x y H Q => ∃ a b : α, Dp K H x (f a) ∧ Dp K H y (f b) ∧ Q (.bl (!decide (a = b))) H
theorem op_eqM (s : Sh f n) (hu : X.A.units + 64 < cLine) (hn : n ≤ 64 := by decide) : OpR X (compareOp .Eq) (rEqM X.K f) := by
  intro pins st σ H x y v u Q I rx ry h
  obtain ⟨a, b, ha, hb, q⟩ := h
  exact op_eqD hu pins st σ H x y v u Q I rx ry ⟨f a, f b, ha, hb, s.shaped hn a, s.shaped hn b, by rw [s.eq]; exact q⟩
theorem op_neM (s : Sh f n) (hu : X.A.units + 64 < cLine) (hn : n ≤ 64 := by decide) : OpR X (compareOp .NotEq) (rNeM X.K f) := by
  intro pins st σ H x y v u Q I rx ry h
  obtain ⟨a, b, ha, hb, q⟩ := h
  exact op_neD hu pins st σ H x y v u Q I rx ry ⟨f a, f b, ha, hb, s.shaped hn a, s.shaped hn b, by rw [s.eq]; exact q⟩
end
end Wk

set_option Elab.async false
set_option linter.all false
set_option maxRecDepth 100000
set_option maxHeartbeats 4000000
namespace Wk
open PySem L2 Evl

/-! ### defs that are known -/
structure Kn (P : Program) (w : World) (K : PySem.W.Frag) (mg : Str → Option Value) (base : Heap) (x : Str) (k : Nat) (ps : List Str) (sp : Sp) : Prop where
  ex : ∃ f fd, FnOk P w K mg base CX0 k f fd ps sp ∧ mg x = some (.ref f) ∧ PySem.W.keepIn K (.ref f) = true ∧ Binds K fd ps []
section
variable {X : Cx} {x : Str} {k : Nat} {ps : List Str} {sp : Sp} {p pos : Pos} {e : Expr} {es : List Expr} {t : TA}
theorem pe_kn (G : Kn X.prog X.w X.K X.mg X.base x k ps sp) (hr : Room k X.A) (ha : PA X (e :: es) t) (hg : Gl X x := by rfl) (hdb : (x == ("__debug__" : Str)) = false := by decide)
    (he : starEach (e :: es) X.env = (false, eval e X.env) :: starEach es X.env := by rfl) (hpl : (backTo pos (starEach es X.env)).any (·.1) = false := by rfl) : PE X (.Call (.Name x p) (e :: es) [] pos) (tCall sp [] E0 t) := by
  obtain ⟨f, fd, F, hm, hk, hb⟩ := G.ex
  exact pe_call F hr hg hm hk hb .nil pass0 ha hdb he hpl
theorem pe_kn0 (G : Kn X.prog X.w X.K X.mg X.base x k ps sp) (hr : Room k X.A) (hg : Gl X x := by rfl) (hdb : (x == ("__debug__" : Str)) = false := by decide) : PE X (.Call (.Name x p) [] [] pos) (tCall sp [] E0 tNil) := by
  obtain ⟨f, fd, F, hm, hk, hb⟩ := G.ex
  exact pe_call0 F hr hg hm hk hb .nil pass0 hdb
end

/-! ### the row of draws -/
structure Rw where
  pos : Int
  seed : Int
  left : Int
/-- the row at ra: the script at sc, ints n -/
def RowAt (K : PySem.W.Frag) (sc ra : Addr) (scr : List Int) (F H : Hp) (st : Rw) : Prop :=
  H ra = some (.lst [.ref sc, .int st.pos, .int st.seed, .int st.left]) ∧ F ra = none ∧ SqL K F sc (scr.map V.int)
theorem RowAt.keep {K : PySem.W.Frag} {sc ra : Addr} {scr : List Int} {F H F' H' : Hp} {st : Rw} (w : RowAt K sc ra scr F H st) (g : Gm [] F H F' H') : RowAt K sc ra scr F' H' st :=
  ⟨(g.own (by simp) w.1 w.2.1).1, (g.own (by simp) w.1 w.2.1).2, ex_l g.f w.2.2⟩

/-! ### loops -/
inductive Fl (R S : Type) where
  | go (s : S)
  | brk (s : S)
  | ret (r : R)
def foldM {α S : Type} (f : S → α → Mm S) : S → List α → Mm S
  | s, [] => .ok s
  | s, x :: xs => (f s x).bd fun s' => foldM f s' xs
/-- a loop that may be left -/
def foldL {α R S : Type} (f : S → α → Mm (Fl R S)) : S → List α → Mm (Fl R S)
  | s, [] => .ok (.go s)
  | s, x :: xs => (f s x).bd fun o => match o with
    | .go s' => foldL f s' xs
    | .brk s' => .ok (.go s')
    | .ret r => .ok (.ret r)
def Fl.el {R S β : Type} (o : Fl R S) (go : S → Mm β) (ret : R → Mm β) : Mm β := match o with
  | .go s => go s
  | .brk s => go s
  | .ret r => ret r
def foldW {S : Type} (c : S → Mm Bool) (f : S → Mm S) : Nat → S → Mm S
  | 0, _ => .bad
  | n + 1, s => (c s).bd fun b => match b with
    | true => (f s).bd fun s' => foldW c f n s'
    | false => .ok s
theorem post_assoc {α β γ : Type} {m : Mm α} {f : α → Mm β} {g : β → Mm γ} {p : γ → Prop} {q : Er → Prop} (h : Post ((m.bd f).bd g) p q) : Post (m.bd fun a => (f a).bd g) p q := by
  cases m <;> exact ⟨h.h⟩
section
variable {K : PySem.W.Frag} {M : List Addr} {F H : Hp} {σ : L2.St} {D : Ends} {g : TG} {tb : TS} {α β S : Type} {xs : List V} {l : List α} {step : S → α → Mm S} {rest : S → Mm β} {ok : β → Prop} {ex : Er → Prop} {s0 : S} {J : It} {n : Nat} {G : Hp → Prop} {Y : Nat → Hp → V → Hp → Prop}
/-- a for over anything that walks, no way out but by its end; Z: what a turn finds of the i-th item -/
theorem for_mir (w : Walk J n G Y) (I : S → Hp → Hp → L2.St → Prop) (k : Post ((foldM step s0 l).bd rest) ok ex) (e : Ex F H) (h0 : I s0 F H σ) (hn : l.length = n) (hG : ∀ F' H', Gm M F H F' H' → G H')
    (hb : ∀ i s x v σ' F' H' H'' , Gm M F H F' H' → I s F' H' σ' → l[i]? = some x → Y i H' v H'' → ∀ nx : L2.St → Hp → Prop,
      Post (step s x) (fun s' => ∀ σ2 F2 H2, Gm M F H F2 H2 → I s' F2 H2 σ2 → nx σ2 H2) ex → g v σ' H'' fun σ2 H2 => tb { D with nx := nx, ct := nx, bk := D.nx } σ2 H2)
    (kk : ∀ s σ' F' H', Gm M F H F' H' → I s F' H' σ' → Post (rest s) ok ex → D.nx σ' H') :
    ∃ W : Nat → Nat → L2.St → Hp → Prop, (∃ m, W 0 m σ H) ∧ ∀ i m σ H, W i m σ H →
      (J.stop i H ∧ D.nx σ H) ∨ (J.go i H ∧ ∃ N : L2.St → Hp → Prop, (∀ σ' H', N σ' H' → ∃ m', m' < m ∧ W (i + 1) m' σ' H') ∧ ∀ x H', J.yld i H x H' → g x σ H' fun σ2 H2 => tb { D with nx := N, ct := N, bk := D.nx } σ2 H2) := by
  refine for_it w (fun i σ' H' => ∃ s F', Gm M F H F' H' ∧ I s F' H' σ' ∧ Post ((foldM step s (l.drop i)).bd rest) ok ex) ⟨s0, F, Gm.refl e, h0, k⟩ (fun i σ' H' _ ⟨s, F', g', _, _⟩ => hG F' H' g') ?_ ?_
  · rintro i v σ' H' H'' hi ⟨s, F', g', i', k'⟩ y
    have hl : i < l.length := by omega
    have e1 : l.drop i = l[i] :: l.drop (i + 1) := List.drop_eq_getElem_cons hl
    rw [e1] at k'
    have k2 := post_bd (post_assoc k')
    exact hb i s l[i] v σ' F' H' H'' g' i' (List.getElem?_eq_getElem hl) y _ (k2.mono (fun s' q σ2 F2 H2 g2 i2 => ⟨s', F2, g2, i2, q⟩) fun _ z => z)
  · rintro σ' H' ⟨s, F', g', i', k'⟩
    rw [← hn, List.drop_length] at k'
    exact kk s σ' F' H' g' i' ⟨k'.h⟩
/-- the same with ways out: brk, ret -/
theorem for_mirL {R : Type} {stepL : S → α → Mm (Fl R S)} {rest : S → Mm β} {ret : R → Mm β} (w : Walk J n G Y) (I : S → Hp → Hp → L2.St → Prop) (k : Post ((foldL stepL s0 l).bd fun o => o.el rest ret) ok ex) (e : Ex F H) (h0 : I s0 F H σ) (hn : l.length = n) (hG : ∀ F' H', Gm M F H F' H' → G H')
    (hb : ∀ i s x v σ' F' H' H'' , Gm M F H F' H' → I s F' H' σ' → l[i]? = some x → Y i H' v H'' → ∀ nx : L2.St → Hp → Prop,
      Post (stepL s x) (fun o => match o with
        | .go s' => ∀ σ2 F2 H2, Gm M F H F2 H2 → I s' F2 H2 σ2 → nx σ2 H2
        | .brk s' => ∀ σ2 F2 H2, Gm M F H F2 H2 → I s' F2 H2 σ2 → D.nx σ2 H2
        | .ret r => Post (ret r) ok ex) ex → g v σ' H'' fun σ2 H2 => tb { D with nx := nx, ct := nx, bk := D.nx } σ2 H2)
    (kk : ∀ s σ' F' H', Gm M F H F' H' → I s F' H' σ' → Post (rest s) ok ex → D.nx σ' H') :
    ∃ W : Nat → Nat → L2.St → Hp → Prop, (∃ m, W 0 m σ H) ∧ ∀ i m σ H, W i m σ H →
      (J.stop i H ∧ D.nx σ H) ∨ (J.go i H ∧ ∃ N : L2.St → Hp → Prop, (∀ σ' H', N σ' H' → ∃ m', m' < m ∧ W (i + 1) m' σ' H') ∧ ∀ x H', J.yld i H x H' → g x σ H' fun σ2 H2 => tb { D with nx := N, ct := N, bk := D.nx } σ2 H2) := by
  refine for_it w (fun i σ' H' => ∃ s F', Gm M F H F' H' ∧ I s F' H' σ' ∧ Post ((foldL stepL s (l.drop i)).bd fun o => o.el rest ret) ok ex) ⟨s0, F, Gm.refl e, h0, k⟩ (fun i σ' H' _ ⟨s, F', g', _, _⟩ => hG F' H' g') ?_ ?_
  · rintro i v σ' H' H'' hi ⟨s, F', g', i', k'⟩ y
    have hl : i < l.length := by omega
    have e1 : l.drop i = l[i] :: l.drop (i + 1) := List.drop_eq_getElem_cons hl
    rw [e1] at k'
    have k2 := post_bd (post_assoc k')
    refine hb i s l[i] v σ' F' H' H'' g' i' (List.getElem?_eq_getElem hl) y _ (k2.mono (fun o q => ?_) fun _ z => z)
    cases o with
    | go s' => exact fun σ2 F2 H2 g2 i2 => ⟨s', F2, g2, i2, ⟨q.h⟩⟩
    | brk s' => exact fun σ2 F2 H2 g2 i2 => kk s' σ2 F2 H2 g2 i2 ⟨q.h⟩
    | ret r => exact ⟨q.h⟩
  · rintro σ' H' ⟨s, F', g', i', k'⟩
    rw [← hn, List.drop_length] at k'
    exact kk s σ' F' H' g' i' ⟨k'.h⟩
/-- a while -/
theorem while_mir {c : TT} {cM : S → Mm Bool} {bM : S → Mm S} {N : Nat} (I : S → Hp → Hp → L2.St → Prop) (k : Post ((foldW cM bM N s0).bd rest) ok ex) (e : Ex F H) (h0 : I s0 F H σ)
    (hc : ∀ s σ' F' H', Gm M F H F' H' → I s F' H' σ' → ∀ Q : Bool → Hp → Prop, Post (cM s) (fun b => ∀ F2 H2, Gm M F H F2 H2 → I s F2 H2 σ' → Q b H2) ex → c σ' H' Q)
    (hb : ∀ s σ' F' H', Gm M F H F' H' → I s F' H' σ' → ∀ nx : L2.St → Hp → Prop, Post (bM s) (fun s' => ∀ σ2 F2 H2, Gm M F H F2 H2 → I s' F2 H2 σ2 → nx σ2 H2) ex → tb { D with nx := nx, ct := nx, bk := D.nx } σ' H')
    (kk : ∀ s σ' F' H', Gm M F H F' H' → I s F' H' σ' → Post (rest s) ok ex → D.nx σ' H') : tWhile c tb D σ H := by
  refine ⟨fun m σ' H' => ∃ s F', Gm M F H F' H' ∧ I s F' H' σ' ∧ Post ((foldW cM bM m s).bd rest) ok ex, ⟨N, s0, F, Gm.refl e, h0, k⟩, ?_⟩
  rintro m σ' H' ⟨s, F', g', i', k'⟩
  cases m with
  | zero => exact k'.h.elim
  | succ m =>
    refine hc s σ' F' H' g' i' _ ((post_bd (post_assoc k')).mono (fun b q F2 H2 g2 i2 => ?_) fun _ z => z)
    cases b with
    | false => exact kk s σ' F2 H2 g2 i2 ⟨q.h⟩
    | true =>
      refine ⟨fun σ2 H2 => ∃ s F', Gm M F H F' H2 ∧ I s F' H2 σ2 ∧ Post ((foldW cM bM m s).bd rest) ok ex, fun σ2 H2 ⟨s', F3, z⟩ => ⟨m, Nat.lt_succ_self _, s', F3, z⟩, ?_⟩
      exact hb s σ' F2 H2 g2 i2 _ ((post_bd (post_assoc (Post.mk q.h))).mono (fun s' q' σ2 F3 H3 g3 i3 => ⟨s', F3, g3, i3, q'⟩) fun _ z => z)
end

/-! ### comprehensions -/
def noEx {α : Type} (m : Mm α) : Mm α := match m with
  | .ex _ => .bad
  | .ok a => .ok a
  | .bad => .bad
theorem post_noEx {α : Type} {m : Mm α} {p : α → Prop} {q q' : Er → Prop} (h : Post (noEx m) p q) : Post m p q' := by
  cases m with
  | ok a => exact ⟨h.h⟩
  | ex e => exact h.h.elim
  | bad => exact h.h.elim
/-- the elements in turn; a state goes through; none: left out -/
def compM {α γ S : Type} (f : S → α → Mm (Option γ × S)) : S → List α → Mm (List γ × S)
  | s, [] => .ok ([], s)
  | s, x :: xs => (f s x).bd fun o => (compM f o.2 xs).bd fun r => .ok (o.1.toList ++ r.1, r.2)
section
variable {K : PySem.W.Frag} {M : List Addr} {F H : Hp} {σ : L2.St} {g : TG} {tt : TT} {te : TE} {vs : List Nat} {α β γ S : Type} {l : List α} {f : S → α → Mm (Option γ × S)} {rest : List γ × S → Mm β} {ok : β → Prop} {ex : Er → Prop} {s0 : S} {J : It} {n : Nat} {G : Hp → Prop} {Y : Nat → Hp → V → Hp → Prop} {Q : VK}
theorem comp_post {acc : List γ} {s : S} {l : List α} {rest : List γ × S → Mm β} : ∀ {ok : β → Prop} {ex : Er → Prop} {f : S → α → Mm (Option γ × S)} {x : α},
    Post (((compM f s (x :: l)).bd fun r => rest (acc ++ r.1, r.2))) ok ex → Post (f s x) (fun o => Post ((compM f o.2 l).bd fun r => rest ((acc ++ o.1.toList) ++ r.1, r.2)) ok ex) ex := by
  intro ok ex f x h
  have h1 := post_bd (post_assoc h)
  refine h1.mono (fun o q => ?_) fun _ z => z
  have h2 := post_assoc q
  simpa only [bd_ok, List.append_assoc] using h2
/-- what a comprehension's state asks of its word: a younger object may change, may be fixed -/
structure Stab (I : S → Hp → Hp → Prop) (H : Hp) : Prop where
  put : ∀ s F' H' D xs, I s F' H' → H D = none → I s F' (upd H' D (.lst xs))
  fix : ∀ s F' H' D xs, I s F' H' → H D = none → F' D = none → I s (upd F' D (.lst xs)) H'
/-- a comprehension: enc: how an element is told -/
theorem lc_mir (w : Walk J n G Y) (en : γ → PyData) (I : S → Hp → Hp → Prop) (k : Post ((compM f s0 l).bd rest) ok ex) (e : Ex F H) (h0 : I s0 F H) (st : Stab I H) (hn : l.length = n) (hz : l.length ≤ 50000) (hG : ∀ F' H', Gm M F H F' H' → G H')
    (hM : ∀ D, H D = none → D ∉ M)
    (hb : ∀ i s x v F' H' H'', Gm M F H F' H' → I s F' H' → l[i]? = some x → Y i H' v H'' → ∀ Q : Option V → Hp → Prop,
      Post (f s x) (fun o => ∀ F2 H2 v, Gm M F' H' F2 H2 → I o.2 F2 H2 → (match o.1 with
        | some y => ∃ u, v = some u ∧ Dq K F2 u (en y)
        | none => v = none) → Q v H2) (fun _ => False) →
      g v (wipe σ vs) H'' fun σ2 H2 => wipe σ2 vs = wipe σ vs ∧ tt σ2 H2 fun b H3 => if b = true then te σ2 H3 fun y H4 => Q (some y) H4 else Q none H3)
    (hx : ∀ e, ¬ ex e)
    (kk : ∀ (r : List γ × S) v F' H', Gm M F H F' H' → I r.2 F' H' → Dq K F' v (.list (r.1.map en)) → Post (rest r) ok ex → Q v H') :
    ∀ D, H D = none → ∃ W : Nat → Nat → Hp → Prop, (∃ m, W 0 m (upd H D (.lst []))) ∧ ∀ i m H, W i m H →
      (J.stop i H ∧ Q (.ref D) H) ∨ (J.go i H ∧ ∃ Nx : Hp → Prop, (∀ H', Nx H' → ∃ m', m' < m ∧ W (i + 1) m' H') ∧ ∀ x H', J.yld i H x H' → g x (wipe σ vs) H' fun σ2 H2 => wipe σ2 vs = wipe σ vs ∧ tt σ2 H2 fun b H3 =>
        if b = true then te σ2 H3 fun y H4 => ∃ acc, H4 D = some (.lst acc) ∧ acc.length < sizeLine ∧ Nx (upd H4 D (.lst (acc ++ [y]))) else Nx H3) := by
  intro D hD
  have k0 : Post ((compM f s0 (l.drop 0)).bd fun r => rest ([] ++ r.1, r.2)) ok ex := by simpa using k
  refine lc_it w (fun i H' => ∃ (s : S) (acc : List γ) (xs : List V) (F' : Hp), Gm M F H F' H' ∧ I s F' H' ∧ H' D = some (.lst xs) ∧ F' D = none ∧ DqAll K F' xs (acc.map en) ∧ xs.length ≤ i ∧ Post ((compM f s (l.drop i)).bd fun r => rest (acc ++ r.1, r.2)) ok ex)
    ⟨s0, [], [], F, Gm.newM e hD, st.put s0 F H D _ h0 hD, upd_same, ?_, .nil, Nat.le_refl _, k0⟩ (fun i H' _ ⟨s, acc, xs, F', g', _⟩ => hG F' H' g') ?_ ?_
  · cases q : F D with
    | none => rfl
    | some u => rw [e D u q] at hD; cases hD
  · rintro i v H' H'' hi ⟨s, acc, xs, F', g', i', hL, fL, ha, hlen, k'⟩ y
    have hl : i < l.length := by omega
    have e1 : l.drop i = l[i] :: l.drop (i + 1) := List.drop_eq_getElem_cons hl
    rw [e1] at k'
    have k2 := comp_post k'
    have hDM : D ∉ M := hM D hD
    have z := hb i s l[i] v F' H' H'' g' i' (List.getElem?_eq_getElem hl) y (fun o H4 => match o with
      | some y => ∃ acc', H4 D = some (.lst acc') ∧ acc'.length < sizeLine ∧ ∃ (s : S) (acc : List γ) (xs : List V) (F' : Hp), Gm M F H F' (upd H4 D (.lst (acc' ++ [y]))) ∧ I s F' (upd H4 D (.lst (acc' ++ [y]))) ∧ (upd H4 D (.lst (acc' ++ [y]))) D = some (.lst xs) ∧ F' D = none ∧ DqAll K F' xs (acc.map en) ∧ xs.length ≤ i + 1 ∧ Post ((compM f s (l.drop (i + 1))).bd fun r => rest (acc ++ r.1, r.2)) ok ex
      | none => ∃ (s : S) (acc : List γ) (xs : List V) (F' : Hp), Gm M F H F' H4 ∧ I s F' H4 ∧ H4 D = some (.lst xs) ∧ F' D = none ∧ DqAll K F' xs (acc.map en) ∧ xs.length ≤ i + 1 ∧ Post ((compM f s (l.drop (i + 1))).bd fun r => rest (acc ++ r.1, r.2)) ok ex)
      (k2.mono (fun o q F2 H2 v2 g2 i2 hv => ?_) fun e z => (hx e z).elim)
    · exact z
    · obtain ⟨h2L, f2L⟩ := g2.own hDM hL fL
      obtain ⟨o1, o2⟩ := o
      cases o1 with
      | some y =>
        obtain ⟨u, rfl, hu⟩ := hv
        refine ⟨xs, h2L, sz_lt (by omega), o2, acc ++ [y], xs ++ [u], F2, ?_, st.put _ _ _ _ _ i2 hD, upd_same, f2L, ?_, ?_, ?_⟩
        · exact (g'.trans g2).putYoung h2L f2L hD
        · rw [List.map_append]; exact (ha.up g2.f).app (.cons hu .nil)
        · rw [List.length_append, List.length_singleton]; omega
        · simpa using q
      | none =>
        subst hv
        refine ⟨o2, acc, xs, F2, g'.trans g2, i2, h2L, f2L, ha.up g2.f, by omega, ?_⟩
        simpa using q
  · rintro H' ⟨s, acc, xs, F', g', i', hL, fL, ha, hlen, k'⟩
    rw [← hn, List.drop_length] at k'
    have up : Ex F' (upd F' D (.lst xs)) := Ex.new fL
    exact kk (acc, s) _ (upd F' D (.lst xs)) H' (g'.fix hL fL hD) (st.fix _ _ _ _ _ i' hD fL) (.lst upd_same (ha.up up)) (by simpa [compM] using k')
theorem stab_row {K : PySem.W.Frag} {sc ra : Addr} {scr : List Int} {F H : Hp} {st : Rw} (w : RowAt K sc ra scr F H st) : Stab (fun s F H => RowAt K sc ra scr F H s) H := by
  have ne : ∀ D, H D = none → ra ≠ D := fun D hD q => by
    have z := w.1
    rw [q, hD] at z
    cases z
  refine ⟨fun s F' H' D xs i hD => ⟨?_, i.2.1, i.2.2⟩, fun s F' H' D xs i hD hf => ⟨i.1, ?_, ex_l (Ex.new hf) i.2.2⟩⟩
  · rw [upd_ne (ne D hD)]; exact i.1
  · rw [upd_ne (ne D hD)]; exact i.2.1
theorem stab_t {H : Hp} : Stab (fun (_ : Unit) _ _ => True) H := ⟨fun _ _ _ _ _ _ _ => trivial, fun _ _ _ _ _ _ _ _ => trivial⟩
theorem row_notM {K : PySem.W.Frag} {sc ra : Addr} {scr : List Int} {F H : Hp} {st : Rw} (w : RowAt K sc ra scr F H st) : ∀ D, H D = none → D ∉ [ra] := fun D hD q => by
  have z := w.1
  have e : D = ra := by simpa using q
  rw [← e, hD] at z
  cases z
end
end Wk

set_option Elab.async false
set_option linter.all false
set_option maxRecDepth 100000
set_option maxHeartbeats 4000000
namespace Wk
open PySem L2 Evl
/-! ### what follows, under a name -/
def QK (Q : VK) : VK := fun v H => Q v H
def tQ (te : TE) : TE := fun σ H Q => te σ H (QK Q)
section
variable {X : Cx} {x : Expr} {te : TE} {st : Stmt} {g : TG}
theorem pe_q (h : PE X x te) : PE X x (tQ te) := ⟨fun pins s σ H Q I q => h.run pins s σ H (QK Q) I q⟩
theorem ps_q (h : PS X st (tAsg te g)) : PS X st (tAsg (tQ te) g) := ⟨fun pins s σ H D I q => h.run pins s σ H D I q⟩
end
/-! ### joins -/
section
variable {M : List Addr} {F H : Hp} {σ : L2.St} {D : Ends} {α β : Type} {c a b : Bool} {A B : Prop} {X Y : Mm β} {rest : β → Mm α} {ok : α → Prop} {ex : Er → Prop} {Q : VK} {ta tb : TE} {tu tw : TS}
theorem cs {X Y : Mm α} (k : Post (cond c X Y) ok ex) (h1 : c = true → Post X ok ex → A) (h2 : c = false → Post Y ok ex → B) : if c = true then A else B := by
  cases c with
  | true => rw [if_pos rfl]; exact h1 rfl ⟨k.h⟩
  | false => rw [if_neg Bool.false_ne_true]; exact h2 rfl ⟨k.h⟩
theorem or_j {Q : Bool → Hp → Prop} {u : TT} (hu : a = false → ∀ Q' : Bool → Hp → Prop, Q' b H → u σ H Q') (k : Q (a || b) H) : if a = true then Q true H else u σ H Q := by
  cases a with
  | true => rw [if_pos rfl]; exact k
  | false => rw [if_neg Bool.false_ne_true]; exact hu rfl Q k
theorem and_j {Q : Bool → Hp → Prop} {u : TT} (hu : a = true → ∀ Q' : Bool → Hp → Prop, Q' b H → u σ H Q') (k : Q (a && b) H) : if a = true then u σ H Q else Q false H := by
  cases a with
  | true => rw [if_pos rfl]; exact hu rfl Q k
  | false => rw [if_neg Bool.false_ne_true]; exact k
theorem orV_j {u : TE} (hu : a = false → ∀ Q' : VK, Q' (.bl b) H → u σ H Q') (k : Q (.bl (a || b)) H) : if a = true then Q (.bl true) H else u σ H Q := by
  cases a with
  | true => rw [if_pos rfl]; exact k
  | false => rw [if_neg Bool.false_ne_true]; exact hu rfl Q k
theorem andV_j {u : TE} (hu : a = true → ∀ Q' : VK, Q' (.bl b) H → u σ H Q') (k : Q (.bl (a && b)) H) : if a = true then u σ H Q else Q (.bl false) H := by
  cases a with
  | true => rw [if_pos rfl]; exact hu rfl Q k
  | false => rw [if_neg Bool.false_ne_true]; exact k
/-- the second operand wants outcomes of its own -/
theorem or_jM {Q : Bool → Hp → Prop} {u : TT} {Y : Mm Bool} {rest : Bool → Mm α} (e : Ex F H) (k : Post ((cond a (.ok true) Y).bd rest) ok ex) (hu : a = false → ∀ Q' : Bool → Hp → Prop, Post Y (fun b => ∀ F' H', Gm M F H F' H' → Q' b H') ex → u σ H Q')
    (kk : ∀ b F' H', Gm M F H F' H' → Post (rest b) ok ex → Q b H') : if a = true then Q true H else u σ H Q := by
  cases a with
  | true => rw [if_pos rfl]; exact kk true F H (Gm.refl e) ⟨k.h⟩
  | false => rw [if_neg Bool.false_ne_true]; exact hu rfl Q ((post_bd k).mono (fun b q F' H' g => kk b F' H' g q) fun _ z => z)
theorem and_jM {Q : Bool → Hp → Prop} {u : TT} {Y : Mm Bool} {rest : Bool → Mm α} (e : Ex F H) (k : Post ((cond a Y (.ok false)).bd rest) ok ex) (hu : a = true → ∀ Q' : Bool → Hp → Prop, Post Y (fun b => ∀ F' H', Gm M F H F' H' → Q' b H') ex → u σ H Q')
    (kk : ∀ b F' H', Gm M F H F' H' → Post (rest b) ok ex → Q b H') : if a = true then u σ H Q else Q false H := by
  cases a with
  | false => rw [if_neg Bool.false_ne_true]; exact kk false F H (Gm.refl e) ⟨k.h⟩
  | true => rw [if_pos rfl]; exact hu rfl Q ((post_bd k).mono (fun b q F' H' g => kk b F' H' g q) fun _ z => z)
/-- a value by a condition -/
theorem if_jM (S : β → Hp → Hp → V → Prop) (k : Post ((cond c X Y).bd rest) ok ex)
    (ha : c = true → ∀ Q' : VK, Post X (fun b => Ret M F H (S b) Q') ex → ta σ H Q') (hb : c = false → ∀ Q' : VK, Post Y (fun b => Ret M F H (S b) Q') ex → tb σ H Q')
    (kk : ∀ b v F' H', Gm M F H F' H' → S b F' H' v → Post (rest b) ok ex → Q v H') : if c = true then ta σ H Q else tb σ H Q := by
  cases c with
  | true => rw [if_pos rfl]; exact ha rfl Q ((post_bd k).mono (fun b q v F' H' g s => kk b v F' H' g s q) fun _ z => z)
  | false => rw [if_neg Bool.false_ne_true]; exact hb rfl Q ((post_bd k).mono (fun b q v F' H' g s => kk b v F' H' g s q) fun _ z => z)
/-- an if whose ways go on -/
theorem ifs_jM (I : β → Hp → Hp → L2.St → Prop) (k : Post ((cond c X Y).bd rest) ok ex)
    (ha : c = true → ∀ nx : L2.St → Hp → Prop, Post X (fun b => ∀ σ' F' H', Gm M F H F' H' → I b F' H' σ' → nx σ' H') ex → tu { D with nx := nx } σ H)
    (hb : c = false → ∀ nx : L2.St → Hp → Prop, Post Y (fun b => ∀ σ' F' H', Gm M F H F' H' → I b F' H' σ' → nx σ' H') ex → tw { D with nx := nx } σ H)
    (kk : ∀ b σ' F' H', Gm M F H F' H' → I b F' H' σ' → Post (rest b) ok ex → D.nx σ' H') : if c = true then tu D σ H else tw D σ H := by
  cases c with
  | true => rw [if_pos rfl]; exact ha rfl D.nx ((post_bd k).mono (fun b q σ' F' H' g s => kk b σ' F' H' g s q) fun _ z => z)
  | false => rw [if_neg Bool.false_ne_true]; exact hb rfl D.nx ((post_bd k).mono (fun b q σ' F' H' g s => kk b σ' F' H' g s q) fun _ z => z)
end
/-! ### items of data -/
section
variable {K : PySem.W.Frag} {F : Hp} {α : Type} {f : α → PyData} {l : List α} {vs : List V} {a : α} {i : Int}
theorem atI_at {α : Type} {xs : List α} {i : Int} {a : α} (h : atI xs i = some a) : ∃ j, ixN xs.length i = some j ∧ xs[j]? = some a := by
  unfold atI at h
  cases e : ixN xs.length i with
  | none => rw [e] at h; cases h
  | some j => rw [e] at h; exact ⟨j, rfl, h⟩
theorem dq_at (ha : DqAll K F vs (l.map f)) (h : atI l i = some a) : ∃ v, atI vs i = some v ∧ Dq K F v (f a) := by
  obtain ⟨j, hj, hg⟩ := atI_at h
  have hl : vs.length = l.length := by rw [ha.len, List.length_map]
  obtain ⟨v, hv, hd⟩ := ha.get (i := j) (d := f a) (by rw [List.getElem?_map, hg]; rfl)
  refine ⟨v, ?_, hd⟩
  unfold atI
  rw [hl, hj]
  exact hv
theorem atI_ints {l : List Int} (h : atI l i = some a') : atI (l.map V.int) i = some (V.int a') := by
  obtain ⟨j, hj, hg⟩ := atI_at h
  unfold atI
  rw [List.length_map, hj]
  show (l.map V.int)[j]? = _
  rw [List.getElem?_map, hg]
  rfl
end
/-! ### heaps, more -/
section
variable {M : List Addr} {F H F1 H1 F0 H0 : Hp}
/-- behind a loop that may change the younger object at p -/
theorem Gm.young {p : Addr} (g : Gm M F0 H0 F H) (h0 : H0 p = none) (g2 : Gm (p :: M) F H F1 H1) : Gm M F0 H0 F1 H1 :=
  ⟨g.f.trans g2.f, g2.s, fun a o hM h => g2.h a o (fun q => by
      rcases List.mem_cons.mp q with q | q
      · rw [q, h0] at h; cases h
      · exact hM q) (g.h a o hM h), fun a o h hn => by
    obtain ⟨o', h'⟩ := g.m a o h
    exact g2.n a o' h' (g.n a o h hn), fun a o h => by
    obtain ⟨o', h'⟩ := g.m a o h
    exact g2.m a o' h'⟩
theorem Gm.putIn (g : Gm M F0 H0 F H) {p : Addr} {o u : HO} (hp : p ∈ M) (h : H p = some u) (hf : F p = none) : Gm M F0 H0 F (upd H p o) := by
  refine ⟨g.f, fun a u ha => ?_, fun a u hM ha => ?_, g.n, fun a u ha => ?_⟩
  · have q : a ≠ p := fun q => by rw [q, hf] at ha; cases ha
    rw [upd_ne q]; exact g.s a u ha
  · have q : a ≠ p := fun q => hM (by rw [q]; exact hp)
    rw [upd_ne q]; exact g.h a u hM ha
  · by_cases q : a = p
    · subst q; exact ⟨o, upd_same⟩
    · obtain ⟨o', h'⟩ := g.m a u ha
      exact ⟨o', by rw [upd_ne q]; exact h'⟩
end
/-! ### built-ins by name -/
structure Bi (mg : Str → Option Value) : Prop where
  len : mg "len" = none
  int : mg "int" = none
  bool : mg "bool" = none
  str : mg "str" = none
  abs : mg "abs" = none
  sum : mg "sum" = none
  min : mg "min" = none
  max : mg "max" = none
  list : mg "list" = none
  tuple : mg "tuple" = none
  set : mg "set" = none
  dict : mg "dict" = none
  sorted : mg "sorted" = none
  range : mg "range" = none
  enumerate : mg "enumerate" = none
  zip : mg "zip" = none
  reversed : mg "reversed" = none
  isinstance : mg "isinstance" = none
end Wk

set_option Elab.async false
set_option linter.all false
set_option maxRecDepth 100000
set_option maxHeartbeats 4000000
namespace Wk
open PySem L2 Evl
theorem Gm.weak {M M' : List Addr} {F H F' H' : Hp} (g : Gm M F H F' H') (h : ∀ a, a ∈ M → a ∈ M') : Gm M' F H F' H' := ⟨g.f, g.s, fun a o hM e => g.h a o (fun q => hM (h a q)) e, g.n, g.m⟩
/-! ### ranges -/
def rangeL (lo : Int) (n : Nat) : List Int := (List.range n).map fun (i : Nat) => lo + (i : Int)
def rangeM (j : Int) : Mm (List Int) := if -(2 ^ 62) ≤ j ∧ j < 2 ^ 62 then .ok (rangeL 0 j.toNat) else .bad
def rangeM2 (i j : Int) : Mm (List Int) := if -(2 ^ 62) ≤ i ∧ i < 2 ^ 62 ∧ -(2 ^ 62) ≤ j ∧ j < 2 ^ 62 then .ok (rangeL i (j - i).toNat) else .bad
section
variable {β : Type} {r : β → Prop} {q : Er → Prop} {i j : Int} {f : List Int → Mm β}
theorem post_range (h : Post ((rangeM j).bd f) r q) : (-(2 ^ 62) ≤ j ∧ j < 2 ^ 62) ∧ Post (f (rangeL 0 j.toNat)) r q := by
  unfold rangeM at h
  split at h
  · exact ⟨‹_›, ⟨h.h⟩⟩
  · exact h.h.elim
theorem post_range2 (h : Post ((rangeM2 i j).bd f) r q) : (-(2 ^ 62) ≤ i ∧ i < 2 ^ 62 ∧ -(2 ^ 62) ≤ j ∧ j < 2 ^ 62) ∧ Post (f (rangeL i (j - i).toNat)) r q := by
  unfold rangeM2 at h
  split at h
  · exact ⟨‹_›, ⟨h.h⟩⟩
  · exact h.h.elim
end
/-! ### fors over data, one form -/
/-- what a for or a comprehension walks over, as a list of data; R: what stands of an item -/
structure Wlk (M : List Addr) (F H : Hp) (J : It) {α : Type} (l : List α) (R : Hp → V → α → Prop) : Prop where
  ex : ∃ (n : Nat) (G : Hp → Prop) (Y : Nat → Hp → V → Hp → Prop), Walk J n G Y ∧ l.length = n ∧ (∀ F' H', Gm M F H F' H' → G H') ∧
    ∀ i x v F' H' H'', Gm M F H F' H' → l[i]? = some x → Y i H' v H'' → ∃ F'', Gm [] F' H' F'' H'' ∧ R F'' v x
section
variable {K : PySem.W.Frag} {M : List Addr} {F H : Hp} {σ : L2.St} {D : Ends} {g : TG} {tb : TS} {α β S : Type} {xs ys : List V} {l : List α} {step : S → α → Mm S} {rest : S → Mm β} {ok : β → Prop} {ex : Er → Prop} {s0 : S} {J : It} {R : Hp → V → α → Prop} {en : α → PyData} {a b : Addr}
theorem wlk_list (e : Ex F H) (h : F a = some (.lst xs)) (da : DqAll K F xs (l.map en)) : Wlk M F H (Itl K a) l (fun F v x => Dq K F v (en x)) := by
  refine ⟨_, _, _, walk_list (K := K) (a := a) (xs := xs), by rw [da.len, List.length_map], fun F' H' g' => sq_of (g'.s _ _ (g'.f _ _ h)), fun i x v F' H' H'' g' hx y => ?_⟩
  obtain ⟨rfl, hv⟩ := y
  obtain ⟨d, hd, hq⟩ := (da.up g'.f).getV hv
  rw [List.getElem?_map, hx] at hd
  cases hd
  exact ⟨F', Gm.refl g'.s, hq⟩
theorem wlk_tup (e : Ex F H) (h : SqT K F a xs) (da : DqAll K F xs (l.map en)) : Wlk M F H (Itt K a) l (fun F v x => Dq K F v (en x)) := by
  refine ⟨_, _, _, walk_tup (K := K) (a := a) (xs := xs), by rw [da.len, List.length_map], fun F' H' g' => ex_t g'.s (ex_t g'.f h), fun i x v F' H' H'' g' hx y => ?_⟩
  obtain ⟨rfl, hv⟩ := y
  obtain ⟨d, hd, hq⟩ := (da.up g'.f).getV hv
  rw [List.getElem?_map, hx] at hd
  cases hd
  exact ⟨F', Gm.refl g'.s, hq⟩
theorem rangeL_at {lo : Int} {n i : Nat} {x : Int} (h : (rangeL lo n)[i]? = some x) : x = lo + i := by
  unfold rangeL at h
  rw [List.getElem?_map] at h
  cases e : (List.range n)[i]? with
  | none => rw [e] at h; cases h
  | some j =>
    rw [e] at h
    obtain ⟨h1, h2⟩ := List.getElem?_eq_some_iff.mp e
    rw [List.getElem_range] at h2
    subst h2
    exact (Option.some.inj h).symm
theorem wlk_range {lo : Int} {n : Nat} : Wlk M F H (Itr lo n) (rangeL lo n) (fun _ v x => v = V.int x) := by
  refine ⟨_, _, _, walk_range (lo := lo) (n := n), by simp [rangeL], fun _ _ _ => trivial, fun i x v F' H' H'' g' hx y => ?_⟩
  obtain ⟨rfl, hv⟩ := y
  rw [rangeL_at hx]
  exact ⟨F', Gm.refl g'.s, hv⟩
theorem wlk_rev (e : Ex F H) (h : F a = some (.lst xs)) (da : DqAll K F xs (l.map en)) : Wlk M F H (Itv K a xs.length) l.reverse (fun F v x => Dq K F v (en x)) := by
  have hl : xs.length = l.length := by rw [da.len, List.length_map]
  refine ⟨_, _, _, walk_rev (K := K) (a := a) (xs := xs), by rw [List.length_reverse, hl], fun F' H' g' => sq_of (g'.s _ _ (g'.f _ _ h)), fun i x v F' H' H'' g' hx y => ?_⟩
  obtain ⟨rfl, hv⟩ := y
  obtain ⟨d, hd, hq⟩ := (da.up g'.f).getV hv
  have hi : i < l.reverse.length := (List.getElem?_eq_some_iff.mp hx).1
  rw [List.length_reverse] at hi
  rw [List.getElem?_reverse hi] at hx
  rw [List.getElem?_map, hl, hx] at hd
  cases hd
  exact ⟨F', Gm.refl g'.s, hq⟩
/-- enumerate: the items (i, x) -/
def enumL {α : Type} (l : List α) : List (Int × α) := (rangeL 0 l.length).zip l
theorem wlk_enum (e : Ex F H) (h : F a = some (.lst xs)) (da : DqAll K F xs (l.map en)) : Wlk M F H (Ite K a) (enumL l) (fun F v x => Dq K F v (e2 PyData.int en x)) := by
  have hl : xs.length = l.length := by rw [da.len, List.length_map]
  refine ⟨_, _, _, walk_enum (K := K) (a := a) (xs := xs), by simp [enumL, rangeL, hl], fun F' H' g' => sq_of (g'.s _ _ (g'.f _ _ h)), fun i x v F' H' H'' g' hx y => ?_⟩
  obtain ⟨T, u, w, rfl, hT, rfl, h1, h2⟩ := y
  obtain ⟨d, hd, hq⟩ := (da.up g'.f).getV h2
  obtain ⟨x1, x2⟩ := x
  unfold enumL at hx
  rw [List.getElem?_zip_eq_some] at hx
  obtain ⟨hx1, hx2⟩ := hx
  have e1 := rangeL_at hx1
  simp only at e1 hx2
  rw [List.getElem?_map, hx2] at hd
  cases hd
  cases h1
  have g2 : Gm [] F' H' (upd F' T (.tup [V.int (i : Nat), w])) (upd H' T (.tup [V.int (i : Nat), w])) := Gm.new g'.s hT
  refine ⟨_, g2, .tup (st_of upd_same) (.cons ?_ (.cons (hq.up g2.f) .nil))⟩
  rw [e1, Int.zero_add]
  exact .int _
theorem wlk_zip {α' : Type} {l' : List α'} {en' : α' → PyData} (e : Ex F H) (h : F a = some (.lst xs)) (da : DqAll K F xs (l.map en)) (h' : F b = some (.lst ys)) (da' : DqAll K F ys (l'.map en')) : Wlk M F H (Itz K a b) (l.zip l') (fun F v x => Dq K F v (e2 en en' x)) := by
  have hl : xs.length = l.length := by rw [da.len, List.length_map]
  have hl' : ys.length = l'.length := by rw [da'.len, List.length_map]
  refine ⟨_, _, _, walk_zip (K := K) (a := a) (b := b) (xs := xs) (ys := ys) rfl, by simp [hl, hl'], fun F' H' g' => ⟨sq_of (g'.s _ _ (g'.f _ _ h)), sq_of (g'.s _ _ (g'.f _ _ h'))⟩, fun i x v F' H' H'' g' hx y => ?_⟩
  obtain ⟨T, u, w, rfl, hT, rfl, h1, h2⟩ := y
  obtain ⟨d, hd, hq⟩ := (da.up g'.f).getV h1
  obtain ⟨d', hd', hq'⟩ := (da'.up g'.f).getV h2
  obtain ⟨x1, x2⟩ := x
  rw [List.getElem?_zip_eq_some] at hx
  obtain ⟨hx1, hx2⟩ := hx
  simp only at hx1 hx2
  rw [List.getElem?_map, hx1] at hd
  rw [List.getElem?_map, hx2] at hd'
  cases hd
  cases hd'
  have g2 : Gm [] F' H' (upd F' T (.tup [u, w])) (upd H' T (.tup [u, w])) := Gm.new g'.s hT
  exact ⟨_, g2, .tup (st_of upd_same) (.cons (hq.up g2.f) (.cons (hq'.up g2.f) .nil))⟩
/-- a for with no way out but its end -/
theorem for_m (w : Wlk M F H J l R) (I : S → Hp → Hp → L2.St → Prop) (k : Post ((foldM step s0 l).bd rest) ok ex) (e : Ex F H) (h0 : I s0 F H σ)
    (hb : ∀ s x v σ' F1 H1 F2 H2, Gm M F H F1 H1 → I s F1 H1 σ' → Gm [] F1 H1 F2 H2 → R F2 v x → ∀ nx : L2.St → Hp → Prop,
      Post (step s x) (fun s' => ∀ σ2 F3 H3, Gm M F H F3 H3 → I s' F3 H3 σ2 → nx σ2 H3) ex → g v σ' H2 fun σ2 H3 => tb { D with nx := nx, ct := nx, bk := D.nx } σ2 H3)
    (kk : ∀ s σ' F' H', Gm M F H F' H' → I s F' H' σ' → Post (rest s) ok ex → D.nx σ' H') :
    ∃ W : Nat → Nat → L2.St → Hp → Prop, (∃ m, W 0 m σ H) ∧ ∀ i m σ H, W i m σ H →
      (J.stop i H ∧ D.nx σ H) ∨ (J.go i H ∧ ∃ N : L2.St → Hp → Prop, (∀ σ' H', N σ' H' → ∃ m', m' < m ∧ W (i + 1) m' σ' H') ∧ ∀ x H', J.yld i H x H' → g x σ H' fun σ2 H2 => tb { D with nx := N, ct := N, bk := D.nx } σ2 H2) := by
  obtain ⟨n, G, Y, w, hn, hG, hY⟩ := w.ex
  refine for_mir w I k e h0 hn hG (fun i s x v σ' F' H' H'' g' i' hx y nx k' => ?_) kk
  obtain ⟨F'', g2, r⟩ := hY i x v F' H' H'' g' hx y
  exact hb s x v σ' F' H' F'' H'' g' i' g2 r nx k'
theorem for_mL {R' : Type} {stepL : S → α → Mm (Fl R' S)} {ret : R' → Mm β} (w : Wlk M F H J l R) (I : S → Hp → Hp → L2.St → Prop) (k : Post ((foldL stepL s0 l).bd fun o => o.el rest ret) ok ex) (e : Ex F H) (h0 : I s0 F H σ)
    (hb : ∀ s x v σ' F1 H1 F2 H2, Gm M F H F1 H1 → I s F1 H1 σ' → Gm [] F1 H1 F2 H2 → R F2 v x → ∀ nx : L2.St → Hp → Prop,
      Post (stepL s x) (fun o => match o with
        | .go s' => ∀ σ2 F3 H3, Gm M F H F3 H3 → I s' F3 H3 σ2 → nx σ2 H3
        | .brk s' => ∀ σ2 F3 H3, Gm M F H F3 H3 → I s' F3 H3 σ2 → D.nx σ2 H3
        | .ret r => Post (ret r) ok ex) ex → g v σ' H2 fun σ2 H3 => tb { D with nx := nx, ct := nx, bk := D.nx } σ2 H3)
    (kk : ∀ s σ' F' H', Gm M F H F' H' → I s F' H' σ' → Post (rest s) ok ex → D.nx σ' H') :
    ∃ W : Nat → Nat → L2.St → Hp → Prop, (∃ m, W 0 m σ H) ∧ ∀ i m σ H, W i m σ H →
      (J.stop i H ∧ D.nx σ H) ∨ (J.go i H ∧ ∃ N : L2.St → Hp → Prop, (∀ σ' H', N σ' H' → ∃ m', m' < m ∧ W (i + 1) m' σ' H') ∧ ∀ x H', J.yld i H x H' → g x σ H' fun σ2 H2 => tb { D with nx := N, ct := N, bk := D.nx } σ2 H2) := by
  obtain ⟨n, G, Y, w, hn, hG, hY⟩ := w.ex
  refine for_mirL w I k e h0 hn hG (fun i s x v σ' F' H' H'' g' i' hx y nx k' => ?_) kk
  obtain ⟨F'', g2, r⟩ := hY i x v F' H' H'' g' hx y
  exact hb s x v σ' F' H' F'' H'' g' i' g2 r nx k'
end
/-! ### comprehensions, three forms -/
theorem tYes_of {σ : L2.St} {H : Hp} {Q : Bool → Hp → Prop} (h : Q true H) : tYes σ H Q := h
def GMon (g : TG) : Prop := ∀ (v : V) (σ1 : L2.St) (H1 : Hp) (Q Q' : L2.St → Hp → Prop), (∀ s h, Q s h → Q' s h) → g v σ1 H1 Q → g v σ1 H1 Q'
def GsMon (g : TGs) : Prop := ∀ (v : List V) (σ1 : L2.St) (H1 : Hp) (Q Q' : L2.St → Hp → Prop), (∀ s h, Q s h → Q' s h) → g v σ1 H1 Q → g v σ1 H1 Q'
theorem gm_name {i : Nat} : GMon (gName i) := fun _ _ _ _ _ h q => h _ _ q
theorem gms_nil : GsMon gNil := fun _ _ _ _ _ h q => ⟨q.1, h _ _ q.2⟩
theorem gms_cons {t : TG} {u : TGs} (a : GMon t) (b : GsMon u) : GsMon (gCons t u) := fun _ _ _ _ _ h q => by
  obtain ⟨v, r, e, z⟩ := q
  exact ⟨v, r, e, a _ _ _ _ _ (fun s h' z' => b _ _ _ _ _ h z') z⟩
theorem gm_tup {K : PySem.W.Frag} {n : Nat} {t : TGs} (a : GsMon t) : GMon (gTup K n t) := fun _ _ _ _ _ h q => by
  obtain ⟨p, xs, e1, e2, e3, z⟩ := q
  exact ⟨p, xs, e1, e2, e3, a _ _ _ _ _ h z⟩

def mapMm {α γ : Type} (f : α → Mm γ) : List α → Mm (List γ)
  | [] => .ok []
  | x :: xs => (f x).bd fun y => (mapMm f xs).bd fun ys => .ok (y :: ys)
def filMm {α γ : Type} (f : α → Mm (Option γ)) : List α → Mm (List γ)
  | [] => .ok []
  | x :: xs => (f x).bd fun y => (filMm f xs).bd fun ys => .ok (y.toList ++ ys)
def mapSt {α γ S : Type} (f : S → α → Mm (γ × S)) : S → List α → Mm (List γ × S)
  | s, [] => .ok ([], s)
  | s, x :: xs => (f s x).bd fun y => (mapSt f y.2 xs).bd fun ys => .ok (y.1 :: ys.1, ys.2)
theorem bd_assoc {α β γ : Type} (m : Mm α) (f : α → Mm β) (g : β → Mm γ) : (m.bd f).bd g = m.bd fun a => (f a).bd g := by cases m <;> rfl
theorem bd_id {α : Type} (m : Mm α) : m.bd Mm.ok = m := by cases m <;> rfl
theorem filMm_comp {α γ : Type} (f : α → Mm (Option γ)) : ∀ l : List α, filMm f l = (compM (fun (_ : Unit) x => (f x).bd fun o => .ok (o, ())) () l).bd fun r => .ok r.1
  | [] => rfl
  | x :: xs => by
    simp only [filMm, compM, filMm_comp f xs, bd_assoc, bd_ok]
theorem mapMm_comp {α γ : Type} (f : α → Mm γ) : ∀ l : List α, mapMm f l = (compM (fun (_ : Unit) x => (f x).bd fun o => .ok (some o, ())) () l).bd fun r => .ok r.1
  | [] => rfl
  | x :: xs => by
    simp only [mapMm, compM, mapMm_comp f xs, bd_assoc, bd_ok, Option.toList, List.cons_append, List.nil_append]
theorem mapSt_comp {α γ S : Type} (f : S → α → Mm (γ × S)) : ∀ (s : S) (l : List α), mapSt f s l = compM (fun s x => (f s x).bd fun o => .ok (some o.1, o.2)) s l
  | _, [] => rfl
  | s, x :: xs => by
    simp only [mapSt, compM, bd_assoc, bd_ok, Option.toList, List.cons_append, List.nil_append]
    congr 1
    funext o
    rw [mapSt_comp f o.2 xs]
section
variable {K : PySem.W.Frag} {M : List Addr} {F H : Hp} {σ : L2.St} {g : TG} {tt : TT} {te : TE} {vs : List Nat} {α β γ S : Type} {l : List α} {ok : β → Prop} {ex : Er → Prop} {s0 : S} {J : It} {R : Hp → V → α → Prop} {Q : VK}
theorem lc_map {f : α → Mm γ} {rest : List γ → Mm β} (w : Wlk M F H J l R) (en : γ → PyData) (k : Post ((mapMm f l).bd rest) ok ex) (e : Ex F H) (hz : l.length ≤ 50000) (hM : ∀ D, H D = none → D ∉ M)
    (hb : ∀ x v F1 H1 F2 H2, Gm M F H F1 H1 → Gm [] F1 H1 F2 H2 → R F2 v x → ∀ Q : VK, Post (f x) (fun y => Ret M F1 H1 (fun F3 _ u => Dq K F3 u (en y)) Q) (fun _ => False) →
      g v (wipe σ vs) H2 fun σ2 H3 => wipe σ2 vs = wipe σ vs ∧ te σ2 H3 Q)
    (hx : ∀ e, ¬ ex e) (kk : ∀ (r : List γ) v F' H', Gm M F H F' H' → Dq K F' v (eL en r) → Post (rest r) ok ex → Q v H') (mono : GMon g) :
    ∀ D, H D = none → ∃ W : Nat → Nat → Hp → Prop, (∃ m, W 0 m (upd H D (.lst []))) ∧ ∀ i m H, W i m H →
      (J.stop i H ∧ Q (.ref D) H) ∨ (J.go i H ∧ ∃ Nx : Hp → Prop, (∀ H', Nx H' → ∃ m', m' < m ∧ W (i + 1) m' H') ∧ ∀ x H', J.yld i H x H' → g x (wipe σ vs) H' fun σ2 H2 => wipe σ2 vs = wipe σ vs ∧ tYes σ2 H2 fun b H3 =>
        if b = true then te σ2 H3 fun y H4 => ∃ acc, H4 D = some (.lst acc) ∧ acc.length < sizeLine ∧ Nx (upd H4 D (.lst (acc ++ [y]))) else Nx H3) := by
  obtain ⟨n, G, Y, w, hn, hG, hY⟩ := w.ex
  rw [mapMm_comp, bd_assoc] at k
  refine lc_mir w en (fun _ _ _ => True) k e trivial stab_t hn hz hG hM (fun i s x v F' H' H'' g' _ hx y Q' k' => ?_) hx (fun r v F' H' g' _ d k' => kk r.1 v F' H' g' d k')
  obtain ⟨F'', g2, r⟩ := hY i x v F' H' H'' g' hx y
  refine mono _ _ _ _ _ (fun σ2 H3 z => ⟨z.1, ?_⟩) (hb x v F' H' F'' H'' g' g2 r (fun u H4 => Q' (some u) H4) ((post_bd k').mono (fun y q u F3 H3 g3 d => q.h F3 H3 _ g3 trivial ⟨u, rfl, d⟩) fun _ z => z))
  exact tYes_of (iteT z.2)
theorem lc_st {f : Rw → α → Mm (γ × Rw)} {s0 : Rw} {rest : List γ × Rw → Mm β} {sc ra : Addr} {scr : List Int} (w : Wlk [ra] F H J l R) (en : γ → PyData) (k : Post ((mapSt f s0 l).bd rest) ok ex) (e : Ex F H) (hz : l.length ≤ 50000) (h0 : RowAt K sc ra scr F H s0)
    (hb : ∀ s x v F1 H1 F2 H2, Gm [ra] F H F1 H1 → RowAt K sc ra scr F1 H1 s → Gm [] F1 H1 F2 H2 → R F2 v x → ∀ Q : VK, Post (f s x) (fun y => Ret [ra] F1 H1 (fun F3 H3 u => Dq K F3 u (en y.1) ∧ RowAt K sc ra scr F3 H3 y.2) Q) (fun _ => False) →
      g v (wipe σ vs) H2 fun σ2 H3 => wipe σ2 vs = wipe σ vs ∧ te σ2 H3 Q)
    (hx : ∀ e, ¬ ex e) (kk : ∀ (r : List γ × Rw) v F' H', Gm [ra] F H F' H' → Dq K F' v (eL en r.1) ∧ RowAt K sc ra scr F' H' r.2 → Post (rest r) ok ex → Q v H') (mono : GMon g) :
    ∀ D, H D = none → ∃ W : Nat → Nat → Hp → Prop, (∃ m, W 0 m (upd H D (.lst []))) ∧ ∀ i m H, W i m H →
      (J.stop i H ∧ Q (.ref D) H) ∨ (J.go i H ∧ ∃ Nx : Hp → Prop, (∀ H', Nx H' → ∃ m', m' < m ∧ W (i + 1) m' H') ∧ ∀ x H', J.yld i H x H' → g x (wipe σ vs) H' fun σ2 H2 => wipe σ2 vs = wipe σ vs ∧ tYes σ2 H2 fun b H3 =>
        if b = true then te σ2 H3 fun y H4 => ∃ acc, H4 D = some (.lst acc) ∧ acc.length < sizeLine ∧ Nx (upd H4 D (.lst (acc ++ [y]))) else Nx H3) := by
  obtain ⟨n, G, Y, w, hn, hG, hY⟩ := w.ex
  rw [mapSt_comp] at k
  refine lc_mir w en (fun s F H => RowAt K sc ra scr F H s) k e h0 (stab_row h0) hn hz hG (row_notM h0) (fun i s x v F' H' H'' g' i' hx y Q' k' => ?_) hx (fun r v F' H' g' i' d k' => kk r v F' H' g' ⟨d, i'⟩ k')
  obtain ⟨F'', g2, r⟩ := hY i x v F' H' H'' g' hx y
  refine mono _ _ _ _ _ (fun σ2 H3 z => ⟨z.1, ?_⟩) (hb s x v F' H' F'' H'' g' i' g2 r (fun u H4 => Q' (some u) H4) ((post_bd k').mono (fun y q u F3 H3 g3 d => q.h F3 H3 _ g3 d.2 ⟨u, rfl, d.1⟩) fun _ z => z))
  exact tYes_of (iteT z.2)
end
end Wk

set_option Elab.async false
set_option linter.all false
set_option maxRecDepth 100000
set_option maxHeartbeats 4000000
namespace Wk
open PySem L2 Evl
theorem units_of {k : Nat} {A : Around} (r : Room k A) : A.units + 64 < cLine := r.units
theorem units_of2 {k : Nat} {A : Around} (r : Room k A) : A.units + 65 < cLine := by have := r.un; omega
def absI (i : Int) : Int := if i < 0 then -i else i
def maxI (i j : Int) : Int := if j > i then j else i
def minI (i j : Int) : Int := if j < i then j else i
theorem decV_int {i j : Int} : decide (V.int i = V.int j) = decide (i = j) := Bool.eq_iff_iff.mpr (by simp)
theorem decV_bl {i j : Bool} : decide (V.bl i = V.bl j) = decide (i = j) := Bool.eq_iff_iff.mpr (by simp)
theorem decV_str {i j : Str} : decide (V.str i = V.str j) = decide (i = j) := Bool.eq_iff_iff.mpr (by simp)
section
variable {K : PySem.W.Frag} {M : List Addr} {F F' H H' : Hp} {Q : VK} {α : Type} {en : α → PyData} {l l' : List α} {xs ys : List V} {a b p : Addr} {v : V} {ds : List PyData}
theorem none_O {o : Option α} (h : Dq K F v (eO en o)) (hn : ∀ a, en a ≠ .none := by intro a; exact fun h => nomatch h) : decide (v = .non) = o.isNone := by
  cases o with
  | none => cases h; rfl
  | some a =>
    refine decide_eq_false fun q => ?_
    subst q
    have h2 : Dq K F V.non (en a) := h
    have := hn a
    cases e : en a with
    | none => exact this e
    | _ => rw [e] at h2; cases h2
theorem chain_j {a b : Bool} {Q : VK} {σ : L2.St} {u : TE} {g : V → Hp → VK → Prop} (hu : a = true → ∀ Q' : VK, Q' (.bl b) H → u σ H fun w H' => g w H' Q') (k : Q (.bl (a && b)) H) :
    if a = true then u σ H (fun w H' => g w H' Q) else Q (.bl false) H := by
  cases a with
  | true => rw [if_pos rfl]; exact hu rfl Q k
  | false => rw [if_neg Bool.false_ne_true]; exact k
theorem len_all (h : DqAll K F xs (l.map en)) : (xs.length : Int) = (l.length : Int) := by rw [h.len, List.length_map]
theorem all_ints {l : List Int} (h : DqAll K F xs (l.map PyData.int)) : xs = l.map V.int := by
  induction l generalizing xs with
  | nil => cases h; rfl
  | cons i l ih => cases h with | cons h1 h2 => cases h1; rw [ih h2]; rfl
theorem ints_all : ∀ l : List Int, DqAll K F (l.map V.int) (l.map PyData.int)
  | [] => .nil
  | i :: l => .cons (.int i) (ints_all l)
theorem cat_len {l l' : List α} (h : DqAll K F xs (l.map en)) (h' : DqAll K F ys (l'.map en)) (hl : l.length + l'.length ≤ 100000) : xs.length + ys.length ≤ sizeLine := sz_of (by
  have := h.len
  have := h'.len
  rw [List.length_map] at *
  omega)
theorem new_lstC {l l' : List α} (e : Ex F H) (h : DqAll K F xs (l.map en)) (h' : DqAll K F ys (l'.map en)) (k : Ret M F H (fun F' _ v => Dq K F' v (eL en (l ++ l'))) Q) : ∀ p, H p = none → Q (.ref p) (upd H p (.lst (xs ++ ys))) := fun p hp => by
  have g : Gm M F H (upd F p (.lst (xs ++ ys))) (upd H p (.lst (xs ++ ys))) := Gm.new e hp
  refine k _ _ _ g (.lst upd_same ?_)
  rw [List.map_append]
  exact (h.app h').up g.f
/-- tuple + tuple -/
def rCatM (K : PySem.W.Frag) : R2 := rCatA K
theorem op_catM {X : Cx} : OpR X (binaryOp .Add) (rCatM X.K) := op_catA
theorem cat_tup {l l' : List α} (e : Ex F H) (s : SqT K F a xs) (h : DqAll K F xs (l.map en)) (s' : SqT K F b ys) (h' : DqAll K F ys (l'.map en)) (hl : l.length + l'.length ≤ 100000) (k : Ret M F H (fun F' _ v => Dq K F' v (eV en (l ++ l'))) Q) : rCatM K (.ref a) (.ref b) H Q := by
  refine ⟨a, b, xs, ys, rfl, rfl, ex_t e s, ex_t e s', cat_len h h' hl, fun q => ?_, fun _ q => ?_, fun _ _ p hp => ?_⟩
  · have hl0 : l = [] := by
      have := h.len
      rw [q, List.length_map] at this
      exact List.length_eq_zero_iff.mp this.symm
    exact k _ _ _ (Gm.refl e) (by rw [hl0]; exact .tup s' h')
  · have hl0 : l' = [] := by
      have := h'.len
      rw [q, List.length_map] at this
      exact List.length_eq_zero_iff.mp this.symm
    exact k _ _ _ (Gm.refl e) (by rw [hl0, List.append_nil]; exact .tup s h)
  · have g : Gm M F H (upd F p (.tup (xs ++ ys))) (upd H p (.tup (xs ++ ys))) := Gm.new e hp
    refine k _ _ _ g (.tup (st_of upd_same) ?_)
    rw [List.map_append]
    exact (h.app h').up g.f
/-- slices -/
def cutL {α : Type} (l : List α) (lo hi : Option Int) : List α := (l.drop (HT.sIx l.length 0 lo)).take (HT.sIx l.length l.length hi - HT.sIx l.length 0 lo)
theorem cut_all {lo hi : Option Int} (h : DqAll K F xs (l.map en)) : DqAll K F (cutV xs lo hi) ((cutL l lo hi).map en) := by
  have hl : xs.length = l.length := by rw [h.len, List.length_map]
  unfold cutV cutL
  rw [hl, List.map_take, List.map_drop]
  exact (h.drop _).take _
theorem cut_lst {lo hi : Option Int} (e : Ex F H) (s : F a = some (.lst xs)) (h : DqAll K F xs (l.map en)) (k : Ret M F H (fun F' _ v => Dq K F' v (eL en (cutL l lo hi))) Q) : rSlL K (.ref a) lo hi H Q :=
  ⟨a, xs, rfl, sq_of (e _ _ s), fun p hp => by
    have g : Gm M F H (upd F p (.lst (cutV xs lo hi))) (upd H p (.lst (cutV xs lo hi))) := Gm.new e hp
    exact k _ _ _ g (.lst upd_same ((cut_all h).up g.f))⟩
theorem sl_tupM {X : Cx} : SlR X (rSlA X.K) := sl_tupA
theorem cut_whole {α : Type} {l : List α} {lo hi : Option Int} (h : HT.sIx l.length 0 lo = 0 ∧ HT.sIx l.length l.length hi = l.length) : cutL l lo hi = l := by
  unfold cutL
  rw [h.1, h.2, List.drop_zero, Nat.sub_zero, List.take_length]
theorem cut_tup {lo hi : Option Int} (e : Ex F H) (s : SqT K F a xs) (h : DqAll K F xs (l.map en)) (k : Ret M F H (fun F' _ v => Dq K F' v (eV en (cutL l lo hi))) Q) : rSlA K (.ref a) lo hi H Q := by
  have hl : xs.length = l.length := by rw [h.len, List.length_map]
  refine ⟨a, xs, rfl, ex_t e s, fun q => ?_, fun _ p hp => ?_⟩
  · rw [hl] at q
    refine k _ _ _ (Gm.refl e) ?_
    rw [cut_whole q]
    exact .tup s h
  · have g : Gm M F H (upd F p (.tup (cutV xs lo hi))) (upd H p (.tup (cutV xs lo hi))) := Gm.new e hp
    exact k _ _ _ g (.tup (st_of upd_same) ((cut_all h).up g.f))
/-- list(x), tuple(x) -/
theorem to_LL (e : Ex F H) (s : F a = some (.lst xs)) (h : DqAll K F xs (l.map en)) (k : Ret M F H (fun F' _ v => Dq K F' v (eL en l)) Q) : ∃ p ys, [V.ref a] = [.ref p] ∧ (SqL K H p ys ∨ SqT K H p ys) ∧ ∀ l, H l = none → Q (.ref l) (upd H l (.lst ys)) :=
  ⟨a, xs, rfl, .inl (sq_of (e _ _ s)), fun p hp => by
    have g : Gm M F H (upd F p (.lst xs)) (upd H p (.lst xs)) := Gm.new e hp
    exact k _ _ _ g (.lst upd_same (h.up g.f))⟩
theorem to_LV (e : Ex F H) (s : SqT K F a xs) (h : DqAll K F xs (l.map en)) (k : Ret M F H (fun F' _ v => Dq K F' v (eL en l)) Q) : ∃ p ys, [V.ref a] = [.ref p] ∧ (SqL K H p ys ∨ SqT K H p ys) ∧ ∀ l, H l = none → Q (.ref l) (upd H l (.lst ys)) :=
  ⟨a, xs, rfl, .inr (ex_t e s), fun p hp => by
    have g : Gm M F H (upd F p (.lst xs)) (upd H p (.lst xs)) := Gm.new e hp
    exact k _ _ _ g (.lst upd_same (h.up g.f))⟩
theorem to_VL (e : Ex F H) (s : F a = some (.lst xs)) (h : DqAll K F xs (l.map en)) (k : Ret M F H (fun F' _ v => Dq K F' v (eV en l)) Q) :
    ∃ p ys, [V.ref a] = [.ref p] ∧ ((SqL K H p ys ∧ ∀ l, H l = none → Q (.ref l) (upd H l (.tup ys))) ∨ (SqT K H p ys ∧ Q (.ref p) H)) :=
  ⟨a, xs, rfl, .inl ⟨sq_of (e _ _ s), fun p hp => by
    have g : Gm M F H (upd F p (.tup xs)) (upd H p (.tup xs)) := Gm.new e hp
    exact k _ _ _ g (.tup (st_of upd_same) (h.up g.f))⟩⟩
theorem to_VV (e : Ex F H) (s : SqT K F a xs) (h : DqAll K F xs (l.map en)) (k : Ret M F H (fun F' _ v => Dq K F' v (eV en l)) Q) :
    ∃ p ys, [V.ref a] = [.ref p] ∧ ((SqL K H p ys ∧ ∀ l, H l = none → Q (.ref l) (upd H l (.tup ys))) ∨ (SqT K H p ys ∧ Q (.ref p) H)) :=
  ⟨a, xs, rfl, .inr ⟨ex_t e s, k _ _ _ (Gm.refl e) (.tup s h)⟩⟩
/-- of an own list -/
theorem to_VO (e : Ex F H) (o : H a = some (.lst xs)) (h : DqAll K F xs (l.map en)) (k : Ret M F H (fun F' _ v => Dq K F' v (eV en l)) Q) :
    ∃ p ys, [V.ref a] = [.ref p] ∧ ((SqL K H p ys ∧ ∀ l, H l = none → Q (.ref l) (upd H l (.tup ys))) ∨ (SqT K H p ys ∧ Q (.ref p) H)) :=
  ⟨a, xs, rfl, .inl ⟨sq_of o, fun p hp => by
    have g : Gm M F H (upd F p (.tup xs)) (upd H p (.tup xs)) := Gm.new e hp
    exact k _ _ _ g (.tup (st_of upd_same) (h.up g.f))⟩⟩
/-- a new own list -/
theorem new_own (e : Ex F H) (h : DqAll K F xs ds) (hl : xs.length ≤ 100000) (k : ∀ p H', Gm [] F H F H' → H p = none → (H' p = some (.lst xs) ∧ F p = none) → Q (.ref p) H') : xs.length ≤ sizeLine ∧ ∀ p, H p = none → Q (.ref p) (upd H p (.lst xs)) :=
  ⟨sz_of hl, fun p hp => k p _ (Gm.newM e hp) hp ⟨upd_same, by
    cases q : F p with
    | none => rfl
    | some u => rw [e p u q] at hp; cases hp⟩⟩
theorem own_sz (h : DqAll K F xs (l.map en)) (hl : l.length < 100000) : xs.length < sizeLine := sz_lt (by rw [h.len, List.length_map]; exact hl)
theorem RowAt.put {sc ra : Addr} {scr : List Int} {st : Rw} {o : HO} (w : RowAt K sc ra scr F H st) (h : ra ≠ p) : RowAt K sc ra scr F (upd H p o) st := ⟨by rw [upd_ne h]; exact w.1, w.2.1, w.2.2⟩
theorem RowAt.fix {sc ra : Addr} {scr : List Int} {st : Rw} {o : HO} (w : RowAt K sc ra scr F H st) (h : ra ≠ p) (u : Ex F (upd F p o)) : RowAt K sc ra scr (upd F p o) H st := ⟨w.1, by rw [upd_ne h]; exact w.2.1, ex_l u w.2.2⟩
end
section
variable {X : Cx}
theorem call_lenM : CallR X (.builtin "len") (fun xs H Q => ∃ p ys n, xs = [.ref p] ∧ (SqL X.K H p ys ∨ SqT X.K H p ys) ∧ (ys.length : Int) = n ∧ Q (.int n) H) := by
  intro pins s σ H vs us Q I r h
  obtain ⟨p, ys, n, rfl, hq, rfl, q⟩ := h
  exact call_len_seq pins s σ H _ us Q I r ⟨p, ys, rfl, hq, q⟩
theorem call_intM : CallR X (.type "int") (fun xs H Q => ∃ i, xs = [.int i] ∧ Q (.int i) H) := by
  intro pins s σ H vs us Q I r h
  exact call_int1 pins s σ H vs us Q I r (.inl h)
section
variable {α : Type} [DecidableEq α] {f : α → PyData} {n : Nat}
def hasM {α : Type} [DecidableEq α] (l : List α) (a : α) : Bool := l.contains a
def rInM (K : PySem.W.Frag) (f : α → PyData) : R2 := fun x y H Q => ∃ (a : α) (l : List α), Dp K H x (f a) ∧ Dp K H y (eL f l) ∧ Q (.bl (hasM l a)) H
def rNotInM (K : PySem.W.Frag) (f : α → PyData) : R2 := fun x y H Q => ∃ (a : α) (l : List α), Dp K H x (f a) ∧ Dp K H y (eL f l) ∧ Q (.bl (!hasM l a)) H
theorem any_eqv (s : Sh f n) (a : α) (l : List α) : (l.map f).any (fun z => PyData.eqv z (f a)) = l.contains a := by
  induction l with
  | nil => rfl
  | cons b l ih =>
    rw [List.map_cons, List.any_cons, ih, List.contains_cons, s.eq]
    congr 1
    exact Bool.eq_iff_iff.mpr (by simp only [decide_eq_true_eq, beq_iff_eq]; exact ⟨Eq.symm, Eq.symm⟩)
theorem op_inM (s : Sh f n) (hu : X.A.units + 65 < cLine) (hn : n + 1 ≤ 64 := by decide) : OpR X (compareOp .In) (rInM X.K f) := by
  intro pins st σ H x y v u Q I rx ry h
  obtain ⟨a, l, ha, hl, q⟩ := h
  refine op_inD hu pins st σ H x y v u Q I rx ry ⟨f a, l.map f, ha, hl, s.shaped (by omega) a, (sh_eL s).shaped hn l, ?_⟩
  rw [any_eqv s]
  exact q
theorem op_notInM (s : Sh f n) (hu : X.A.units + 65 < cLine) (hn : n + 1 ≤ 64 := by decide) : OpR X (compareOp .NotIn) (rNotInM X.K f) := by
  intro pins st σ H x y v u Q I rx ry h
  obtain ⟨a, l, ha, hl, q⟩ := h
  refine op_notInD hu pins st σ H x y v u Q I rx ry ⟨f a, l.map f, ha, hl, s.shaped (by omega) a, (sh_eL s).shaped hn l, ?_⟩
  rw [any_eqv s]
  exact q
end
end
end Wk

set_option Elab.async false
set_option linter.all false
set_option maxRecDepth 100000
set_option maxHeartbeats 4000000
namespace Wk
open PySem L2 Evl PySem.Spec PyProof.Rows
/-! ### enumerate of a tuple -/
theorem meets_enT (a : Addr) (its : Array Value) :
    Meets (Builtin.«enumerate.__new__» ⟨[.type "enumerate", .ref a], []⟩) (fun _ R z => z.heap.IsTuple a its ∧
      R (.ok (.ret (.ref (z.heap.push { cls := .type "tuple_iterator", data := .fields #[.ref a, .int 0 0] }).objs.size)))
        { z with heap := (z.heap.push { cls := .type "tuple_iterator", data := .fields #[.ref a, .int 0 0] }).push { cls := .type "enumerate", data := .fields #[.none, .bool false, .ref z.heap.objs.size, rawInt 0, .none, .none] } }) :=
  .of_wp fun prog w A R z h => by
    obtain ⟨hp, ge, dr, tk, os⟩ := z
    obtain ⟨ht, h⟩ := h
    have sub := sub_enumerate
    have ht' : Heap.IsTuple (Shared.heap ⟨hp, ge, dr, tk, os⟩) a its := ht
    obtain ⟨⟨c, dd, dt, sl⟩, hl, hc, n, hd⟩ := ht
    replace hc : c = .type "tuple" := hc
    replace hd : dt = .seq its n := hd
    subst hc hd
    wp_walk using AutoSeq1.wpAny_loadPart' hl
    refine wpAny_stack_any fun st => wpAny_pure ?_
    split
    · rename_i c _ _ _ _ _
      cases (c == Value.type "enumerate")
      all_goals
        wp_walk using AutoSeq1.wpAny_loadPart' hl, wpAny_pyIter_tuple ht'
        exact ⟨_, rfl, h⟩
    · wp_walk using AutoSeq1.wpAny_loadPart' hl, wpAny_pyIter_tuple ht'
      exact ⟨_, rfl, h⟩
section
variable {prog : Program} {w : World} {A : Around} {E : Value → Shared → Prop} {z : Shared}
theorem call_enT {a : Addr} {its : Array Value} {Q : Value → Shared → Prop} (ht : z.heap.IsTuple a its)
    (h : ∀ h', IsEnum h' (z.heap.objs.size + 1) z.heap.objs.size 0 .none → h'.IsTupleIter z.heap.objs.size a 0 → h'.objs.size = z.heap.objs.size + 2 →
      (∀ c o, z.heap.get? c = some o → h'.get? c = some o) → Q (.ref (z.heap.objs.size + 1)) { z with heap := h' }) :
    wpAny (model prog w) A (call (.type "enumerate") [.ref a]) Q E z := by
  refine callType_new F.called_enumerate (by decide) (F.typeCall_enumerate_1 _) (F.newCall_enumerate_1 _) (fun ob => F.args_object_init_2 ob _) F.entry_enumerate_new (meets_enT a its) ⟨ht, ?_⟩
  have sz : (z.heap.push { cls := .type "tuple_iterator", data := .fields #[.ref a, .int 0 0] }).objs.size = z.heap.objs.size + 1 := Heap.size_push ..
  show _ ∧ _
  rw [sz]
  have en : IsEnum ((z.heap.push { cls := .type "tuple_iterator", data := .fields #[.ref a, .int 0 0] }).push
      { cls := .type "enumerate", data := .fields #[.none, .bool false, .ref z.heap.objs.size, rawInt 0, .none, .none] }) (z.heap.objs.size + 1) z.heap.objs.size 0 .none := by
    have q := Heap.get?_push_size (z.heap.push { cls := .type "tuple_iterator", data := .fields #[.ref a, .int 0 0] })
      (o := { cls := .type "enumerate", data := .fields #[.none, .bool false, .ref z.heap.objs.size, rawInt 0, .none, .none] }) rfl
    rw [sz] at q
    exact q
  exact ⟨⟨_, en, rfl⟩, h _ en ⟨_, Heap.get?_push_of_some _ (Heap.get?_push_size _ rfl), rfl, rfl⟩ (by rw [Heap.size_push, sz]) fun c o x => Heap.get?_push_of_some _ (Heap.get?_push_of_some _ x)⟩
end
theorem end_enT {prog : Program} {w : World} {A : Around} {E : Value → Shared → Prop} {z : Shared} {e it a : Addr} {i : Nat} {its : Array Value} {old : Value} {Q : Option Value → Shared → Prop} (hh : A.handled = none)
    (he : IsEnum z.heap e it i old) (hit : z.heap.IsTupleIter it a i) (ht : z.heap.IsTuple a its) (hx : its[i]? = none)
    (hQ : ∀ h', Heap.ExtBut it z.heap h' → Q none { z with heap := h' }) : wpAny (model prog w) A (pyNext (.ref e)) Q E z := by
  have ty : z.TypeIs (.ref e) "enumerate" := ⟨_, he, rfl⟩
  unfold pyNext
  refine wpAny_bind (wpAny_attempt (wpAny_callSpecial?_slot (name := Str.ofString "__next__") ty F.slot_enumerate_next (wpAny_call_entry F.slot_enumerate_next ty F.entry_enumerate_next ?_ (F.args_enumerate_next_1 _))))
  show wpAny _ _ (field (.ref e) 2 >>= _) _ _ _
  refine wpAny_bind (wpAny_field he rfl (x := .ref it) rfl ?_)
  refine wpAny_bind (wpAny_nextOf_tuple_end hh hit ht hx fun h' x he' hx' => ?_)
  obtain ⟨o, ho, hc⟩ := hx'
  exact wpAny_bind (wpAny_isInstance (T := "StopIteration") (b := true) ⟨o, ho, hc⟩ isSubtype_stop (wpAny_pure (hQ _ he')))
/-- the tuple at a, each item in a new pair -/
def IteT (K : PySem.W.Frag) (a : Addr) : It :=
  ⟨fun i H => ∃ (xs : List V) (x : V), SqT K H a xs ∧ xs[i]? = some x, fun i H v H' => ∃ T x, v = .ref T ∧ H T = none ∧ H' = upd H T (.tup [.int (i : Nat), x]) ∧ ∀ xs, SqT K H a xs → xs[i]? = some x, fun i H => ∃ xs : List V, SqT K H a xs ∧ xs.length ≤ i⟩
theorem turn_enT {P : Program} {w : World} {K : PySem.W.Frag} {es : List Expr} {kk : Nat} {tp : Pos} (a e it : Addr) (hai : a ≠ it) :
    Turn P w K (.Tuple es kk tp) (IteT K a) [e, it] e (fun i h => (∃ old, IsEnum h e it ((i : Nat) : Int) old) ∧ h.IsTupleIter it a i ∧ e ≠ it) where
  mem := by simp
  obj := fun i h st b hb => by
    obtain ⟨⟨old, he⟩, ⟨o, ho, hc, hd⟩, _⟩ := st
    rcases (show b = e ∨ b = it by simpa using hb) with q | q
    · rw [q]
      exact ⟨_, he, fun v q => nomatch q⟩
    · rw [q]
      exact ⟨o, ho, fun v q => by rw [hd] at q; cases q⟩
  keep := fun i h h' st k => by
    obtain ⟨⟨old, he⟩, hi, hne⟩ := st
    exact ⟨⟨old, k e (by simp) _ he⟩, hi.at fun o q => k it (by simp) o q, hne⟩
  item := by
    intro X hP hw hK hc i pins s σ H E I hf st hg
    subst hP hw hK
    obtain ⟨⟨old, he⟩, hit, hne⟩ := st
    obtain ⟨xs, x, hq, hx⟩ := hg
    obtain ⟨its, rv, p, hz⟩ := I.tuple hq
    obtain ⟨u, hu, ru⟩ := rv.get hx
    have le : e < s.heap.objs.size := Heap.lt_size he
    have li : it < s.heap.objs.size := by
      obtain ⟨_, q, _⟩ := hit
      exact Heap.lt_size q
    have pT : s.heap.IsTuple a its.toArray := p
    have D := (Draws.tuple (prog := X.prog) (w := X.w) (A := X.A.in1) (show X.A.in1.handled = none from I.ok.hd hc) it a hai its.toArray)
    have hi : i < its.toArray.size := by
      have := (List.getElem?_eq_some_iff.mp hu).1
      simpa using this
    have hnm : e ∉ [it, a] := fun hm => by
      rcases (show e = it ∨ e = a by simpa using hm) with q | q
      · exact hne q
      · obtain ⟨o1, q1, c1, _⟩ := pT
        rw [← q, he] at q1
        cases q1
        exact nomatch (show Value.type "enumerate" = Value.type "tuple" from c1) 
    refine wpAny_pyNext_enum_itemD D he ⟨hit, pT⟩ hi hne hnm fun y h' tk hy ho ht' hT hsz hk => ?_
    · have ey : u = y := by
        have hu' : its.toArray[i]? = some u := by simpa using hu
        rw [hy] at hu'
        exact (Option.some.inj hu').symm
      subst ey
      obtain ⟨hit', _⟩ := ht'
      refine ⟨_, rfl, wpAny_letOwnedTupleGo_enum (s := { s with heap := h', toks := tk + 1 }) ho fun h'' he' sb => ?_⟩
      have hT2 : h''.get? s.heap.objs.size = some { cls := .type "tuple", data := .seq #[.int i tk, u] } := (sb.2 _ (Nat.ne_of_gt le)).trans hT
      have new : ObjOk X.prog X.w (upd H s.heap.objs.size (.tup [.int (i : Nat), x])) h'' s.heap.objs.size (.tup [.int (i : Nat), x]) :=
        ⟨by show 2 ≤ sizeLine; decide, [.int i tk, u], .cons ⟨_, rfl⟩ (.cons ru .nil), ⟨_, hT2, rfl, _, rfl⟩⟩
      have J : Inv X pins σ (upd H s.heap.objs.size (.tup [.int (i : Nat), x])) { s with heap := h'', toks := tk + 1 } :=
        I.turnedNew (ch := [e, it]) (fun b ob hb q => (sb.2 b (fun q2 => hb (by simp [q2]))).trans (hk b ob (fun q2 => hb (by simp [q2])) (fun q2 => hb (by simp [q2])) q)) hf (Nat.le_refl _) new
      refine ⟨.ref s.heap.objs.size, _, J, rfl, ⟨_, x, rfl, I.hok.fresh (Nat.le_refl _), rfl, fun ys hy => by rw [I.tuple_inj hy hq]; exact hx⟩, ⟨⟨u, ?_⟩, hit'.at fun o q => (sb.2 it (Ne.symm hne)).trans q, hne⟩, fun b hb => ?_⟩
      · have e1 : ((i + 1 : Nat) : Int) = (i : Int) + 1 := by omega
        rw [e1]
        exact he'
      · have lb : b < s.heap.objs.size := by
          rcases (show b = e ∨ b = it by simpa using hb) with q | q
          · rw [q]; exact le
          · rw [q]; exact li
        rw [upd_ne (Nat.ne_of_lt lb)]
        exact (hf b hb).1
  done := by
    intro X hP hw hK hc i pins s σ H E I hf st hg
    subst hP hw hK
    obtain ⟨⟨old, he⟩, hit, hne⟩ := st
    obtain ⟨xs, hq, hx⟩ := hg
    obtain ⟨its, rv, p, hz⟩ := I.tuple hq
    obtain ⟨f0, f1, f2, f3, f4, f5⟩ := hf it (by simp)
    have hl := rv.length
    have pT : s.heap.IsTuple a its.toArray := p
    refine end_enT (I.ok.hd hc) he hit pT (by simp; omega) fun h' eb => ⟨rfl, I.turned (t' := s.toks) (fun b o hb q => eb b o hb q) f0 f1 f3 f4 f5⟩
  self := fun A i s Q E st h => by
    obtain ⟨⟨_, he⟩, _⟩ := st
    exact wpAny_pyIter_enum he h
def iEnT (K : PySem.W.Frag) (ta : TA) : TI := fun σ H R => ta σ H fun vs H1 => ∃ a xs, vs = [.ref a] ∧ SqT K H1 a xs ∧ R (IteT K a) H1
theorem pi_enumT {X : Cx} {e : Expr} {ta : TA} {p pos tp : Pos} {es : List Expr} {kk : Nat} (hg : Gl X "enumerate") (hm : X.mg "enumerate" = none) (ha : PA X [e] ta) (hs : starEach [e] X.env = [(false, eval e X.env)] := by rfl) :
    PI X (.Tuple es kk tp) (.Call (.Name "enumerate" p) [e] [] pos) (iEnT X.K ta) := by
  refine ⟨fun pins s σ H R I h => ?_⟩
  refine Call_ (ld_blt I hg hm boot_enumerate (PyProof.Rows.callWith_type1 (thn (ha.run pos pins s σ H _ I h) fun us s1 hh => ?_) hs rfl))
  obtain ⟨vs, H1, I1, r1, a, xs, ex, hq, q⟩ := hh
  subst ex
  cases r1 with
  | cons r rr =>
    cases rr
    cases r
    obtain ⟨its, rv, p', hz⟩ := I1.tuple hq
    have pT : s1.heap.IsTuple a its.toArray := p'
    have la : a < s1.heap.objs.size := by
      obtain ⟨o, q, _⟩ := pT
      exact Heap.lt_size q
    refine call_enT pT fun h' he hit hsz hk => wpAny_pyIter_enum he ?_
    have I2 : Inv X pins σ H1 { s1 with heap := h' } := I1.kept (t' := s1.toks) hk
    refine ⟨s1.heap.objs.size + 1, [s1.heap.objs.size + 1, s1.heap.objs.size], _, _, H1, rfl, I2, turn_enT a (s1.heap.objs.size + 1) s1.heap.objs.size (Nat.ne_of_lt la), ⟨⟨.none, he⟩, hit, Nat.succ_ne_self _⟩, fun b hb => ?_, q⟩
    have hle : s1.heap.objs.size ≤ b := by
      rcases (show b = s1.heap.objs.size + 1 ∨ b = s1.heap.objs.size by simpa using hb) with z | z
      · rw [z]; exact Nat.le_succ _
      · rw [z]; exact Nat.le_refl _
    exact I1.fpOk hle (I1.hok.fresh hle)
section
variable {K : PySem.W.Frag} {M : List Addr} {F H : Hp} {α : Type} {xs : List V} {l : List α} {en : α → PyData} {a : Addr}
theorem wlk_enumT (e : Ex F H) (h : SqT K F a xs) (da : DqAll K F xs (l.map en)) : Wlk M F H (IteT K a) (enumL l) (fun F v x => Dq K F v (e2 PyData.int en x)) := by
  have hl : xs.length = l.length := by rw [da.len, List.length_map]
  refine ⟨xs.length, fun H => SqT K H a xs, YPair (fun i => some (.int (i : Nat))) (fun i => xs[i]?), ⟨fun i _ hi q => ⟨xs, xs[i], q, by simp [hi]⟩, fun _ q => ⟨xs, q, Nat.le_refl _⟩, fun i H v H' _ q y => ?_⟩, by simp [enumL, rangeL, hl], fun F' H' g' => ex_t g'.s (ex_t g'.f h), fun i x v F' H' H'' g' hx y => ?_⟩
  · obtain ⟨T, x, h1, h2, h3, h4⟩ := y
    exact ⟨T, .int (i : Nat), x, h1, h2, h3, rfl, h4 xs q⟩
  · obtain ⟨T, u, w, rfl, hT, rfl, h1, h2⟩ := y
    obtain ⟨d, hd, hq⟩ := (da.up g'.f).getV h2
    obtain ⟨x1, x2⟩ := x
    unfold enumL at hx
    rw [List.getElem?_zip_eq_some] at hx
    obtain ⟨hx1, hx2⟩ := hx
    have e1 := rangeL_at hx1
    simp only at e1 hx2
    rw [List.getElem?_map, hx2] at hd
    cases hd
    cases h1
    have g2 : Gm [] F' H' (upd F' T (.tup [V.int (i : Nat), w])) (upd H' T (.tup [V.int (i : Nat), w])) := Gm.new g'.s hT
    refine ⟨_, g2, .tup (st_of upd_same) (.cons ?_ (.cons (hq.up g2.f) .nil))⟩
    rw [e1, Int.zero_add]
    exact .int _
end
end Wk

set_option Elab.async false
set_option linter.all false
set_option maxRecDepth 100000
set_option maxHeartbeats 4000000
namespace Wk
open PySem L2 Evl PySem.Spec PyProof.Rows
/-! ### set(a list of ints), sorted -/
abbrev emS (w : World) : Obj := { cls := .type "set", dict := none, data := .set #[] 0 (.fresh 0 0 (!w.params.followText "set-order")) }
section
variable {P : Program} {w : World} {A : Around} {E : Value → Shared → Prop} {z : Shared}
theorem call_set_li {u : Addr} {its : Array Value} (ks : List Int) {Q : Value → Shared → Prop} (hh : A.handled = none) (hl : z.heap.IsList u its) (hit : IntsAre its.toList ks) (hb : ks.length + 1 < scanBound)
    (h : ∀ (h' : Heap) (tk c : Nat), SetR w h' z.heap.objs.size (fun j => decide (j ∈ ks)) c → c ≤ ks.length → (∀ b o, z.heap.get? b = some o → h'.get? b = some o) → Q (.ref z.heap.objs.size) { z with heap := h', toks := tk }) :
    wpAny (model P w) A (call (.type "set") [.ref u]) Q E z := by
  have sz : its.size = ks.length := by
    have q := IntsAre.length hit
    rwa [Array.length_toList] at q
  obtain ⟨c, tl, hmro⟩ := F.called_set.mro
  have made := F.called_set.made
  have sub := F.called_set.sub
  refine wpAny_call (codeAny_of_tree ?_); (show wpAny _ _ (callAny (.type "set") _) _ _ _)
  refine wpAny_pure ⟨Code.quiet_builtin _ (by decide +kernel), codeAny_builtin F.entry_type_call ?_⟩; rw [Around.under_plain (weight_type_call_type "set" [.ref u] []) rfl]
  have n1 := F.called_set.notType
  have n2 := F.called_set.canCreate
  have n3 := F.typeCall_set_1 (.ref u)
  repeat (any_goals (first | assumption | wp_step))
  refine codeAny_mono (code_set_led1 (.ref u) (E := E) (Q₁ := fun ob z1 => ob = .ref z.heap.objs.size ∧ z1 = { z with heap := z.heap.push (emS w) }) ⟨rfl, rfl⟩) fun r z1 hr => ?_
  cases r with
  | error e => exact hr
  | ok fl =>
    cases fl with
    | ret ob =>
      obtain ⟨rfl, rfl⟩ := hr
      have atS : (z.heap.push (emS w)).get? z.heap.objs.size = some (emS w) := Heap.get?_push_size _ rfl
      have tyS : Shared.TypeIs { z with heap := z.heap.push (emS w) } (.ref z.heap.objs.size) "set" := ⟨_, atS, rfl⟩
      have i1 := F.called_set.init.lookup
      have i2 := F.called_set.init.bind (.ref z.heap.objs.size)
      repeat (any_goals (first | assumption | wp_step))
      refine codeAny_mono (codeAny_call_builtin (R := wants (fun r z2 => r = .none ∧ ∃ h' tk c, z2 = { z with heap := h', toks := tk } ∧ SetR w h' z.heap.objs.size (fun j => decide (j ∈ ks)) c ∧ c ≤ ks.length ∧
          (∀ b o, z.heap.get? b = some o → h'.get? b = some o)) E) F.called_set.init.plain F.entry_set_init (check_set_init_1 tyS ?_)) fun r2 z2 hr2 => ?_
      · obtain ⟨ol, hol, hcl, nl, hdl⟩ := hl
        obtain ⟨oc, od, dt, sl⟩ := ol
        simp only at hcl hdl
        subst hcl
        subst hdl
        have atU : (z.heap.push (emS w)).get? u = some { cls := .type "list", dict := od, data := .seq its nl, slots := sl } := Heap.get?_push_of_some _ hol
        have no1 := F.sub_list_set
        have no2 := F.sub_list_frozenset
        have no3 : (Value.type "list" == Value.type "dict") = false := by decide
        have isl : (z.heap.push (emS w)).IsList u its := ⟨_, atU, rfl, nl, rfl⟩
        unfold Builtin.«set.__init__» noKeywords Builtin.Frozenset.updateFrom
        generalize hPI : pyIter = pI
        wp_walk
        subst hPI
        refine wpAny_pyIter_list isl ?_
        refine wpAny_bind (wpAny_runValue ?_)
        have lu : u < z.heap.objs.size := Heap.lt_size hol
        have h3 : A.in1.in1.in1.handled = none := by simp [hh]
        have ux : u ≠ (z.heap.push (emS w)).objs.size := by rw [Heap.size_push]; exact Nat.ne_of_lt (Nat.lt_succ_of_lt lu)
        have nf : z.heap.objs.size ∉ [(z.heap.push (emS w)).objs.size, u] := by
          rw [Heap.size_push]
          simp only [List.mem_cons, List.mem_singleton, List.not_mem_nil, or_false, not_or]
          exact ⟨Nat.ne_of_lt (Nat.lt_succ_self _), Nat.ne_of_gt lu⟩
        have val : ∀ (i : Nat) (v : Value), its[i]? = some v → ∃ k t, ks[i]? = some k ∧ v = .int k t := fun i v hv => by
          have hi : i < ks.length := by rw [← sz]; exact (Array.getElem?_eq_some_iff.mp hv).1
          obtain ⟨t, e⟩ := PyProof.Rows.IntsAre.int_at hit i v (by rw [Array.getElem?_toList]; exact hv)
          refine ⟨ks[i], t, List.getElem?_eq_getElem hi, ?_⟩
          rw [e, List.getD_eq_getElem?_getD, List.getElem?_eq_getElem hi]
          all_goals rfl
        refine set_update_ints ((Walks.list h3 _ u ux its).toS) z.heap.objs.size nf ks sz hb val (its.size - 0) 0 _ (by omega) (Nat.zero_le _) ⟨⟨_, Heap.get?_push_size _ rfl, rfl, rfl⟩, (isl.push _)⟩ ?a0 ?a1
        case a0 =>
          have q : ((z.heap.push (emS w)).push { cls := .type "list_iterator", data := .fields #[.ref u, .int 0 0] }).get? z.heap.objs.size = some (emS w) := Heap.get?_push_of_some _ atS
          exact ⟨0, Nat.le_refl 0, setR_new_at q⟩
        case a1 =>
          intro z3 c' hm hc' hS'
          obtain ⟨h', g2, d', tk', os'⟩ := z3
          have eg : g2 = z.gens := hm.gens
          have ed : d' = z.drawn := hm.drawn
          have eo : os' = z.os := hm.os
          subst eg; subst ed; subst eo
          (show wpAny _ _ _ _ _ _); refine wpAny_pure ?_
          show wpAny _ _ (ret Value.none) _ _ _
          rw [sz] at hc'
          refine wpAny_pure ⟨rfl, h', tk', c', rfl, hS', hc', fun b o e => ?_⟩
          have b0 : b < z.heap.objs.size := Heap.lt_size e
          have b2 : b ≠ (z.heap.push (emS w)).objs.size := by rw [Heap.size_push]; exact Nat.ne_of_lt (Nat.lt_succ_of_lt b0)
          exact hm.heap b o (by simp only [List.mem_cons, List.mem_singleton, List.not_mem_nil, or_false, not_or]; exact ⟨Nat.ne_of_lt b0, b2⟩) (Heap.get?_push_of_some _ (Heap.get?_push_of_some _ e))
      · cases r2 with
        | error e => exact hr2
        | ok f2 => cases f2 with
          | ret r =>
            obtain ⟨rfl, h', tk, c', rfl, hS', hc', hk'⟩ := hr2
            repeat (any_goals (first | assumption | wp_step))
            exact h h' tk c' hS' hc' hk'
          | _ => exact False.elim hr2
    | _ => exact False.elim hr
end
end Wk

set_option Elab.async false
set_option linter.all false
set_option maxRecDepth 100000
set_option maxHeartbeats 4000000
namespace Wk
open PySem L2 Evl PySem.Spec PyProof.Rows
section
variable {X : Cx}
/-- set(a list of ints) -/
def rSetM (w : World) (K : PySem.W.Frag) : List V → Hp → VK → Prop := fun vs H Q => ∃ (a : Addr) (ns : List Int), vs = [.ref a] ∧ SqL K H a (ns.map V.int) ∧ ns.length < 64 ∧
  ∀ p c, H p = none → c ≤ ns.length → Q (.ref p) (upd H p (SetO w p (fun j => decide (j ∈ ns)) c))
theorem cr_setM (hcalm : X.calm = true) : CallR X (.type "set") (rSetM X.w X.K) := by
  intro pins s σ H vs us Q I r h
  obtain ⟨a, ns, rfl, hq, h64, q⟩ := h
  cases r with
  | cons r rr =>
    cases rr
    cases r
    obtain ⟨its, rv, pl, hz⟩ := I.list hq
    refine call_set_li ns (I.ok.hd hcalm) pl.isList (by simpa using rv.ints) (by unfold scanBound; omega) fun h' tk c hS hc hk => ?_
    have J : Inv X pins σ (upd H s.heap.objs.size (SetO X.w s.heap.objs.size (fun j => decide (j ∈ ns)) c)) { s with heap := h', toks := tk } := I.laid hk (Nat.le_refl _) (setO_new hS)
    exact ⟨.ref s.heap.objs.size, _, J, rfl, q _ c (I.hok.fresh (Nat.le_refl _)) hc⟩
end
/-! ### a sorted set -/
def insU (x : Int) : List Int → List Int
  | [] => [x]
  | y :: l => if x < y then x :: y :: l else if x = y then y :: l else y :: insU x l
def sortedSet (l : List Int) : List Int := l.foldr insU []
theorem mem_insU (x k : Int) : ∀ l, k ∈ insU x l ↔ k = x ∨ k ∈ l
  | [] => by simp [insU]
  | y :: l => by
    unfold insU
    split
    · simp
    · split
      · rename_i h
        subst h
        simp
      · simp only [List.mem_cons, mem_insU x k l]
        constructor
        · rintro (h | h | h)
          · exact .inr (.inl h)
          · exact .inl h
          · exact .inr (.inr h)
        · rintro (h | h | h)
          · exact .inr (.inl h)
          · exact .inl h
          · exact .inr (.inr h)
theorem asc_insU (x : Int) : ∀ l : List Int, l.Pairwise (· < ·) → (insU x l).Pairwise (· < ·)
  | [], _ => by simp [insU]
  | y :: l, h => by
    obtain ⟨h1, h2⟩ := List.pairwise_cons.mp h
    unfold insU
    split
    · rename_i q
      refine List.pairwise_cons.mpr ⟨fun a ha => ?_, h⟩
      rcases List.mem_cons.mp ha with e | e
      · rw [e]; exact q
      · exact Int.lt_trans q (h1 a e)
    · split
      · exact h
      · refine List.pairwise_cons.mpr ⟨fun a ha => ?_, asc_insU x l h2⟩
        rcases (mem_insU x a l).mp ha with e | e
        · rw [e]; omega
        · exact h1 a e
theorem mem_sortedSet (k : Int) : ∀ l : List Int, k ∈ sortedSet l ↔ k ∈ l
  | [] => by simp [sortedSet]
  | x :: l => by
    show k ∈ insU x (sortedSet l) ↔ _
    rw [mem_insU, mem_sortedSet k l, List.mem_cons]
theorem asc_sortedSet : ∀ l : List Int, (sortedSet l).Pairwise (· < ·)
  | [] => List.Pairwise.nil
  | x :: l => asc_insU x _ (asc_sortedSet l)
/-- two ascending lists of the same members are one -/
theorem asc_unique : ∀ l r : List Int, l.Pairwise (· < ·) → r.Pairwise (· < ·) → (∀ k, k ∈ l ↔ k ∈ r) → l = r
  | [], [], _, _, _ => rfl
  | [], y :: r, _, _, h => absurd ((h y).mpr (List.mem_cons_self ..)) (by simp)
  | x :: l, [], _, _, h => absurd ((h x).mp (List.mem_cons_self ..)) (by simp)
  | x :: l, y :: r, hl, hr, h => by
    obtain ⟨l1, l2⟩ := List.pairwise_cons.mp hl
    obtain ⟨r1, r2⟩ := List.pairwise_cons.mp hr
    have e : x = y := by
      have hx : x = y ∨ x ∈ r := List.mem_cons.mp ((h x).mp (List.mem_cons_self ..))
      have hy : y = x ∨ y ∈ l := List.mem_cons.mp ((h y).mpr (List.mem_cons_self ..))
      rcases hx with q | q
      · exact q
      · rcases hy with q' | q'
        · exact q'.symm
        · have := r1 x q
          have := l1 y q'
          omega
    subst e
    rw [asc_unique l r l2 r2 fun k => ?_]
    constructor
    · intro hk
      rcases List.mem_cons.mp ((h k).mp (List.mem_cons_of_mem _ hk)) with q | q
      · have := l1 k hk
        omega
      · exact q
    · intro hk
      rcases List.mem_cons.mp ((h k).mpr (List.mem_cons_of_mem _ hk)) with q | q
      · have := r1 k hk
        omega
      · exact q
section
variable {K : PySem.W.Frag} {M : List Addr} {F H : Hp} {Q : VK} {w : World} {a : Addr} {l : List Int}
theorem sorted_set (e : Ex F H) (s : F a = some (.lst (l.map V.int))) (hl : l.length < 64) (k : Ret M F H (fun F' _ v => Dq K F' v (eL PyData.int (sortedSet l))) Q) :
    ∃ (a' : Addr) (ns : List Int), [V.ref a] = [.ref a'] ∧ SqL K H a' (ns.map V.int) ∧ ns.length < 64 ∧ ∀ p c, H p = none → c ≤ ns.length → rSortedSet w [.ref p] (upd H p (SetO w p (fun j => decide (j ∈ ns)) c)) Q := by
  refine ⟨a, l, rfl, sq_of (e _ _ s), hl, fun p c hp hc => ⟨p, _, c, rfl, upd_same, by omega, fun ns q asc mem _ hq => ?_⟩⟩
  have g1 : Gm M F H (upd F p (SetO w p (fun j => decide (j ∈ l)) c)) (upd H p (SetO w p (fun j => decide (j ∈ l)) c)) := Gm.new e hp
  have g2 : Gm M (upd F p (SetO w p (fun j => decide (j ∈ l)) c)) (upd H p (SetO w p (fun j => decide (j ∈ l)) c)) _ _ := Gm.new (o := .lst (ns.map V.int)) g1.s hq
  have en : ns = sortedSet l := asc_unique ns _ asc (asc_sortedSet l) fun j => by
    rw [mem, mem_sortedSet]
    simp
  refine k _ _ _ (g1.trans g2) ?_
  rw [← en]
  exact .lst upd_same (ints_all ns)
end
end Wk

set_option Elab.async false
set_option linter.all false
set_option maxRecDepth 100000
set_option maxHeartbeats 1000000
namespace Wk
open PySem L2 Evl
theorem Gm.youngs {F0 H0 : Hp} {M : List Addr} {F H F1 H1 : Hp} (ps : List Addr) (g : Gm M F0 H0 F H) (h0 : ∀ p ∈ ps, H0 p = none) (g2 : Gm (ps ++ M) F H F1 H1) : Gm M F0 H0 F1 H1 :=
  ⟨g.f.trans g2.f, g2.s, fun a o hM h => g2.h a o (fun q => by
      rcases List.mem_append.mp q with q | q
      · rw [h0 a q] at h; cases h
      · exact hM q) (g.h a o hM h), fun a o h hn => by
    obtain ⟨o', h'⟩ := g.m a o h
    exact g2.n a o' h' (g.n a o h hn), fun a o h => by
    obtain ⟨o', h'⟩ := g.m a o h
    exact g2.m a o' h'⟩
/-! ### a draw -/
def seedN (s c : Int) : Int := (s * 48271 + c + 11) % 2147483647
def takenA (scr : List Int) (st : Rw) (many : Int) : Mm (Int × Rw) :=
  if 0 < many ∧ many < 1073741824 ∧ 0 ≤ st.seed ∧ st.seed < 2147483647 ∧ 0 ≤ st.pos ∧ st.pos < 1000000 then
    if st.left > 0 then .ok (st.left % many, ⟨st.pos, st.seed, st.left / many⟩)
    else match scr[st.pos.toNat]? with
      | none => .ok ((seedN st.seed 0 / 7) % many, ⟨st.pos + 1, seedN st.seed 0, st.left⟩)
      | some c => .ok (c % many, ⟨st.pos + 1, seedN st.seed c, if c ≥ 10 ^ 18 then c / many else 0⟩)
  else .bad
def takenB (scr : List Int) (st : Rw) (many : Int) : Mm (Int × Rw) :=
  if 0 < many ∧ many < 1073741824 ∧ 0 ≤ st.seed ∧ st.seed < 2147483647 ∧ 0 ≤ st.pos ∧ st.pos < 1000000 then
    if st.left > 0 then .ok (st.left % many, ⟨st.pos, st.seed, st.left / many⟩)
    else match scr[st.pos.toNat]? with
      | none => .ok ((seedN st.seed 0 / 7) % many, ⟨st.pos + 1, seedN st.seed 0, st.left⟩)
      | some c => .ok (c % many, ⟨st.pos + 1, seedN st.seed c, if c ≥ 10 ^ 18 then c / many else st.left⟩)
  else .bad
def spTaken (tk : List Int → Rw → Int → Mm (Int × Rw)) (K : PySem.W.Frag) : Sp := fun vs H Q _ => ∃ (F : Hp) (sc ra : Addr) (scr : List Int) (st : Rw) (many : Int), vs = [.ref ra, .int many] ∧ Ex F H ∧ RowAt K sc ra scr F H st ∧
  Post (tk scr st many) (fun r => Ret [ra] F H (fun F' H' v => v = .int r.1 ∧ RowAt K sc ra scr F' H' r.2) Q) (fun _ => False)
theorem iteP {c : Bool} {A B : Prop} (h : c = true) (a : A) : if c = true then A else B := by rw [if_pos h]; exact a
theorem iteN {c : Bool} {A B : Prop} (h : c = false) (b : B) : if c = true then A else B := by rw [h, if_neg Bool.false_ne_true]; exact b
theorem cmul_small {i j : Int} (h : i.natAbs < 2 ^ 62) (h' : j.natAbs < 2 ^ 62) : CMulW i j := wide_mul h h' (by decide) (by decide) (by decide)
theorem fmod_pos {i j : Int} (h : 0 < j) : i.fmod j = i % j := Int.fmod_eq_emod_of_nonneg _ (Int.le_of_lt h)
theorem fdiv_pos {i j : Int} (h : 0 < j) : i.fdiv j = i / j := Int.fdiv_eq_ediv_of_nonneg _ (Int.le_of_lt h)
/-- pick one of a list -/
def pickM {α : Type} (tk : List Int → Rw → Int → Mm (Int × Rw)) (scr : List Int) (st : Rw) (l : List α) : Mm (α × Rw) := (tk scr st (l.length : Int)).bd fun b => (getM l b.1).bd fun a => .ok (a, b.2)
def spPick (tk : List Int → Rw → Int → Mm (Int × Rw)) (K : PySem.W.Frag) : Sp := fun vs H Q _ => ∃ (F : Hp) (sc ra : Addr) (scr : List Int) (st : Rw) (α : Type) (en : α → PyData) (v : V) (l : List α), vs = [.ref ra, v] ∧ Ex F H ∧ RowAt K sc ra scr F H st ∧ Dq K F v (eL en l) ∧
  Post (pickM tk scr st l) (fun r => Ret [ra] F H (fun F' H' v => Dq K F' v (en r.1) ∧ RowAt K sc ra scr F' H' r.2) Q) (fun _ => False)
end Wk

set_option Elab.async false
set_option linter.all false
set_option maxRecDepth 100000
set_option maxHeartbeats 1000000
namespace Wk
open PySem L2 Evl
theorem notM_nil {H : Hp} : ∀ D, H D = none → D ∉ ([] : List Addr) := fun _ _ => by simp
theorem notM_cons {H : Hp} {p : Addr} {o : HO} {M : List Addr} (h : H p = some o) (k : ∀ D, H D = none → D ∉ M) : ∀ D, H D = none → D ∉ p :: M := fun D hD q => by
  rcases List.mem_cons.mp q with q | q
  · rw [q, h] at hD; cases hD
  · exact k D hD q
/-! ### own lists whose place is open -/
section
variable {M ps : List Addr} {F0 H0 F H F1 H1 : Hp} {p : Addr} {o u : HO}
theorem Gm.putOr (g : Gm M F0 H0 F H) (y : p ∈ M ∨ H0 p = none) (h : H p = some u) (hf : F p = none) : Gm M F0 H0 F (upd H p o) := by
  rcases y with y | y
  · exact g.putIn y h hf
  · exact g.putYoung h hf y
theorem Gm.outs (ps : List Addr) (hy : ∀ p ∈ ps, p ∈ M ∨ H0 p = none) (g : Gm M F0 H0 F H) (g2 : Gm (ps ++ M) F H F1 H1) : Gm M F0 H0 F1 H1 :=
  ⟨g.f.trans g2.f, g2.s, fun a o hM h => g2.h a o (fun q => by
      rcases List.mem_append.mp q with q | q
      · rcases hy a q with z | z
        · exact hM z
        · rw [z] at h; cases h
      · exact hM q) (g.h a o hM h), fun a o h hn => by
    obtain ⟨o', h'⟩ := g.m a o h
    exact g2.n a o' h' (g.n a o h hn), fun a o h => by
    obtain ⟨o', h'⟩ := g.m a o h
    exact g2.m a o' h'⟩
theorem out_y (hy : ∀ p ∈ ps, p ∈ M ∨ H0 p = none) (g : Gm M F0 H0 F H) (y : p ∈ ps ++ M ∨ H p = none) : p ∈ M ∨ H0 p = none := by
  rcases y with y | y
  · rcases List.mem_append.mp y with q | q
    · exact hy p q
    · exact .inl q
  · exact .inr (g.fresh y)
theorem y_ra {ra : Addr} (y : p ∈ [ra] ∨ H0 p = none) (n : ra ≠ p) : H0 p = none := by
  rcases y with y | y
  · exact absurd (List.mem_singleton.mp y).symm n
  · exact y
theorem y_no (y : p ∈ ([] : List Addr) ∨ H0 p = none) : H0 p = none := by
  rcases y with y | y
  · cases y
  · exact y
end
section
variable {K : PySem.W.Frag} {F H : Hp} {Q : VK} {xs ys : List V} {α : Type} {en : α → PyData} {l l' : List α} {a b : Addr}
theorem own_of (e : Ex F H) (k : ∀ p H', Gm [] F H F H' → H p = none → (H' p = some (.lst xs) ∧ F p = none) → Q (.ref p) H') : ∀ p, H p = none → Q (.ref p) (upd H p (.lst xs)) := fun p hp => k p _ (Gm.newM e hp) hp ⟨upd_same, by
    cases q : F p with
    | none => rfl
    | some u => rw [e p u q] at hp; cases hp⟩
/-- list(x) that may change -/
theorem to_own (e : Ex F H) (s : SqL K H a xs ∨ SqT K H a xs) (k : ∀ p H', Gm [] F H F H' → H p = none → (H' p = some (.lst xs) ∧ F p = none) → Q (.ref p) H') : ∃ p ys, [V.ref a] = [.ref p] ∧ (SqL K H p ys ∨ SqT K H p ys) ∧ ∀ l, H l = none → Q (.ref l) (upd H l (.lst ys)) :=
  ⟨a, xs, rfl, s, own_of e k⟩
end
/-! ### isinstance of an int -/
section
variable {X : Cx}
theorem call_isiI : CallR X (.builtin "isinstance") (fun xs H Q => ∃ (i : Int) (n : String) (b : Bool), xs = [.int i, .ty n] ∧ ((n = "int" ∧ b = true) ∨ (n = "bool" ∧ b = false)) ∧ Q (.bl b) H) := by
  intro pins s σ H vs us Q I r h
  obtain ⟨i, n, b, rfl, hn, q⟩ := h
  rcases hn with ⟨rfl, rfl⟩ | ⟨rfl, rfl⟩
  · exact call_isi pins s σ H _ us Q I r ⟨_, _, _, _, true, rfl, .ty _, .base (.int i), kit_ty (by decide +kernel), q⟩
  · exact call_isi pins s σ H _ us Q I r ⟨_, _, _, _, false, rfl, .ty _, .base (.int i), kit_ty (by decide +kernel), q⟩
end
/-! ### tuples of unlike items, empty or not -/
section
variable {K : PySem.W.Frag} {M : List Addr} {F H : Hp} {Q : VK} {α β : Type} {en : α → PyData} {en' : β → PyData} {l : List α} {l' : List β} {xs ys : List V} {a b : Addr}
theorem cat_tupD (e : Ex F H) (s : SqT K F a xs) (h : DqAll K F xs (l.map en)) (s' : SqT K F b ys) (h' : DqAll K F ys (l'.map en')) (hl : l.length + l'.length ≤ 100000) (k : Ret M F H (fun F' _ v => Dq K F' v (.tuple (l.map en ++ l'.map en'))) Q) : rCatM K (.ref a) (.ref b) H Q := by
  have n1 : xs.length = l.length := by rw [h.len, List.length_map]
  have n2 : ys.length = l'.length := by rw [h'.len, List.length_map]
  refine ⟨a, b, xs, ys, rfl, rfl, ex_t e s, ex_t e s', sz_of (by omega), fun q => ?_, fun _ q => ?_, fun _ _ p hp => ?_⟩
  · subst q
    have hl0 : l = [] := List.length_eq_zero_iff.mp n1.symm
    exact k _ _ _ (Gm.refl e) (by rw [hl0]; exact .tup s' h')
  · subst q
    have hl0 : l' = [] := List.length_eq_zero_iff.mp n2.symm
    exact k _ _ _ (Gm.refl e) (by rw [hl0, List.map_nil, List.append_nil]; exact .tup s h)
  · have g : Gm M F H (upd F p (.tup (xs ++ ys))) (upd H p (.tup (xs ++ ys))) := Gm.new e hp
    exact k _ _ _ g (.tup (st_of upd_same) ((h.app h').up g.f))
end
section
variable {X : Cx} {α β : Type} [DecidableEq α] [DecidableEq β] {f : α → PyData} {g : β → PyData} {n m : Nat}
theorem lay_app : ∀ (l r : List PyData), PyData.canLayAll0 l = true → PyData.canLayAll0 r = true → PyData.canLayAll0 (l ++ r) = true
  | [], r, _, h => h
  | x :: l, r, h, h' => by
    simp only [PyData.canLayAll0, Bool.and_eq_true] at h
    simp only [List.cons_append, PyData.canLayAll0, Bool.and_eq_true]
    exact ⟨h.1, lay_app l r h.2 h'⟩
theorem dep_app : ∀ (l r : List PyData) (k : Nat), PyData.depthAll l ≤ k → PyData.depthAll r ≤ k → PyData.depthAll (l ++ r) ≤ k
  | [], r, _, _, h => h
  | x :: l, r, k, h, h' => by
    simp only [PyData.depthAll] at h
    simp only [List.cons_append, PyData.depthAll]
    have := dep_app l r k (by omega) h'
    omega
theorem shaped_cat (s : Sh f n) (s' : Sh g m) (l : List α) (r : List β) (h : max n m + 1 ≤ 64 := by decide) : SeqAt.shaped (.tuple (l.map f ++ r.map g)) = true := by
  unfold SeqAt.shaped
  have d := dep_app (l.map f) (r.map g) (max n m) (Nat.le_trans (dep_map s l) (Nat.le_max_left ..)) (Nat.le_trans (dep_map s' r) (Nat.le_max_right ..))
  simp only [PyData.canLay0, lay_app _ _ (lay_map s l) (lay_map s' r), PyData.depth, Bool.true_and]
  exact decide_eq_true (by omega)
/-- t != (), t == () -/
def rNilM (K : PySem.W.Frag) (neg : Bool) : R2 := fun x y H Q => ∃ (ds : List PyData) (b : Bool), Dp K H x (.tuple ds) ∧ Dp K H y (.tuple []) ∧ SeqAt.shaped (.tuple ds) = true ∧ ds.isEmpty = b ∧ Q (.bl (if neg = true then !b else b)) H
theorem eqv_nil (ds : List PyData) : PyData.eqv (.tuple ds) (.tuple []) = ds.isEmpty := by
  cases ds <;> rfl
theorem op_neNil (hu : X.A.units + 64 < cLine) : OpR X (compareOp .NotEq) (rNilM X.K true) := by
  intro pins st σ H x y v u Q I rx ry h
  obtain ⟨ds, b, hd, he, sd, rfl, q⟩ := h
  exact op_neD hu pins st σ H x y v u Q I rx ry ⟨.tuple ds, .tuple [], hd, he, sd, by decide, by rw [eqv_nil]; exact q⟩
theorem op_eqNil (hu : X.A.units + 64 < cLine) : OpR X (compareOp .Eq) (rNilM X.K false) := by
  intro pins st σ H x y v u Q I rx ry h
  obtain ⟨ds, b, hd, he, sd, rfl, q⟩ := h
  exact op_eqD hu pins st σ H x y v u Q I rx ry ⟨.tuple ds, .tuple [], hd, he, sd, by decide, by rw [eqv_nil]; exact q⟩
theorem isEmpty_cat (l : List α) (r : List β) : (l.map f ++ r.map g).isEmpty = (l.isEmpty && r.isEmpty) := by
  cases l <;> cases r <;> rfl
end
/-! ### weightings -/
abbrev Ms := List (Int × Int)
abbrev Ss := List (Int × Int × Int)
abbrev Wt := Ms × Ss
abbrev eM : Ms → PyData := eV (e2 PyData.int PyData.int)
abbrev eS : Ss → PyData := eV (e3 PyData.int PyData.int PyData.int)
def wf (m s : V) : List (Str × V) := putF "_stretches" s (putF "_masses" m [])
theorem wf_eq (m s : V) : wf m s = ([("_masses", m), ("_stretches", s)] : List (Str × V)) := by
  have n : ¬ (("_masses" : Str) = "_stretches") := by decide +kernel
  show (if ("_masses" : Str) = "_stretches" then [(("_masses" : Str), s)] else (("_masses" : Str), m) :: putF "_stretches" s []) = ([("_masses", m), ("_stretches", s)] : List (Str × V))
  rw [if_neg n]
  rfl
theorem wf_m (m s : V) : (wf m s).lookup ("_masses" : Str) = some m := by
  unfold wf
  rw [lookup_putF, if_neg (by decide +kernel), lookup_putF, if_pos rfl]
theorem wf_s (m s : V) : (wf m s).lookup ("_stretches" : Str) = some s := by
  unfold wf
  rw [lookup_putF, if_pos rfl]
/-- v is a weighting that stands fixed -/
structure IsW (K : PySem.W.Frag) (C : Addr) (F : Hp) (v : V) (w : Wt) : Prop where
  ex : ∃ a dx m s, v = .ref a ∧ F a = some (.ins C dx (wf m s)) ∧ Dq K F m (eM w.1) ∧ Dq K F s (eS w.2)
theorem IsW.up {K : PySem.W.Frag} {C : Addr} {F F' : Hp} {v : V} {w : Wt} (h : IsW K C F v w) (e : Ex F F') : IsW K C F' v w := by
  obtain ⟨a, dx, m, s, rfl, h1, h2, h3⟩ := h.ex
  exact ⟨a, dx, m, s, rfl, e _ _ h1, h2.up e, h3.up e⟩
/-- a property of a class, by its name and its field -/
structure KnP (P : Program) (w : World) (K : PySem.W.Frag) (mg : Str → Option Value) (base : Heap) (C : Addr) (f fld : Str) : Prop where
  ex : ∃ p g fd, PropOf K C f p g ∧ FnOk P w K mg base CX0 1 g fd ["self"] (getSp C fld) ∧ Binds K fd ["self"] []
  cl : Cls K C
section
variable {X : Cx} {C : Addr} {f fld : Str} {e : Expr} {ta : TE} {pos : Pos}
theorem pe_propK (G : KnP X.prog X.w X.K X.mg X.base C f fld) (hr : Room 2 X.A) (he : PE X e ta) (hab : attributeBase e f X.env (eval e X.env) = eval e X.env := by rfl) : PE X (.Attribute e f pos) (tProp C (getSp C fld) [] E0 ta) := by
  obtain ⟨p, g, fd, hp, F, hb⟩ := G.ex
  exact pe_prop he G.cl hp F hr hb .nil pass0 hab
end
/-- a class that is called: by the name x its __init__ with the promise sp -/
structure KnC (P : Program) (w : World) (K : PySem.W.Frag) (mg : Str → Option Value) (base : Heap) (CX : CXT) (x : Str) (C : Addr) (k : Nat) (ps : List Str) (sp : Sp) : Prop where
  ex : ∃ f fd, Mk K C f ∧ FnOk P w K mg base CX k f fd ps sp ∧ Binds K fd ps []
  mg : mg x = some (.ref C)
section
variable {X : Cx} {C : Addr} {x : Str} {k : Nat} {ps : List Str} {sp : Sp} {e : Expr} {es : List Expr} {t : TA} {p pos : Pos} {CX : CXT} {E : XK}
theorem pe_knC (G : KnC X.prog X.w X.K X.mg X.base CX x C k ps sp) (hr : Room (k + 1) X.A) (hx : Passes CX X E) (ha : PA X (e :: es) t) (hg : Gl X x := by rfl) (hdb : (x == ("__debug__" : Str)) = false := by decide)
    (he : starEach (e :: es) X.env = (false, eval e X.env) :: starEach es X.env := by rfl) (hpl : (backTo pos (starEach es X.env)).any (·.1) = false := by rfl) : PE X (.Call (.Name x p) (e :: es) [] pos) (tMake C sp [] E t) := by
  obtain ⟨f, fd, M, F, hb⟩ := G.ex
  exact pe_make M F hr hg G.mg hb .nil hx ha hdb he hpl
end
/-- Weighting.__init__: chk tells whether the parts may be so -/
def spW0 (chk : Ms → Ss → Mm Wt) (K : PySem.W.Frag) (C : Addr) : Sp := fun vs H Q _ => ∃ (F : Hp) (x dx : Addr) (vm vs' : V) (m : Ms) (s : Ss), vs = [.ref x, vm, vs'] ∧ Ex F H ∧ H x = some (.ins C dx []) ∧ F x = none ∧
  Dq K F vm (eM m) ∧ Dq K F vs' (eS s) ∧ Post (chk m s) (fun w => ∀ F' H' a b, Gm [x] F H F' H' → H' x = some (.ins C dx (wf a b)) → F' x = none → Dq K F' a (eM w.1) → Dq K F' b (eS w.2) → Q .non H') (fun _ => False)
theorem make_W {chk : Ms → Ss → Mm Wt} {K : PySem.W.Frag} {C : Addr} {F H : Hp} {vm vs : V} {m : Ms} {s : Ss} {Q : VK} {E : XK} (e : Ex F H) (hm : Dq K F vm (eM m)) (hs : Dq K F vs (eS s))
    (k : Post (chk m s) (fun w => Ret [] F H (fun F' _ v => IsW K C F' v w) Q) (fun _ => False)) :
    ∀ x dx, H x = none → H dx = none → dx ≠ x → spW0 chk K C (.ref x :: ([vm, vs] ++ [])) (upd (upd H dx (.own x)) x (.ins C dx [])) (fun v H2 => v = .non ∧ Q (.ref x) H2) E := by
  intro x dx hx hdx hne
  have g1 : Gm [] F H (upd F dx (.own x)) (upd H dx (.own x)) := Gm.new e hdx
  have hx1 : (upd H dx (.own x)) x = none := by rw [upd_ne hne.symm]; exact hx
  have g2 : Gm [] (upd F dx (.own x)) (upd H dx (.own x)) (upd F dx (.own x)) (upd (upd H dx (.own x)) x (.ins C dx [])) := Gm.newM g1.s hx1
  have fx : (upd F dx (.own x)) x = none := by
    cases q : (upd F dx (.own x)) x with
    | none => rfl
    | some u => rw [g1.s _ _ q] at hx1; cases hx1
  refine ⟨upd F dx (.own x), x, dx, vm, vs, m, s, rfl, g2.s, upd_same, fx, hm.up g1.f, hs.up g1.f, k.mono (fun w k F' H' a b g h1 h2 ha hb => ⟨rfl, ?_⟩) fun _ z => z⟩
  have gg : Gm [] F H F' H' := by
    refine Gm.young (g1.trans g2) hx g
  have g3 := gg.fix h1 h2 hx
  have up : Ex F' (upd F' x (.ins C dx (wf a b))) := Ex.new h2
  exact k _ _ _ g3 ⟨x, dx, a, b, rfl, upd_same, ha.up up, hb.up up⟩
end Wk

set_option Elab.async false
set_option linter.all false
namespace Wk
open PySem L2 Evl
theorem new_row {K : PySem.W.Frag} {H : Hp} {sc : Addr} {scr : List Int} {Q : VK} (hs : SqL K H sc (scr.map V.int)) (k : ∀ ra H', Ex H H' → RowAt K sc ra scr H H' ⟨0, 0, 0⟩ → Q (.ref ra) H') : [V.ref sc, V.int 0, V.int 0, V.int 0].length ≤ sizeLine ∧ ∀ p, H p = none → Q (.ref p) (upd H p (.lst [V.ref sc, V.int 0, V.int 0, V.int 0])) :=
  ⟨sz_of (by show 4 ≤ 100000; decide), fun p hp => k p _ (Ex.new hp) ⟨upd_same, hp, hs⟩⟩
end Wk

set_option Elab.async false
set_option linter.all false
set_option maxRecDepth 100000
set_option maxHeartbeats 2000000
namespace Wk
open PySem PySem.W L2 He
/-! ### properties by their names -/
def propG (x f : Str) (K : Frag) : Addr := match recIn K (ma K (ga K x) f) "property" with
  | some (.ref g :: _) => g
  | _ => 0
def propB (x f : Str) (K : Frag) : Bool := eqO (findIn K (.ref (ga K x)) f) (some (some (.ref (ma K (ga K x) f)))) && (eqO (specialIn K (.ref (ma K (ga K x) f)) "__get__") (some (some (.builtin "property.__get__"))) &&
  (decide (takesIn K (.ref (ma K (ga K x) f)) = some true) && (match recIn K (ma K (ga K x) f) "property" with
    | some (.ref _ :: _) => true
    | _ => false)))
theorem propB_ok {K : Frag} {x f : Str} (h : propB x f K = true) : PropOf K (ga K x) f (ma K (ga K x) f) (propG x f K) := by
  obtain ⟨h1, h⟩ := ba h
  obtain ⟨h2, h⟩ := ba h
  obtain ⟨h3, h4⟩ := ba h
  refine ⟨eqO_ok h1, eqO_ok h2, of_decide_eq_true h3, ?_⟩
  unfold propG
  split at h4
  · rename_i g r e
    exact ⟨r, by rw [e]⟩
  · cases h4
/-- a def of a class -/
def initAt (x m : Str) (K : Frag) : Addr := ma K (ga K x) m
/-- a name that is a built-in function -/
def bltB (x : Str) (id : String) (K : Frag) : Bool := eqO (nsIn K mainGlobals x) (some (some (.builtin id)))
theorem bltB_ok {K : Frag} {h : Heap} {mg : Str → Option Value} (X : K.In h) (G : h.Ns mainGlobals mg) {x : Str} {id : String} (c : bltB x id K = true) : mg x = some (.builtin id) := mg_of X G (eqO_ok c)
/-! ### the Hook: facts, defs, what else a Bool tells -/
def obsX (fa : List Fa) (fn : List He5.DefA) (ex : Frag → Bool) (K : Frag) : He.AlD := ((fa.all fun f => f.ok K) && ((fn.all fun d => d.ok K) && ex K), fn.map fun d => He5.fnA K (d.at_ K))
def valX (fn : List He5.DefA) : He.AlD := (true, fn.map He5.DefA.val)
def SaysX (fa : List Fa) (fn : List He5.DefA) (ex : Frag → Bool) (K : Frag) : Prop := obsX fa fn ex K = valX fn
def obsXG (n : Nat) (fa : List Fa) (fn : List He5.DefA) (ex : Frag → Bool) (g : Addr → Option Obj) : He.AlD := obsX fa fn ex (frG g (He5.asA g n))
def hookX (n : Nat) (fa : List Fa) (fn : List He5.DefA) (ex : Frag → Bool) : PySem.W.Hook where
  α := He.AlD
  obs := fun s => obsXG n fa fn ex s.heap.get?
  val := fun _ => valX fn
  says := fun _ h => ∃ K : Frag, K.In h ∧ SaysX fa fn ex K
  of := fun _ _ e => ⟨_, frG_in, e⟩
  keeps := fun _ _ _ ⟨K, hK, c⟩ k => ⟨K, Frag.In.keeps hK k, c⟩
theorem obsXG_eq {n : Nat} {fa : List Fa} {fn : List He5.DefA} {ex : Frag → Bool} {g : Addr → Option Obj} {s : Shared} (h : ∀ a, g a = s.heap.get? a) : obsXG n fa fn ex g = (hookX n fa fn ex).obs s := by
  have e : g = s.heap.get? := funext h
  rw [e] <;> rfl
section
variable {fa : List Fa} {fn : List He5.DefA} {ex : Frag → Bool} {K : Frag}
theorem SaysX.bool (c : SaysX fa fn ex K) : (((fa.all fun f => f.ok K) && ((fn.all fun d => d.ok K) && ex K)) : Bool) = true := congrArg (fun z : He.AlD => z.1) c
theorem SaysX.fact (c : SaysX fa fn ex K) (i : Nat) {f : Fa} (h : fa[i]? = some f := by rfl) : f.ok K = true :=
  List.all_eq_true.mp (ba c.bool).1 f (List.mem_of_getElem? h)
theorem SaysX.ext (c : SaysX fa fn ex K) : ex K = true := (ba (ba c.bool).2).2
theorem SaysX.def_ (c : SaysX fa fn ex K) (i : Nat) {d : He5.DefA} (h : fn[i]? = some d := by rfl) : ∃ fd, L2.FunD K d.name d.qual d.params d.body d.scope (d.dvs K) (d.kws K) (d.at_ K) fd := by
  have c2 := (ba (ba c.bool).2).1
  have e : fn.map (fun d => He5.fnA K (d.at_ K)) = fn.map He5.DefA.val := congrArg (fun z : He.AlD => z.2) c
  have e2 : (fn.map fun d => He5.fnA K (d.at_ K))[i]? = (fn.map He5.DefA.val)[i]? := by rw [e]
  rw [List.getElem?_map, List.getElem?_map, h] at e2
  exact He5.DefA.funD (Option.some.inj e2) (List.all_eq_true.mp c2 d (List.mem_of_getElem? h))
end
/-- a global's def -/
def gAt (x : Str) (K : Frag) : Addr := ga K x
theorem knP_of {P : Program} {w : World} {K : Frag} {mg : Str → Option Value} {base : Heap} {x f fld qual : Str} {params : Arguments} {body : List Stmt} {scope : Scope} {fd : FuncData} {p1 p2 p3 : Pos} (hp : propB x f K = true) (cl : Cls K (ga K x)) (n : NoAttr K (ga K x) fld)
    (F : FunD K f qual params body scope [] [] (propG x f K) fd) (S : FnScope ["self"] ["self"] scope) (hb : body = [.Return (some (.Attribute (.Name "self" p1) fld p2)) p3])
    (bi : ∀ (kV doc pm : Value) (an : Option Addr) (cdv ct : Value) (us : List Value), us.length = 1 → bindArgs (PySem.W.fnOf f qual params body scope .none kV doc pm an cdv ct) ⟨us, []⟩ = pure ([("self" : Str)].zip us)) : KnP P w K mg base (ga K x) f fld := by
  have b := F.bindsN (ps := ["self"]) bi
  obtain ⟨oc, od, dV, kV, doc, pm, an, cdv, ct, osl, rfl, lk, hcd, _, _⟩ := F.ex
  exact ⟨⟨_, _, _, propB_ok hp, fn_getter lk hcd S rfl hb cl n, b⟩, cl⟩
end Wk

set_option Elab.async false
set_option linter.all false
set_option maxRecDepth 100000
namespace Wk
open PySem L2
/-! ### outcomes that are values -/
def Yes {α : Type} (m : Mm α) (p : α → Prop) : Prop := ∃ a, m = .ok a ∧ p a
section
variable {α β γ S : Type} {m : Mm α} {f : α → Mm β} {p : α → Prop} {q : β → Prop}
theorem Yes.ok {a : α} (h : p a) : Yes (.ok a) p := ⟨a, rfl, h⟩
theorem Yes.bd (h : Yes m p) (k : ∀ a, p a → Yes (f a) q) : Yes (m.bd f) q := by
  obtain ⟨a, rfl, h⟩ := h
  exact k a h
theorem Yes.eq {a : α} (h : m = .ok a) (k : Yes (f a) q) : Yes (m.bd f) q := by
  subst h
  exact k
theorem Yes.mono {p' : α → Prop} (h : Yes m p) (k : ∀ a, p a → p' a) : Yes m p' := by
  obtain ⟨a, e, h⟩ := h
  exact ⟨a, e, k a h⟩
theorem Yes.guard {c : Prop} [Decidable c] {f : Unit → Mm β} (h : c) (k : Yes (f ()) q) : Yes ((guardM c).bd f) q := by
  unfold guardM
  rw [if_pos h]
  exact k
theorem bd_eq {a : α} (h : m = .ok a) : m.bd f = f a := by subst h; rfl
theorem bd_guard {c : Prop} [Decidable c] {f : Unit → Mm β} (h : c) : (guardM c).bd f = f () := by unfold guardM; rw [if_pos h]; rfl
theorem mapMm_eq {f : α → Mm γ} {g : α → γ} : ∀ l : List α, (∀ x ∈ l, f x = .ok (g x)) → mapMm f l = .ok (l.map g)
  | [], _ => rfl
  | x :: l, h => by
    unfold mapMm
    rw [h x (List.mem_cons_self ..), mapMm_eq l fun y hy => h y (List.mem_cons_of_mem _ hy)]
    rfl
theorem foldM_eq {f : S → α → Mm S} {g : S → α → S} (I : S → List α → Prop) : ∀ (l : List α) (s : S), I s l → (∀ s x l, I s (x :: l) → f s x = .ok (g s x) ∧ I (g s x) l) → foldM f s l = .ok (l.foldl g s)
  | [], s, _, _ => rfl
  | x :: l, s, h, k => by
    obtain ⟨e, h2⟩ := k s x l h
    unfold foldM
    rw [e]
    exact foldM_eq I l _ h2 k
theorem yes_fold {f : S → α → Mm S} (I : S → List α → Prop) : ∀ (l : List α) (s : S), I s l → (∀ s x l, I s (x :: l) → Yes (f s x) fun s' => I s' l) → Yes (foldM f s l) fun s' => I s' []
  | [], s, h, _ => ⟨s, rfl, h⟩
  | x :: l, s, h, k => by
    obtain ⟨s', e, h2⟩ := k s x l h
    unfold foldM
    rw [e]
    exact yes_fold I l s' h2 k
inductive All2 {α γ : Type} (p : α → γ → Prop) : List α → List γ → Prop
  | nil : All2 p [] []
  | cons {x : α} {y : γ} {l : List α} {r : List γ} : p x y → All2 p l r → All2 p (x :: l) (y :: r)
theorem All2.len {p : α → γ → Prop} {l : List α} {r : List γ} (h : All2 p l r) : r.length = l.length := by
  induction h with
  | nil => rfl
  | cons _ _ ih => simp [ih]
theorem All2.right {p : α → γ → Prop} {q : γ → Prop} {l : List α} {r : List γ} (h : All2 p l r) (k : ∀ x y, p x y → q y) : ∀ y ∈ r, q y := by
  induction h with
  | nil => simp
  | cons a _ ih =>
    intro y hy
    rcases List.mem_cons.mp hy with rfl | hy
    · exact k _ _ a
    · exact ih y hy
theorem All2.fst {g : γ → α} {p : α → γ → Prop} {l : List α} {r : List γ} (h : All2 p l r) (k : ∀ x y, p x y → g y = x) : r.map g = l := by
  induction h with
  | nil => rfl
  | cons a _ ih => rw [List.map_cons, k _ _ a, ih]
theorem yes_mapSt {f : S → α → Mm (γ × S)} (I : S → Prop) (p : α → γ → Prop) : ∀ (l : List α) (s : S), I s → (∀ s x, x ∈ l → I s → Yes (f s x) fun y => p x y.1 ∧ I y.2) → Yes (mapSt f s l) fun r => All2 p l r.1 ∧ I r.2
  | [], s, h, _ => ⟨_, rfl, .nil, h⟩
  | x :: l, s, h, k => by
    obtain ⟨y, e, h1, h2⟩ := k s x (List.mem_cons_self ..) h
    obtain ⟨r, e2, h3, h4⟩ := yes_mapSt I p l y.2 h2 fun s z hz => k s z (List.mem_cons_of_mem _ hz)
    unfold mapSt
    rw [e]
    show Yes ((mapSt f y.2 l).bd _) _
    rw [e2]
    exact ⟨_, rfl, .cons h1 h3, h4⟩
end
theorem range_ok {j : Int} (h : -(2 ^ 62) ≤ j) (h2 : j < 2 ^ 62) : rangeM j = .ok (rangeL 0 j.toNat) := by unfold rangeM; rw [if_pos ⟨h, h2⟩]
theorem mul_ok {i j : Int} {a b : Nat} (ha : i.natAbs < 2 ^ a) (hb : j.natAbs < 2 ^ b) (h : a + b ≤ 900000) : mulM i j = .ok (i * j) := by
  unfold mulM
  refine if_pos (wide_mul (a := a + 1) (b := b + 1) ?_ ?_ (by omega) (by omega) (by omega))
  · rw [Nat.pow_succ]; omega
  · rw [Nat.pow_succ]; omega
theorem div_any {i j : Int} {b : Nat} (h : j ≠ 0) (hb : j.natAbs < 2 ^ b) (h2 : b < 9000) : divM i j = .ok (i.fdiv j) := by
  unfold divM
  have hb' : j.natAbs < 2 ^ (b + 1) := by rw [Nat.pow_succ]; omega
  exact if_pos ⟨h, Nat.lt_of_lt_of_le (PySem.Flt.log2_lt_of (by omega) hb') (by omega)⟩
theorem div_ok {i j : Int} {b : Nat} (h : 0 < j) (hb : j.natAbs < 2 ^ b) (h2 : b < 9000) : divM i j = .ok (i / j) := by
  rw [div_any (by omega) hb h2, Int.fdiv_eq_ediv_of_nonneg _ (Int.le_of_lt h)]
theorem mod_ok {i j : Int} (h : 0 < j) : modM i j = .ok (i % j) := by
  unfold modM
  rw [if_pos (by omega), Int.fmod_eq_emod_of_nonneg _ (Int.le_of_lt h)]
theorem mod_ne {i j : Int} (h : j ≠ 0) : modM i j = .ok (i.fmod j) := by
  unfold modM
  rw [if_pos h]
/-! ### fractions -/
def fr (q : Rat) : Int × Int := (q.num, (q.den : Int))
def Sq (n : Nat) (q : Rat) : Prop := q.num.natAbs < 2 ^ n ∧ q.den < 2 ^ n
theorem fr_nat (a : Int) {d : Nat} (h : d ≠ 0) : fr ((a : Rat) / (d : Rat)) = (a / ((Nat.gcd a.natAbs d : Nat) : Int), ((d / Nat.gcd a.natAbs d : Nat) : Int)) := by
  unfold fr
  rw [← Rat.mkRat_eq_div, Rat.num_mkRat, Rat.den_mkRat, if_neg h, if_neg h, Nat.gcd_comm]
theorem fr_int (a : Int) {b : Int} (h : 0 < b) : fr ((a : Rat) / (b : Rat)) = (a / ((Nat.gcd a.natAbs b.natAbs : Nat) : Int), b / ((Nat.gcd a.natAbs b.natAbs : Nat) : Int)) := by
  obtain ⟨d, rfl⟩ := Int.eq_ofNat_of_zero_le (Int.le_of_lt h)
  have hd : d ≠ 0 := by omega
  have := fr_nat a hd
  rw [Int.natAbs_natCast, ← Int.natCast_ediv]
  exact this
theorem gcd_pos_int {a b : Int} (h : 0 < b) : 0 < ((Nat.gcd a.natAbs b.natAbs : Nat) : Int) := by
  have : 0 < Nat.gcd a.natAbs b.natAbs := Nat.gcd_pos_of_pos_right _ (by omega)
  omega
theorem gcd_le_int {a b : Int} (h : 0 < b) : ((Nat.gcd a.natAbs b.natAbs : Nat) : Int).natAbs ≤ b.natAbs := by
  rw [Int.natAbs_natCast]
  exact Nat.gcd_le_right _ (by omega)
theorem den_posI (q : Rat) : 0 < (q.den : Int) := by
  have := q.den_nz
  omega
theorem fr_val (q : Rat) : ((fr q).1 : Rat) / ((fr q).2 : Rat) = q := by
  have h := Rat.mkRat_eq_div q.num q.den
  rw [Rat.mkRat_self] at h
  unfold fr
  rw [show (((q.den : Nat) : Int) : Rat) = ((q.den : Nat) : Rat) from rfl]
  exact h.symm
theorem sq_div {n : Nat} {a b : Int} (h : 0 < b) (ha : a.natAbs < 2 ^ n) (hb : b.natAbs < 2 ^ n) : Sq n ((a : Rat) / (b : Rat)) := by
  have e := fr_int a h
  unfold fr at e
  simp only [Prod.mk.injEq] at e
  obtain ⟨e1, e2⟩ := e
  unfold Sq
  have g0 := gcd_pos_int (a := a) h
  constructor
  · rw [e1]
    exact Nat.lt_of_le_of_lt (Int.natAbs_ediv_le_natAbs _ _) ha
  · have : ((a : Rat) / (b : Rat)).den = (((a : Rat) / (b : Rat)).den : Int).natAbs := by omega
    rw [this, e2]
    exact Nat.lt_of_le_of_lt (Int.natAbs_ediv_le_natAbs _ _) hb
theorem two_le (n : Nat) : 1 ≤ 2 ^ n := Nat.one_le_two_pow
theorem add_lt {x y : Int} {a b n : Nat} (ha : x.natAbs < 2 ^ a) (hb : y.natAbs < 2 ^ b) (h : a < n) (h' : b < n) : (x + y).natAbs < 2 ^ n := by
  have e1 : 2 ^ a ≤ 2 ^ (n - 1) := Nat.pow_le_pow_right (by decide) (by omega)
  have e2 : 2 ^ b ≤ 2 ^ (n - 1) := Nat.pow_le_pow_right (by decide) (by omega)
  have e3 : 2 ^ n = 2 * 2 ^ (n - 1) := by
    rw [← Nat.pow_succ']
    congr 1
    omega
  omega
theorem sub_lt {x y : Int} {a b n : Nat} (ha : x.natAbs < 2 ^ a) (hb : y.natAbs < 2 ^ b) (h : a < n) (h' : b < n) : (x - y).natAbs < 2 ^ n := by
  have := add_lt (x := x) (y := -y) ha (by omega) h h'
  rwa [Int.sub_eq_add_neg]
theorem mul_lt {x y : Int} {a b n : Nat} (ha : x.natAbs < 2 ^ a) (hb : y.natAbs < 2 ^ b) (h : a + b ≤ n) : (x * y).natAbs < 2 ^ n :=
  Nat.lt_of_lt_of_le (wide_lt ha hb) (Nat.pow_le_pow_right (by decide) h)
theorem up_lt {x : Int} {a n : Nat} (ha : x.natAbs < 2 ^ a) (h : a ≤ n) : x.natAbs < 2 ^ n := Nat.lt_of_lt_of_le ha (Nat.pow_le_pow_right (by decide) h)
theorem Sq.up {q : Rat} {a n : Nat} (h : Sq a q) (l : a ≤ n) : Sq n q := ⟨up_lt h.1 l, Nat.lt_of_lt_of_le h.2 (Nat.pow_le_pow_right (by decide) l)⟩
theorem Sq.d {q : Rat} {a : Nat} (h : Sq a q) : ((q.den : Nat) : Int).natAbs < 2 ^ a := by rw [Int.natAbs_natCast]; exact h.2
theorem rat_add (p q : Rat) : p + q = ((p.num * (q.den : Int) + q.num * (p.den : Int) : Int) : Rat) / (((p.den : Int) * (q.den : Int) : Int) : Rat) := by
  have a := fr_val p
  have b := fr_val q
  unfold fr at a b
  have x : ((p.den : Int) : Rat) ≠ 0 := by
    have := den_posI p
    intro z
    have := Rat.intCast_inj.mp (show ((p.den : Int) : Rat) = ((0 : Int) : Rat) from z)
    omega
  have y : ((q.den : Int) : Rat) ≠ 0 := by
    have := den_posI q
    intro z
    have := Rat.intCast_inj.mp (show ((q.den : Int) : Rat) = ((0 : Int) : Rat) from z)
    omega
  push_cast
  push_cast at a b x y
  grind
theorem rat_mul (p q : Rat) : p * q = ((p.num * q.num : Int) : Rat) / (((p.den : Int) * (q.den : Int) : Int) : Rat) := by
  have a := fr_val p
  have b := fr_val q
  unfold fr at a b
  push_cast
  push_cast at a b
  grind
theorem rat_div (p q : Rat) : p / q = ((p.num * (q.den : Int) : Int) : Rat) / (((p.den : Int) * q.num : Int) : Rat) := by
  have a := fr_val p
  have b := fr_val q
  unfold fr at a b
  push_cast
  push_cast at a b
  grind
theorem sq_add {p q : Rat} {a b n : Nat} (ha : Sq a p) (hb : Sq b q) (h : a + b < n) : Sq n (p + q) := by
  rw [rat_add]
  refine sq_div (Int.mul_pos (den_posI p) (den_posI q)) ?_ (mul_lt ha.d hb.d (by omega))
  exact add_lt (mul_lt ha.1 hb.d (Nat.le_refl _)) (mul_lt hb.1 ha.d (Nat.le_refl _)) (by omega) (by omega)
theorem sq_mul {p q : Rat} {a b n : Nat} (ha : Sq a p) (hb : Sq b q) (h : a + b ≤ n) : Sq n (p * q) := by
  rw [rat_mul]
  exact sq_div (Int.mul_pos (den_posI p) (den_posI q)) (mul_lt ha.1 hb.1 h) (mul_lt ha.d hb.d h)
theorem num_pos' {q : Rat} (h : 0 < q) : 0 < q.num := by
  have := Rat.num_nonneg (q := q)
  have h1 : 0 ≤ q.num := this.mpr (Rat.le_of_lt h)
  have h2 : q.num ≠ 0 := fun z => by
    have : q = 0 := Rat.num_eq_zero.mp z
    rw [this] at h
    exact absurd h (by decide)
  omega
theorem sq_quo {p q : Rat} {a b n : Nat} (ha : Sq a p) (hb : Sq b q) (hq : 0 < q) (h : a + b ≤ n) : Sq n (p / q) := by
  rw [rat_div]
  exact sq_div (Int.mul_pos (den_posI p) (num_pos' hq)) (mul_lt ha.1 hb.d h) (mul_lt ha.d hb.1 h)
theorem fr_inj {p q : Rat} (h : fr p = fr q) : p = q := by
  have a := fr_val p
  rw [h, fr_val] at a
  exact a.symm
end Wk

set_option Elab.async false
set_option linter.all false
set_option maxRecDepth 100000
namespace Wk
open PySem L2 Evl
section
variable {K : PySem.W.Frag} {M : List Addr} {F F' H H' : Hp} {Q : VK} {α : Type} {en : α → PyData} {l l' : List α} {xs ys : List V} {a b p : Addr} {v : V} {ds : List PyData}
/-! ### None or a value -/
theorem sh_eO [DecidableEq α] {f : α → PyData} {n : Nat} (s : Sh f n) (h1 : ∀ a, PyData.eqv .none (f a) = false := by intro a; rfl) (h2 : ∀ a, PyData.eqv (f a) .none = false := by intro a; rfl) : Sh (eO f) (n + 1) :=
  ⟨fun o => by cases o with
    | none => rfl
    | some a => exact s.lay a, fun o => by cases o with
    | none => simp [eO, PyData.depth]
    | some a => exact Nat.le_succ_of_le (s.dep a), fun o o' => by
      cases o with
      | none => cases o' with
        | none => simp [eO, PyData.eqv]
        | some b => rw [show eO f none = .none from rfl, show eO f (some b) = f b from rfl, h1]; simp
      | some a => cases o' with
        | none => rw [show eO f none = .none from rfl, show eO f (some a) = f a from rfl, h2]; simp
        | some b => rw [show eO f (some a) = f a from rfl, show eO f (some b) = f b from rfl, s.eq]; simp⟩
theorem isN_go {o : Option α} {Q : VK} (h : Dq K F v (eO en o)) (q : Q (.bl o.isNone) H) (hn : ∀ a, en a ≠ .none := by intro a; exact fun h => nomatch h) : (fun (x : V) (H1 : Hp) => Q (.bl (decide (x = V.non))) H1) v H := by
  show Q (.bl (decide (v = V.non))) H
  rw [none_O h hn]
  exact q
def getO {α : Type} (o : Option α) : Mm α := match o with
  | some a => .ok a
  | none => .bad
theorem post_getO {β : Type} {f : α → Mm β} {r : β → Prop} {q : Er → Prop} {o : Option α} (h : Post ((getO o).bd f) r q) : ∃ a, o = some a ∧ Post (f a) r q := by
  cases o with
  | none => exact h.h.elim
  | some a => exact ⟨a, rfl, ⟨h.h⟩⟩
theorem dq_some {o : Option α} {x : α} (d : Dq K F v (eO en o)) (h : o = some x) : Dq K F v (en x) := by
  subst h
  exact d
/-! ### a list display with a list in it -/
theorem new_star {pre : List V} {pm : List α} (e : Ex F H) (a : DqAll K F pre (pm.map en)) (b : DqAll K F xs (l.map en)) (hl : pm.length + l.length ≤ 100000) (k : Ret M F H (fun F' _ v => Dq K F' v (eL en (pm ++ l))) Q) :
    (pre ++ (xs ++ [])).length ≤ sizeLine ∧ ∀ p, H p = none → Q (.ref p) (upd H p (.lst (pre ++ (xs ++ [])))) := by
  rw [List.append_nil]
  refine new_lst e (ds := (pm ++ l).map en) ?_ ?_ k
  · rw [List.map_append]
    exact a.app b
  · rw [List.length_append, a.len, b.len, List.length_map, List.length_map]
    exact hl
/-- a tuple of any values -/
theorem new_tupR (e : Ex F H) (hl : xs.length ≤ 100000) (k : ∀ p F' H', Gm M F H F' H' → SqT K F' p xs → Q (.ref p) H') : xs.length ≤ sizeLine ∧ ∀ p, H p = none → Q (.ref p) (upd H p (.tup xs)) :=
  ⟨sz_of hl, fun p hp => k p _ _ (Gm.new e hp) (st_of upd_same)⟩
/-! ### an item is set -/
def setM {α : Type} (l : List α) (i : Int) (v : α) : Mm (List α) := match ixN l.length i with
  | some j => .ok (l.set j v)
  | none => .bad
theorem post_set {β : Type} {f : List α → Mm β} {r : β → Prop} {q : Er → Prop} {i : Int} {x : α} (h : Post ((setM l i x).bd f) r q) : ∃ m j, ixN l.length i = some j ∧ l.set j x = m ∧ Post (f m) r q := by
  unfold setM at h
  cases e : ixN l.length i with
  | none =>
    rw [e] at h
    exact h.h.elim
  | some j =>
    rw [e] at h
    exact ⟨_, j, rfl, rfl, ⟨h.h⟩⟩
theorem all_ix {i : Int} {j : Nat} (a : DqAll K F xs (l.map en)) (h : ixN l.length i = some j) : ixN xs.length i = some j := by
  rw [a.len, List.length_map]
  exact h
theorem dqAll_set {v : V} {d : PyData} : ∀ {xs : List V} {ds : List PyData} (j : Nat), DqAll K F xs ds → Dq K F v d → DqAll K F (xs.set j v) (ds.set j d)
  | _, _, j, .nil, _ => .nil
  | _, _, 0, .cons _ b, h => .cons h b
  | _, _, j + 1, .cons a b, h => .cons a (dqAll_set j b h)
theorem all_set {j : Nat} {x : α} {m : List α} (a : DqAll K F xs (l.map en)) (h : Dq K F v (en x)) (e : l.set j x = m) : DqAll K F (xs.set j v) (m.map en) := by
  subst e
  rw [List.map_set]
  exact dqAll_set j a h
end
section
variable {K : PySem.W.Frag} {M : List Addr} {F H : Hp} {σ : L2.St} {g : TG} {tt : TT} {te : TE} {vs : List Nat} {α β γ : Type} {l : List α} {ok : β → Prop} {ex : Er → Prop} {J : It} {R : Hp → V → α → Prop} {Q : VK}
theorem lc_fil {f : α → Mm (Option γ)} {rest : List γ → Mm β} (w : Wlk M F H J l R) (en : γ → PyData) (k : Post ((filMm f l).bd rest) ok ex) (e : Ex F H) (hz : l.length ≤ 50000) (hM : ∀ D, H D = none → D ∉ M)
    (hb : ∀ x v F1 H1 F2 H2, Gm M F H F1 H1 → Gm [] F1 H1 F2 H2 → R F2 v x → ∀ Q' : Option V → Hp → Prop, Post (f x) (fun o => ∀ F3 H3 v, Gm M F1 H1 F3 H3 → (match o with
        | some y => ∃ u, v = some u ∧ Dq K F3 u (en y)
        | none => v = none) → Q' v H3) (fun _ => False) →
      g v (wipe σ vs) H2 fun σ2 H3 => wipe σ2 vs = wipe σ vs ∧ tt σ2 H3 fun b H4 => if b = true then te σ2 H4 fun y H5 => Q' (some y) H5 else Q' none H4)
    (hx : ∀ e, ¬ ex e) (kk : ∀ (r : List γ) v F' H', Gm M F H F' H' → Dq K F' v (eL en r) → Post (rest r) ok ex → Q v H') (mono : GMon g) :
    ∀ D, H D = none → ∃ W : Nat → Nat → Hp → Prop, (∃ m, W 0 m (upd H D (.lst []))) ∧ ∀ i m H, W i m H →
      (J.stop i H ∧ Q (.ref D) H) ∨ (J.go i H ∧ ∃ Nx : Hp → Prop, (∀ H', Nx H' → ∃ m', m' < m ∧ W (i + 1) m' H') ∧ ∀ x H', J.yld i H x H' → g x (wipe σ vs) H' fun σ2 H2 => wipe σ2 vs = wipe σ vs ∧ tt σ2 H2 fun b H3 =>
        if b = true then te σ2 H3 fun y H4 => ∃ acc, H4 D = some (.lst acc) ∧ acc.length < sizeLine ∧ Nx (upd H4 D (.lst (acc ++ [y]))) else Nx H3) := by
  obtain ⟨n, G, Y, w, hn, hG, hY⟩ := w.ex
  rw [filMm_comp, bd_assoc] at k
  refine lc_mir w en (fun _ _ _ => True) k e trivial stab_t hn hz hG hM (fun i s x v F' H' H'' g' _ hx y Q' k' => ?_) hx (fun r v F' H' g' _ d k' => kk r.1 v F' H' g' d k')
  obtain ⟨F'', g2, r⟩ := hY i x v F' H' H'' g' hx y
  exact hb x v F' H' F'' H'' g' g2 r Q' ((post_bd k').mono (fun o q F3 H3 v g3 d => q.h F3 H3 v g3 trivial (by cases o <;> exact d)) fun _ z => z)
end
end Wk

set_option Elab.async false
set_option linter.all false
set_option maxRecDepth 100000
set_option maxHeartbeats 2000000
namespace Wk
open PySem L2 Evl
theorem cdv_small {i j : Int} (h : j ≠ 0 ∧ j.natAbs < 1073741824) : CDv i j := by
  have e : j.natAbs < 2 ^ 30 := by have : (2 : Nat) ^ 30 = 1073741824 := by decide
                                   omega
  exact ⟨h.1, Nat.lt_of_lt_of_le (PySem.Flt.log2_lt_of (by decide) e) (by decide)⟩
/-! ### and, or: the second operand draws -/
section
variable {M : List Addr} {F H : Hp} {σ : L2.St} {α S : Type} {a : Bool} {Y : Mm (Bool × S)} {rest : Bool × S → Mm α} {st : S} {ok : α → Prop} {ex : Er → Prop} {Q : Bool → Hp → Prop} {u : TT} {QV : VK} {uE : TE}
theorem and_jS (W : S → Hp → Hp → Prop) (e : Ex F H) (h0 : W st F H) (k : Post ((cond a Y (.ok (false, st))).bd rest) ok ex)
    (hu : a = true → ∀ Q' : Bool → Hp → Prop, Post Y (fun b => ∀ F' H', Gm M F H F' H' → W b.2 F' H' → Q' b.1 H') ex → u σ H Q')
    (kk : ∀ b F' H', Gm M F H F' H' → W b.2 F' H' → Post (rest b) ok ex → Q b.1 H') : if a = true then u σ H Q else Q false H := by
  cases a with
  | false => rw [if_neg Bool.false_ne_true]; exact kk (false, st) F H (Gm.refl e) h0 ⟨k.h⟩
  | true => rw [if_pos rfl]; exact hu rfl Q ((post_bd k).mono (fun b q F' H' g s => kk b F' H' g s q) fun _ z => z)
theorem or_jS (W : S → Hp → Hp → Prop) (e : Ex F H) (h0 : W st F H) (k : Post ((cond a (.ok (true, st)) Y).bd rest) ok ex)
    (hu : a = false → ∀ Q' : Bool → Hp → Prop, Post Y (fun b => ∀ F' H', Gm M F H F' H' → W b.2 F' H' → Q' b.1 H') ex → u σ H Q')
    (kk : ∀ b F' H', Gm M F H F' H' → W b.2 F' H' → Post (rest b) ok ex → Q b.1 H') : if a = true then Q true H else u σ H Q := by
  cases a with
  | true => rw [if_pos rfl]; exact kk (true, st) F H (Gm.refl e) h0 ⟨k.h⟩
  | false => rw [if_neg Bool.false_ne_true]; exact hu rfl Q ((post_bd k).mono (fun b q F' H' g s => kk b F' H' g s q) fun _ z => z)
/-- as values -/
theorem andV_jS (W : S → Hp → Hp → Prop) (e : Ex F H) (h0 : W st F H) (k : Post ((cond a Y (.ok (false, st))).bd rest) ok ex)
    (hu : a = true → ∀ Q' : VK, Post Y (fun b => ∀ F' H', Gm M F H F' H' → W b.2 F' H' → Q' (.bl b.1) H') ex → uE σ H Q')
    (kk : ∀ b F' H', Gm M F H F' H' → W b.2 F' H' → Post (rest b) ok ex → QV (.bl b.1) H') : if a = true then uE σ H QV else QV (.bl false) H := by
  cases a with
  | false => rw [if_neg Bool.false_ne_true]; exact kk (false, st) F H (Gm.refl e) h0 ⟨k.h⟩
  | true => rw [if_pos rfl]; exact hu rfl QV ((post_bd k).mono (fun b q F' H' g s => kk b F' H' g s q) fun _ z => z)
theorem orV_jS (W : S → Hp → Hp → Prop) (e : Ex F H) (h0 : W st F H) (k : Post ((cond a (.ok (true, st)) Y).bd rest) ok ex)
    (hu : a = false → ∀ Q' : VK, Post Y (fun b => ∀ F' H', Gm M F H F' H' → W b.2 F' H' → Q' (.bl b.1) H') ex → uE σ H Q')
    (kk : ∀ b F' H', Gm M F H F' H' → W b.2 F' H' → Post (rest b) ok ex → QV (.bl b.1) H') : if a = true then QV (.bl true) H else uE σ H QV := by
  cases a with
  | true => rw [if_pos rfl]; exact kk (true, st) F H (Gm.refl e) h0 ⟨k.h⟩
  | false => rw [if_neg Bool.false_ne_true]; exact hu rfl QV ((post_bd k).mono (fun b q F' H' g s => kk b F' H' g s q) fun _ z => z)
end
/-! ### own lists: as data, repeated, popped -/
section
variable {K : PySem.W.Frag} {M : List Addr} {F F' H H' : Hp} {Q : VK} {α : Type} {en : α → PyData} {l m : List α} {xs ys : List V} {a p : Addr} {v : V} {j : Int}
theorem own_dp (h : H p = some (.lst xs)) (a : DqAll K F xs (l.map en)) (e : Ex F H) : Dp K H (.ref p) (eL en l) := .lst (sq_of h) (dqAll_dp _ _ (a.up e))
def repM {α : Type} (l : List α) (k : Int) : Mm (List α) := if -(2 ^ 63) ≤ k ∧ k < 2 ^ 63 ∧ l.length * k.toNat ≤ 100000 then .ok (List.replicate k.toNat l).flatten else .bad
theorem post_rep {β : Type} {f : List α → Mm β} {r : β → Prop} {q : Er → Prop} (h : Post ((repM l j).bd f) r q) : ∃ m, (-(2 ^ 63) ≤ j ∧ j < 2 ^ 63 ∧ l.length * j.toNat ≤ 100000) ∧ (List.replicate j.toNat l).flatten = m ∧ Post (f m) r q := by
  unfold repM at h
  split at h
  · exact ⟨_, ‹_›, rfl, ⟨h.h⟩⟩
  · exact h.h.elim
theorem all_rep (d : DqAll K F xs (l.map en)) : ∀ n : Nat, DqAll K F (List.replicate n xs).flatten ((List.replicate n l).flatten.map en)
  | 0 => .nil
  | n + 1 => by
    rw [List.replicate_succ, List.replicate_succ, List.flatten_cons, List.flatten_cons, List.map_append]
    exact d.app (all_rep d n)
theorem rep_sz (d : DqAll K F xs (l.map en)) {n : Nat} (h : l.length * n ≤ 100000) : xs.length * n ≤ sizeLine := sz_of (by rw [d.len, List.length_map]; exact h)
theorem rep_lst (e : Ex F H) (s : H a = some (.lst xs)) (d : DqAll K F xs (l.map en)) (h : -(2 ^ 63) ≤ j ∧ j < 2 ^ 63 ∧ l.length * j.toNat ≤ 100000) (hm : (List.replicate j.toNat l).flatten = m) (k : Ret M F H (fun F' _ v => Dq K F' v (eL en m)) Q) : rRep (.ref a) (.int j) H Q := by
  subst hm
  refine ⟨a, j, xs, rfl, rfl, s, h.1, h.2.1, rep_sz d h.2.2, fun p hp => ?_⟩
  have g : Gm M F H (upd F p (.lst (List.replicate j.toNat xs).flatten)) (upd H p (.lst (List.replicate j.toNat xs).flatten)) := Gm.new e hp
  exact k _ _ _ g (.lst upd_same ((all_rep d _).up g.f))
theorem rep_own (e : Ex F H) (s : H a = some (.lst xs)) (d : DqAll K F xs (l.map en)) (h : -(2 ^ 63) ≤ j ∧ j < 2 ^ 63 ∧ l.length * j.toNat ≤ 100000) (k : ∀ p H', Gm [] F H F H' → H p = none → (H' p = some (.lst (List.replicate j.toNat xs).flatten) ∧ F p = none) → Q (.ref p) H') : rRep (.ref a) (.int j) H Q :=
  ⟨a, j, xs, rfl, rfl, s, h.1, h.2.1, rep_sz d h.2.2, own_of e k⟩
theorem all_repM (d : DqAll K F xs (l.map en)) (hm : (List.replicate j.toNat l).flatten = m) : DqAll K F (List.replicate j.toNat xs).flatten (m.map en) := by
  subst hm
  exact all_rep d _
def popN {α : Type} (l : List α) : Mm (List α) := match l with
  | [] => .bad
  | x :: r => .ok (x :: r).dropLast
theorem post_pop {β : Type} {f : List α → Mm β} {r : β → Prop} {q : Er → Prop} (h : Post ((popN l).bd f) r q) : l ≠ [] ∧ Post (f l.dropLast) r q := by
  cases l with
  | nil => exact h.h.elim
  | cons x l => exact ⟨by simp, ⟨h.h⟩⟩
theorem all_pop (d : DqAll K F xs (l.map en)) : DqAll K F xs.dropLast (l.dropLast.map en) := by
  have e1 : xs.dropLast = xs.take (xs.length - 1) := List.dropLast_eq_take
  have e2 : l.dropLast.map en = (l.map en).take (xs.length - 1) := by
    rw [List.dropLast_eq_take, List.map_take, d.len, List.length_map]
  rw [e1, e2]
  exact d.take _
theorem pop_at (d : DqAll K F xs (l.map en)) (h : l ≠ []) : ∃ y, xs[xs.length - 1]? = some y := by
  have n : xs.length = l.length := by rw [d.len, List.length_map]
  have : 0 < l.length := List.length_pos_iff.mpr h
  exact ⟨_, List.getElem?_eq_getElem (by omega)⟩
end
/-! ### range that goes down -/
def rangeDn (lo : Int) (n : Nat) : List Int := (List.range n).map fun (i : Nat) => lo - (i : Int)
def rangeM3 (i j : Int) : Mm (List Int) := if -(2 ^ 62) ≤ i ∧ i < 2 ^ 62 ∧ -(2 ^ 62) ≤ j ∧ j < 2 ^ 62 then .ok (rangeDn i (i - j).toNat) else .bad
section
variable {β : Type} {r : β → Prop} {q : Er → Prop} {i j : Int} {f : List Int → Mm β}
theorem post_range3 (h : Post ((rangeM3 i j).bd f) r q) : RgC i j (-1) (i - j).toNat ∧ Post (f (rangeDn i (i - j).toNat)) r q := by
  unfold rangeM3 at h
  split at h
  · rename_i c
    exact ⟨RgC.neg c.1 c.2.1 c.2.2.1 c.2.2.2, ⟨h.h⟩⟩
  · exact h.h.elim
theorem rangeDn_at {lo : Int} {n i : Nat} {x : Int} (h : (rangeDn lo n)[i]? = some x) : x = lo - i := by
  unfold rangeDn at h
  rw [List.getElem?_map] at h
  cases e : (List.range n)[i]? with
  | none => rw [e] at h; cases h
  | some j =>
    rw [e] at h
    obtain ⟨h1, h2⟩ := List.getElem?_eq_some_iff.mp e
    rw [List.getElem_range] at h2
    subst h2
    exact (Option.some.inj h).symm
theorem wlk_rangeDn {M : List Addr} {F H : Hp} {lo : Int} {n : Nat} : Wlk M F H (Itc lo (-1) n) (rangeDn lo n) (fun _ v x => v = V.int x) := by
  refine ⟨_, _, _, walk_rangeC (lo := lo) (c := -1) (n := n), by simp [rangeDn], fun _ _ _ => trivial, fun i x v F' H' H'' g' hx y => ?_⟩
  obtain ⟨rfl, hv⟩ := y
  rw [rangeDn_at hx]
  have e2 : lo + (i : Int) * (-1) = lo - (i : Int) := by omega
  rw [← e2]
  exact ⟨F', Gm.refl g'.s, hv⟩
end
/-! ### comprehensions whose list may change -/
section
variable {K : PySem.W.Frag} {M : List Addr} {F H : Hp} {σ : L2.St} {g : TG} {tt : TT} {te : TE} {vs : List Nat} {α β γ S : Type} {l : List α} {f : S → α → Mm (Option γ × S)} {rest : List γ × S → Mm β} {ok : β → Prop} {ex : Er → Prop} {s0 : S} {J : It} {n : Nat} {G : Hp → Prop} {Y : Nat → Hp → V → Hp → Prop} {Q : VK}
theorem lc_mirO (w : Walk J n G Y) (en : γ → PyData) (I : S → Hp → Hp → Prop) (k : Post ((compM f s0 l).bd rest) ok ex) (e : Ex F H) (h0 : I s0 F H) (st : Stab I H) (hn : l.length = n) (hz : l.length ≤ 50000) (hG : ∀ F' H', Gm M F H F' H' → G H')
    (hM : ∀ D, H D = none → D ∉ M)
    (hb : ∀ i s x v F' H' H'', Gm M F H F' H' → I s F' H' → l[i]? = some x → Y i H' v H'' → ∀ Q : Option V → Hp → Prop,
      Post (f s x) (fun o => ∀ F2 H2 v, Gm M F' H' F2 H2 → I o.2 F2 H2 → (match o.1 with
        | some y => ∃ u, v = some u ∧ Dq K F2 u (en y)
        | none => v = none) → Q v H2) (fun _ => False) →
      g v (wipe σ vs) H'' fun σ2 H2 => wipe σ2 vs = wipe σ vs ∧ tt σ2 H2 fun b H3 => if b = true then te σ2 H3 fun y H4 => Q (some y) H4 else Q none H3)
    (hx : ∀ e, ¬ ex e)
    (kk : ∀ (r : List γ × S) D xs F' H', Gm M F H F' H' → I r.2 F' H' → H D = none → (H' D = some (.lst xs) ∧ F' D = none) → DqAll K F' xs (r.1.map en) → Post (rest r) ok ex → Q (.ref D) H') :
    ∀ D, H D = none → ∃ W : Nat → Nat → Hp → Prop, (∃ m, W 0 m (upd H D (.lst []))) ∧ ∀ i m H, W i m H →
      (J.stop i H ∧ Q (.ref D) H) ∨ (J.go i H ∧ ∃ Nx : Hp → Prop, (∀ H', Nx H' → ∃ m', m' < m ∧ W (i + 1) m' H') ∧ ∀ x H', J.yld i H x H' → g x (wipe σ vs) H' fun σ2 H2 => wipe σ2 vs = wipe σ vs ∧ tt σ2 H2 fun b H3 =>
        if b = true then te σ2 H3 fun y H4 => ∃ acc, H4 D = some (.lst acc) ∧ acc.length < sizeLine ∧ Nx (upd H4 D (.lst (acc ++ [y]))) else Nx H3) := by
  intro D hD
  have k0 : Post ((compM f s0 (l.drop 0)).bd fun r => rest ([] ++ r.1, r.2)) ok ex := by simpa using k
  refine lc_it w (fun i H' => ∃ (s : S) (acc : List γ) (xs : List V) (F' : Hp), Gm M F H F' H' ∧ I s F' H' ∧ H' D = some (.lst xs) ∧ F' D = none ∧ DqAll K F' xs (acc.map en) ∧ xs.length ≤ i ∧ Post ((compM f s (l.drop i)).bd fun r => rest (acc ++ r.1, r.2)) ok ex)
    ⟨s0, [], [], F, Gm.newM e hD, st.put s0 F H D _ h0 hD, upd_same, ?_, .nil, Nat.le_refl _, k0⟩ (fun i H' _ ⟨s, acc, xs, F', g', _⟩ => hG F' H' g') ?_ ?_
  · cases q : F D with
    | none => rfl
    | some u => rw [e D u q] at hD; cases hD
  · rintro i v H' H'' hi ⟨s, acc, xs, F', g', i', hL, fL, ha, hlen, k'⟩ y
    have hl : i < l.length := by omega
    have e1 : l.drop i = l[i] :: l.drop (i + 1) := List.drop_eq_getElem_cons hl
    rw [e1] at k'
    have k2 := comp_post k'
    have hDM : D ∉ M := hM D hD
    have z := hb i s l[i] v F' H' H'' g' i' (List.getElem?_eq_getElem hl) y (fun o H4 => match o with
      | some y => ∃ acc', H4 D = some (.lst acc') ∧ acc'.length < sizeLine ∧ ∃ (s : S) (acc : List γ) (xs : List V) (F' : Hp), Gm M F H F' (upd H4 D (.lst (acc' ++ [y]))) ∧ I s F' (upd H4 D (.lst (acc' ++ [y]))) ∧ (upd H4 D (.lst (acc' ++ [y]))) D = some (.lst xs) ∧ F' D = none ∧ DqAll K F' xs (acc.map en) ∧ xs.length ≤ i + 1 ∧ Post ((compM f s (l.drop (i + 1))).bd fun r => rest (acc ++ r.1, r.2)) ok ex
      | none => ∃ (s : S) (acc : List γ) (xs : List V) (F' : Hp), Gm M F H F' H4 ∧ I s F' H4 ∧ H4 D = some (.lst xs) ∧ F' D = none ∧ DqAll K F' xs (acc.map en) ∧ xs.length ≤ i + 1 ∧ Post ((compM f s (l.drop (i + 1))).bd fun r => rest (acc ++ r.1, r.2)) ok ex)
      (k2.mono (fun o q F2 H2 v2 g2 i2 hv => ?_) fun e z => (hx e z).elim)
    · exact z
    · obtain ⟨h2L, f2L⟩ := g2.own hDM hL fL
      obtain ⟨o1, o2⟩ := o
      cases o1 with
      | some y =>
        obtain ⟨u, rfl, hu⟩ := hv
        refine ⟨xs, h2L, sz_lt (by omega), o2, acc ++ [y], xs ++ [u], F2, ?_, st.put _ _ _ _ _ i2 hD, upd_same, f2L, ?_, ?_, ?_⟩
        · exact (g'.trans g2).putYoung h2L f2L hD
        · rw [List.map_append]; exact (ha.up g2.f).app (.cons hu .nil)
        · rw [List.length_append, List.length_singleton]; omega
        · simpa using q
      | none =>
        subst hv
        refine ⟨o2, acc, xs, F2, g'.trans g2, i2, h2L, f2L, ha.up g2.f, by omega, ?_⟩
        simpa using q
  · rintro H' ⟨s, acc, xs, F', g', i', hL, fL, ha, hlen, k'⟩
    rw [← hn, List.drop_length] at k'
    exact kk (acc, s) D xs F' H' g' i' hD ⟨hL, fL⟩ ha (by simpa [compM] using k')
end
section
variable {K : PySem.W.Frag} {M : List Addr} {F H : Hp} {σ : L2.St} {g : TG} {tt : TT} {te : TE} {vs : List Nat} {α β γ S : Type} {l : List α} {ok : β → Prop} {ex : Er → Prop} {s0 : S} {J : It} {R : Hp → V → α → Prop} {Q : VK}
theorem lc_mapO {f : α → Mm γ} {rest : List γ → Mm β} (w : Wlk M F H J l R) (en : γ → PyData) (k : Post ((mapMm f l).bd rest) ok ex) (e : Ex F H) (hz : l.length ≤ 50000) (hM : ∀ D, H D = none → D ∉ M)
    (hb : ∀ x v F1 H1 F2 H2, Gm M F H F1 H1 → Gm [] F1 H1 F2 H2 → R F2 v x → ∀ Q : VK, Post (f x) (fun y => Ret M F1 H1 (fun F3 _ u => Dq K F3 u (en y)) Q) (fun _ => False) →
      g v (wipe σ vs) H2 fun σ2 H3 => wipe σ2 vs = wipe σ vs ∧ te σ2 H3 Q)
    (hx : ∀ e, ¬ ex e) (kk : ∀ (r : List γ) D xs F' H', Gm M F H F' H' → H D = none → (H' D = some (.lst xs) ∧ F' D = none) → DqAll K F' xs (r.map en) → Post (rest r) ok ex → Q (.ref D) H') (mono : GMon g) :
    ∀ D, H D = none → ∃ W : Nat → Nat → Hp → Prop, (∃ m, W 0 m (upd H D (.lst []))) ∧ ∀ i m H, W i m H →
      (J.stop i H ∧ Q (.ref D) H) ∨ (J.go i H ∧ ∃ Nx : Hp → Prop, (∀ H', Nx H' → ∃ m', m' < m ∧ W (i + 1) m' H') ∧ ∀ x H', J.yld i H x H' → g x (wipe σ vs) H' fun σ2 H2 => wipe σ2 vs = wipe σ vs ∧ tYes σ2 H2 fun b H3 =>
        if b = true then te σ2 H3 fun y H4 => ∃ acc, H4 D = some (.lst acc) ∧ acc.length < sizeLine ∧ Nx (upd H4 D (.lst (acc ++ [y]))) else Nx H3) := by
  obtain ⟨n, G, Y, w, hn, hG, hY⟩ := w.ex
  rw [mapMm_comp, bd_assoc] at k
  refine lc_mirO w en (fun _ _ _ => True) k e trivial stab_t hn hz hG hM (fun i s x v F' H' H'' g' _ hx y Q' k' => ?_) hx (fun r D xs F' H' g' _ hD o d k' => kk r.1 D xs F' H' g' hD o d k')
  obtain ⟨F'', g2, r⟩ := hY i x v F' H' H'' g' hx y
  refine mono _ _ _ _ _ (fun σ2 H3 z => ⟨z.1, ?_⟩) (hb x v F' H' F'' H'' g' g2 r (fun u H4 => Q' (some u) H4) ((post_bd k').mono (fun y q u F3 H3 g3 d => q.h F3 H3 _ g3 trivial ⟨u, rfl, d⟩) fun _ z => z))
  exact tYes_of (iteT z.2)
theorem lc_stO {f : Rw → α → Mm (γ × Rw)} {s0 : Rw} {rest : List γ × Rw → Mm β} {sc ra : Addr} {scr : List Int} (w : Wlk [ra] F H J l R) (en : γ → PyData) (k : Post ((mapSt f s0 l).bd rest) ok ex) (e : Ex F H) (hz : l.length ≤ 50000) (h0 : RowAt K sc ra scr F H s0)
    (hb : ∀ s x v F1 H1 F2 H2, Gm [ra] F H F1 H1 → RowAt K sc ra scr F1 H1 s → Gm [] F1 H1 F2 H2 → R F2 v x → ∀ Q : VK, Post (f s x) (fun y => Ret [ra] F1 H1 (fun F3 H3 u => Dq K F3 u (en y.1) ∧ RowAt K sc ra scr F3 H3 y.2) Q) (fun _ => False) →
      g v (wipe σ vs) H2 fun σ2 H3 => wipe σ2 vs = wipe σ vs ∧ te σ2 H3 Q)
    (hx : ∀ e, ¬ ex e) (kk : ∀ (r : List γ × Rw) D xs F' H', Gm [ra] F H F' H' → H D = none → (H' D = some (.lst xs) ∧ F' D = none) → DqAll K F' xs (r.1.map en) → RowAt K sc ra scr F' H' r.2 → Post (rest r) ok ex → Q (.ref D) H') (mono : GMon g) :
    ∀ D, H D = none → ∃ W : Nat → Nat → Hp → Prop, (∃ m, W 0 m (upd H D (.lst []))) ∧ ∀ i m H, W i m H →
      (J.stop i H ∧ Q (.ref D) H) ∨ (J.go i H ∧ ∃ Nx : Hp → Prop, (∀ H', Nx H' → ∃ m', m' < m ∧ W (i + 1) m' H') ∧ ∀ x H', J.yld i H x H' → g x (wipe σ vs) H' fun σ2 H2 => wipe σ2 vs = wipe σ vs ∧ tYes σ2 H2 fun b H3 =>
        if b = true then te σ2 H3 fun y H4 => ∃ acc, H4 D = some (.lst acc) ∧ acc.length < sizeLine ∧ Nx (upd H4 D (.lst (acc ++ [y]))) else Nx H3) := by
  obtain ⟨n, G, Y, w, hn, hG, hY⟩ := w.ex
  rw [mapSt_comp] at k
  refine lc_mirO w en (fun s F H => RowAt K sc ra scr F H s) k e h0 (stab_row h0) hn hz hG (row_notM h0) (fun i s x v F' H' H'' g' i' hx y Q' k' => ?_) hx (fun r D xs F' H' g' i' hD o d k' => kk r D xs F' H' g' hD o d i' k')
  obtain ⟨F'', g2, r⟩ := hY i x v F' H' H'' g' hx y
  refine mono _ _ _ _ _ (fun σ2 H3 z => ⟨z.1, ?_⟩) (hb s x v F' H' F'' H'' g' i' g2 r (fun u H4 => Q' (some u) H4) ((post_bd k').mono (fun y q u F3 H3 g3 d => q.h F3 H3 _ g3 d.2 ⟨u, rfl, d.1⟩) fun _ z => z))
  exact tYes_of (iteT z.2)
end
end Wk

set_option Elab.async false
set_option linter.all false
set_option maxRecDepth 100000
set_option maxHeartbeats 1000000
set_option exponentiation.threshold 100
namespace Wk
open PySem L2
theorem bdo {α β : Type} {a : α} {f : α → Mm β} : (Mm.ok a).bd f = f a := rfl
theorem cF {α : Type} {c : Bool} {x y : α} (h : c = false) : cond c x y = y := by subst h; rfl
theorem cT {α : Type} {c : Bool} {x y : α} (h : c = true) : cond c x y = x := by subst h; rfl
theorem guard_ok {c : Prop} [Decidable c] (h : c) : guardM c = .ok () := if_pos h
theorem intc_ne {n : Int} (h : n ≠ 0) : ((n : Int) : Rat) ≠ 0 := fun z => h (Rat.intCast_inj.mp (show ((n : Int) : Rat) = ((0 : Int) : Rat) from z))
theorem fr_zero : fr 0 = (0, 1) := by decide
theorem fr_one : fr 1 = (1, 1) := by decide
theorem fr_of_int (n : Int) : fr ((n : Int) : Rat) = (n, 1) := by
  unfold fr
  rw [Rat.num_intCast, Rat.den_intCast]
  rfl
theorem sq_int {n : Int} {a : Nat} (h : n.natAbs < 2 ^ a) (h0 : 0 < a) : Sq a ((n : Int) : Rat) := by
  unfold Sq
  rw [Rat.num_intCast, Rat.den_intCast]
  exact ⟨h, Nat.one_lt_two_pow (by omega)⟩
theorem zero_sq : Sq 1 0 := by unfold Sq; decide
theorem one_sq : Sq 1 1 := by unfold Sq; decide
theorem zero_sqn {a : Nat} (h : 0 < a) : Sq a 0 := zero_sq.up h
/-- a fraction by any terms -/
theorem fr_flip (a b : Int) : (a : Rat) / (b : Rat) = (((-a : Int) : Rat) / ((-b : Int) : Rat)) := by
  push_cast
  grind
theorem fdiv_neg_dvd {g a : Int} (h : 0 < g) (d : g ∣ a) : a.fdiv (-g) = (-a) / g := by
  obtain ⟨c, rfl⟩ := d
  have e : g * c = (-g) * (-c) := by rw [Int.neg_mul_neg]
  have e2 : -(g * c) = g * (-c) := by rw [Int.mul_neg]
  rw [e2, Int.mul_ediv_cancel_left _ (by omega), e, Int.mul_fdiv_cancel_left _ (by omega)]
theorem gcd_posZ {a b : Int} (h : b ≠ 0) : 0 < ((Nat.gcd a.natAbs b.natAbs : Nat) : Int) := by
  have : 0 < Nat.gcd a.natAbs b.natAbs := Nat.gcd_pos_of_pos_right _ (by omega)
  omega
theorem gcd_leZ {a b : Int} (h : b ≠ 0) : ((Nat.gcd a.natAbs b.natAbs : Nat) : Int).natAbs ≤ b.natAbs := by
  rw [Int.natAbs_natCast]
  exact Nat.gcd_le_right _ (by omega)
theorem fr_pos {a b : Int} (h : 0 < b) : fr ((a : Rat) / (b : Rat)) = (a.fdiv ((Nat.gcd a.natAbs b.natAbs : Nat) : Int), b.fdiv ((Nat.gcd a.natAbs b.natAbs : Nat) : Int)) := by
  have g0 := gcd_posZ (a := a) (b := b) (by omega)
  rw [Int.fdiv_eq_ediv_of_nonneg _ (Int.le_of_lt g0), Int.fdiv_eq_ediv_of_nonneg _ (Int.le_of_lt g0)]
  exact fr_int a h
theorem fr_neg {a b : Int} (h : b < 0) : fr ((a : Rat) / (b : Rat)) = (a.fdiv (-((Nat.gcd a.natAbs b.natAbs : Nat) : Int)), b.fdiv (-((Nat.gcd a.natAbs b.natAbs : Nat) : Int))) := by
  have g0 := gcd_posZ (a := a) (b := b) (by omega)
  rw [fdiv_neg_dvd g0 (Int.ofNat_dvd_left.mpr (Nat.gcd_dvd_left _ _)), fdiv_neg_dvd g0 (Int.ofNat_dvd_left.mpr (Nat.gcd_dvd_right _ _)), fr_flip, fr_int (-a) (show 0 < -b by omega), Int.natAbs_neg, Int.natAbs_neg]
theorem sq_any {n : Nat} {a b : Int} (h : b ≠ 0) (ha : a.natAbs < 2 ^ n) (hb : b.natAbs < 2 ^ n) : Sq n ((a : Rat) / (b : Rat)) := by
  by_cases q : 0 < b
  · exact sq_div q ha hb
  · rw [fr_flip]
    exact sq_div (by omega) (by omega) (by omega)
/-- x stands for q, in any terms -/
structure Rx (n : Nat) (x : Int × Int) (q : Rat) : Prop where
  nz : x.2 ≠ 0
  t : x.1.natAbs < 2 ^ n
  b : x.2.natAbs < 2 ^ n
  v : (x.1 : Rat) / (x.2 : Rat) = q
theorem Rx.sq {n : Nat} {x : Int × Int} {q : Rat} (h : Rx n x q) : Sq n q := by
  rw [← h.v]
  exact sq_any h.nz h.t h.b
theorem Rx.up {n m : Nat} {x : Int × Int} {q : Rat} (h : Rx n x q) (l : n ≤ m) : Rx m x q := ⟨h.nz, up_lt h.t l, up_lt h.b l, h.v⟩
theorem rx_fr {n : Nat} {q : Rat} (h : Sq n q) : Rx n (fr q) q := ⟨by have := den_posI q; show ((q.den : Nat) : Int) ≠ 0; omega, h.1, h.d, fr_val q⟩
theorem rx_int {n : Nat} {i : Int} (h : i.natAbs < 2 ^ n) (h0 : 0 < n) : Rx n (i, 1) (i : Rat) := by
  rw [← fr_of_int]
  exact rx_fr (sq_int h h0)
theorem mul_nz {a b : Int} (h : a ≠ 0) (h2 : b ≠ 0) : a * b ≠ 0 := Int.mul_ne_zero h h2
theorem rx_add {x y : Int × Int} {p q : Rat} {a b : Nat} (hx : Rx a x p) (hy : Rx b y q) : ((x.1 * y.2 + y.1 * x.2 : Int) : Rat) / ((x.2 * y.2 : Int) : Rat) = p + q := by
  rw [← hx.v, ← hy.v]
  have h1 := intc_ne hx.nz
  have h2 := intc_ne hy.nz
  push_cast
  grind
theorem rx_sub {x y : Int × Int} {p q : Rat} {a b : Nat} (hx : Rx a x p) (hy : Rx b y q) : ((x.1 * y.2 - y.1 * x.2 : Int) : Rat) / ((x.2 * y.2 : Int) : Rat) = p - q := by
  rw [← hx.v, ← hy.v]
  have h1 := intc_ne hx.nz
  have h2 := intc_ne hy.nz
  push_cast
  grind
theorem rx_mul {x y : Int × Int} {p q : Rat} {a b : Nat} (hx : Rx a x p) (hy : Rx b y q) : ((x.1 * y.1 : Int) : Rat) / ((x.2 * y.2 : Int) : Rat) = p * q := by
  rw [← hx.v, ← hy.v]
  have h1 := intc_ne hx.nz
  have h2 := intc_ne hy.nz
  push_cast
  grind
theorem Rx.top {x : Int × Int} {q : Rat} {n : Nat} (h : Rx n x q) (hq : q ≠ 0) : x.1 ≠ 0 := fun z => by
  have := h.v
  rw [z] at this
  have e : ((0 : Int) : Rat) / (x.2 : Rat) = 0 := by
    push_cast
    grind
  exact hq (by rw [← this, e])
theorem rx_div {x y : Int × Int} {p q : Rat} {a b : Nat} (hx : Rx a x p) (hy : Rx b y q) (hq : q ≠ 0) : ((x.1 * y.2 : Int) : Rat) / ((x.2 * y.1 : Int) : Rat) = p / q := by
  have h0 := intc_ne (hy.top hq)
  have h1 := intc_ne hx.nz
  have h2 := intc_ne hy.nz
  rw [← hx.v, ← hy.v]
  push_cast
  grind
theorem sq_subB {p q : Rat} {a b n : Nat} (ha : Sq a p) (hb : Sq b q) (h : a + b < n) : Sq n (p - q) := by
  rw [← rx_sub (rx_fr ha) (rx_fr hb)]
  refine sq_div (Int.mul_pos (den_posI p) (den_posI q)) ?_ (mul_lt ha.d hb.d (by omega))
  exact sub_lt (mul_lt ha.1 hb.d (Nat.le_refl _)) (mul_lt hb.1 ha.d (Nat.le_refl _)) (by omega) (by omega)
theorem sq_negB {q : Rat} {a : Nat} (h : Sq a q) : Sq a (-q) := by
  unfold Sq
  rw [Rat.neg_num, Rat.neg_den, Int.natAbs_neg]
  exact h
theorem sq_divB {p q : Rat} {a b n : Nat} (ha : Sq a p) (hb : Sq b q) (hq : q ≠ 0) (h : a + b ≤ n) : Sq n (p / q) := by
  rw [← rx_div (rx_fr ha) (rx_fr hb) hq]
  exact sq_any (mul_nz (rx_fr ha).nz ((rx_fr hb).top hq)) (mul_lt ha.1 hb.d h) (mul_lt ha.d hb.1 h)
theorem fr_negv (q : Rat) : ((0 : Int) - (fr q).1, (fr q).2) = fr (-q) := by
  unfold fr
  rw [Rat.neg_num, Rat.neg_den, Int.zero_sub]
def Sqs (a : Nat) (l : List Rat) : Prop := ∀ q ∈ l, Sq a q
theorem Sqs.up {a b : Nat} {l : List Rat} (h : Sqs a l) (k : a ≤ b) : Sqs b l := fun q hq => (h q hq).up k
/-! ### folds -/
theorem foldM_map {α β S : Type} {f : S → β → Mm S} {g : α → β} : ∀ (l : List α) (s : S), foldM f s (l.map g) = foldM (fun s x => f s (g x)) s l
  | [], s => rfl
  | x :: l, s => by
    rw [List.map_cons]
    show (f s (g x)).bd _ = (f s (g x)).bd _
    congr 1
    funext s'
    exact foldM_map l s'
theorem mapMm_map {α β γ : Type} {f : β → Mm γ} {g : α → β} : ∀ l : List α, mapMm f (l.map g) = mapMm (fun x => f (g x)) l
  | [] => rfl
  | x :: l => by
    rw [List.map_cons]
    unfold mapMm
    rw [mapMm_map l]
theorem zero_add' (q : Rat) : 0 + q = q := by grind
theorem fold_fr {α : Type} {f : Int × Int → α → Mm (Int × Int)} {v : α → Rat} {c : Nat} : ∀ (l : List α), (∀ x ∈ l, Sq c (v x) ∧ ∀ p a, Sq a p → a + c < 8999 → f (fr p) x = .ok (fr (p + v x))) → ∀ (p : Rat) (a : Nat), Sq a p → a + (c + 1) * l.length < 8998 →
    foldM f (fr p) l = .ok (fr (p + (l.map v).sum)) ∧ Sq (a + (c + 1) * l.length) (p + (l.map v).sum)
  | [], _, p, a, ha, _ => by
    have e : p + ([].map v).sum = p := by
      show p + 0 = p
      grind
    rw [e]
    exact ⟨rfl, ha⟩
  | x :: l, h, p, a, ha, hl => by
    have e1 : (c + 1) * (x :: l).length = (c + 1) * l.length + (c + 1) := by rw [List.length_cons, Nat.mul_succ]
    obtain ⟨sx, hx⟩ := h x (List.mem_cons_self ..)
    obtain ⟨h1, h2⟩ := fold_fr l (fun y hy => h y (List.mem_cons_of_mem _ hy)) (p + v x) (a + c + 1) (sq_add ha sx (by omega)) (by omega)
    have e2 : p + ((x :: l).map v).sum = p + v x + (l.map v).sum := by
      rw [List.map_cons, List.sum_cons]
      grind
    rw [e2]
    refine ⟨?_, h2.up (by omega)⟩
    unfold foldM
    rw [hx p a ha (by omega)]
    exact h1
/-- a sum that begins with 0 -/
theorem fold_fr0 {α : Type} {f : Int × Int → α → Mm (Int × Int)} {v : α → Rat} {c : Nat} (l : List α) (h : ∀ x ∈ l, Sq c (v x) ∧ ∀ p a, Sq a p → a + c < 8999 → f (fr p) x = .ok (fr (p + v x))) (hl : (c + 1) * l.length < 8996) :
    foldM f ((0, 1) : Int × Int) l = .ok (fr (l.map v).sum) ∧ Sq (1 + (c + 1) * l.length) (l.map v).sum := by
  have := fold_fr l h 0 1 zero_sq (by omega)
  rw [zero_add', fr_zero] at this
  exact this
/-! ### polynomials -/
def ev : List Rat → Rat → Rat
  | [], _ => 0
  | c :: l, x => c + x * ev l x
theorem ev_sq {p : Rat} {b c : Nat} (hp : Sq b p) : ∀ l : List Rat, Sqs c l → Sq ((b + c + 1) * l.length + 1) (ev l p)
  | [], _ => zero_sqn (by omega)
  | x :: l, h => by
    have ih := ev_sq hp l fun q hq => h q (List.mem_cons_of_mem _ hq)
    have e : (b + c + 1) * (x :: l).length = (b + c + 1) * l.length + (b + c + 1) := by rw [List.length_cons, Nat.mul_succ]
    exact sq_add (h x (List.mem_cons_self ..)) (sq_mul hp ih (Nat.le_refl _)) (by omega)
theorem foldM_app {α S : Type} {f : S → α → Mm S} : ∀ (l r : List α) (s : S), foldM f s (l ++ r) = (foldM f s l).bd fun s' => foldM f s' r
  | [], r, s => rfl
  | x :: l, r, s => by
    show (f s x).bd (fun s' => foldM f s' (l ++ r)) = ((f s x).bd fun s' => foldM f s' l).bd fun s' => foldM f s' r
    rw [bd_assoc]
    congr 1
    funext s'
    exact foldM_app l r s'
/-- Horner's way -/
theorem horner {f : Int × Int → Rat → Mm (Int × Int)} {p : Rat} {b c : Nat} (hp : Sq b p) (N : Nat) (hf : ∀ x, Sq c x → ∀ q a, Sq a q → a + b + c + 1 ≤ N → f (fr q) x = .ok (fr (q * p + x))) : ∀ (l : List Rat), Sqs c l → (b + c + 1) * l.length + 1 ≤ N → foldM f ((0, 1) : Int × Int) l.reverse = .ok (fr (ev l p))
  | [], _, _ => by
    show Mm.ok _ = _
    rw [← fr_zero]
    rfl
  | x :: l, h, hN => by
    have e : (b + c + 1) * (x :: l).length = (b + c + 1) * l.length + (b + c + 1) := by rw [List.length_cons, Nat.mul_succ]
    have hl : Sqs c l := fun q hq => h q (List.mem_cons_of_mem _ hq)
    rw [List.reverse_cons, foldM_app, horner hp N hf l hl (by omega)]
    show (f _ x).bd _ = _
    rw [hf x (h x (List.mem_cons_self ..)) _ _ (ev_sq hp l hl) (by omega)]
    show Mm.ok _ = _
    congr 2
    show _ = x + p * ev l p
    grind
/-! ### numbered lists, items -/
def numL {α : Type} : Int → List α → List (Int × α)
  | _, [] => []
  | k, x :: l => (k, x) :: numL (k + 1) l
theorem rangeL_succ (k : Int) (n : Nat) : rangeL k (n + 1) = k :: rangeL (k + 1) n := by
  unfold rangeL
  rw [List.range_succ_eq_map, List.map_cons, List.map_map]
  congr 1
  · omega
  · refine List.map_congr_left fun i _ => ?_
    show k + ((i + 1 : Nat) : Int) = k + 1 + (i : Int)
    omega
theorem rangeL_len (k : Int) (n : Nat) : (rangeL k n).length = n := by simp [rangeL]
theorem enum_num {α : Type} : ∀ (l : List α) (k : Int), (rangeL k l.length).zip l = numL k l
  | [], k => rfl
  | x :: l, k => by
    rw [List.length_cons, rangeL_succ, List.zip_cons_cons, enum_num l]
    rfl
theorem enumL_eq {α : Type} (l : List α) : enumL l = numL 0 l := enum_num l 0
theorem numL_len {α : Type} : ∀ (l : List α) (k : Int), (numL k l).length = l.length
  | [], k => rfl
  | x :: l, k => by
    unfold numL
    rw [List.length_cons, numL_len l, List.length_cons]
theorem numL_mem {α : Type} : ∀ (l : List α) (k : Int) (x : Int × α), x ∈ numL k l → k ≤ x.1 ∧ x.1 < k + l.length ∧ x.2 ∈ l
  | [], k, x, h => by cases h
  | y :: l, k, x, h => by
    rcases List.mem_cons.mp h with rfl | h
    · refine ⟨Int.le_refl _, ?_, List.mem_cons_self ..⟩
      show k < k + ((l.length + 1 : Nat) : Int)
      omega
    · obtain ⟨a, b, c⟩ := numL_mem l (k + 1) x h
      refine ⟨by omega, ?_, List.mem_cons_of_mem _ c⟩
      show x.1 < k + ((l.length + 1 : Nat) : Int)
      omega
theorem numL_map {α β : Type} (f : α → β) : ∀ (l : List α) (k : Int), numL k (l.map f) = (numL k l).map fun x => (x.1, f x.2)
  | [], k => rfl
  | x :: l, k => by
    rw [List.map_cons]
    unfold numL
    rw [numL_map f l, List.map_cons]
theorem getM_mid {α : Type} (l r : List α) (x : α) : getM (l ++ x :: r) (l.length : Int) = .ok x := by
  unfold getM
  rw [atI_nat (j := l.length) (v := x) (by simp)]
theorem getM_nat {α : Type} {l : List α} {i : Nat} {x : α} (h : l[i]? = some x) : getM l (i : Int) = .ok x := by
  unfold getM
  rw [atI_nat (j := i) (v := x) h]
theorem getM_last {α : Type} (l : List α) (x : α) : getM (l ++ [x]) (-(1 : Int)) = .ok x := by
  unfold getM
  rw [atI_last]
theorem getM_ok {α : Type} {l : List α} {i : Int} (h : 0 ≤ i) (h2 : i < l.length) : ∃ x, x ∈ l ∧ getM l i = .ok x := by
  have e : i = ((i.toNat : Nat) : Int) := by omega
  have lt : i.toNat < l.length := by omega
  have q := getM_nat (List.getElem?_eq_getElem lt)
  rw [← e] at q
  exact ⟨l[i.toNat], List.getElem_mem lt, q⟩
theorem rangeM_ok {n : Nat} (h : n < 1000000) : rangeM (n : Int) = .ok (rangeL 0 n) := by
  have := range_ok (j := (n : Int)) (by omega) (by omega)
  rw [this, Int.toNat_natCast]
theorem rangeDn_rev (n : Nat) : rangeDn ((n : Int) - 1) n = (rangeL 0 n).reverse := by
  unfold rangeDn rangeL
  rw [← List.map_reverse]
  apply List.ext_getElem
  · simp
  · intro i h1 h2
    simp only [List.length_map, List.length_range] at h1
    simp only [List.getElem_map, List.getElem_range, List.getElem_reverse, List.length_range]
    omega
theorem fold_getR {α S : Type} {h : S → α → Mm S} (L : List α) : ∀ (n : Nat) (l post : List α) (s : S), l.length = n → L = l ++ post → foldM (fun s i => (getM L i).bd fun v => h s v) s (rangeL 0 l.length).reverse = foldM h s l.reverse
  | 0, l, post, s, hn, e => by
    have : l = [] := List.length_eq_zero_iff.mp hn
    subst this
    rfl
  | n + 1, l, post, s, hn, e => by
    rcases List.eq_nil_or_concat l with q | ⟨l', x, q⟩
    · rw [q] at hn
      cases hn
    · rw [List.concat_eq_append] at q
      subst q
      have e1 : rangeL 0 (l' ++ [x]).length = rangeL 0 l'.length ++ [(l'.length : Int)] := by
        unfold rangeL
        rw [List.length_append, List.length_singleton, List.range_succ, List.map_append, List.map_cons, List.map_nil, Int.zero_add]
      have e2 : L = l' ++ x :: post := by rw [e]; simp
      rw [e1, List.reverse_append, List.reverse_append, foldM_app, foldM_app]
      show Mm.bd (Mm.bd (Mm.bd (getM L (l'.length : Int)) _) _) _ = Mm.bd (Mm.bd (h s x) _) _
      have g : getM L (l'.length : Int) = .ok x := by rw [e2]; exact getM_mid _ _ _
      rw [g]
      show Mm.bd (Mm.bd (h s x) _) _ = _
      congr 1
      funext s'
      exact fold_getR L n l' (x :: post) s' (by simpa using hn) e2
theorem fold_get {α S : Type} {h : S → Int → α → Mm S} (L : List α) : ∀ (l pre : List α) (s : S), L = pre ++ l → foldM (fun s i => (getM L i).bd fun v => h s i v) s (rangeL (pre.length : Int) l.length) = foldM (fun s (x : Int × α) => h s x.1 x.2) s (numL (pre.length : Int) l)
  | [], pre, s, _ => rfl
  | x :: l, pre, s, e => by
    rw [List.length_cons, rangeL_succ]
    unfold foldM numL
    rw [e, getM_mid, ← e]
    show (h s _ x).bd _ = (h s _ x).bd _
    congr 1
    funext s'
    have := fold_get (h := h) L l (pre ++ [x]) s' (by rw [e]; simp)
    rw [List.length_append, List.length_singleton] at this
    have e2 : ((pre.length + 1 : Nat) : Int) = (pre.length : Int) + 1 := by omega
    rw [e2] at this
    exact this
/-! ### draws -/
def Rk (N : Nat) (st : Rw) : Prop := 0 ≤ st.seed ∧ st.seed < 2147483647 ∧ 0 ≤ st.pos ∧ st.pos ≤ N
theorem Rk.up {N M : Nat} {st : Rw} (h : Rk N st) (k : N ≤ M) : Rk M st := ⟨h.1, h.2.1, h.2.2.1, by have := h.2.2.2; omega⟩
theorem seedN_ok (s c : Int) : 0 ≤ seedN s c ∧ seedN s c < 2147483647 := by
  unfold seedN
  omega
theorem takenA_ok {scr : List Int} {st : Rw} {many : Int} {N : Nat} (r : Rk N st) (h0 : 0 < many) (h1 : many < 1073741824) (hN : N < 999999) : Yes (takenA scr st many) fun r => (0 ≤ r.1 ∧ r.1 < many) ∧ Rk (N + 1) r.2 := by
  obtain ⟨r1, r2, r3, r4⟩ := r
  unfold takenA
  rw [if_pos ⟨h0, h1, r1, r2, r3, by omega⟩]
  split
  · refine ⟨_, rfl, ⟨Int.emod_nonneg _ (by omega), Int.emod_lt_of_pos _ h0⟩, r1, r2, r3, ?_⟩
    show st.pos ≤ _
    omega
  · split
    · obtain ⟨s1, s2⟩ := seedN_ok st.seed 0
      exact ⟨_, rfl, ⟨Int.emod_nonneg _ (by omega), Int.emod_lt_of_pos _ h0⟩, s1, s2, by show 0 ≤ st.pos + 1; omega, by show st.pos + 1 ≤ _; omega⟩
    · rename_i c _
      obtain ⟨s1, s2⟩ := seedN_ok st.seed c
      exact ⟨_, rfl, ⟨Int.emod_nonneg _ (by omega), Int.emod_lt_of_pos _ h0⟩, s1, s2, by show 0 ≤ st.pos + 1; omega, by show st.pos + 1 ≤ _; omega⟩
theorem takenB_ok {scr : List Int} {st : Rw} {many : Int} {N : Nat} (r : Rk N st) (h0 : 0 < many) (h1 : many < 1073741824) (hN : N < 999999) : Yes (takenB scr st many) fun r => (0 ≤ r.1 ∧ r.1 < many) ∧ Rk (N + 1) r.2 := by
  obtain ⟨r1, r2, r3, r4⟩ := r
  unfold takenB
  rw [if_pos ⟨h0, h1, r1, r2, r3, by omega⟩]
  split
  · refine ⟨_, rfl, ⟨Int.emod_nonneg _ (by omega), Int.emod_lt_of_pos _ h0⟩, r1, r2, r3, ?_⟩
    show st.pos ≤ _
    omega
  · split
    · obtain ⟨s1, s2⟩ := seedN_ok st.seed 0
      exact ⟨_, rfl, ⟨Int.emod_nonneg _ (by omega), Int.emod_lt_of_pos _ h0⟩, s1, s2, by show 0 ≤ st.pos + 1; omega, by show st.pos + 1 ≤ _; omega⟩
    · rename_i c _
      obtain ⟨s1, s2⟩ := seedN_ok st.seed c
      exact ⟨_, rfl, ⟨Int.emod_nonneg _ (by omega), Int.emod_lt_of_pos _ h0⟩, s1, s2, by show 0 ≤ st.pos + 1; omega, by show st.pos + 1 ≤ _; omega⟩
theorem yes_mapS {α γ S : Type} {f : S → α → Mm (γ × S)} (I : S → Nat → Prop) (p : α → γ → Prop) : ∀ (l : List α) (s : S), I s l.length → (∀ s x n, x ∈ l → I s (n + 1) → Yes (f s x) fun y => p x y.1 ∧ I y.2 n) → Yes (mapSt f s l) fun r => All2 p l r.1 ∧ I r.2 0
  | [], s, h, _ => ⟨_, rfl, .nil, h⟩
  | x :: l, s, h, k => by
    obtain ⟨y, e, h1, h2⟩ := k s x l.length (List.mem_cons_self ..) h
    obtain ⟨r, e2, h3, h4⟩ := yes_mapS I p l y.2 h2 fun s z n hz => k s z n (List.mem_cons_of_mem _ hz)
    unfold mapSt
    rw [e]
    show Yes ((mapSt f y.2 l).bd _) _
    rw [e2]
    exact ⟨_, rfl, .cons h1 h3, h4⟩
/-- draws of a row of things: cost each -/
theorem yes_draws {α γ : Type} {f : Rw → α → Mm (γ × Rw)} (c : Nat) (p : γ → Prop) (l : List α) (s : Rw) (N : Nat) (h : Rk N s) (hN : N + c * l.length < 900000) (k : ∀ s x M, x ∈ l → Rk M s → M < 900000 → Yes (f s x) fun y => p y.1 ∧ Rk (M + c) y.2) : Yes (mapSt f s l) fun r => (r.1.length = l.length ∧ ∀ y ∈ r.1, p y) ∧ Rk (N + c * l.length) r.2 := by
  refine (yes_mapS (fun s n => ∃ k, Rk k s ∧ k + c * n ≤ N + c * l.length) (fun _ y => p y) l s ⟨N, h, Nat.le_refl _⟩ fun s x n hx hs => ?_).mono fun r hr => ⟨⟨hr.1.len, hr.1.right fun _ _ h => h⟩, ?_⟩
  · obtain ⟨M, rk, hM⟩ := hs
    have e : c * (n + 1) = c * n + c := Nat.mul_succ ..
    exact (k s x M hx rk (by omega)).mono fun y hy => ⟨hy.1, M + c, hy.2, by omega⟩
  · obtain ⟨M, rk, hM⟩ := hr.2
    exact rk.up (by omega)
theorem All2.app {α γ : Type} {p : α → γ → Prop} {x : α} {y : γ} : ∀ {l : List α} {r : List γ}, All2 p l r → p x y → All2 p (l ++ [x]) (r ++ [y])
  | _, _, .nil, h => .cons h .nil
  | _, _, .cons a b, h => .cons a (All2.app b h)
theorem All2.map_eq {α β γ : Type} {p : α → γ → Prop} {f : γ → Mm β} {g : α → β} {l : List α} {r : List γ} (h : All2 p l r) (k : ∀ x y, x ∈ l → p x y → f y = .ok (g x)) : mapMm f r = .ok (l.map g) := by
  induction h with
  | nil => rfl
  | cons a _ ih =>
    unfold mapMm
    rw [k _ _ (List.mem_cons_self ..) a, bdo, ih fun x y hx => k x y (List.mem_cons_of_mem _ hx), bdo]
    rfl
theorem All2.left {α γ : Type} {p : α → γ → Prop} {q : α → Prop} {l : List α} {r : List γ} (h : All2 p l r) (k : ∀ x y, p x y → q x) : ∀ x ∈ l, q x := by
  induction h with
  | nil => simp
  | cons a _ ih =>
    intro y hy
    rcases List.mem_cons.mp hy with rfl | hy
    · exact k _ _ a
    · exact ih y hy
theorem All2.self {α γ : Type} {p : α → γ → Prop} {g : α → γ} : ∀ l : List α, (∀ x ∈ l, p x (g x)) → All2 p l (l.map g)
  | [], _ => .nil
  | x :: l, h => .cons (h x (List.mem_cons_self ..)) (All2.self l fun y hy => h y (List.mem_cons_of_mem _ hy))
theorem All2.mono {α γ : Type} {p q : α → γ → Prop} {l : List α} {r : List γ} (h : All2 p l r) (k : ∀ x y, p x y → q x y) : All2 q l r := by
  induction h with
  | nil => exact .nil
  | cons a _ ih => exact .cons (k _ _ a) ih
/-- loops that may be left, but are not -/
theorem yes_foldL {α R S : Type} {f : S → α → Mm (Fl R S)} (I : S → Nat → Prop) : ∀ (l : List α) (s : S), I s l.length → (∀ s x n, x ∈ l → I s (n + 1) → Yes (f s x) fun o => ∃ s', o = .go s' ∧ I s' n) → Yes (foldL f s l) fun o => ∃ s', o = .go s' ∧ I s' 0
  | [], s, h, _ => ⟨_, rfl, s, rfl, h⟩
  | x :: l, s, h, k => by
    obtain ⟨o, e, s', rfl, h2⟩ := k s x l.length (List.mem_cons_self ..) h
    obtain ⟨o2, e2, s2, rfl, h3⟩ := yes_foldL I l s' h2 fun s z n hz => k s z n (List.mem_cons_of_mem _ hz)
    unfold foldL
    rw [e]
    show Yes (foldL f s' l) _
    rw [e2]
    exact ⟨_, rfl, s2, rfl, h3⟩
end Wk
namespace Wk
open PySem L2
/-- Euclid's way -/
theorem euclid : ∀ (n : Nat) (x y : Int), 0 ≤ x → 0 ≤ y → y.toNat < n → foldW (fun (b6 : (Int × Int)) => Mm.ok (decide (b6.2 > (0 : Int)))) (fun (b7 : (Int × Int)) => (modM b7.1 b7.2).bd fun m24 => Mm.ok (b7.2, m24)) n (x, y) = .ok (((Nat.gcd x.natAbs y.natAbs : Nat) : Int), 0)
  | 0, _, _, _, _, h => absurd h (by omega)
  | n + 1, x, y, hx, hy, h => by
    unfold foldW
    by_cases q : y > 0
    · show (match decide (y > 0) with | true => _ | false => _) = _
      rw [decide_eq_true q]
      show ((modM x y).bd _).bd _ = _
      rw [mod_ok q]
      show foldW _ _ n (y, x % y) = _
      have h1 := Int.emod_nonneg x (b := y) (by omega)
      have h2 := Int.emod_lt_of_pos x q
      rw [euclid n y (x % y) hy h1 (by omega)]
      congr 3
      rw [Int.natAbs_emod_of_nonneg hx, Nat.gcd_comm, ← Nat.gcd_rec, Nat.gcd_comm]
    · show (match decide (y > 0) with | true => _ | false => _) = _
      rw [decide_eq_false q]
      have : y = 0 := by omega
      subst this
      show Mm.ok (x, (0 : Int)) = _
      rw [Int.natAbs_zero, Nat.gcd_zero_right]
      congr 2
      omega
theorem abs_nn (x : Int) : 0 ≤ absI x := by unfold absI; split <;> omega
theorem abs_na (x : Int) : (absI x).natAbs = x.natAbs := by unfold absI; split <;> omega
end Wk
namespace Wk
open PySem L2
/-! ### loops over indexes -/
theorem fold_ixR {α S : Type} {f : S → Int → Mm S} {h : S → α → Mm S} (L : List α) (hf : ∀ s (i : Nat) v, L[i]? = some v → f s (i : Int) = h s v) : ∀ s, foldM f s (rangeL 0 L.length).reverse = foldM h s L.reverse := by
  have k : ∀ (n : Nat) (l post : List α) (s : S), l.length = n → L = l ++ post → foldM f s (rangeL 0 l.length).reverse = foldM h s l.reverse := by
    intro n
    induction n with
    | zero =>
      intro l post s hn e
      have : l = [] := List.length_eq_zero_iff.mp hn
      subst this
      rfl
    | succ n ih =>
      intro l post s hn e
      rcases List.eq_nil_or_concat l with q | ⟨l', x, q⟩
      · rw [q] at hn
        cases hn
      · rw [List.concat_eq_append] at q
        subst q
        have e1 : rangeL 0 (l' ++ [x]).length = rangeL 0 l'.length ++ [(l'.length : Int)] := by
          unfold rangeL
          rw [List.length_append, List.length_singleton, List.range_succ, List.map_append, List.map_cons, List.map_nil, Int.zero_add]
        have e2 : L = l' ++ x :: post := by rw [e]; simp
        rw [e1, List.reverse_append, List.reverse_append, foldM_app, foldM_app]
        show Mm.bd (Mm.bd (f s (l'.length : Int)) _) _ = Mm.bd (Mm.bd (h s x) _) _
        rw [hf s l'.length x (by rw [e2]; simp)]
        show Mm.bd (Mm.bd (h s x) _) _ = _
        congr 1
        funext s'
        exact ih l' (x :: post) s' (by simpa using hn) e2
  intro s
  exact k L.length L [] s rfl (by simp)
theorem fold_ixN {α S : Type} {f : S → Int → Mm S} {h : S → Nat → α → Mm S} (L : List α) (hf : ∀ s (i : Nat) v, L[i]? = some v → f s (i : Int) = h s i v) : ∀ (l pre : List α) (s : S), L = pre ++ l → foldM f s (rangeL (pre.length : Int) l.length) = foldM (fun s (x : Int × α) => h s x.1.toNat x.2) s (numL (pre.length : Int) l)
  | [], pre, s, _ => rfl
  | x :: l, pre, s, e => by
    rw [List.length_cons, rangeL_succ]
    unfold foldM numL
    rw [hf s pre.length x (by rw [e]; simp)]
    show (h s _ x).bd _ = (h s _ x).bd _
    rw [Int.toNat_natCast]
    congr 1
    funext s'
    have := fold_ixN L hf l (pre ++ [x]) s' (by rw [e]; simp)
    rw [List.length_append, List.length_singleton] at this
    have e2 : ((pre.length + 1 : Nat) : Int) = (pre.length : Int) + 1 := by omega
    rw [e2] at this
    exact this
theorem fold_num {α S : Type} {h : S → α → Mm S} : ∀ (l : List α) (k : Int) (s : S), foldM (fun s (x : Int × α) => h s x.2) s (numL k l) = foldM h s l
  | [], _, _ => rfl
  | x :: l, k, s => by
    unfold numL foldM
    show (h s x).bd _ = (h s x).bd _
    congr 1
    funext s'
    exact fold_num l (k + 1) s'
theorem fold_ix {α S : Type} {f : S → Int → Mm S} {h : S → α → Mm S} (L : List α) (hf : ∀ s (i : Nat) v, L[i]? = some v → f s (i : Int) = h s v) (s : S) : foldM f s (rangeL 0 L.length) = foldM h s L := by
  have := fold_ixN (h := fun s _ v => h s v) L hf L [] s rfl
  rw [show ((([] : List α).length : Nat) : Int) = 0 from rfl] at this
  rw [this, fold_num]
theorem map_ix {α γ : Type} {f : Int → Mm γ} {h : α → Mm γ} (L : List α) (hf : ∀ (i : Nat) v, L[i]? = some v → f (i : Int) = h v) : mapMm f (rangeL 0 L.length) = mapMm h L := by
  have k : ∀ (l pre : List α), L = pre ++ l → mapMm f (rangeL (pre.length : Int) l.length) = mapMm h l := by
    intro l
    induction l with
    | nil => intro pre _; rfl
    | cons x l ih =>
      intro pre e
      rw [List.length_cons, rangeL_succ]
      unfold mapMm
      rw [hf pre.length x (by rw [e]; simp)]
      have := ih (pre ++ [x]) (by rw [e]; simp)
      rw [List.length_append, List.length_singleton] at this
      have e2 : ((pre.length + 1 : Nat) : Int) = (pre.length : Int) + 1 := by omega
      rw [e2] at this
      rw [this]
  exact k L [] rfl
theorem zip_at {α β : Type} {l : List α} {r : List β} {i : Nat} {v : α × β} (h : (l.zip r)[i]? = some v) : l[i]? = some v.1 ∧ r[i]? = some v.2 := by
  rw [List.getElem?_zip_eq_some] at h
  exact h
theorem getM_map {α β : Type} {l : List α} {f : α → β} {i : Nat} {x : α} (h : l[i]? = some x) : getM (l.map f) (i : Int) = .ok (f x) := getM_nat (by rw [List.getElem?_map, h]; rfl)
theorem All2.at {α γ : Type} {p : α → γ → Prop} {l : List α} {r : List γ} (h : All2 p l r) : ∀ {i : Nat} {x : α}, l[i]? = some x → ∃ y, r[i]? = some y ∧ p x y := by
  induction h with
  | nil => intro i x e; cases i <;> cases e
  | cons a _ ih =>
    intro i x e
    cases i with
    | zero => cases e; exact ⟨_, rfl, a⟩
    | succ i => exact ih e
end Wk
namespace Wk
open PySem L2
def rv (x : Int × Int) : Rat := (x.1 : Rat) / (x.2 : Rat)
theorem all2_rv {n : Nat} {ps : List Rat} {pl : List (Int × Int)} (h : All2 (fun p x => Rx n x p) ps pl) : ps = pl.map rv := by
  induction h with
  | nil => rfl
  | cons a _ ih => rw [List.map_cons, ← ih, ← a.v]; rfl
theorem all2_at {n : Nat} {ps : List Rat} {pl : List (Int × Int)} (h : All2 (fun p x => Rx n x p) ps pl) {i : Nat} {x : Int × Int} (hx : pl[i]? = some x) : Rx n x (rv x) := by
  have := h.right (q := fun x => Rx n x (rv x)) (fun p x r => by have e := r.v; unfold rv; rw [e]; exact r) x (List.mem_of_getElem? hx)
  exact this
/-- sums with something that goes along -/
theorem fold_frP {α R : Type} {f : (Int × Int) × R → α → Mm ((Int × Int) × R)} {v : α → Rat} {c : Nat} : ∀ (l : List α), (∀ x ∈ l, Sq c (v x) ∧ ∀ p a r, Sq a p → a + c < 8999 → f (fr p, r) x = .ok (fr (p + v x), r)) → ∀ (p : Rat) (a : Nat) (r : R), Sq a p → a + (c + 1) * l.length < 8998 →
    foldM f (fr p, r) l = .ok (fr (p + (l.map v).sum), r) ∧ Sq (a + (c + 1) * l.length) (p + (l.map v).sum)
  | [], _, p, a, r, ha, _ => by
    have e : p + ([].map v).sum = p := by
      show p + 0 = p
      grind
    rw [e]
    exact ⟨rfl, ha⟩
  | x :: l, h, p, a, r, ha, hl => by
    have e1 : (c + 1) * (x :: l).length = (c + 1) * l.length + (c + 1) := by rw [List.length_cons, Nat.mul_succ]
    obtain ⟨sx, hx⟩ := h x (List.mem_cons_self ..)
    obtain ⟨h1, h2⟩ := fold_frP l (fun y hy => h y (List.mem_cons_of_mem _ hy)) (p + v x) (a + c + 1) r (sq_add ha sx (by omega)) (by omega)
    have e2 : p + ((x :: l).map v).sum = p + v x + (l.map v).sum := by
      rw [List.map_cons, List.sum_cons]
      grind
    rw [e2]
    refine ⟨?_, h2.up (by omega)⟩
    unfold foldM
    rw [hx p a r ha (by omega)]
    exact h1
/-- the same over the indexes of a list -/
theorem fold_frI {α R : Type} {f : (Int × Int) × R → Int → Mm ((Int × Int) × R)} {v : α → Rat} {c : Nat} (L : List α) (h : ∀ (i : Nat) x, L[i]? = some x → Sq c (v x) ∧ ∀ p a r, Sq a p → a + c < 8999 → f (fr p, r) (i : Int) = .ok (fr (p + v x), r)) (p : Rat) (a : Nat) (r : R) (ha : Sq a p) (hl : a + (c + 1) * L.length < 8998) :
    foldM f (fr p, r) (rangeL 0 L.length) = .ok (fr (p + (L.map v).sum), r) ∧ Sq (a + (c + 1) * L.length) (p + (L.map v).sum) := by
  have k : ∀ (l pre : List α) (p : Rat) (a : Nat), L = pre ++ l → Sq a p → a + (c + 1) * l.length < 8998 → foldM f (fr p, r) (rangeL (pre.length : Int) l.length) = .ok (fr (p + (l.map v).sum), r) ∧ Sq (a + (c + 1) * l.length) (p + (l.map v).sum) := by
    intro l
    induction l with
    | nil =>
      intro pre p a _ ha _
      have e : p + ([].map v).sum = p := by
        show p + 0 = p
        grind
      rw [e]
      exact ⟨rfl, ha⟩
    | cons x l ih =>
      intro pre p a e ha hl
      have e1 : (c + 1) * (x :: l).length = (c + 1) * l.length + (c + 1) := by rw [List.length_cons, Nat.mul_succ]
      obtain ⟨sx, hx⟩ := h pre.length x (by rw [e]; simp)
      have q := ih (pre ++ [x]) (p + v x) (a + c + 1) (by rw [e]; simp) (sq_add ha sx (by omega)) (by omega)
      rw [List.length_append, List.length_singleton] at q
      have e2 : ((pre.length + 1 : Nat) : Int) = (pre.length : Int) + 1 := by omega
      rw [e2] at q
      have e3 : p + ((x :: l).map v).sum = p + v x + (l.map v).sum := by
        rw [List.map_cons, List.sum_cons]
        grind
      rw [e3, List.length_cons, rangeL_succ]
      refine ⟨?_, q.2.up (by rw [Nat.mul_succ]; omega)⟩
      unfold foldM
      rw [hx p a r ha (by omega)]
      exact q.1
  exact k L [] p a (by simp) ha hl
/-- the same with nothing that goes along -/
theorem fold_frJ {α : Type} {f : Int × Int → Int → Mm (Int × Int)} {v : α → Rat} {c : Nat} (L : List α) (h : ∀ (i : Nat) x, L[i]? = some x → Sq c (v x) ∧ ∀ p a, Sq a p → a + c < 8999 → f (fr p) (i : Int) = .ok (fr (p + v x))) (p : Rat) (a : Nat) (ha : Sq a p) (hl : a + (c + 1) * L.length < 8998) :
    foldM f (fr p) (rangeL 0 L.length) = .ok (fr (p + (L.map v).sum)) ∧ Sq (a + (c + 1) * L.length) (p + (L.map v).sum) := by
  have k : ∀ (l pre : List α) (p : Rat) (a : Nat), L = pre ++ l → Sq a p → a + (c + 1) * l.length < 8998 → foldM f (fr p) (rangeL (pre.length : Int) l.length) = .ok (fr (p + (l.map v).sum)) ∧ Sq (a + (c + 1) * l.length) (p + (l.map v).sum) := by
    intro l
    induction l with
    | nil =>
      intro pre p a _ ha _
      have e : p + ([].map v).sum = p := by
        show p + 0 = p
        grind
      rw [e]
      exact ⟨rfl, ha⟩
    | cons x l ih =>
      intro pre p a e ha hl
      have e1 : (c + 1) * (x :: l).length = (c + 1) * l.length + (c + 1) := by rw [List.length_cons, Nat.mul_succ]
      obtain ⟨sx, hx⟩ := h pre.length x (by rw [e]; simp)
      have q := ih (pre ++ [x]) (p + v x) (a + c + 1) (by rw [e]; simp) (sq_add ha sx (by omega)) (by omega)
      rw [List.length_append, List.length_singleton] at q
      have e2 : ((pre.length + 1 : Nat) : Int) = (pre.length : Int) + 1 := by omega
      rw [e2] at q
      have e3 : p + ((x :: l).map v).sum = p + v x + (l.map v).sum := by
        rw [List.map_cons, List.sum_cons]
        grind
      rw [e3, List.length_cons, rangeL_succ]
      refine ⟨?_, q.2.up (by rw [Nat.mul_succ]; omega)⟩
      unfold foldM
      rw [hx p a ha (by omega)]
      exact q.1
  exact k L [] p a (by simp) ha hl
end Wk

set_option Elab.async false
set_option linter.all false
set_option maxRecDepth 100000
set_option maxHeartbeats 4000000
namespace L
/-- thirteen weights above 0 and places from 0 to 1: a rule that is exact to the power 12 -/
def QN : List (Rat × Rat) := [(47719618433/4266648514128, 0), (412093597/10139016888, 1/30), (15096609475/365258877984, 1/15), (34472681/410288736, 2/15), (43199494175/362155842048, 7/30), (1714329755/12291447168, 11/30), (98694539947/770306304768, 1/2), (1714329755/12291447168, 19/30), (43199494175/362155842048, 23/30), (34472681/410288736, 13/15), (15096609475/365258877984, 14/15), (412093597/10139016888, 29/30), (47719618433/4266648514128, 1)]
theorem quad_0 (a d : Rat) : (QN.map fun q => d * q.1 * (a + d * q.2) ^ 0).sum * (1 : Rat) = (a + d) ^ 1 - a ^ 1 := by
  simp only [QN, List.map_cons, List.map_nil, List.sum_cons, List.sum_nil]
  grind
theorem quad_1 (a d : Rat) : (QN.map fun q => d * q.1 * (a + d * q.2) ^ 1).sum * (2 : Rat) = (a + d) ^ 2 - a ^ 2 := by
  simp only [QN, List.map_cons, List.map_nil, List.sum_cons, List.sum_nil]
  grind
theorem quad_2 (a d : Rat) : (QN.map fun q => d * q.1 * (a + d * q.2) ^ 2).sum * (3 : Rat) = (a + d) ^ 3 - a ^ 3 := by
  simp only [QN, List.map_cons, List.map_nil, List.sum_cons, List.sum_nil]
  grind
theorem quad_3 (a d : Rat) : (QN.map fun q => d * q.1 * (a + d * q.2) ^ 3).sum * (4 : Rat) = (a + d) ^ 4 - a ^ 4 := by
  simp only [QN, List.map_cons, List.map_nil, List.sum_cons, List.sum_nil]
  grind
theorem quad_4 (a d : Rat) : (QN.map fun q => d * q.1 * (a + d * q.2) ^ 4).sum * (5 : Rat) = (a + d) ^ 5 - a ^ 5 := by
  simp only [QN, List.map_cons, List.map_nil, List.sum_cons, List.sum_nil]
  grind
theorem quad_5 (a d : Rat) : (QN.map fun q => d * q.1 * (a + d * q.2) ^ 5).sum * (6 : Rat) = (a + d) ^ 6 - a ^ 6 := by
  simp only [QN, List.map_cons, List.map_nil, List.sum_cons, List.sum_nil]
  grind
theorem quad_6 (a d : Rat) : (QN.map fun q => d * q.1 * (a + d * q.2) ^ 6).sum * (7 : Rat) = (a + d) ^ 7 - a ^ 7 := by
  simp only [QN, List.map_cons, List.map_nil, List.sum_cons, List.sum_nil]
  grind
theorem quad_7 (a d : Rat) : (QN.map fun q => d * q.1 * (a + d * q.2) ^ 7).sum * (8 : Rat) = (a + d) ^ 8 - a ^ 8 := by
  simp only [QN, List.map_cons, List.map_nil, List.sum_cons, List.sum_nil]
  grind
theorem quad_8 (a d : Rat) : (QN.map fun q => d * q.1 * (a + d * q.2) ^ 8).sum * (9 : Rat) = (a + d) ^ 9 - a ^ 9 := by
  simp only [QN, List.map_cons, List.map_nil, List.sum_cons, List.sum_nil]
  grind
theorem quad_9 (a d : Rat) : (QN.map fun q => d * q.1 * (a + d * q.2) ^ 9).sum * (10 : Rat) = (a + d) ^ 10 - a ^ 10 := by
  simp only [QN, List.map_cons, List.map_nil, List.sum_cons, List.sum_nil]
  grind
theorem quad_10 (a d : Rat) : (QN.map fun q => d * q.1 * (a + d * q.2) ^ 10).sum * (11 : Rat) = (a + d) ^ 11 - a ^ 11 := by
  simp only [QN, List.map_cons, List.map_nil, List.sum_cons, List.sum_nil]
  grind
theorem quad_11 (a d : Rat) : (QN.map fun q => d * q.1 * (a + d * q.2) ^ 11).sum * (12 : Rat) = (a + d) ^ 12 - a ^ 12 := by
  simp only [QN, List.map_cons, List.map_nil, List.sum_cons, List.sum_nil]
  grind
theorem quad_12 (a d : Rat) : (QN.map fun q => d * q.1 * (a + d * q.2) ^ 12).sum * (13 : Rat) = (a + d) ^ 13 - a ^ 13 := by
  simp only [QN, List.map_cons, List.map_nil, List.sum_cons, List.sum_nil]
  grind
theorem quad (a d : Rat) : ∀ k : Nat, k ≤ 12 → (QN.map fun q => d * q.1 * (a + d * q.2) ^ k).sum * ((((k : Nat) : Int) + 1 : Int) : Rat) = (a + d) ^ (k + 1) - a ^ (k + 1)
  | 0, _ => by
    have e : ((((0 : Nat) : Int) + 1 : Int) : Rat) = (1 : Rat) := by decide
    rw [e]
    exact quad_0 a d
  | 1, _ => by
    have e : ((((1 : Nat) : Int) + 1 : Int) : Rat) = (2 : Rat) := by decide
    rw [e]
    exact quad_1 a d
  | 2, _ => by
    have e : ((((2 : Nat) : Int) + 1 : Int) : Rat) = (3 : Rat) := by decide
    rw [e]
    exact quad_2 a d
  | 3, _ => by
    have e : ((((3 : Nat) : Int) + 1 : Int) : Rat) = (4 : Rat) := by decide
    rw [e]
    exact quad_3 a d
  | 4, _ => by
    have e : ((((4 : Nat) : Int) + 1 : Int) : Rat) = (5 : Rat) := by decide
    rw [e]
    exact quad_4 a d
  | 5, _ => by
    have e : ((((5 : Nat) : Int) + 1 : Int) : Rat) = (6 : Rat) := by decide
    rw [e]
    exact quad_5 a d
  | 6, _ => by
    have e : ((((6 : Nat) : Int) + 1 : Int) : Rat) = (7 : Rat) := by decide
    rw [e]
    exact quad_6 a d
  | 7, _ => by
    have e : ((((7 : Nat) : Int) + 1 : Int) : Rat) = (8 : Rat) := by decide
    rw [e]
    exact quad_7 a d
  | 8, _ => by
    have e : ((((8 : Nat) : Int) + 1 : Int) : Rat) = (9 : Rat) := by decide
    rw [e]
    exact quad_8 a d
  | 9, _ => by
    have e : ((((9 : Nat) : Int) + 1 : Int) : Rat) = (10 : Rat) := by decide
    rw [e]
    exact quad_9 a d
  | 10, _ => by
    have e : ((((10 : Nat) : Int) + 1 : Int) : Rat) = (11 : Rat) := by decide
    rw [e]
    exact quad_10 a d
  | 11, _ => by
    have e : ((((11 : Nat) : Int) + 1 : Int) : Rat) = (12 : Rat) := by decide
    rw [e]
    exact quad_11 a d
  | 12, _ => by
    have e : ((((12 : Nat) : Int) + 1 : Int) : Rat) = (13 : Rat) := by decide
    rw [e]
    exact quad_12 a d
  | n + 13, h => absurd h (by omega)
theorem QN_pos : ∀ q ∈ QN, 0 < q.1 := by decide +kernel
theorem QN_nodup : (QN.map (·.2)).Nodup := by decide +kernel
end L

set_option Elab.async false
set_option linter.all false
set_option maxRecDepth 100000
set_option maxHeartbeats 4000000
namespace L
open PySem L2 Evl Wk StX
def top (i : Nat) : Stmt := PySem.Challenge.pw_fewreadings_k72_whole_false_readings_by.main.body.getD i (.Pass ⟨0, 0, 0, 0⟩)
/-! ### whole_within -/
abbrev s_whole_within : Stmt := top 9
theorem sc_whole_within : FnScope ["number", "low", "high"] ["number", "low", "high"] (defScope s_whole_within) := ⟨rfl, rfl, rfl, by decide +kernel, rfl, by decide +kernel, by decide +kernel⟩
def whole_within (number : Int) (low : Int) (high : Int) : Mm Bool := Mm.ok (true && ((!false) && ((decide (low ≤ number)) && (decide (number ≤ high)))))
def sp_whole_within (K : PySem.W.Frag) : Sp := fun vs H Q _ => ∃ (F : Hp) (number : Int) (low : Int) (high : Int), vs = [(V.int number), (V.int low), (V.int high)] ∧ Ex F H ∧ Post (whole_within number low high) (fun r => Ret [] F H (fun F' _ v => v = V.bl r) Q) (fun _ => False)
theorem ok_whole_within {P : Program} {w : World} {K : PySem.W.Frag} {mg : Str → Option Value} {base : Heap} {C f : Addr} {fd : FuncData} (B : Bi mg) (FF : FunD K "whole_within" "whole_within" (defArgs s_whole_within) (defBody s_whole_within) (defScope s_whole_within) [] [] f fd) : FnOk P w K mg base CX0 1 f fd ["number", "low", "high"] (sp_whole_within K) := by
  refine FF.ok sc_whole_within (fun vs H Q E h => ?_) (fun cdv A outer s H vs Q E hr h => ?_)
  · obtain ⟨F, number, low, high, rfl, _⟩ := h; rfl
  · obtain ⟨F, number, low, high, rfl, e, k⟩ := h
    unfold whole_within at k
    have g_ := Gm.refl (M := []) e
    refine ⟨_, PSs.nox (pss_one (ps_ret (pe_and (pe_callB call_isiI (by rfl) B.isinstance (by decide +kernel) (pa_cons (pv 0) (pa_cons (pe_bltn (v := .ty "int") (u := .type "int") (by rfl) B.int (by decide +kernel) rfl) pa_nil))) (pe_and (pe_not (pe_callB call_isiI (by rfl) B.isinstance (by decide +kernel) (pa_cons (pv 0) (pa_cons (pe_bltn (v := .ty "bool") (u := .type "bool") (by rfl) B.bool (by decide +kernel) rfl) pa_nil)))) (pe_one (pe_chain op_le op_le (pv 1) (pv 0) (pv 2))))))), ?_⟩
    refine ⟨_, rfl, _, _, true, rfl, .inl ⟨rfl, rfl⟩, _, rfl, ?_⟩
    refine andV_j (b := ((!false) && ((decide (low ≤ number)) && (decide (number ≤ high))))) (fun _ Q' q => ?_) ?_
    · refine ⟨_, rfl, _, _, false, rfl, .inr ⟨rfl, rfl⟩, _, rfl, _, rfl, ?_⟩
      refine andV_j (b := ((decide (low ≤ number)) && (decide (number ≤ high)))) (fun _ Q' q => ?_) ?_
      · refine ⟨_, rfl, _, rfl, _, _, rfl, rfl, _, rfl, ?_⟩
        refine chain_j (b := (decide (number ≤ high))) (fun _ Q' q => ?_) ?_
        · refine ⟨_, rfl, _, _, rfl, rfl, ?_⟩
          exact q
        exact q
      exact q
    exact k.h _ _ _ g_ rfl
/-! ### check_within -/
abbrev s_check_within : Stmt := top 10
theorem sc_check_within : FnScope ["number", "low", "high"] ["number", "low", "high"] (defScope s_check_within) := ⟨rfl, rfl, rfl, by decide +kernel, rfl, by decide +kernel, by decide +kernel⟩
def check_within (number : Int) (low : Int) (high : Int) : Mm Unit := (whole_within (number) (low) (high)).bd fun b1 => cond (!b1) (Mm.bad) (Mm.ok ())
def sp_check_within (K : PySem.W.Frag) : Sp := fun vs H Q _ => ∃ (F : Hp) (number : Int) (low : Int) (high : Int), vs = [(V.int number), (V.int low), (V.int high)] ∧ Ex F H ∧ Post (check_within number low high) (fun r => Ret [] F H (fun F' _ v => v = V.non) Q) (fun _ => False)
theorem ok_check_within {P : Program} {w : World} {K : PySem.W.Frag} {mg : Str → Option Value} {base : Heap} {C f : Addr} {fd : FuncData} (B : Bi mg) (FF : FunD K "check_within" "check_within" (defArgs s_check_within) (defBody s_check_within) (defScope s_check_within) [] [] f fd) (G_whole_within : Kn P w K mg base "whole_within" 1 ["number", "low", "high"] (sp_whole_within K)) : FnOk P w K mg base CX0 2 f fd ["number", "low", "high"] (sp_check_within K) := by
  refine FF.ok sc_check_within (fun vs H Q E h => ?_) (fun cdv A outer s H vs Q E hr h => ?_)
  · obtain ⟨F, number, low, high, rfl, _⟩ := h; rfl
  · obtain ⟨F, number, low, high, rfl, e, k⟩ := h
    unfold check_within at k
    have g_ := Gm.refl (M := []) e
    refine ⟨_, PSs.nox (pss_one (ps_if (pt_not (pt_val (pe_kn G_whole_within (hr.mono (by decide)) (pa_cons (pv 0) (pa_cons (pv 1) (pa_cons (pv 2) (pa_nil))))))) (pss_one ps_never) pss_nil)), ?_⟩
    refine ⟨_, rfl, _, rfl, _, rfl, ?_⟩
    refine ⟨F, number, low, high, rfl, e, (post_bd k).mono (fun b1 k v6 F2 H3 g4 r5 => ?_) (fun _ z => z)⟩
    have eF2 := g4.s
    have gF2 := g_.trans (g4.weak (by simp))
    subst r5
    refine ⟨_, rfl, ?_⟩
    refine cs k (fun _ k => ?_) (fun _ k => ?_)
    · exact k.elim
    · exact k.h _ _ _ gF2 rfl
/-! ### lowest -/
abbrev s_lowest : Stmt := top 11
theorem sc_lowest : FnScope ["top", "bottom", "shared"] ["top", "bottom"] (defScope s_lowest) := ⟨rfl, rfl, rfl, by decide +kernel, rfl, by decide +kernel, by decide +kernel⟩
def lowest (top : Int) (bottom : Int) : Mm (Int × Int) := (cond (decide (bottom < (0 : Int))) (Mm.ok (-((Nat.gcd top.natAbs bottom.natAbs : Nat) : Int))) (Mm.ok ((Nat.gcd top.natAbs bottom.natAbs : Nat) : Int))).bd fun b1 => (divM top b1).bd fun m8 => (divM bottom b1).bd fun m11 => Mm.ok (m8, m11)
def sp_lowest (K : PySem.W.Frag) : Sp := fun vs H Q _ => ∃ (F : Hp) (top : Int) (bottom : Int), vs = [(V.int top), (V.int bottom)] ∧ Ex F H ∧ Post (lowest top bottom) (fun r => Ret [] F H (fun F' _ v => Dq K F' v ((e2 PyData.int PyData.int) r)) Q) (fun _ => False)
theorem ok_lowest {P : Program} {w : World} {K : PySem.W.Frag} {mg : Str → Option Value} {base : Heap} {C f : Addr} {fd : FuncData} (B : Bi mg) (FF : FunD K "lowest" "lowest" (defArgs s_lowest) (defBody s_lowest) (defScope s_lowest) [] [] f fd) (c_gcd : mg "gcd" = some (.builtin "math.gcd")) : FnOk P w K mg base CX0 1 f fd ["top", "bottom"] (sp_lowest K) := by
  refine FF.ok sc_lowest (fun vs H Q E h => ?_) (fun cdv A outer s H vs Q E hr h => ?_)
  · obtain ⟨F, top, bottom, rfl, _⟩ := h; rfl
  · obtain ⟨F, top, bottom, rfl, e, k⟩ := h
    unfold lowest at k
    have g_ := Gm.refl (M := []) e
    refine ⟨_, PSs.nox (pss_cons (ps_set (i := 2) sc_lowest.nd rfl (Or.inl rfl) (pe_callBfun cr_gcd (by rfl) c_gcd (pa_cons (pv 0) (pa_cons (pv 1) (pa_nil))))) (pss_cons (ps_if (pt_cmpR op_lt (pv 1) (pe_int) (nomark _)) (pss_one (ps_set (i := 2) sc_lowest.nd rfl (Or.inl rfl) (pe_un un_neg (pv 2)))) (pss_nil)) (pss_one (ps_ret (pe_q (pe_tup (pa_cons (pe_op op_divM (pv 0) (pv 2)) (pa_cons (pe_op op_divM (pv 1) (pv 2)) (pa_nil))))))))), ?_⟩
    refine ⟨_, rfl, _, rfl, _, _, rfl, ?_⟩
    refine ⟨_, rfl, _, _, rfl, rfl, _, rfl, ?_⟩
    refine ifs_jM (M := []) (F := F) (fun b1 F' H' σ' => σ' = [some (V.int top), some (V.int bottom), some (V.int b1)]) k (fun _ nx kjb1 => ?_) (fun _ nx kjb1 => ?_) (fun b1 σ5 F2 H3 g4 i6 k => ?_)
    · have gF_ := Gm.refl (M := []) e
      refine ⟨_, rfl, _, rfl, ?_⟩
      exact kjb1.h _ _ _ gF_ rfl
    · have gF_ := Gm.refl (M := []) e
      exact kjb1.h _ _ _ gF_ rfl
    have g7 := g_.trans (g4.weak (by simp))
    have eF2 := g4.s
    obtain rfl := i6
    refine ⟨_, rfl, _, rfl, ?_⟩
    obtain ⟨m8, c9, q10, k⟩ := post_div k
    refine ⟨_, _, _, rfl, rfl, c9, q10, _, rfl, _, rfl, ?_⟩
    obtain ⟨m11, c12, q13, k⟩ := post_div k
    refine ⟨_, _, _, rfl, rfl, c12, q13, ?_⟩
    show _ ∧ _
    refine new_tup (K := K) (M := []) eF2 (.cons (Dq.int m8) (.cons (Dq.int m11) .nil)) (by show 2 ≤ 100000; decide) fun v18 F14 H15 g16 r17 => ?_
    have eF14 := g16.s
    have gF14 := g7.trans (g16.weak (by simp))
    replace r17 : Dq K F14 v18 ((e2 PyData.int PyData.int) (m8, m11)) := r17
    exact k.h _ _ _ gF14 r17
/-! ### plus -/
abbrev s_plus : Stmt := top 12
theorem sc_plus : FnScope ["one", "other"] ["one", "other"] (defScope s_plus) := ⟨rfl, rfl, rfl, by decide +kernel, rfl, by decide +kernel, by decide +kernel⟩
def plus (one : (Int × Int)) (other : (Int × Int)) : Mm (Int × Int) := (mulM one.1 other.2).bd fun m13 => (mulM other.1 one.2).bd fun m16 => (mulM one.2 other.2).bd fun m19 => (lowest ((m13 + m16)) (m19)).bd fun b22 => Mm.ok b22
def sp_plus (K : PySem.W.Frag) : Sp := fun vs H Q _ => ∃ (F : Hp) (v_one : V) (one : (Int × Int)) (v_other : V) (other : (Int × Int)), vs = [v_one, v_other] ∧ Ex F H ∧ Dq K F v_one ((e2 PyData.int PyData.int) one) ∧ Dq K F v_other ((e2 PyData.int PyData.int) other) ∧ Post (plus one other) (fun r => Ret [] F H (fun F' _ v => Dq K F' v ((e2 PyData.int PyData.int) r)) Q) (fun _ => False)
theorem ok_plus {P : Program} {w : World} {K : PySem.W.Frag} {mg : Str → Option Value} {base : Heap} {C f : Addr} {fd : FuncData} (B : Bi mg) (FF : FunD K "plus" "plus" (defArgs s_plus) (defBody s_plus) (defScope s_plus) [] [] f fd) (G_lowest : Kn P w K mg base "lowest" 1 ["top", "bottom"] (sp_lowest K)) : FnOk P w K mg base CX0 2 f fd ["one", "other"] (sp_plus K) := by
  refine FF.ok sc_plus (fun vs H Q E h => ?_) (fun cdv A outer s H vs Q E hr h => ?_)
  · obtain ⟨F, v_one, one, v_other, other, rfl, _⟩ := h; rfl
  · obtain ⟨F, v_one, one, v_other, other, rfl, e, r_one, r_other, k⟩ := h
    unfold plus at k
    have g_ := Gm.refl (M := []) e
    refine ⟨_, PSs.nox (pss_one (ps_ret (pe_kn G_lowest (hr.mono (by decide)) (pa_cons (pe_op op_add (pe_op op_mulM (pe_ix (r := rIxT K) ix_tup (pv 0) (pe_int) (fun _ _ => rfl)) (pe_ix (r := rIxT K) ix_tup (pv 1) (pe_int) (fun _ _ => rfl))) (pe_op op_mulM (pe_ix (r := rIxT K) ix_tup (pv 1) (pe_int) (fun _ _ => rfl)) (pe_ix (r := rIxT K) ix_tup (pv 0) (pe_int) (fun _ _ => rfl)))) (pa_cons (pe_op op_mulM (pe_ix (r := rIxT K) ix_tup (pv 0) (pe_int) (fun _ _ => rfl)) (pe_ix (r := rIxT K) ix_tup (pv 1) (pe_int) (fun _ _ => rfl))) (pa_nil)))))), ?_⟩
    refine ⟨_, rfl, ?_⟩
    obtain ⟨p1, x2, x3, rfl, s4, d5, d6⟩ := dp_tup2 r_one
    obtain rfl := dp_int d5
    obtain rfl := dp_int d6
    refine ⟨_, _, _, _, rfl, rfl, ex_t e s4, rfl, _, rfl, ?_⟩
    obtain ⟨p7, x8, x9, rfl, s10, d11, d12⟩ := dp_tup2 r_other
    obtain rfl := dp_int d11
    obtain rfl := dp_int d12
    refine ⟨_, _, _, _, rfl, rfl, ex_t e s10, rfl, ?_⟩
    obtain ⟨m13, c14, q15, k⟩ := post_mul k
    refine ⟨_, _, _, rfl, rfl, c14, q15, _, rfl, ?_⟩
    refine ⟨_, _, _, _, rfl, rfl, ex_t e s10, rfl, _, rfl, ?_⟩
    refine ⟨_, _, _, _, rfl, rfl, ex_t e s4, rfl, ?_⟩
    obtain ⟨m16, c17, q18, k⟩ := post_mul k
    refine ⟨_, _, _, rfl, rfl, c17, q18, _, _, rfl, rfl, _, rfl, ?_⟩
    refine ⟨_, _, _, _, rfl, rfl, ex_t e s4, rfl, _, rfl, ?_⟩
    refine ⟨_, _, _, _, rfl, rfl, ex_t e s10, rfl, ?_⟩
    obtain ⟨m19, c20, q21, k⟩ := post_mul k
    refine ⟨_, _, _, rfl, rfl, c20, q21, ?_⟩
    refine ⟨F, (m13 + m16), m19, rfl, e, (post_bd k).mono (fun b22 k v27 F23 H24 g25 r26 => ?_) (fun _ z => z)⟩
    have eF23 := g25.s
    have gF23 := g_.trans (g25.weak (by simp))
    replace r_one := r_one.up g25.f
    replace r_other := r_other.up g25.f
    replace s4 := ex_t g25.f s4
    replace s10 := ex_t g25.f s10
    exact k.h _ _ _ gF23 r26
/-! ### minus -/
abbrev s_minus : Stmt := top 13
theorem sc_minus : FnScope ["one", "other"] ["one", "other"] (defScope s_minus) := ⟨rfl, rfl, rfl, by decide +kernel, rfl, by decide +kernel, by decide +kernel⟩
def minus (one : (Int × Int)) (other : (Int × Int)) : Mm (Int × Int) := (mulM one.1 other.2).bd fun m13 => (mulM other.1 one.2).bd fun m16 => (mulM one.2 other.2).bd fun m19 => (lowest ((m13 - m16)) (m19)).bd fun b22 => Mm.ok b22
def sp_minus (K : PySem.W.Frag) : Sp := fun vs H Q _ => ∃ (F : Hp) (v_one : V) (one : (Int × Int)) (v_other : V) (other : (Int × Int)), vs = [v_one, v_other] ∧ Ex F H ∧ Dq K F v_one ((e2 PyData.int PyData.int) one) ∧ Dq K F v_other ((e2 PyData.int PyData.int) other) ∧ Post (minus one other) (fun r => Ret [] F H (fun F' _ v => Dq K F' v ((e2 PyData.int PyData.int) r)) Q) (fun _ => False)
theorem ok_minus {P : Program} {w : World} {K : PySem.W.Frag} {mg : Str → Option Value} {base : Heap} {C f : Addr} {fd : FuncData} (B : Bi mg) (FF : FunD K "minus" "minus" (defArgs s_minus) (defBody s_minus) (defScope s_minus) [] [] f fd) (G_lowest : Kn P w K mg base "lowest" 1 ["top", "bottom"] (sp_lowest K)) : FnOk P w K mg base CX0 2 f fd ["one", "other"] (sp_minus K) := by
  refine FF.ok sc_minus (fun vs H Q E h => ?_) (fun cdv A outer s H vs Q E hr h => ?_)
  · obtain ⟨F, v_one, one, v_other, other, rfl, _⟩ := h; rfl
  · obtain ⟨F, v_one, one, v_other, other, rfl, e, r_one, r_other, k⟩ := h
    unfold minus at k
    have g_ := Gm.refl (M := []) e
    refine ⟨_, PSs.nox (pss_one (ps_ret (pe_kn G_lowest (hr.mono (by decide)) (pa_cons (pe_op op_sub (pe_op op_mulM (pe_ix (r := rIxT K) ix_tup (pv 0) (pe_int) (fun _ _ => rfl)) (pe_ix (r := rIxT K) ix_tup (pv 1) (pe_int) (fun _ _ => rfl))) (pe_op op_mulM (pe_ix (r := rIxT K) ix_tup (pv 1) (pe_int) (fun _ _ => rfl)) (pe_ix (r := rIxT K) ix_tup (pv 0) (pe_int) (fun _ _ => rfl)))) (pa_cons (pe_op op_mulM (pe_ix (r := rIxT K) ix_tup (pv 0) (pe_int) (fun _ _ => rfl)) (pe_ix (r := rIxT K) ix_tup (pv 1) (pe_int) (fun _ _ => rfl))) (pa_nil)))))), ?_⟩
    refine ⟨_, rfl, ?_⟩
    obtain ⟨p1, x2, x3, rfl, s4, d5, d6⟩ := dp_tup2 r_one
    obtain rfl := dp_int d5
    obtain rfl := dp_int d6
    refine ⟨_, _, _, _, rfl, rfl, ex_t e s4, rfl, _, rfl, ?_⟩
    obtain ⟨p7, x8, x9, rfl, s10, d11, d12⟩ := dp_tup2 r_other
    obtain rfl := dp_int d11
    obtain rfl := dp_int d12
    refine ⟨_, _, _, _, rfl, rfl, ex_t e s10, rfl, ?_⟩
    obtain ⟨m13, c14, q15, k⟩ := post_mul k
    refine ⟨_, _, _, rfl, rfl, c14, q15, _, rfl, ?_⟩
    refine ⟨_, _, _, _, rfl, rfl, ex_t e s10, rfl, _, rfl, ?_⟩
    refine ⟨_, _, _, _, rfl, rfl, ex_t e s4, rfl, ?_⟩
    obtain ⟨m16, c17, q18, k⟩ := post_mul k
    refine ⟨_, _, _, rfl, rfl, c17, q18, _, _, rfl, rfl, _, rfl, ?_⟩
    refine ⟨_, _, _, _, rfl, rfl, ex_t e s4, rfl, _, rfl, ?_⟩
    refine ⟨_, _, _, _, rfl, rfl, ex_t e s10, rfl, ?_⟩
    obtain ⟨m19, c20, q21, k⟩ := post_mul k
    refine ⟨_, _, _, rfl, rfl, c20, q21, ?_⟩
    refine ⟨F, (m13 - m16), m19, rfl, e, (post_bd k).mono (fun b22 k v27 F23 H24 g25 r26 => ?_) (fun _ z => z)⟩
    have eF23 := g25.s
    have gF23 := g_.trans (g25.weak (by simp))
    replace r_one := r_one.up g25.f
    replace r_other := r_other.up g25.f
    replace s4 := ex_t g25.f s4
    replace s10 := ex_t g25.f s10
    exact k.h _ _ _ gF23 r26
/-! ### times -/
abbrev s_times : Stmt := top 14
theorem sc_times : FnScope ["one", "other"] ["one", "other"] (defScope s_times) := ⟨rfl, rfl, rfl, by decide +kernel, rfl, by decide +kernel, by decide +kernel⟩
def times (one : (Int × Int)) (other : (Int × Int)) : Mm (Int × Int) := (mulM one.1 other.1).bd fun m13 => (mulM one.2 other.2).bd fun m16 => (lowest (m13) (m16)).bd fun b19 => Mm.ok b19
def sp_times (K : PySem.W.Frag) : Sp := fun vs H Q _ => ∃ (F : Hp) (v_one : V) (one : (Int × Int)) (v_other : V) (other : (Int × Int)), vs = [v_one, v_other] ∧ Ex F H ∧ Dq K F v_one ((e2 PyData.int PyData.int) one) ∧ Dq K F v_other ((e2 PyData.int PyData.int) other) ∧ Post (times one other) (fun r => Ret [] F H (fun F' _ v => Dq K F' v ((e2 PyData.int PyData.int) r)) Q) (fun _ => False)
theorem ok_times {P : Program} {w : World} {K : PySem.W.Frag} {mg : Str → Option Value} {base : Heap} {C f : Addr} {fd : FuncData} (B : Bi mg) (FF : FunD K "times" "times" (defArgs s_times) (defBody s_times) (defScope s_times) [] [] f fd) (G_lowest : Kn P w K mg base "lowest" 1 ["top", "bottom"] (sp_lowest K)) : FnOk P w K mg base CX0 2 f fd ["one", "other"] (sp_times K) := by
  refine FF.ok sc_times (fun vs H Q E h => ?_) (fun cdv A outer s H vs Q E hr h => ?_)
  · obtain ⟨F, v_one, one, v_other, other, rfl, _⟩ := h; rfl
  · obtain ⟨F, v_one, one, v_other, other, rfl, e, r_one, r_other, k⟩ := h
    unfold times at k
    have g_ := Gm.refl (M := []) e
    refine ⟨_, PSs.nox (pss_one (ps_ret (pe_kn G_lowest (hr.mono (by decide)) (pa_cons (pe_op op_mulM (pe_ix (r := rIxT K) ix_tup (pv 0) (pe_int) (fun _ _ => rfl)) (pe_ix (r := rIxT K) ix_tup (pv 1) (pe_int) (fun _ _ => rfl))) (pa_cons (pe_op op_mulM (pe_ix (r := rIxT K) ix_tup (pv 0) (pe_int) (fun _ _ => rfl)) (pe_ix (r := rIxT K) ix_tup (pv 1) (pe_int) (fun _ _ => rfl))) (pa_nil)))))), ?_⟩
    refine ⟨_, rfl, ?_⟩
    obtain ⟨p1, x2, x3, rfl, s4, d5, d6⟩ := dp_tup2 r_one
    obtain rfl := dp_int d5
    obtain rfl := dp_int d6
    refine ⟨_, _, _, _, rfl, rfl, ex_t e s4, rfl, _, rfl, ?_⟩
    obtain ⟨p7, x8, x9, rfl, s10, d11, d12⟩ := dp_tup2 r_other
    obtain rfl := dp_int d11
    obtain rfl := dp_int d12
    refine ⟨_, _, _, _, rfl, rfl, ex_t e s10, rfl, ?_⟩
    obtain ⟨m13, c14, q15, k⟩ := post_mul k
    refine ⟨_, _, _, rfl, rfl, c14, q15, _, rfl, ?_⟩
    refine ⟨_, _, _, _, rfl, rfl, ex_t e s4, rfl, _, rfl, ?_⟩
    refine ⟨_, _, _, _, rfl, rfl, ex_t e s10, rfl, ?_⟩
    obtain ⟨m16, c17, q18, k⟩ := post_mul k
    refine ⟨_, _, _, rfl, rfl, c17, q18, ?_⟩
    refine ⟨F, m13, m16, rfl, e, (post_bd k).mono (fun b19 k v24 F20 H21 g22 r23 => ?_) (fun _ z => z)⟩
    have eF20 := g22.s
    have gF20 := g_.trans (g22.weak (by simp))
    replace r_one := r_one.up g22.f
    replace r_other := r_other.up g22.f
    replace s4 := ex_t g22.f s4
    replace s10 := ex_t g22.f s10
    exact k.h _ _ _ gF20 r23
/-! ### over -/
abbrev s_over : Stmt := top 15
theorem sc_over : FnScope ["one", "other"] ["one", "other"] (defScope s_over) := ⟨rfl, rfl, rfl, by decide +kernel, rfl, by decide +kernel, by decide +kernel⟩
def over (one : (Int × Int)) (other : (Int × Int)) : Mm (Int × Int) := (mulM one.1 other.2).bd fun m13 => (mulM one.2 other.1).bd fun m16 => (lowest (m13) (m16)).bd fun b19 => Mm.ok b19
def sp_over (K : PySem.W.Frag) : Sp := fun vs H Q _ => ∃ (F : Hp) (v_one : V) (one : (Int × Int)) (v_other : V) (other : (Int × Int)), vs = [v_one, v_other] ∧ Ex F H ∧ Dq K F v_one ((e2 PyData.int PyData.int) one) ∧ Dq K F v_other ((e2 PyData.int PyData.int) other) ∧ Post (over one other) (fun r => Ret [] F H (fun F' _ v => Dq K F' v ((e2 PyData.int PyData.int) r)) Q) (fun _ => False)
theorem ok_over {P : Program} {w : World} {K : PySem.W.Frag} {mg : Str → Option Value} {base : Heap} {C f : Addr} {fd : FuncData} (B : Bi mg) (FF : FunD K "over" "over" (defArgs s_over) (defBody s_over) (defScope s_over) [] [] f fd) (G_lowest : Kn P w K mg base "lowest" 1 ["top", "bottom"] (sp_lowest K)) : FnOk P w K mg base CX0 2 f fd ["one", "other"] (sp_over K) := by
  refine FF.ok sc_over (fun vs H Q E h => ?_) (fun cdv A outer s H vs Q E hr h => ?_)
  · obtain ⟨F, v_one, one, v_other, other, rfl, _⟩ := h; rfl
  · obtain ⟨F, v_one, one, v_other, other, rfl, e, r_one, r_other, k⟩ := h
    unfold over at k
    have g_ := Gm.refl (M := []) e
    refine ⟨_, PSs.nox (pss_one (ps_ret (pe_kn G_lowest (hr.mono (by decide)) (pa_cons (pe_op op_mulM (pe_ix (r := rIxT K) ix_tup (pv 0) (pe_int) (fun _ _ => rfl)) (pe_ix (r := rIxT K) ix_tup (pv 1) (pe_int) (fun _ _ => rfl))) (pa_cons (pe_op op_mulM (pe_ix (r := rIxT K) ix_tup (pv 0) (pe_int) (fun _ _ => rfl)) (pe_ix (r := rIxT K) ix_tup (pv 1) (pe_int) (fun _ _ => rfl))) (pa_nil)))))), ?_⟩
    refine ⟨_, rfl, ?_⟩
    obtain ⟨p1, x2, x3, rfl, s4, d5, d6⟩ := dp_tup2 r_one
    obtain rfl := dp_int d5
    obtain rfl := dp_int d6
    refine ⟨_, _, _, _, rfl, rfl, ex_t e s4, rfl, _, rfl, ?_⟩
    obtain ⟨p7, x8, x9, rfl, s10, d11, d12⟩ := dp_tup2 r_other
    obtain rfl := dp_int d11
    obtain rfl := dp_int d12
    refine ⟨_, _, _, _, rfl, rfl, ex_t e s10, rfl, ?_⟩
    obtain ⟨m13, c14, q15, k⟩ := post_mul k
    refine ⟨_, _, _, rfl, rfl, c14, q15, _, rfl, ?_⟩
    refine ⟨_, _, _, _, rfl, rfl, ex_t e s4, rfl, _, rfl, ?_⟩
    refine ⟨_, _, _, _, rfl, rfl, ex_t e s10, rfl, ?_⟩
    obtain ⟨m16, c17, q18, k⟩ := post_mul k
    refine ⟨_, _, _, rfl, rfl, c17, q18, ?_⟩
    refine ⟨F, m13, m16, rfl, e, (post_bd k).mono (fun b19 k v24 F20 H21 g22 r23 => ?_) (fun _ z => z)⟩
    have eF20 := g22.s
    have gF20 := g_.trans (g22.weak (by simp))
    replace r_one := r_one.up g22.f
    replace r_other := r_other.up g22.f
    replace s4 := ex_t g22.f s4
    replace s10 := ex_t g22.f s10
    exact k.h _ _ _ gF20 r23
/-! ### is_less -/
abbrev s_is_less : Stmt := top 16
theorem sc_is_less : FnScope ["one", "other"] ["one", "other"] (defScope s_is_less) := ⟨rfl, rfl, rfl, by decide +kernel, rfl, by decide +kernel, by decide +kernel⟩
def is_less (one : (Int × Int)) (other : (Int × Int)) : Mm Bool := (mulM one.1 other.2).bd fun m13 => (mulM other.1 one.2).bd fun m16 => Mm.ok (decide (m13 < m16))
def sp_is_less (K : PySem.W.Frag) : Sp := fun vs H Q _ => ∃ (F : Hp) (v_one : V) (one : (Int × Int)) (v_other : V) (other : (Int × Int)), vs = [v_one, v_other] ∧ Ex F H ∧ Dq K F v_one ((e2 PyData.int PyData.int) one) ∧ Dq K F v_other ((e2 PyData.int PyData.int) other) ∧ Post (is_less one other) (fun r => Ret [] F H (fun F' _ v => v = V.bl r) Q) (fun _ => False)
theorem ok_is_less {P : Program} {w : World} {K : PySem.W.Frag} {mg : Str → Option Value} {base : Heap} {C f : Addr} {fd : FuncData} (B : Bi mg) (FF : FunD K "is_less" "is_less" (defArgs s_is_less) (defBody s_is_less) (defScope s_is_less) [] [] f fd) : FnOk P w K mg base CX0 1 f fd ["one", "other"] (sp_is_less K) := by
  refine FF.ok sc_is_less (fun vs H Q E h => ?_) (fun cdv A outer s H vs Q E hr h => ?_)
  · obtain ⟨F, v_one, one, v_other, other, rfl, _⟩ := h; rfl
  · obtain ⟨F, v_one, one, v_other, other, rfl, e, r_one, r_other, k⟩ := h
    unfold is_less at k
    have g_ := Gm.refl (M := []) e
    refine ⟨_, PSs.nox (pss_one (ps_ret (pe_cmpR op_lt (pe_op op_mulM (pe_ix (r := rIxT K) ix_tup (pv 0) (pe_int) (fun _ _ => rfl)) (pe_ix (r := rIxT K) ix_tup (pv 1) (pe_int) (fun _ _ => rfl))) (pe_op op_mulM (pe_ix (r := rIxT K) ix_tup (pv 1) (pe_int) (fun _ _ => rfl)) (pe_ix (r := rIxT K) ix_tup (pv 0) (pe_int) (fun _ _ => rfl))) (nomark _)))), ?_⟩
    refine ⟨_, rfl, ?_⟩
    obtain ⟨p1, x2, x3, rfl, s4, d5, d6⟩ := dp_tup2 r_one
    obtain rfl := dp_int d5
    obtain rfl := dp_int d6
    refine ⟨_, _, _, _, rfl, rfl, ex_t e s4, rfl, _, rfl, ?_⟩
    obtain ⟨p7, x8, x9, rfl, s10, d11, d12⟩ := dp_tup2 r_other
    obtain rfl := dp_int d11
    obtain rfl := dp_int d12
    refine ⟨_, _, _, _, rfl, rfl, ex_t e s10, rfl, ?_⟩
    obtain ⟨m13, c14, q15, k⟩ := post_mul k
    refine ⟨_, _, _, rfl, rfl, c14, q15, _, rfl, ?_⟩
    refine ⟨_, _, _, _, rfl, rfl, ex_t e s10, rfl, _, rfl, ?_⟩
    refine ⟨_, _, _, _, rfl, rfl, ex_t e s4, rfl, ?_⟩
    obtain ⟨m16, c17, q18, k⟩ := post_mul k
    refine ⟨_, _, _, rfl, rfl, c17, q18, _, _, rfl, rfl, ?_⟩
    exact k.h _ _ _ g_ rfl
/-! ### with_root -/
abbrev s_with_root : Stmt := top 17
theorem sc_with_root : FnScope ["polynomial", "place", "raised", "shrunk", "one", "other", "coefficient"] ["polynomial", "place"] (defScope s_with_root) := ⟨rfl, rfl, rfl, by decide +kernel, rfl, by decide +kernel, by decide +kernel⟩
def with_root (polynomial : (List (Int × Int))) (place : (Int × Int)) : Mm (List (Int × Int)) := (guardM ([((0, 1) : (Int × Int))].length + polynomial.length ≤ 100000)).bd fun _ => (guardM (polynomial.length ≤ 50000)).bd fun _ => (mapMm (fun (x13 : (Int × Int)) => (times (x13) (place)).bd fun b32 => Mm.ok b32) polynomial).bd fun b12 => (guardM (b12.length + [((0, 1) : (Int × Int))].length ≤ 100000)).bd fun _ => (guardM ((([((0, 1) : (Int × Int))] ++ polynomial).zip (b12 ++ [((0, 1) : (Int × Int))])).length ≤ 50000)).bd fun _ => (mapMm (fun (x70 : ((Int × Int) × (Int × Int))) => (minus (x70.1) (x70.2)).bd fun b95 => Mm.ok b95) (([((0, 1) : (Int × Int))] ++ polynomial).zip (b12 ++ [((0, 1) : (Int × Int))]))).bd fun b69 => Mm.ok b69
def sp_with_root (K : PySem.W.Frag) : Sp := fun vs H Q _ => ∃ (F : Hp) (v_polynomial : V) (polynomial : (List (Int × Int))) (v_place : V) (place : (Int × Int)), vs = [v_polynomial, v_place] ∧ Ex F H ∧ Dq K F v_polynomial ((eL (e2 PyData.int PyData.int)) polynomial) ∧ Dq K F v_place ((e2 PyData.int PyData.int) place) ∧ Post (with_root polynomial place) (fun r => Ret [] F H (fun F' _ v => Dq K F' v ((eL (e2 PyData.int PyData.int)) r)) Q) (fun _ => False)
theorem ok_with_root {P : Program} {w : World} {K : PySem.W.Frag} {mg : Str → Option Value} {base : Heap} {C f : Addr} {fd : FuncData} (B : Bi mg) (FF : FunD K "with_root" "with_root" (defArgs s_with_root) (defBody s_with_root) (defScope s_with_root) [] [] f fd) (G_times : Kn P w K mg base "times" 2 ["one", "other"] (sp_times K)) (G_minus : Kn P w K mg base "minus" 2 ["one", "other"] (sp_minus K)) {a_NOUGHT : Addr} (c_NOUGHT : mg "NOUGHT" = some (.ref a_NOUGHT)) (d_NOUGHT : ∀ F, Dq K F (.ref a_NOUGHT) ((e2 PyData.int PyData.int) (0, 1))) : FnOk P w K mg base CX0 3 f fd ["polynomial", "place"] (sp_with_root K) := by
  refine FF.ok sc_with_root (fun vs H Q E h => ?_) (fun cdv A outer s H vs Q E hr h => ?_)
  · obtain ⟨F, v_polynomial, polynomial, v_place, place, rfl, _⟩ := h; rfl
  · obtain ⟨F, v_polynomial, polynomial, v_place, place, rfl, e, r_polynomial, r_place, k⟩ := h
    unfold with_root at k
    have g_ := Gm.refl (M := []) e
    refine ⟨_, PSs.nox (pss_cons (ps_set (i := 2) sc_with_root.nd rfl (Or.inl rfl) (pe_q (pe_lst (pa_cons (pe_gref c_NOUGHT) (pa_star (pv 0) pa_nil))))) (pss_cons (ps_set (i := 3) sc_with_root.nd rfl (Or.inl rfl) (pe_q (pe_op op_cat (pe_q (pe_lc (own := [("coefficient", 6)]) (g := gName 6) rfl sc_with_root.nd (pi_list (pv 0)) (blkOk_by (N := ["polynomial", "place", "raised", "shrunk", "one", "other", "coefficient"]) (sc := defScope s_with_root) (by decide +kernel)) (fun _ _ _ _ _ => pg_name (i := 6) sc_with_root.nd rfl (Or.inl rfl)) (fun _ _ _ _ _ => pts_nil) (fun _ _ _ _ _ => pe_kn G_times (hr.mono (by decide)) (pa_cons (pv 6) (pa_cons (pv 1) (pa_nil)))))) (pe_q (pe_lst (pa_cons (pe_gref c_NOUGHT) (pa_nil))))))) (pss_one (ps_ret (pe_q (pe_lc (own := [("one", 4), ("other", 5)]) (g := gTup K 2 (gCons (gName 4) (gCons (gName 5) gNil))) rfl sc_with_root.nd (pi_zip rfl B.zip (pa_cons (pv 2) (pa_cons (pv 3) (pa_nil)))) (blkOk_by (N := ["polynomial", "place", "raised", "shrunk", "one", "other", "coefficient"]) (sc := defScope s_with_root) (by decide +kernel)) (fun _ _ _ _ _ => pg_tup (by rfl) (pgs_cons (pg_name (i := 4) sc_with_root.nd rfl (Or.inl rfl)) (pgs_cons (pg_name (i := 5) sc_with_root.nd rfl (Or.inl rfl)) (pgs_nil)))) (fun _ _ _ _ _ => pts_nil) (fun _ _ _ _ _ => pe_kn G_minus (hr.mono (by decide)) (pa_cons (pv 4) (pa_cons (pv 5) (pa_nil)))))))))), ?_⟩
    refine ⟨_, rfl, ?_⟩
    obtain ⟨p1, xs2, rfl, s3, a4⟩ := dp_lst r_polynomial
    refine ⟨_, _, rfl, .inr (sq_of (e _ _ s3)), ?_⟩
    obtain ⟨h5, k⟩ := post_guard k
    show _ ∧ _
    refine new_star (K := K) (M := []) (en := (e2 PyData.int PyData.int)) (pre := [(V.ref a_NOUGHT)]) (pm := [((0, 1) : (Int × Int))]) (xs := xs2) (l := polynomial) e (.cons (d_NOUGHT F) .nil) a4 h5 fun v10 F6 H7 g8 r9 => ?_
    have eF6 := g8.s
    have gF6 := g_.trans (g8.weak (by simp))
    replace r_polynomial := r_polynomial.up g8.f
    replace r_place := r_place.up g8.f
    replace s3 := g8.f _ _ s3
    replace a4 := a4.up g8.f
    refine ⟨_, rfl, ?_⟩
    refine ⟨_, rfl, ⟨_, (sq_of (eF6 _ _ s3))⟩, ?_⟩
    obtain ⟨h30, k⟩ := post_guard k
    refine lc_map (K := K) (M := []) (wlk_list eF6 s3 a4) (e2 PyData.int PyData.int) k eF6 h30 (fun _ _ => by simp) (fun x13 v28 F21 H22 F23 H24 g25 g26 r27 Q' k11 => ?_) (fun _ z => z) (fun b12 v14 F15 H16 g17 r18 k => ?_) gm_name
    · have g31 := Gm.refl (M := []) g25.s
      replace r_polynomial := r_polynomial.up g25.f
      replace r_place := r_place.up g25.f
      replace s3 := g25.f _ _ s3
      replace a4 := a4.up g25.f
      replace r9 := r9.up g25.f
      replace r_polynomial := r_polynomial.up g26.f
      replace r_place := r_place.up g26.f
      replace s3 := g26.f _ _ s3
      replace a4 := a4.up g26.f
      replace r9 := r9.up g26.f
      have eF23 := g26.s
      have gF23 := g31.trans (g26.weak (by simp))
      refine ⟨rfl, _, rfl, _, rfl, ?_⟩
      refine ⟨F23, _, x13, _, place, rfl, eF23, r27, r_place, (post_bd k11).mono (fun b32 k11 v37 F33 H34 g35 r36 => ?_) (fun _ z => z)⟩
      have eF33 := g35.s
      have gF33 := gF23.trans (g35.weak (by simp))
      replace r_polynomial := r_polynomial.up g35.f
      replace r_place := r_place.up g35.f
      replace s3 := g35.f _ _ s3
      replace a4 := a4.up g35.f
      replace r9 := r9.up g35.f
      replace r27 := r27.up g35.f
      exact k11.h _ _ _ gF33 r36
    have eF15 := g17.s
    have gF15 := gF6.trans (g17.weak (by simp))
    replace r_polynomial := r_polynomial.up g17.f
    replace r_place := r_place.up g17.f
    replace s3 := g17.f _ _ s3
    replace a4 := a4.up g17.f
    replace r9 := r9.up g17.f
    show _ ∧ _
    refine new_lst (K := K) (M := []) eF15 (.cons (d_NOUGHT F15) .nil) (by show 1 ≤ 100000; decide) fun v44 F40 H41 g42 r43 => ?_
    have eF40 := g42.s
    have gF40 := gF15.trans (g42.weak (by simp))
    replace r_polynomial := r_polynomial.up g42.f
    replace r_place := r_place.up g42.f
    replace s3 := g42.f _ _ s3
    replace a4 := a4.up g42.f
    replace r9 := r9.up g42.f
    replace r18 := r18.up g42.f
    replace r43 : Dq K F40 v44 ((eL (e2 PyData.int PyData.int)) [((0, 1) : (Int × Int))]) := r43
    obtain ⟨p45, xs46, rfl, s47, a48⟩ := dp_lst r18
    obtain ⟨p49, xs50, rfl, s51, a52⟩ := dp_lst r43
    obtain ⟨h54, k⟩ := post_guard k
    refine ⟨_, _, _, _, rfl, rfl, eF40 _ _ s47, eF40 _ _ s51, cat_len a48 a52 h54, new_lstC (K := K) (M := []) (en := (e2 PyData.int PyData.int)) (l := b12) (l' := [((0, 1) : (Int × Int))]) eF40 a48 a52 fun v59 F55 H56 g57 r58 => ?_⟩
    have eF55 := g57.s
    have gF55 := gF40.trans (g57.weak (by simp))
    replace r_polynomial := r_polynomial.up g57.f
    replace r_place := r_place.up g57.f
    replace s3 := g57.f _ _ s3
    replace a4 := a4.up g57.f
    replace r9 := r9.up g57.f
    replace r18 := r18.up g57.f
    replace r43 := r43.up g57.f
    replace s47 := g57.f _ _ s47
    replace a48 := a48.up g57.f
    replace s51 := g57.f _ _ s51
    replace a52 := a52.up g57.f
    refine ⟨_, rfl, _, rfl, ?_⟩
    obtain ⟨p60, xs61, rfl, s62, a63⟩ := dp_lst r9
    obtain ⟨p64, xs65, rfl, s66, a67⟩ := dp_lst r58
    refine ⟨_, _, _, _, rfl, (sq_of (eF55 _ _ s62)), (sq_of (eF55 _ _ s66)), ?_⟩
    obtain ⟨h87, k⟩ := post_guard k
    refine lc_map (K := K) (M := []) (wlk_zip eF55 s62 a63 s66 a67) (e2 PyData.int PyData.int) k eF55 h87 (fun _ _ => by simp) (fun x70 v85 F78 H79 F80 H81 g82 g83 r84 Q' k68 => ?_) (fun _ z => z) (fun b69 v71 F72 H73 g74 r75 k => ?_) (gm_tup (gms_cons gm_name (gms_cons gm_name gms_nil)))
    · have g88 := Gm.refl (M := []) g82.s
      replace r_polynomial := r_polynomial.up g82.f
      replace r_place := r_place.up g82.f
      replace s3 := g82.f _ _ s3
      replace a4 := a4.up g82.f
      replace r9 := r9.up g82.f
      replace r18 := r18.up g82.f
      replace r43 := r43.up g82.f
      replace s47 := g82.f _ _ s47
      replace a48 := a48.up g82.f
      replace s51 := g82.f _ _ s51
      replace a52 := a52.up g82.f
      replace r58 := r58.up g82.f
      replace s62 := g82.f _ _ s62
      replace a63 := a63.up g82.f
      replace s66 := g82.f _ _ s66
      replace a67 := a67.up g82.f
      replace r_polynomial := r_polynomial.up g83.f
      replace r_place := r_place.up g83.f
      replace s3 := g83.f _ _ s3
      replace a4 := a4.up g83.f
      replace r9 := r9.up g83.f
      replace r18 := r18.up g83.f
      replace r43 := r43.up g83.f
      replace s47 := g83.f _ _ s47
      replace a48 := a48.up g83.f
      replace s51 := g83.f _ _ s51
      replace a52 := a52.up g83.f
      replace r58 := r58.up g83.f
      replace s62 := g83.f _ _ s62
      replace a63 := a63.up g83.f
      replace s66 := g83.f _ _ s66
      replace a67 := a67.up g83.f
      have eF80 := g83.s
      have gF80 := g88.trans (g83.weak (by simp))
      obtain ⟨p89, x90, x91, rfl, s92, d93, d94⟩ := dp_tup2 r84
      refine ⟨_, _, rfl, ex_t eF80 s92, rfl, _, _, rfl, _, _, rfl, rfl, rfl, _, rfl, _, rfl, ?_⟩
      refine ⟨F80, _, x70.1, _, x70.2, rfl, eF80, d93, d94, (post_bd k68).mono (fun b95 k68 v100 F96 H97 g98 r99 => ?_) (fun _ z => z)⟩
      have eF96 := g98.s
      have gF96 := gF80.trans (g98.weak (by simp))
      replace r_polynomial := r_polynomial.up g98.f
      replace r_place := r_place.up g98.f
      replace s3 := g98.f _ _ s3
      replace a4 := a4.up g98.f
      replace r9 := r9.up g98.f
      replace r18 := r18.up g98.f
      replace r43 := r43.up g98.f
      replace s47 := g98.f _ _ s47
      replace a48 := a48.up g98.f
      replace s51 := g98.f _ _ s51
      replace a52 := a52.up g98.f
      replace r58 := r58.up g98.f
      replace s62 := g98.f _ _ s62
      replace a63 := a63.up g98.f
      replace s66 := g98.f _ _ s66
      replace a67 := a67.up g98.f
      replace r84 := r84.up g98.f
      replace s92 := ex_t g98.f s92
      replace d93 := d93.up g98.f
      replace d94 := d94.up g98.f
      exact k68.h _ _ _ gF96 r99
    have eF72 := g74.s
    have gF72 := gF55.trans (g74.weak (by simp))
    replace r_polynomial := r_polynomial.up g74.f
    replace r_place := r_place.up g74.f
    replace s3 := g74.f _ _ s3
    replace a4 := a4.up g74.f
    replace r9 := r9.up g74.f
    replace r18 := r18.up g74.f
    replace r43 := r43.up g74.f
    replace s47 := g74.f _ _ s47
    replace a48 := a48.up g74.f
    replace s51 := g74.f _ _ s51
    replace a52 := a52.up g74.f
    replace r58 := r58.up g74.f
    replace s62 := g74.f _ _ s62
    replace a63 := a63.up g74.f
    replace s66 := g74.f _ _ s66
    replace a67 := a67.up g74.f
    exact k.h _ _ _ gF72 r75
/-! ### with_roots -/
abbrev s_with_roots : Stmt := top 18
theorem sc_with_roots : FnScope ["places", "result", "place"] ["places"] (defScope s_with_roots) := ⟨rfl, rfl, rfl, by decide +kernel, rfl, by decide +kernel, by decide +kernel⟩
def with_roots (places : (List (Int × Int))) : Mm (List (Int × Int)) := (foldM (fun (b10 : (List (Int × Int))) (x11 : (Int × Int)) => (with_root (b10) (x11)).bd fun b31 => Mm.ok b31) [((1, 1) : (Int × Int))] places).bd fun b27 => Mm.ok b27
def sp_with_roots (K : PySem.W.Frag) : Sp := fun vs H Q _ => ∃ (F : Hp) (v_places : V) (places : (List (Int × Int))), vs = [v_places] ∧ Ex F H ∧ Dq K F v_places ((eL (e2 PyData.int PyData.int)) places) ∧ Post (with_roots places) (fun r => Ret [] F H (fun F' _ v => Dq K F' v ((eL (e2 PyData.int PyData.int)) r)) Q) (fun _ => False)
theorem ok_with_roots {P : Program} {w : World} {K : PySem.W.Frag} {mg : Str → Option Value} {base : Heap} {C f : Addr} {fd : FuncData} (B : Bi mg) (FF : FunD K "with_roots" "with_roots" (defArgs s_with_roots) (defBody s_with_roots) (defScope s_with_roots) [] [] f fd) (G_with_root : Kn P w K mg base "with_root" 3 ["polynomial", "place"] (sp_with_root K)) {a_ONE : Addr} (c_ONE : mg "ONE" = some (.ref a_ONE)) (d_ONE : ∀ F, Dq K F (.ref a_ONE) ((e2 PyData.int PyData.int) (1, 1))) : FnOk P w K mg base CX0 4 f fd ["places"] (sp_with_roots K) := by
  refine FF.ok sc_with_roots (fun vs H Q E h => ?_) (fun cdv A outer s H vs Q E hr h => ?_)
  · obtain ⟨F, v_places, places, rfl, _⟩ := h; rfl
  · obtain ⟨F, v_places, places, rfl, e, r_places, k⟩ := h
    unfold with_roots at k
    have g_ := Gm.refl (M := []) e
    refine ⟨_, PSs.nox (pss_cons (ps_set (i := 1) sc_with_roots.nd rfl (Or.inl rfl) (pe_q (pe_lst (pa_cons (pe_gref c_ONE) (pa_nil))))) (pss_cons (ps_for PassesOwn.never rfl (pi_list (pv 0)) (pg_name (i := 2) sc_with_roots.nd rfl (Or.inl rfl)) (pss_one (ps_set (i := 1) sc_with_roots.nd rfl (Or.inl rfl) (pe_kn G_with_root (hr.mono (by decide)) (pa_cons (pv 1) (pa_cons (pv 2) (pa_nil))))))) (pss_one (ps_ret (pv 1))))), ?_⟩
    show _ ∧ _
    refine new_lst (K := K) (M := []) e (.cons (d_ONE F) .nil) (by show 1 ≤ 100000; decide) fun v5 F1 H2 g3 r4 => ?_
    have eF1 := g3.s
    have gF1 := g_.trans (g3.weak (by simp))
    replace r_places := r_places.up g3.f
    replace r4 : Dq K F1 v5 ((eL (e2 PyData.int PyData.int)) [((1, 1) : (Int × Int))]) := r4
    refine ⟨_, rfl, ?_⟩
    obtain ⟨p6, xs7, rfl, s8, a9⟩ := dp_lst r_places
    refine ⟨_, rfl, ⟨_, (sq_of (eF1 _ _ s8))⟩, ?_⟩
    refine for_m (M := []) (F := F1) (wlk_list eF1 s8 a9) (fun b10 F' H' σ' => ∃ (c1 : V) (u2 : Option V), σ' = [some (V.ref p6), some c1, u2] ∧ Dq K F' c1 ((eL (e2 PyData.int PyData.int)) b10)) k eF1 ⟨_, _, rfl, r4⟩ (fun b10 x11 v19 σ21 F12 H13 F14 H15 g16 i20 g17 r18 nx kfb10 => ?_) (fun b27 σ26 F22 H23 g24 i25 k => ?_)
    · replace r_places := r_places.up g16.f
      replace r4 := r4.up g16.f
      replace s8 := g16.f _ _ s8
      replace a9 := a9.up g16.f
      obtain ⟨c28, u29, rfl, r30⟩ := i20
      replace r_places := r_places.up g17.f
      replace s8 := g17.f _ _ s8
      replace a9 := a9.up g17.f
      replace r30 := r30.up g17.f
      have eF14 := g17.s
      have gF14 := g16.trans (g17.weak (by simp))
      refine ⟨_, rfl, _, rfl, ?_⟩
      refine ⟨F14, _, b10, _, x11, rfl, eF14, r30, r18, (post_bd kfb10).mono (fun b31 kfb10 v36 F32 H33 g34 r35 => ?_) (fun _ z => z)⟩
      have eF32 := g34.s
      have gF32 := gF14.trans (g34.weak (by simp))
      replace r_places := r_places.up g34.f
      replace s8 := g34.f _ _ s8
      replace a9 := a9.up g34.f
      replace r30 := r30.up g34.f
      replace r18 := r18.up g34.f
      exact kfb10.h _ _ _ gF32 ⟨_, _, rfl, r35⟩
    have g38 := gF1.trans (g24.weak (by simp))
    replace r_places := r_places.up g24.f
    replace r4 := r4.up g24.f
    replace s8 := g24.f _ _ s8
    replace a9 := a9.up g24.f
    have eF22 := g24.s
    obtain ⟨c39, u40, rfl, r41⟩ := i25
    refine ⟨_, rfl, ?_⟩
    exact k.h _ _ _ g38 r41
/-! ### worth -/
abbrev s_worth : Stmt := top 19
theorem sc_worth : FnScope ["polynomial", "place", "result", "coefficient"] ["polynomial", "place"] (defScope s_worth) := ⟨rfl, rfl, rfl, by decide +kernel, rfl, by decide +kernel, by decide +kernel⟩
def worth (polynomial : (List (Int × Int))) (place : (Int × Int)) : Mm (Int × Int) := (foldM (fun (b5 : (Int × Int)) (x6 : (Int × Int)) => (times (b5) (place)).bd fun b26 => (plus (b26) (x6)).bd fun b33 => Mm.ok b33) ((0, 1) : (Int × Int)) polynomial.reverse).bd fun b22 => Mm.ok b22
def sp_worth (K : PySem.W.Frag) : Sp := fun vs H Q _ => ∃ (F : Hp) (v_polynomial : V) (polynomial : (List (Int × Int))) (v_place : V) (place : (Int × Int)), vs = [v_polynomial, v_place] ∧ Ex F H ∧ Dq K F v_polynomial ((eL (e2 PyData.int PyData.int)) polynomial) ∧ Dq K F v_place ((e2 PyData.int PyData.int) place) ∧ Post (worth polynomial place) (fun r => Ret [] F H (fun F' _ v => Dq K F' v ((e2 PyData.int PyData.int) r)) Q) (fun _ => False)
theorem ok_worth {P : Program} {w : World} {K : PySem.W.Frag} {mg : Str → Option Value} {base : Heap} {C f : Addr} {fd : FuncData} (B : Bi mg) (FF : FunD K "worth" "worth" (defArgs s_worth) (defBody s_worth) (defScope s_worth) [] [] f fd) (G_plus : Kn P w K mg base "plus" 2 ["one", "other"] (sp_plus K)) (G_times : Kn P w K mg base "times" 2 ["one", "other"] (sp_times K)) {a_NOUGHT : Addr} (c_NOUGHT : mg "NOUGHT" = some (.ref a_NOUGHT)) (d_NOUGHT : ∀ F, Dq K F (.ref a_NOUGHT) ((e2 PyData.int PyData.int) (0, 1))) : FnOk P w K mg base CX0 3 f fd ["polynomial", "place"] (sp_worth K) := by
  refine FF.ok sc_worth (fun vs H Q E h => ?_) (fun cdv A outer s H vs Q E hr h => ?_)
  · obtain ⟨F, v_polynomial, polynomial, v_place, place, rfl, _⟩ := h; rfl
  · obtain ⟨F, v_polynomial, polynomial, v_place, place, rfl, e, r_polynomial, r_place, k⟩ := h
    unfold worth at k
    have g_ := Gm.refl (M := []) e
    refine ⟨_, PSs.nox (pss_cons (ps_set (i := 2) sc_worth.nd rfl (Or.inl rfl) (pe_gref c_NOUGHT)) (pss_cons (ps_for PassesOwn.never rfl (pi_reversed rfl B.reversed (pa_cons (pv 0) pa_nil)) (pg_name (i := 3) sc_worth.nd rfl (Or.inl rfl)) (pss_one (ps_set (i := 2) sc_worth.nd rfl (Or.inl rfl) (pe_kn G_plus (hr.mono (by decide)) (pa_cons (pe_kn G_times (hr.mono (by decide)) (pa_cons (pv 2) (pa_cons (pv 1) (pa_nil)))) (pa_cons (pv 3) (pa_nil))))))) (pss_one (ps_ret (pv 2))))), ?_⟩
    refine ⟨_, rfl, ?_⟩
    obtain ⟨p1, xs2, rfl, s3, a4⟩ := dp_lst r_polynomial
    refine ⟨_, _, rfl, (sq_of (e _ _ s3)), ?_⟩
    refine for_m (M := []) (F := F) (wlk_rev e s3 a4) (fun b5 F' H' σ' => ∃ (c2 : V) (u3 : Option V), σ' = [some (V.ref p1), some v_place, some c2, u3] ∧ Dq K F' c2 ((e2 PyData.int PyData.int) b5)) k e ⟨_, _, rfl, (d_NOUGHT F)⟩ (fun b5 x6 v14 σ16 F7 H8 F9 H10 g11 i15 g12 r13 nx kfb5 => ?_) (fun b22 σ21 F17 H18 g19 i20 k => ?_)
    · replace r_polynomial := r_polynomial.up g11.f
      replace r_place := r_place.up g11.f
      replace s3 := g11.f _ _ s3
      replace a4 := a4.up g11.f
      obtain ⟨c23, u24, rfl, r25⟩ := i15
      replace r_polynomial := r_polynomial.up g12.f
      replace r_place := r_place.up g12.f
      replace s3 := g12.f _ _ s3
      replace a4 := a4.up g12.f
      replace r25 := r25.up g12.f
      have eF9 := g12.s
      have gF9 := g11.trans (g12.weak (by simp))
      refine ⟨_, rfl, _, rfl, ?_⟩
      refine ⟨F9, _, b5, _, place, rfl, eF9, r25, r_place, (post_bd kfb5).mono (fun b26 kfb5 v31 F27 H28 g29 r30 => ?_) (fun _ z => z)⟩
      have eF27 := g29.s
      have gF27 := gF9.trans (g29.weak (by simp))
      replace r_polynomial := r_polynomial.up g29.f
      replace r_place := r_place.up g29.f
      replace s3 := g29.f _ _ s3
      replace a4 := a4.up g29.f
      replace r25 := r25.up g29.f
      replace r13 := r13.up g29.f
      refine ⟨_, rfl, ?_⟩
      refine ⟨F27, _, b26, _, x6, rfl, eF27, r30, r13, (post_bd kfb5).mono (fun b33 kfb5 v38 F34 H35 g36 r37 => ?_) (fun _ z => z)⟩
      have eF34 := g36.s
      have gF34 := gF27.trans (g36.weak (by simp))
      replace r_polynomial := r_polynomial.up g36.f
      replace r_place := r_place.up g36.f
      replace s3 := g36.f _ _ s3
      replace a4 := a4.up g36.f
      replace r25 := r25.up g36.f
      replace r13 := r13.up g36.f
      replace r30 := r30.up g36.f
      exact kfb5.h _ _ _ gF34 ⟨_, _, rfl, r37⟩
    have g40 := g_.trans (g19.weak (by simp))
    replace r_polynomial := r_polynomial.up g19.f
    replace r_place := r_place.up g19.f
    replace s3 := g19.f _ _ s3
    replace a4 := a4.up g19.f
    have eF17 := g19.s
    obtain ⟨c41, u42, rfl, r43⟩ := i20
    refine ⟨_, rfl, ?_⟩
    exact k.h _ _ _ g40 r43
/-! ### only_at -/
abbrev s_only_at : Stmt := top 20
theorem sc_only_at : FnScope ["places", "index", "others", "scale", "coefficient"] ["places", "index"] (defScope s_only_at) := ⟨rfl, rfl, rfl, by decide +kernel, rfl, by decide +kernel, by decide +kernel⟩
def only_at (places : (List (Int × Int))) (index : Int) : Mm (List (Int × Int)) := (guardM ((cutL places none (some index)).length + (cutL places (some (index + (1 : Int))) none).length ≤ 100000)).bd fun _ => (with_roots (((cutL places none (some index)) ++ (cutL places (some (index + (1 : Int))) none)))).bd fun b30 => (getM places index).bd fun i37 => (worth (b30) (i37)).bd fun b42 => (guardM (b30.length ≤ 50000)).bd fun _ => (mapMm (fun (x55 : (Int × Int)) => (over (x55) (b42)).bd fun b74 => Mm.ok b74) b30).bd fun b54 => Mm.ok b54
def sp_only_at (K : PySem.W.Frag) : Sp := fun vs H Q _ => ∃ (F : Hp) (v_places : V) (places : (List (Int × Int))) (index : Int), vs = [v_places, (V.int index)] ∧ Ex F H ∧ Dq K F v_places ((eL (e2 PyData.int PyData.int)) places) ∧ Post (only_at places index) (fun r => Ret [] F H (fun F' _ v => Dq K F' v ((eL (e2 PyData.int PyData.int)) r)) Q) (fun _ => False)
theorem ok_only_at {P : Program} {w : World} {K : PySem.W.Frag} {mg : Str → Option Value} {base : Heap} {C f : Addr} {fd : FuncData} (B : Bi mg) (FF : FunD K "only_at" "only_at" (defArgs s_only_at) (defBody s_only_at) (defScope s_only_at) [] [] f fd) (G_with_roots : Kn P w K mg base "with_roots" 4 ["places"] (sp_with_roots K)) (G_worth : Kn P w K mg base "worth" 3 ["polynomial", "place"] (sp_worth K)) (G_over : Kn P w K mg base "over" 2 ["one", "other"] (sp_over K)) : FnOk P w K mg base CX0 5 f fd ["places", "index"] (sp_only_at K) := by
  refine FF.ok sc_only_at (fun vs H Q E h => ?_) (fun cdv A outer s H vs Q E hr h => ?_)
  · obtain ⟨F, v_places, places, index, rfl, _⟩ := h; rfl
  · obtain ⟨F, v_places, places, index, rfl, e, r_places, k⟩ := h
    unfold only_at at k
    have g_ := Gm.refl (M := []) e
    refine ⟨_, PSs.nox (pss_cons (ps_set (i := 2) sc_only_at.nd rfl (Or.inl rfl) (pe_kn G_with_roots (hr.mono (by decide)) (pa_cons (pe_q (pe_op op_cat (pe_q (pe_slice sl_list (pv 0) po_none (po_some (pv 1)))) (pe_q (pe_slice sl_list (pv 0) (po_some (pe_op op_add (pv 1) (pe_int))) po_none)))) (pa_nil)))) (pss_cons (ps_set (i := 3) sc_only_at.nd rfl (Or.inr rfl) (pe_kn G_worth (hr.mono (by decide)) (pa_cons (pv 2) (pa_cons (pe_ix (r := rIxL K) ix_list (pv 0) (pv 1) (fun _ _ => rfl)) (pa_nil))))) (pss_one (ps_ret (pe_q (pe_lc (own := [("coefficient", 4)]) (g := gName 4) rfl sc_only_at.nd (pi_list (pv 2)) (blkOk_by (N := ["places", "index", "others", "scale", "coefficient"]) (sc := defScope s_only_at) (by decide +kernel)) (fun _ _ _ _ _ => pg_name (i := 4) sc_only_at.nd rfl (Or.inl rfl)) (fun _ _ _ _ _ => pts_nil) (fun _ _ _ _ _ => pe_kn G_over (hr.mono (by decide)) (pa_cons (pv 4) (pa_cons (pv 3) (pa_nil)))))))))), ?_⟩
    refine ⟨_, rfl, _, rfl, _, rfl, ?_⟩
    obtain ⟨p1, xs2, rfl, s3, a4⟩ := dp_lst r_places
    refine cut_lst (K := K) (M := []) e s3 a4 fun v9 F5 H6 g7 r8 => ?_
    have eF5 := g7.s
    have gF5 := g_.trans (g7.weak (by simp))
    replace r_places := r_places.up g7.f
    replace s3 := g7.f _ _ s3
    replace a4 := a4.up g7.f
    refine ⟨_, rfl, _, rfl, _, _, rfl, rfl, _, rfl, ?_⟩
    refine cut_lst (K := K) (M := []) eF5 s3 a4 fun v14 F10 H11 g12 r13 => ?_
    have eF10 := g12.s
    have gF10 := gF5.trans (g12.weak (by simp))
    replace r_places := r_places.up g12.f
    replace s3 := g12.f _ _ s3
    replace a4 := a4.up g12.f
    replace r8 := r8.up g12.f
    obtain ⟨p15, xs16, rfl, s17, a18⟩ := dp_lst r8
    obtain ⟨p19, xs20, rfl, s21, a22⟩ := dp_lst r13
    obtain ⟨h24, k⟩ := post_guard k
    refine ⟨_, _, _, _, rfl, rfl, eF10 _ _ s17, eF10 _ _ s21, cat_len a18 a22 h24, new_lstC (K := K) (M := []) (en := (e2 PyData.int PyData.int)) (l := (cutL places none (some index))) (l' := (cutL places (some (index + (1 : Int))) none)) eF10 a18 a22 fun v29 F25 H26 g27 r28 => ?_⟩
    have eF25 := g27.s
    have gF25 := gF10.trans (g27.weak (by simp))
    replace r_places := r_places.up g27.f
    replace s3 := g27.f _ _ s3
    replace a4 := a4.up g27.f
    replace r8 := r8.up g27.f
    replace r13 := r13.up g27.f
    replace s17 := g27.f _ _ s17
    replace a18 := a18.up g27.f
    replace s21 := g27.f _ _ s21
    replace a22 := a22.up g27.f
    refine ⟨F25, _, ((cutL places none (some index)) ++ (cutL places (some (index + (1 : Int))) none)), rfl, eF25, r28, (post_bd k).mono (fun b30 k v35 F31 H32 g33 r34 => ?_) (fun _ z => z)⟩
    have eF31 := g33.s
    have gF31 := gF25.trans (g33.weak (by simp))
    replace r_places := r_places.up g33.f
    replace s3 := g33.f _ _ s3
    replace a4 := a4.up g33.f
    replace r8 := r8.up g33.f
    replace r13 := r13.up g33.f
    replace s17 := g33.f _ _ s17
    replace a18 := a18.up g33.f
    replace s21 := g33.f _ _ s21
    replace a22 := a22.up g33.f
    replace r28 := r28.up g33.f
    refine ⟨_, rfl, _, rfl, _, rfl, ?_⟩
    obtain ⟨i37, h38, k⟩ := post_get k
    obtain ⟨v39, h40, r41⟩ := dq_at a4 h38
    refine ⟨_, _, _, _, rfl, rfl, (sq_of (eF31 _ _ s3)), h40, ?_⟩
    refine ⟨F31, _, b30, _, i37, rfl, eF31, r34, r41, (post_bd k).mono (fun b42 k v47 F43 H44 g45 r46 => ?_) (fun _ z => z)⟩
    have eF43 := g45.s
    have gF43 := gF31.trans (g45.weak (by simp))
    replace r_places := r_places.up g45.f
    replace s3 := g45.f _ _ s3
    replace a4 := a4.up g45.f
    replace r8 := r8.up g45.f
    replace r13 := r13.up g45.f
    replace s17 := g45.f _ _ s17
    replace a18 := a18.up g45.f
    replace s21 := g45.f _ _ s21
    replace a22 := a22.up g45.f
    replace r28 := r28.up g45.f
    replace r34 := r34.up g45.f
    replace r41 := r41.up g45.f
    refine ⟨_, rfl, ?_⟩
    obtain ⟨p49, xs50, rfl, s51, a52⟩ := dp_lst r34
    refine ⟨_, rfl, ⟨_, (sq_of (eF43 _ _ s51))⟩, ?_⟩
    obtain ⟨h72, k⟩ := post_guard k
    refine lc_map (K := K) (M := []) (wlk_list eF43 s51 a52) (e2 PyData.int PyData.int) k eF43 h72 (fun _ _ => by simp) (fun x55 v70 F63 H64 F65 H66 g67 g68 r69 Q' k53 => ?_) (fun _ z => z) (fun b54 v56 F57 H58 g59 r60 k => ?_) gm_name
    · have g73 := Gm.refl (M := []) g67.s
      replace r_places := r_places.up g67.f
      replace s3 := g67.f _ _ s3
      replace a4 := a4.up g67.f
      replace r8 := r8.up g67.f
      replace r13 := r13.up g67.f
      replace s17 := g67.f _ _ s17
      replace a18 := a18.up g67.f
      replace s21 := g67.f _ _ s21
      replace a22 := a22.up g67.f
      replace r28 := r28.up g67.f
      replace r34 := r34.up g67.f
      replace r41 := r41.up g67.f
      replace r46 := r46.up g67.f
      replace s51 := g67.f _ _ s51
      replace a52 := a52.up g67.f
      replace r_places := r_places.up g68.f
      replace s3 := g68.f _ _ s3
      replace a4 := a4.up g68.f
      replace r8 := r8.up g68.f
      replace r13 := r13.up g68.f
      replace s17 := g68.f _ _ s17
      replace a18 := a18.up g68.f
      replace s21 := g68.f _ _ s21
      replace a22 := a22.up g68.f
      replace r28 := r28.up g68.f
      replace r34 := r34.up g68.f
      replace r41 := r41.up g68.f
      replace r46 := r46.up g68.f
      replace s51 := g68.f _ _ s51
      replace a52 := a52.up g68.f
      have eF65 := g68.s
      have gF65 := g73.trans (g68.weak (by simp))
      refine ⟨rfl, _, rfl, _, rfl, ?_⟩
      refine ⟨F65, _, x55, _, b42, rfl, eF65, r69, r46, (post_bd k53).mono (fun b74 k53 v79 F75 H76 g77 r78 => ?_) (fun _ z => z)⟩
      have eF75 := g77.s
      have gF75 := gF65.trans (g77.weak (by simp))
      replace r_places := r_places.up g77.f
      replace s3 := g77.f _ _ s3
      replace a4 := a4.up g77.f
      replace r8 := r8.up g77.f
      replace r13 := r13.up g77.f
      replace s17 := g77.f _ _ s17
      replace a18 := a18.up g77.f
      replace s21 := g77.f _ _ s21
      replace a22 := a22.up g77.f
      replace r28 := r28.up g77.f
      replace r34 := r34.up g77.f
      replace r41 := r41.up g77.f
      replace r46 := r46.up g77.f
      replace s51 := g77.f _ _ s51
      replace a52 := a52.up g77.f
      replace r69 := r69.up g77.f
      exact k53.h _ _ _ gF75 r78
    have eF57 := g59.s
    have gF57 := gF43.trans (g59.weak (by simp))
    replace r_places := r_places.up g59.f
    replace s3 := g59.f _ _ s3
    replace a4 := a4.up g59.f
    replace r8 := r8.up g59.f
    replace r13 := r13.up g59.f
    replace s17 := g59.f _ _ s17
    replace a18 := a18.up g59.f
    replace s21 := g59.f _ _ s21
    replace a22 := a22.up g59.f
    replace r28 := r28.up g59.f
    replace r34 := r34.up g59.f
    replace r41 := r41.up g59.f
    replace r46 := r46.up g59.f
    replace s51 := g59.f _ _ s51
    replace a52 := a52.up g59.f
    exact k.h _ _ _ gF57 r60
/-! ### trimmed -/
abbrev s_trimmed : Stmt := top 21
theorem sc_trimmed : FnScope ["polynomial", "length"] ["polynomial"] (defScope s_trimmed) := ⟨rfl, rfl, rfl, by decide +kernel, rfl, by decide +kernel, by decide +kernel⟩
def trimmed (polynomial : (List (Int × Int))) : Mm (List (Int × Int)) := (foldW (fun (b5 : Int) => (cond (decide (b5 > (0 : Int))) ((getM polynomial (b5 - (1 : Int))).bd fun i27 => Mm.ok (decide (i27 = ((0, 1) : (Int × Int))))) (Mm.ok false)).bd fun b23 => Mm.ok b23) (fun (b6 : Int) => Mm.ok (b6 - (1 : Int))) ((polynomial.length : Int).toNat + 1) (polynomial.length : Int)).bd fun b7 => Mm.ok (cutL polynomial none (some b7))
def sp_trimmed (K : PySem.W.Frag) : Sp := fun vs H Q _ => ∃ (F : Hp) (v_polynomial : V) (polynomial : (List (Int × Int))), vs = [v_polynomial] ∧ Ex F H ∧ Dq K F v_polynomial ((eL (e2 PyData.int PyData.int)) polynomial) ∧ Post (trimmed polynomial) (fun r => Ret [] F H (fun F' _ v => Dq K F' v ((eL (e2 PyData.int PyData.int)) r)) Q) (fun _ => False)
theorem ok_trimmed {P : Program} {w : World} {K : PySem.W.Frag} {mg : Str → Option Value} {base : Heap} {C f : Addr} {fd : FuncData} (B : Bi mg) (FF : FunD K "trimmed" "trimmed" (defArgs s_trimmed) (defBody s_trimmed) (defScope s_trimmed) [] [] f fd) {a_NOUGHT : Addr} (c_NOUGHT : mg "NOUGHT" = some (.ref a_NOUGHT)) (d_NOUGHT : ∀ F, Dq K F (.ref a_NOUGHT) ((e2 PyData.int PyData.int) (0, 1))) : FnOk P w K mg base CX0 1 f fd ["polynomial"] (sp_trimmed K) := by
  refine FF.ok sc_trimmed (fun vs H Q E h => ?_) (fun cdv A outer s H vs Q E hr h => ?_)
  · obtain ⟨F, v_polynomial, polynomial, rfl, _⟩ := h; rfl
  · obtain ⟨F, v_polynomial, polynomial, rfl, e, r_polynomial, k⟩ := h
    unfold trimmed at k
    have g_ := Gm.refl (M := []) e
    refine ⟨_, PSs.nox (pss_cons (ps_set (i := 1) sc_trimmed.nd rfl (Or.inl rfl) (pe_callB call_lenM (by rfl) B.len (by decide +kernel) (pa_cons (pv 0) pa_nil))) (pss_cons (ps_while PassesOwn.never (PW.pt (pw_and (pt_cmpR op_gt (pv 1) (pe_int) (nomark _)) (pw_and1 (pt_cmpR (r := rEqM K (e2 PyData.int PyData.int)) (op_eqM (sh_e2 sh_int sh_int) (units_of hr)) (pe_ix (r := rIxL K) ix_list (pv 0) (pe_op op_sub (pv 1) (pe_int)) (fun _ _ => rfl)) (pe_gref c_NOUGHT) (nomark _))))) (pss_one (ps_aug (i := 1) sc_trimmed.nd rfl (Or.inl rfl) (pe_int) ip_sub))) (pss_one (ps_ret (pe_q (pe_slice sl_list (pv 0) po_none (po_some (pv 1)))))))), ?_⟩
    refine ⟨_, rfl, ?_⟩
    obtain ⟨p1, xs2, rfl, s3, a4⟩ := dp_lst r_polynomial
    refine ⟨_, _, _, rfl, .inl (sq_of (e _ _ s3)), len_all a4, ?_⟩
    refine while_mir (M := []) (F := F) (N := (polynomial.length : Int).toNat + 1) (fun b5 F' H' σ' => σ' = [some (V.ref p1), some (V.int b5)]) k e rfl (fun b5 σ12 F8 H9 g10 i11 Q' kcb5 => ?_) (fun b6 σ17 F13 H14 g15 i16 nx kwb5 => ?_) (fun b7 σ22 F18 H19 g20 i21 k => ?_)
    · replace r_polynomial := r_polynomial.up g10.f
      replace s3 := g10.f _ _ s3
      replace a4 := a4.up g10.f
      obtain rfl := i11
      have eF8 := g10.s
      refine ⟨_, rfl, _, _, rfl, rfl, _, rfl, ?_⟩
      refine and_jM (M := []) eF8 kcb5 (fun _ Q' kcb5tb23 => ?_) (fun b23 F24 H25 g26 kcb5 => ?_)
      · have gF8_ := Gm.refl (M := []) eF8
        refine ⟨_, rfl, _, rfl, _, _, rfl, rfl, ?_⟩
        obtain ⟨i27, h28, kcb5tb23⟩ := post_get kcb5tb23
        obtain ⟨v29, h30, r31⟩ := dq_at a4 h28
        refine ⟨_, _, _, _, rfl, rfl, (sq_of (eF8 _ _ s3)), h30, ?_⟩
        refine ⟨i27, ((0, 1) : (Int × Int)), r31.dp eF8, (d_NOUGHT F8).dp eF8, ?_⟩
        refine ⟨_, rfl, ?_⟩
        exact kcb5tb23.h _ _ gF8_
      have eF24 := g26.s
      have gF24 := g10.trans (g26.weak (by simp))
      replace r_polynomial := r_polynomial.up g26.f
      replace s3 := g26.f _ _ s3
      replace a4 := a4.up g26.f
      exact kcb5.h _ _ gF24 rfl
    · replace r_polynomial := r_polynomial.up g15.f
      replace s3 := g15.f _ _ s3
      replace a4 := a4.up g15.f
      obtain rfl := i16
      have eF13 := g15.s
      refine ⟨_, rfl, _, _, rfl, rfl, ?_⟩
      exact kwb5.h _ _ _ g15 rfl
    have g32 := g_.trans (g20.weak (by simp))
    replace r_polynomial := r_polynomial.up g20.f
    replace s3 := g20.f _ _ s3
    replace a4 := a4.up g20.f
    have eF18 := g20.s
    obtain rfl := i21
    refine ⟨_, rfl, _, rfl, _, rfl, ?_⟩
    refine cut_lst (K := K) (M := []) eF18 s3 a4 fun v37 F33 H34 g35 r36 => ?_
    have eF33 := g35.s
    have gF33 := g32.trans (g35.weak (by simp))
    replace r_polynomial := r_polynomial.up g35.f
    replace s3 := g35.f _ _ s3
    replace a4 := a4.up g35.f
    exact k.h _ _ _ gF33 r36
/-! ### ascending_places -/
abbrev s_ascending_places : Stmt := top 24
theorem sc_ascending_places : FnScope ["places", "most", "checked", "index", "top", "bottom", "place"] ["places", "most"] (defScope s_ascending_places) := ⟨rfl, rfl, rfl, by decide +kernel, rfl, by decide +kernel, by decide +kernel⟩
def ascending_places (places : (List (Int × Int))) (most : Int) : Mm (List (Int × Int)) := (foldM (fun (b12 : (List (Int × Int))) (x13 : (Int × (Int × Int))) => cond ((decide (x13.1 = most)) || (decide (x13.2.2 = (0 : Int)))) (Mm.bad) ((lowest (x13.2.1) (x13.2.2)).bd fun b49 => (cond (decide (x13.1 > (0 : Int))) ((getM b12 (-(1 : Int))).bd fun i60 => (is_less (i60) (b49)).bd fun b65 => Mm.ok (!b65)) (Mm.ok false)).bd fun b56 => cond b56 (Mm.bad) ((guardM (b12.length < 100000)).bd fun _ => Mm.ok (b12 ++ [b49])))) [] (enumL places)).bd fun b29 => Mm.ok b29
def sp_ascending_places (K : PySem.W.Frag) : Sp := fun vs H Q _ => ∃ (F : Hp) (v_places : V) (places : (List (Int × Int))) (most : Int), vs = [v_places, (V.int most)] ∧ Ex F H ∧ Dq K F v_places ((eV (e2 PyData.int PyData.int)) places) ∧ Post (ascending_places places most) (fun r => Ret [] F H (fun F' _ v => Dq K F' v ((eL (e2 PyData.int PyData.int)) r)) Q) (fun _ => False)
theorem ok_ascending_places {P : Program} {w : World} {K : PySem.W.Frag} {mg : Str → Option Value} {base : Heap} {C f : Addr} {fd : FuncData} (B : Bi mg) (FF : FunD K "ascending_places" "ascending_places" (defArgs s_ascending_places) (defBody s_ascending_places) (defScope s_ascending_places) [] [] f fd) (G_lowest : Kn P w K mg base "lowest" 1 ["top", "bottom"] (sp_lowest K)) (G_is_less : Kn P w K mg base "is_less" 1 ["one", "other"] (sp_is_less K)) : FnOk P w K mg base CX0 2 f fd ["places", "most"] (sp_ascending_places K) := by
  refine FF.ok sc_ascending_places (fun vs H Q E h => ?_) (fun cdv A outer s H vs Q E hr h => ?_)
  · obtain ⟨F, v_places, places, most, rfl, _⟩ := h; rfl
  · obtain ⟨F, v_places, places, most, rfl, e, r_places, k⟩ := h
    unfold ascending_places at k
    have g_ := Gm.refl (M := []) e
    refine ⟨_, PSs.nox (pss_cons (ps_set (i := 2) sc_ascending_places.nd rfl (Or.inl rfl) (pe_q (pe_lst (pa_nil)))) (pss_cons (ps_for PassesOwn.never rfl (pi_enumT rfl B.enumerate (pa_cons (pv 0) pa_nil)) (pg_tup (by rfl) (pgs_cons (pg_name (i := 3) sc_ascending_places.nd rfl (Or.inl rfl)) (pgs_cons (pg_tup (by rfl) (pgs_cons (pg_name (i := 4) sc_ascending_places.nd rfl (Or.inl rfl)) (pgs_cons (pg_name (i := 5) sc_ascending_places.nd rfl (Or.inl rfl)) (pgs_nil)))) (pgs_nil)))) (pss_cons (ps_if (PW.pt (pw_or (pt_cmpR op_eq (pv 3) (pv 1) (nomark _)) (pw_or1 (pt_cmpR op_eq (pv 5) (pe_int) (nomark _))))) (pss_one ps_never) pss_nil) (pss_cons (ps_set (i := 6) sc_ascending_places.nd rfl (Or.inl rfl) (pe_kn G_lowest (hr.mono (by decide)) (pa_cons (pv 4) (pa_cons (pv 5) (pa_nil))))) (pss_cons (ps_if (PW.pt (pw_and (pt_cmpR op_gt (pv 3) (pe_int) (nomark _)) (pw_and1 (pt_not (pt_val (pe_kn G_is_less (hr.mono (by decide)) (pa_cons (pe_ix (r := rIxL K) ix_list (pv 2) (pe_un un_neg (pe_int)) (fun _ _ => rfl)) (pa_cons (pv 6) (pa_nil))))))))) (pss_one ps_never) pss_nil) (pss_one (ps_expr (pe_bm PySem.F.plainAttrs_list PySem.F.slot_list_append PySem.F.type_list_append mt_append (pv 2) (pa_cons (pv 6) pa_nil)))))))) (pss_one (ps_ret (pv 2))))), ?_⟩
    show _ ∧ _
    refine new_own (K := K) e .nil (by show 0 ≤ 100000; decide) fun p1 H2 g3 y4 o5 => ?_
    have a6 : DqAll K F [] (List.map (e2 PyData.int PyData.int) []) := .nil
    have zp1 := g_.fresh y4
    have eH2 := g3.s
    have gH2 := g_.trans (g3.weak (by simp))
    refine ⟨_, rfl, ?_⟩
    obtain ⟨p8, xs9, rfl, s10, a11⟩ := dp_tup r_places
    refine ⟨_, _, rfl, (ex_t eH2 s10), ?_⟩
    refine for_m (M := [p1]) (F := F) (wlk_enumT eH2 s10 a11) (fun b12 F' H' σ' => ∃ (u3 : Option V) (u4 : Option V) (u5 : Option V) (u6 : Option V) (xs2 : List V), σ' = [some (V.ref p8), some (V.int most), some (V.ref p1), u3, u4, u5, u6] ∧ (H' p1 = some (.lst xs2) ∧ F' p1 = none) ∧ DqAll K F' xs2 (List.map (e2 PyData.int PyData.int) b12)) k eH2 ⟨_, _, _, _, _, rfl, o5, a6⟩ (fun b12 x13 v21 σ23 F14 H15 F16 H17 g18 i22 g19 r20 nx kfb12 => ?_) (fun b29 σ28 F24 H25 g26 i27 k => ?_)
    · replace r_places := r_places.up g18.f
      replace s10 := ex_t g18.f s10
      replace a11 := a11.up g18.f
      obtain ⟨u30, u31, u32, u33, xs34, rfl, o35, a36⟩ := i22
      replace r_places := r_places.up g19.f
      replace s10 := ex_t g19.f s10
      replace a11 := a11.up g19.f
      replace o35 := g19.own (by simp [*]) o35.1 o35.2
      replace a36 := a36.up g19.f
      have eF16 := g19.s
      have gF16 := g18.trans (g19.weak (by simp))
      obtain ⟨p37, x38, x39, rfl, s40, d41, d42⟩ := dp_tup2 r20
      obtain rfl := dp_int d41
      refine ⟨_, _, rfl, ex_t eF16 s40, rfl, _, _, rfl, _, _, rfl, ?_⟩
      obtain ⟨p43, x44, x45, rfl, s46, d47, d48⟩ := dp_tup2 d42
      obtain rfl := dp_int d47
      obtain rfl := dp_int d48
      refine ⟨_, _, rfl, ex_t eF16 s46, rfl, _, _, rfl, _, _, rfl, rfl, rfl, ?_⟩
      refine ⟨_, rfl, _, rfl, rfl, ?_⟩
      rw [decV_int]
      refine ⟨_, rfl, ?_⟩
      refine or_j (b := (decide (x13.2.2 = (0 : Int)))) (fun _ Q' q => ?_) ?_
      · refine ⟨_, rfl, rfl, ?_⟩
        rw [decV_int]
        refine ⟨_, rfl, ?_⟩
        exact q
      refine cs kfb12 (fun _ kfb12 => ?_) (fun _ kfb12 => ?_)
      · exact kfb12.elim
      · refine ⟨_, rfl, _, rfl, ?_⟩
        refine ⟨F16, x13.2.1, x13.2.2, rfl, eF16, (post_bd kfb12).mono (fun b49 kfb12 v54 F50 H51 g52 r53 => ?_) (fun _ z => z)⟩
        have eF50 := g52.s
        have gF50 := gF16.trans (g52.weak (by simp))
        replace r_places := r_places.up g52.f
        replace s10 := ex_t g52.f s10
        replace a11 := a11.up g52.f
        replace o35 := g52.own (by simp [*]) o35.1 o35.2
        replace a36 := a36.up g52.f
        replace r20 := r20.up g52.f
        replace s40 := ex_t g52.f s40
        replace d42 := d42.up g52.f
        replace s46 := ex_t g52.f s46
        refine ⟨_, rfl, _, _, rfl, rfl, _, rfl, ?_⟩
        refine and_jM (M := []) eF50 kfb12 (fun _ Q' kfb12tb56 => ?_) (fun b56 F57 H58 g59 kfb12 => ?_)
        · have gF50_ := Gm.refl (M := []) eF50
          refine ⟨_, rfl, _, rfl, ?_⟩
          obtain ⟨i60, h61, kfb12tb56⟩ := post_get kfb12tb56
          obtain ⟨v62, h63, r64⟩ := dq_at a36 h61
          refine ⟨_, _, _, _, rfl, rfl, (sq_of o35.1), h63, ?_⟩
          refine ⟨_, rfl, ?_⟩
          refine ⟨F50, _, i60, _, b49, rfl, eF50, r64, r53, (post_bd kfb12tb56).mono (fun b65 kfb12tb56 v70 F66 H67 g68 r69 => ?_) (fun _ z => z)⟩
          have eF66 := g68.s
          have gF66 := gF50_.trans (g68.weak (by simp))
          replace r_places := r_places.up g68.f
          replace s10 := ex_t g68.f s10
          replace a11 := a11.up g68.f
          replace o35 := g68.own (by simp [*]) o35.1 o35.2
          replace a36 := a36.up g68.f
          replace r20 := r20.up g68.f
          replace s40 := ex_t g68.f s40
          replace d42 := d42.up g68.f
          replace s46 := ex_t g68.f s46
          replace r53 := r53.up g68.f
          replace r64 := r64.up g68.f
          subst r69
          refine ⟨_, rfl, ?_⟩
          exact kfb12tb56.h _ _ gF66
        have eF57 := g59.s
        have gF57 := gF50.trans (g59.weak (by simp))
        replace r_places := r_places.up g59.f
        replace s10 := ex_t g59.f s10
        replace a11 := a11.up g59.f
        replace o35 := g59.own (by simp [*]) o35.1 o35.2
        replace a36 := a36.up g59.f
        replace r20 := r20.up g59.f
        replace s40 := ex_t g59.f s40
        replace d42 := d42.up g59.f
        replace s46 := ex_t g59.f s46
        replace r53 := r53.up g59.f
        refine cs kfb12 (fun _ kfb12 => ?_) (fun _ kfb12 => ?_)
        · exact kfb12.elim
        · refine ⟨_, rfl, .inl ⟨rfl, _, sq_of o35.1⟩, _, rfl, ?_⟩
          obtain ⟨h72, kfb12⟩ := post_guard kfb12
          refine ⟨_, _, _, rfl, rfl, o35.1, own_sz a36 h72, ?_⟩
          have g73 := gF57.putOr (o := .lst (xs34 ++ [v54])) (.inl (by simp)) o35.1 o35.2
          replace o35 : (upd H58 p1 (.lst (xs34 ++ [v54]))) p1 = some (.lst (xs34 ++ [v54])) ∧ F57 p1 = none := ⟨upd_same, o35.2⟩
          replace a36 : DqAll K F57 (xs34 ++ [v54]) (List.map (e2 PyData.int PyData.int) (b12 ++ [b49])) := by rw [List.map_append]; exact a36.app (.cons r53 .nil)
          have e74 := g73.s
          exact kfb12.h _ _ _ g73 ⟨_, _, _, _, _, rfl, o35, a36⟩
    have hy76 : ∀ q ∈ [p1], q ∈ [] ∨ H q = none := by intro q hq; simp only [List.mem_cons, List.not_mem_nil, or_false] at hq; rcases hq with rfl; exact (.inr zp1)
    have g75 := Gm.outs [p1] hy76 gH2 (g26.weak (by simp))
    replace r_places := r_places.up g26.f
    replace s10 := ex_t g26.f s10
    replace a11 := a11.up g26.f
    have eF24 := g26.s
    obtain ⟨u77, u78, u79, u80, xs81, rfl, o82, a83⟩ := i27
    refine ⟨_, rfl, ?_⟩
    have g84 := g75.fix o82.1 o82.2 zp1
    have ur85 : Ex F24 (upd F24 p1 (.lst xs81)) := Ex.new o82.2
    have r85 : Dq K (upd F24 p1 (.lst xs81)) (.ref p1) (eL (e2 PyData.int PyData.int) b29) := .lst upd_same (a83.up ur85)
    have s87 : (upd F24 p1 (.lst xs81)) p1 = some (.lst xs81) := upd_same
    have a88 := a83.up ur85
    replace r_places := r_places.up ur85
    replace s10 := ex_t ur85 s10
    replace a11 := a11.up ur85
    have e89 := g84.s
    exact k.h _ _ _ g84 r85
/-! ### checked_places -/
abbrev s_checked_places : Stmt := top 25
theorem sc_checked_places : FnScope ["places"] ["places"] (defScope s_checked_places) := ⟨rfl, rfl, rfl, by decide +kernel, rfl, by decide +kernel, by decide +kernel⟩
def checked_places (places : (List (Int × Int))) : Mm (List (Int × Int)) := cond (decide ((places.length : Int) = (0 : Int))) (Mm.bad) ((ascending_places (places) ((6 : Int))).bd fun b5 => Mm.ok b5)
def sp_checked_places (K : PySem.W.Frag) : Sp := fun vs H Q _ => ∃ (F : Hp) (v_places : V) (places : (List (Int × Int))), vs = [v_places] ∧ Ex F H ∧ Dq K F v_places ((eV (e2 PyData.int PyData.int)) places) ∧ Post (checked_places places) (fun r => Ret [] F H (fun F' _ v => Dq K F' v ((eL (e2 PyData.int PyData.int)) r)) Q) (fun _ => False)
theorem ok_checked_places {P : Program} {w : World} {K : PySem.W.Frag} {mg : Str → Option Value} {base : Heap} {C f : Addr} {fd : FuncData} (B : Bi mg) (FF : FunD K "checked_places" "checked_places" (defArgs s_checked_places) (defBody s_checked_places) (defScope s_checked_places) [] [] f fd) (G_ascending_places : Kn P w K mg base "ascending_places" 2 ["places", "most"] (sp_ascending_places K)) (c_MOST_PLACES : ∃ t, mg "MOST_PLACES" = some (.int 6 t)) : FnOk P w K mg base CX0 3 f fd ["places"] (sp_checked_places K) := by
  refine FF.ok sc_checked_places (fun vs H Q E h => ?_) (fun cdv A outer s H vs Q E hr h => ?_)
  · obtain ⟨F, v_places, places, rfl, _⟩ := h; rfl
  · obtain ⟨F, v_places, places, rfl, e, r_places, k⟩ := h
    unfold checked_places at k
    have g_ := Gm.refl (M := []) e
    refine ⟨_, PSs.nox (pss_cons (ps_if (pt_cmpR op_eq (pe_callB call_lenM (by rfl) B.len (by decide +kernel) (pa_cons (pv 0) pa_nil)) (pe_int) (nomark _)) (pss_one ps_never) pss_nil) (pss_one (ps_ret (pe_kn G_ascending_places (hr.mono (by decide)) (pa_cons (pv 0) (pa_cons (pe_gint c_MOST_PLACES) (pa_nil))))))), ?_⟩
    refine ⟨_, rfl, ?_⟩
    obtain ⟨p1, xs2, rfl, s3, a4⟩ := dp_tup r_places
    refine ⟨_, _, _, rfl, .inr (ex_t e s3), len_all a4, rfl, ?_⟩
    rw [decV_int]
    refine ⟨_, rfl, ?_⟩
    refine cs k (fun _ k => ?_) (fun _ k => ?_)
    · exact k.elim
    · refine ⟨_, rfl, ?_⟩
      refine ⟨F, _, places, (6 : Int), rfl, e, r_places, (post_bd k).mono (fun b5 k v10 F6 H7 g8 r9 => ?_) (fun _ z => z)⟩
      have eF6 := g8.s
      have gF6 := g_.trans (g8.weak (by simp))
      replace r_places := r_places.up g8.f
      replace s3 := ex_t g8.f s3
      replace a4 := a4.up g8.f
      exact k.h _ _ _ gF6 r9
/-! ### checked_readings -/
abbrev s_checked_readings : Stmt := top 28
theorem sc_checked_readings : FnScope ["readings", "count", "index", "_", "bottom", "top"] ["readings", "count"] (defScope s_checked_readings) := ⟨rfl, rfl, rfl, by decide +kernel, rfl, by decide +kernel, by decide +kernel⟩
def checked_readings (readings : (List (Int × Int))) (count : Int) : Mm (List (Int × Int)) := (foldM (fun (b5 : Unit) (x6 : (Int × (Int × Int))) => cond (decide (x6.2.2 = (0 : Int))) (Mm.bad) (Mm.ok ())) () (enumL readings)).bd fun b22 => cond (!(decide ((readings.length : Int) = count))) (Mm.bad) ((guardM (readings.length ≤ 50000)).bd fun _ => (mapMm (fun (x46 : (Int × Int)) => (lowest (x46.1) (x46.2)).bd fun b71 => Mm.ok b71) readings).bd fun b45 => Mm.ok b45)
def sp_checked_readings (K : PySem.W.Frag) : Sp := fun vs H Q _ => ∃ (F : Hp) (v_readings : V) (readings : (List (Int × Int))) (count : Int), vs = [v_readings, (V.int count)] ∧ Ex F H ∧ Dq K F v_readings ((eV (e2 PyData.int PyData.int)) readings) ∧ Post (checked_readings readings count) (fun r => Ret [] F H (fun F' _ v => Dq K F' v ((eL (e2 PyData.int PyData.int)) r)) Q) (fun _ => False)
theorem ok_checked_readings {P : Program} {w : World} {K : PySem.W.Frag} {mg : Str → Option Value} {base : Heap} {C f : Addr} {fd : FuncData} (B : Bi mg) (FF : FunD K "checked_readings" "checked_readings" (defArgs s_checked_readings) (defBody s_checked_readings) (defScope s_checked_readings) [] [] f fd) (G_lowest : Kn P w K mg base "lowest" 1 ["top", "bottom"] (sp_lowest K)) : FnOk P w K mg base CX0 2 f fd ["readings", "count"] (sp_checked_readings K) := by
  refine FF.ok sc_checked_readings (fun vs H Q E h => ?_) (fun cdv A outer s H vs Q E hr h => ?_)
  · obtain ⟨F, v_readings, readings, count, rfl, _⟩ := h; rfl
  · obtain ⟨F, v_readings, readings, count, rfl, e, r_readings, k⟩ := h
    unfold checked_readings at k
    have g_ := Gm.refl (M := []) e
    refine ⟨_, PSs.nox (pss_cons (ps_for PassesOwn.never rfl (pi_enumT rfl B.enumerate (pa_cons (pv 0) pa_nil)) (pg_tup (by rfl) (pgs_cons (pg_name (i := 2) sc_checked_readings.nd rfl (Or.inl rfl)) (pgs_cons (pg_tup (by rfl) (pgs_cons (pg_name (i := 3) sc_checked_readings.nd rfl (Or.inl rfl)) (pgs_cons (pg_name (i := 4) sc_checked_readings.nd rfl (Or.inl rfl)) (pgs_nil)))) (pgs_nil)))) (pss_one (ps_if (pt_cmpR op_eq (pv 4) (pe_int) (nomark _)) (pss_one ps_never) pss_nil))) (pss_cons (ps_if (pt_cmpR op_ne (pe_callB call_lenM (by rfl) B.len (by decide +kernel) (pa_cons (pv 0) pa_nil)) (pv 1) (nomark _)) (pss_one ps_never) pss_nil) (pss_one (ps_ret (pe_q (pe_lc (own := [("top", 5), ("bottom", 4)]) (g := gTup K 2 (gCons (gName 5) (gCons (gName 4) gNil))) rfl sc_checked_readings.nd (pi_tup (pv 0)) (blkOk_by (N := ["readings", "count", "index", "_", "bottom", "top"]) (sc := defScope s_checked_readings) (by decide +kernel)) (fun _ _ _ _ _ => pg_tup (by rfl) (pgs_cons (pg_name (i := 5) sc_checked_readings.nd rfl (Or.inl rfl)) (pgs_cons (pg_name (i := 4) sc_checked_readings.nd rfl (Or.inl rfl)) (pgs_nil)))) (fun _ _ _ _ _ => pts_nil) (fun _ _ _ _ _ => pe_kn G_lowest (hr.mono (by decide)) (pa_cons (pv 5) (pa_cons (pv 4) (pa_nil)))))))))), ?_⟩
    refine ⟨_, rfl, ?_⟩
    obtain ⟨p1, xs2, rfl, s3, a4⟩ := dp_tup r_readings
    refine ⟨_, _, rfl, (ex_t e s3), ?_⟩
    refine for_m (M := []) (F := F) (wlk_enumT e s3 a4) (fun b5 F' H' σ' => ∃ (u2 : Option V) (u3 : Option V) (u4 : Option V) (u5 : Option V), σ' = [some (V.ref p1), some (V.int count), u2, u3, u4, u5]) k e ⟨_, _, _, _, rfl⟩ (fun b5 x6 v14 σ16 F7 H8 F9 H10 g11 i15 g12 r13 nx kfb5 => ?_) (fun b22 σ21 F17 H18 g19 i20 k => ?_)
    · replace r_readings := r_readings.up g11.f
      replace s3 := ex_t g11.f s3
      replace a4 := a4.up g11.f
      obtain ⟨u23, u24, u25, u26, rfl⟩ := i15
      replace r_readings := r_readings.up g12.f
      replace s3 := ex_t g12.f s3
      replace a4 := a4.up g12.f
      have eF9 := g12.s
      have gF9 := g11.trans (g12.weak (by simp))
      obtain ⟨p27, x28, x29, rfl, s30, d31, d32⟩ := dp_tup2 r13
      obtain rfl := dp_int d31
      refine ⟨_, _, rfl, ex_t eF9 s30, rfl, _, _, rfl, _, _, rfl, ?_⟩
      obtain ⟨p33, x34, x35, rfl, s36, d37, d38⟩ := dp_tup2 d32
      obtain rfl := dp_int d37
      obtain rfl := dp_int d38
      refine ⟨_, _, rfl, ex_t eF9 s36, rfl, _, _, rfl, _, _, rfl, rfl, rfl, ?_⟩
      refine ⟨_, rfl, rfl, ?_⟩
      rw [decV_int]
      refine ⟨_, rfl, ?_⟩
      refine cs kfb5 (fun _ kfb5 => ?_) (fun _ kfb5 => ?_)
      · exact kfb5.elim
      · exact kfb5.h _ _ _ gF9 ⟨_, _, _, _, rfl⟩
    have g39 := g_.trans (g19.weak (by simp))
    replace r_readings := r_readings.up g19.f
    replace s3 := ex_t g19.f s3
    replace a4 := a4.up g19.f
    have eF17 := g19.s
    obtain ⟨u40, u41, u42, u43, rfl⟩ := i20
    refine ⟨_, rfl, ?_⟩
    refine ⟨_, _, _, rfl, .inr (ex_t eF17 s3), len_all a4, _, rfl, rfl, ?_⟩
    rw [decV_int]
    refine ⟨_, rfl, ?_⟩
    refine cs k (fun _ k => ?_) (fun _ k => ?_)
    · exact k.elim
    · refine ⟨_, rfl, ?_⟩
      refine ⟨_, rfl, ⟨_, (ex_t eF17 s3)⟩, ?_⟩
      obtain ⟨h63, k⟩ := post_guard k
      refine lc_map (K := K) (M := []) (wlk_tup eF17 s3 a4) (e2 PyData.int PyData.int) k eF17 h63 (fun _ _ => by simp) (fun x46 v61 F54 H55 F56 H57 g58 g59 r60 Q' k44 => ?_) (fun _ z => z) (fun b45 v47 F48 H49 g50 r51 k => ?_) (gm_tup (gms_cons gm_name (gms_cons gm_name gms_nil)))
      · have g64 := Gm.refl (M := []) g58.s
        replace r_readings := r_readings.up g58.f
        replace s3 := ex_t g58.f s3
        replace a4 := a4.up g58.f
        replace r_readings := r_readings.up g59.f
        replace s3 := ex_t g59.f s3
        replace a4 := a4.up g59.f
        have eF56 := g59.s
        have gF56 := g64.trans (g59.weak (by simp))
        obtain ⟨p65, x66, x67, rfl, s68, d69, d70⟩ := dp_tup2 r60
        obtain rfl := dp_int d69
        obtain rfl := dp_int d70
        refine ⟨_, _, rfl, ex_t eF56 s68, rfl, _, _, rfl, _, _, rfl, rfl, rfl, _, rfl, _, rfl, ?_⟩
        refine ⟨F56, x46.1, x46.2, rfl, eF56, (post_bd k44).mono (fun b71 k44 v76 F72 H73 g74 r75 => ?_) (fun _ z => z)⟩
        have eF72 := g74.s
        have gF72 := gF56.trans (g74.weak (by simp))
        replace r_readings := r_readings.up g74.f
        replace s3 := ex_t g74.f s3
        replace a4 := a4.up g74.f
        replace r60 := r60.up g74.f
        replace s68 := ex_t g74.f s68
        exact k44.h _ _ _ gF72 r75
      have eF48 := g50.s
      have gF48 := g39.trans (g50.weak (by simp))
      replace r_readings := r_readings.up g50.f
      replace s3 := ex_t g50.f s3
      replace a4 := a4.up g50.f
      exact k.h _ _ _ gF48 r51
/-! ### polynomial_through -/
abbrev s_polynomial_through : Stmt := top 29
theorem sc_polynomial_through : FnScope ["found", "worths", "result", "index", "one", "part", "coefficient", "left", "right"] ["found", "worths"] (defScope s_polynomial_through) := ⟨rfl, rfl, rfl, by decide +kernel, rfl, by decide +kernel, by decide +kernel⟩
def polynomial_through (found : (List (Int × Int))) (worths : (List (Int × Int))) : Mm (List (Int × Int)) := (repM [((0, 1) : (Int × Int))] (found.length : Int)).bd fun m14 => (foldM (fun (b26 : (List (Int × Int))) (x27 : (Int × (Int × Int))) => (only_at (found) (x27.1)).bd fun b58 => (guardM (b58.length ≤ 50000)).bd fun _ => (mapMm (fun (x71 : (Int × Int)) => (times (x27.2) (x71)).bd fun b90 => Mm.ok b90) b58).bd fun b70 => (guardM ((b26.zip b70).length ≤ 50000)).bd fun _ => (mapMm (fun (x108 : ((Int × Int) × (Int × Int))) => (plus (x108.1) (x108.2)).bd fun b133 => Mm.ok b133) (b26.zip b70)).bd fun b107 => Mm.ok b107) m14 (enumL worths)).bd fun b43 => (trimmed (b43)).bd fun b150 => Mm.ok b150
def sp_polynomial_through (K : PySem.W.Frag) : Sp := fun vs H Q _ => ∃ (F : Hp) (v_found : V) (found : (List (Int × Int))) (v_worths : V) (worths : (List (Int × Int))), vs = [v_found, v_worths] ∧ Ex F H ∧ Dq K F v_found ((eL (e2 PyData.int PyData.int)) found) ∧ Dq K F v_worths ((eL (e2 PyData.int PyData.int)) worths) ∧ Post (polynomial_through found worths) (fun r => Ret [] F H (fun F' _ v => Dq K F' v ((eL (e2 PyData.int PyData.int)) r)) Q) (fun _ => False)
theorem ok_polynomial_through {P : Program} {w : World} {K : PySem.W.Frag} {mg : Str → Option Value} {base : Heap} {C f : Addr} {fd : FuncData} (B : Bi mg) (FF : FunD K "polynomial_through" "polynomial_through" (defArgs s_polynomial_through) (defBody s_polynomial_through) (defScope s_polynomial_through) [] [] f fd) (G_only_at : Kn P w K mg base "only_at" 5 ["places", "index"] (sp_only_at K)) (G_times : Kn P w K mg base "times" 2 ["one", "other"] (sp_times K)) (G_plus : Kn P w K mg base "plus" 2 ["one", "other"] (sp_plus K)) (G_trimmed : Kn P w K mg base "trimmed" 1 ["polynomial"] (sp_trimmed K)) {a_NOUGHT : Addr} (c_NOUGHT : mg "NOUGHT" = some (.ref a_NOUGHT)) (d_NOUGHT : ∀ F, Dq K F (.ref a_NOUGHT) ((e2 PyData.int PyData.int) (0, 1))) : FnOk P w K mg base CX0 6 f fd ["found", "worths"] (sp_polynomial_through K) := by
  refine FF.ok sc_polynomial_through (fun vs H Q E h => ?_) (fun cdv A outer s H vs Q E hr h => ?_)
  · obtain ⟨F, v_found, found, v_worths, worths, rfl, _⟩ := h; rfl
  · obtain ⟨F, v_found, found, v_worths, worths, rfl, e, r_found, r_worths, k⟩ := h
    unfold polynomial_through at k
    have g_ := Gm.refl (M := []) e
    refine ⟨_, PSs.nox (pss_cons (ps_set (i := 2) sc_polynomial_through.nd rfl (Or.inl rfl) (pe_q (pe_op op_rep (pe_q (pe_lst (pa_cons (pe_gref c_NOUGHT) (pa_nil)))) (pe_callB call_lenM (by rfl) B.len (by decide +kernel) (pa_cons (pv 0) pa_nil))))) (pss_cons (ps_for PassesOwn.never rfl (pi_enum rfl B.enumerate (pa_cons (pv 1) pa_nil)) (pg_tup (by rfl) (pgs_cons (pg_name (i := 3) sc_polynomial_through.nd rfl (Or.inl rfl)) (pgs_cons (pg_name (i := 4) sc_polynomial_through.nd rfl (Or.inr rfl)) (pgs_nil)))) (pss_cons (ps_q (ps_setLc (i := 5) (own := [("coefficient", 6)]) (g := gName 6) rfl sc_polynomial_through.nd rfl rfl (sw_true rfl rfl rfl (by decide +kernel)) (pi_list (pe_kn G_only_at (hr.mono (by decide)) (pa_cons (pv 0) (pa_cons (pv 3) (pa_nil))))) (blkOk_by (N := ["found", "worths", "result", "index", "one", "part", "coefficient", "left", "right"]) (sc := defScope s_polynomial_through) (by decide +kernel)) (fun _ _ _ _ _ => pg_name (i := 6) sc_polynomial_through.nd rfl (Or.inl rfl)) (fun _ _ _ _ _ => pts_nil) (fun _ _ _ _ _ => pe_kn G_times (hr.mono (by decide)) (pa_cons (pv 4) (pa_cons (pv 6) (pa_nil)))))) (pss_one (ps_q (ps_setLc (i := 2) (own := [("left", 7), ("right", 8)]) (g := gTup K 2 (gCons (gName 7) (gCons (gName 8) gNil))) rfl sc_polynomial_through.nd rfl rfl (sw_true rfl rfl rfl (by decide +kernel)) (pi_zip rfl B.zip (pa_cons (pv 2) (pa_cons (pv 5) (pa_nil)))) (blkOk_by (N := ["found", "worths", "result", "index", "one", "part", "coefficient", "left", "right"]) (sc := defScope s_polynomial_through) (by decide +kernel)) (fun _ _ _ _ _ => pg_tup (by rfl) (pgs_cons (pg_name (i := 7) sc_polynomial_through.nd rfl (Or.inl rfl)) (pgs_cons (pg_name (i := 8) sc_polynomial_through.nd rfl (Or.inl rfl)) (pgs_nil)))) (fun _ _ _ _ _ => pts_nil) (fun _ _ _ _ _ => pe_kn G_plus (hr.mono (by decide)) (pa_cons (pv 7) (pa_cons (pv 8) (pa_nil))))))))) (pss_one (ps_ret (pe_kn G_trimmed (hr.mono (by decide)) (pa_cons (pv 2) (pa_nil))))))), ?_⟩
    show _ ∧ _
    refine new_lst (K := K) (M := []) e (.cons (d_NOUGHT F) .nil) (by show 1 ≤ 100000; decide) fun v5 F1 H2 g3 r4 => ?_
    have eF1 := g3.s
    have gF1 := g_.trans (g3.weak (by simp))
    replace r_found := r_found.up g3.f
    replace r_worths := r_worths.up g3.f
    replace r4 : Dq K F1 v5 ((eL (e2 PyData.int PyData.int)) [((0, 1) : (Int × Int))]) := r4
    refine ⟨_, rfl, ?_⟩
    obtain ⟨p6, xs7, rfl, s8, a9⟩ := dp_lst r_found
    refine ⟨_, _, _, rfl, .inl (sq_of (eF1 _ _ s8)), len_all a9, ?_⟩
    obtain ⟨p10, xs11, rfl, s12, a13⟩ := dp_lst r4
    obtain ⟨m14, c15, q16, k⟩ := post_rep k
    refine rep_lst (K := K) (M := []) (en := (e2 PyData.int PyData.int)) eF1 (eF1 _ _ s12) a13 c15 q16 fun v21 F17 H18 g19 r20 => ?_
    have eF17 := g19.s
    have gF17 := gF1.trans (g19.weak (by simp))
    replace r_found := r_found.up g19.f
    replace r_worths := r_worths.up g19.f
    replace r4 := r4.up g19.f
    replace s8 := g19.f _ _ s8
    replace a9 := a9.up g19.f
    replace s12 := g19.f _ _ s12
    replace a13 := a13.up g19.f
    refine ⟨_, rfl, ?_⟩
    obtain ⟨p22, xs23, rfl, s24, a25⟩ := dp_lst r_worths
    refine ⟨_, _, rfl, (sq_of (eF17 _ _ s24)), ?_⟩
    refine for_m (M := []) (F := F17) (wlk_enum eF17 s24 a25) (fun b26 F' H' σ' => ∃ (c2 : V) (u3 : Option V) (u4 : Option V) (u5 : Option V) (u6 : Option V) (u7 : Option V) (u8 : Option V), σ' = [some (V.ref p6), some (V.ref p22), some c2, u3, u4, u5, u6, u7, u8] ∧ Dq K F' c2 ((eL (e2 PyData.int PyData.int)) b26)) k eF17 ⟨_, _, _, _, _, _, _, rfl, r20⟩ (fun b26 x27 v35 σ37 F28 H29 F30 H31 g32 i36 g33 r34 nx kfb26 => ?_) (fun b43 σ42 F38 H39 g40 i41 k => ?_)
    · replace r_found := r_found.up g32.f
      replace r_worths := r_worths.up g32.f
      replace r4 := r4.up g32.f
      replace s8 := g32.f _ _ s8
      replace a9 := a9.up g32.f
      replace s12 := g32.f _ _ s12
      replace a13 := a13.up g32.f
      replace r20 := r20.up g32.f
      replace s24 := g32.f _ _ s24
      replace a25 := a25.up g32.f
      obtain ⟨c44, u45, u46, u47, u48, u49, u50, rfl, r51⟩ := i36
      replace r_found := r_found.up g33.f
      replace r_worths := r_worths.up g33.f
      replace r4 := r4.up g33.f
      replace s8 := g33.f _ _ s8
      replace a9 := a9.up g33.f
      replace s12 := g33.f _ _ s12
      replace a13 := a13.up g33.f
      replace s24 := g33.f _ _ s24
      replace a25 := a25.up g33.f
      replace r51 := r51.up g33.f
      have eF30 := g33.s
      have gF30 := g32.trans (g33.weak (by simp))
      obtain ⟨p52, x53, x54, rfl, s55, d56, d57⟩ := dp_tup2 r34
      obtain rfl := dp_int d56
      refine ⟨_, _, rfl, ex_t eF30 s55, rfl, _, _, rfl, _, _, rfl, rfl, ?_⟩
      refine ⟨_, rfl, _, rfl, ?_⟩
      refine ⟨F30, _, found, x27.1, rfl, eF30, r_found, (post_bd kfb26).mono (fun b58 kfb26 v63 F59 H60 g61 r62 => ?_) (fun _ z => z)⟩
      have eF59 := g61.s
      have gF59 := gF30.trans (g61.weak (by simp))
      replace r_found := r_found.up g61.f
      replace r_worths := r_worths.up g61.f
      replace r4 := r4.up g61.f
      replace s8 := g61.f _ _ s8
      replace a9 := a9.up g61.f
      replace s12 := g61.f _ _ s12
      replace a13 := a13.up g61.f
      replace s24 := g61.f _ _ s24
      replace a25 := a25.up g61.f
      replace r51 := r51.up g61.f
      replace r34 := r34.up g61.f
      replace s55 := ex_t g61.f s55
      replace d57 := d57.up g61.f
      obtain ⟨p65, xs66, rfl, s67, a68⟩ := dp_lst r62
      refine ⟨_, rfl, ⟨_, (sq_of (eF59 _ _ s67))⟩, ?_⟩
      obtain ⟨h88, kfb26⟩ := post_guard kfb26
      refine lc_map (K := K) (M := []) (wlk_list eF59 s67 a68) (e2 PyData.int PyData.int) kfb26 eF59 h88 (fun _ _ => by simp) (fun x71 v86 F79 H80 F81 H82 g83 g84 r85 Q' k69 => ?_) (fun _ z => z) (fun b70 v72 F73 H74 g75 r76 kfb26 => ?_) gm_name
      · have g89 := Gm.refl (M := []) g83.s
        replace r_found := r_found.up g83.f
        replace r_worths := r_worths.up g83.f
        replace r4 := r4.up g83.f
        replace s8 := g83.f _ _ s8
        replace a9 := a9.up g83.f
        replace s12 := g83.f _ _ s12
        replace a13 := a13.up g83.f
        replace s24 := g83.f _ _ s24
        replace a25 := a25.up g83.f
        replace r51 := r51.up g83.f
        replace r34 := r34.up g83.f
        replace s55 := ex_t g83.f s55
        replace d57 := d57.up g83.f
        replace r62 := r62.up g83.f
        replace s67 := g83.f _ _ s67
        replace a68 := a68.up g83.f
        replace r_found := r_found.up g84.f
        replace r_worths := r_worths.up g84.f
        replace r4 := r4.up g84.f
        replace s8 := g84.f _ _ s8
        replace a9 := a9.up g84.f
        replace s12 := g84.f _ _ s12
        replace a13 := a13.up g84.f
        replace s24 := g84.f _ _ s24
        replace a25 := a25.up g84.f
        replace r51 := r51.up g84.f
        replace r34 := r34.up g84.f
        replace s55 := ex_t g84.f s55
        replace d57 := d57.up g84.f
        replace r62 := r62.up g84.f
        replace s67 := g84.f _ _ s67
        replace a68 := a68.up g84.f
        have eF81 := g84.s
        have gF81 := g89.trans (g84.weak (by simp))
        refine ⟨rfl, _, rfl, _, rfl, ?_⟩
        refine ⟨F81, _, x27.2, _, x71, rfl, eF81, d57, r85, (post_bd k69).mono (fun b90 k69 v95 F91 H92 g93 r94 => ?_) (fun _ z => z)⟩
        have eF91 := g93.s
        have gF91 := gF81.trans (g93.weak (by simp))
        replace r_found := r_found.up g93.f
        replace r_worths := r_worths.up g93.f
        replace r4 := r4.up g93.f
        replace s8 := g93.f _ _ s8
        replace a9 := a9.up g93.f
        replace s12 := g93.f _ _ s12
        replace a13 := a13.up g93.f
        replace s24 := g93.f _ _ s24
        replace a25 := a25.up g93.f
        replace r51 := r51.up g93.f
        replace r34 := r34.up g93.f
        replace s55 := ex_t g93.f s55
        replace d57 := d57.up g93.f
        replace r62 := r62.up g93.f
        replace s67 := g93.f _ _ s67
        replace a68 := a68.up g93.f
        replace r85 := r85.up g93.f
        exact k69.h _ _ _ gF91 r94
      have eF73 := g75.s
      have gF73 := gF59.trans (g75.weak (by simp))
      replace r_found := r_found.up g75.f
      replace r_worths := r_worths.up g75.f
      replace r4 := r4.up g75.f
      replace s8 := g75.f _ _ s8
      replace a9 := a9.up g75.f
      replace s12 := g75.f _ _ s12
      replace a13 := a13.up g75.f
      replace s24 := g75.f _ _ s24
      replace a25 := a25.up g75.f
      replace r51 := r51.up g75.f
      replace r34 := r34.up g75.f
      replace s55 := ex_t g75.f s55
      replace d57 := d57.up g75.f
      replace r62 := r62.up g75.f
      replace s67 := g75.f _ _ s67
      replace a68 := a68.up g75.f
      refine ⟨_, rfl, _, rfl, ?_⟩
      obtain ⟨p98, xs99, rfl, s100, a101⟩ := dp_lst r51
      obtain ⟨p102, xs103, rfl, s104, a105⟩ := dp_lst r76
      refine ⟨_, _, _, _, rfl, (sq_of (eF73 _ _ s100)), (sq_of (eF73 _ _ s104)), ?_⟩
      obtain ⟨h125, kfb26⟩ := post_guard kfb26
      refine lc_map (K := K) (M := []) (wlk_zip eF73 s100 a101 s104 a105) (e2 PyData.int PyData.int) kfb26 eF73 h125 (fun _ _ => by simp) (fun x108 v123 F116 H117 F118 H119 g120 g121 r122 Q' k106 => ?_) (fun _ z => z) (fun b107 v109 F110 H111 g112 r113 kfb26 => ?_) (gm_tup (gms_cons gm_name (gms_cons gm_name gms_nil)))
      · have g126 := Gm.refl (M := []) g120.s
        replace r_found := r_found.up g120.f
        replace r_worths := r_worths.up g120.f
        replace r4 := r4.up g120.f
        replace s8 := g120.f _ _ s8
        replace a9 := a9.up g120.f
        replace s12 := g120.f _ _ s12
        replace a13 := a13.up g120.f
        replace s24 := g120.f _ _ s24
        replace a25 := a25.up g120.f
        replace r51 := r51.up g120.f
        replace r34 := r34.up g120.f
        replace s55 := ex_t g120.f s55
        replace d57 := d57.up g120.f
        replace r62 := r62.up g120.f
        replace s67 := g120.f _ _ s67
        replace a68 := a68.up g120.f
        replace r76 := r76.up g120.f
        replace s100 := g120.f _ _ s100
        replace a101 := a101.up g120.f
        replace s104 := g120.f _ _ s104
        replace a105 := a105.up g120.f
        replace r_found := r_found.up g121.f
        replace r_worths := r_worths.up g121.f
        replace r4 := r4.up g121.f
        replace s8 := g121.f _ _ s8
        replace a9 := a9.up g121.f
        replace s12 := g121.f _ _ s12
        replace a13 := a13.up g121.f
        replace s24 := g121.f _ _ s24
        replace a25 := a25.up g121.f
        replace r51 := r51.up g121.f
        replace r34 := r34.up g121.f
        replace s55 := ex_t g121.f s55
        replace d57 := d57.up g121.f
        replace r62 := r62.up g121.f
        replace s67 := g121.f _ _ s67
        replace a68 := a68.up g121.f
        replace r76 := r76.up g121.f
        replace s100 := g121.f _ _ s100
        replace a101 := a101.up g121.f
        replace s104 := g121.f _ _ s104
        replace a105 := a105.up g121.f
        have eF118 := g121.s
        have gF118 := g126.trans (g121.weak (by simp))
        obtain ⟨p127, x128, x129, rfl, s130, d131, d132⟩ := dp_tup2 r122
        refine ⟨_, _, rfl, ex_t eF118 s130, rfl, _, _, rfl, _, _, rfl, rfl, rfl, _, rfl, _, rfl, ?_⟩
        refine ⟨F118, _, x108.1, _, x108.2, rfl, eF118, d131, d132, (post_bd k106).mono (fun b133 k106 v138 F134 H135 g136 r137 => ?_) (fun _ z => z)⟩
        have eF134 := g136.s
        have gF134 := gF118.trans (g136.weak (by simp))
        replace r_found := r_found.up g136.f
        replace r_worths := r_worths.up g136.f
        replace r4 := r4.up g136.f
        replace s8 := g136.f _ _ s8
        replace a9 := a9.up g136.f
        replace s12 := g136.f _ _ s12
        replace a13 := a13.up g136.f
        replace s24 := g136.f _ _ s24
        replace a25 := a25.up g136.f
        replace r51 := r51.up g136.f
        replace r34 := r34.up g136.f
        replace s55 := ex_t g136.f s55
        replace d57 := d57.up g136.f
        replace r62 := r62.up g136.f
        replace s67 := g136.f _ _ s67
        replace a68 := a68.up g136.f
        replace r76 := r76.up g136.f
        replace s100 := g136.f _ _ s100
        replace a101 := a101.up g136.f
        replace s104 := g136.f _ _ s104
        replace a105 := a105.up g136.f
        replace r122 := r122.up g136.f
        replace s130 := ex_t g136.f s130
        replace d131 := d131.up g136.f
        replace d132 := d132.up g136.f
        exact k106.h _ _ _ gF134 r137
      have eF110 := g112.s
      have gF110 := gF73.trans (g112.weak (by simp))
      replace r_found := r_found.up g112.f
      replace r_worths := r_worths.up g112.f
      replace r4 := r4.up g112.f
      replace s8 := g112.f _ _ s8
      replace a9 := a9.up g112.f
      replace s12 := g112.f _ _ s12
      replace a13 := a13.up g112.f
      replace s24 := g112.f _ _ s24
      replace a25 := a25.up g112.f
      replace r51 := r51.up g112.f
      replace r34 := r34.up g112.f
      replace s55 := ex_t g112.f s55
      replace d57 := d57.up g112.f
      replace r62 := r62.up g112.f
      replace s67 := g112.f _ _ s67
      replace a68 := a68.up g112.f
      replace r76 := r76.up g112.f
      replace s100 := g112.f _ _ s100
      replace a101 := a101.up g112.f
      replace s104 := g112.f _ _ s104
      replace a105 := a105.up g112.f
      exact kfb26.h _ _ _ gF110 ⟨_, _, _, _, _, _, _, rfl, r113⟩
    have g141 := gF17.trans (g40.weak (by simp))
    replace r_found := r_found.up g40.f
    replace r_worths := r_worths.up g40.f
    replace r4 := r4.up g40.f
    replace s8 := g40.f _ _ s8
    replace a9 := a9.up g40.f
    replace s12 := g40.f _ _ s12
    replace a13 := a13.up g40.f
    replace r20 := r20.up g40.f
    replace s24 := g40.f _ _ s24
    replace a25 := a25.up g40.f
    have eF38 := g40.s
    obtain ⟨c142, u143, u144, u145, u146, u147, u148, rfl, r149⟩ := i41
    refine ⟨_, rfl, ?_⟩
    refine ⟨F38, _, b43, rfl, eF38, r149, (post_bd k).mono (fun b150 k v155 F151 H152 g153 r154 => ?_) (fun _ z => z)⟩
    have eF151 := g153.s
    have gF151 := g141.trans (g153.weak (by simp))
    replace r_found := r_found.up g153.f
    replace r_worths := r_worths.up g153.f
    replace r4 := r4.up g153.f
    replace s8 := g153.f _ _ s8
    replace a9 := a9.up g153.f
    replace s12 := g153.f _ _ s12
    replace a13 := a13.up g153.f
    replace s24 := g153.f _ _ s24
    replace a25 := a25.up g153.f
    replace r149 := r149.up g153.f
    exact k.h _ _ _ gF151 r154
/-! ### polynomial_by -/
abbrev s_polynomial_by : Stmt := top 30
theorem sc_polynomial_by : FnScope ["places", "readings", "found"] ["places", "readings"] (defScope s_polynomial_by) := ⟨rfl, rfl, rfl, by decide +kernel, rfl, by decide +kernel, by decide +kernel⟩
def polynomial_by (places : (List (Int × Int))) (readings : (List (Int × Int))) : Mm (List (Int × Int)) := (checked_places (places)).bd fun b1 => (checked_readings (readings) ((b1.length : Int))).bd fun b12 => (polynomial_through (b1) (b12)).bd fun b19 => Mm.ok b19
def sp_polynomial_by (K : PySem.W.Frag) : Sp := fun vs H Q _ => ∃ (F : Hp) (v_places : V) (places : (List (Int × Int))) (v_readings : V) (readings : (List (Int × Int))), vs = [v_places, v_readings] ∧ Ex F H ∧ Dq K F v_places ((eV (e2 PyData.int PyData.int)) places) ∧ Dq K F v_readings ((eV (e2 PyData.int PyData.int)) readings) ∧ Post (polynomial_by places readings) (fun r => Ret [] F H (fun F' _ v => Dq K F' v ((eV (e2 PyData.int PyData.int)) r)) Q) (fun _ => False)
theorem ok_polynomial_by {P : Program} {w : World} {K : PySem.W.Frag} {mg : Str → Option Value} {base : Heap} {C f : Addr} {fd : FuncData} (B : Bi mg) (FF : FunD K "polynomial_by" "polynomial_by" (defArgs s_polynomial_by) (defBody s_polynomial_by) (defScope s_polynomial_by) [] [] f fd) (G_checked_places : Kn P w K mg base "checked_places" 3 ["places"] (sp_checked_places K)) (G_polynomial_through : Kn P w K mg base "polynomial_through" 6 ["found", "worths"] (sp_polynomial_through K)) (G_checked_readings : Kn P w K mg base "checked_readings" 2 ["readings", "count"] (sp_checked_readings K)) : FnOk P w K mg base CX0 7 f fd ["places", "readings"] (sp_polynomial_by K) := by
  refine FF.ok sc_polynomial_by (fun vs H Q E h => ?_) (fun cdv A outer s H vs Q E hr h => ?_)
  · obtain ⟨F, v_places, places, v_readings, readings, rfl, _⟩ := h; rfl
  · obtain ⟨F, v_places, places, v_readings, readings, rfl, e, r_places, r_readings, k⟩ := h
    unfold polynomial_by at k
    have g_ := Gm.refl (M := []) e
    refine ⟨_, PSs.nox (pss_cons (ps_set (i := 2) sc_polynomial_by.nd rfl (Or.inl rfl) (pe_kn G_checked_places (hr.mono (by decide)) (pa_cons (pv 0) (pa_nil)))) (pss_one (ps_ret (pe_q (pe_callTy call_tuple_of (by rfl) B.tuple (by decide +kernel) (pa_cons (pe_kn G_polynomial_through (hr.mono (by decide)) (pa_cons (pv 2) (pa_cons (pe_kn G_checked_readings (hr.mono (by decide)) (pa_cons (pv 1) (pa_cons (pe_callB call_lenM (by rfl) B.len (by decide +kernel) (pa_cons (pv 2) pa_nil)) (pa_nil)))) (pa_nil)))) pa_nil)))))), ?_⟩
    refine ⟨_, rfl, ?_⟩
    refine ⟨F, _, places, rfl, e, r_places, (post_bd k).mono (fun b1 k v6 F2 H3 g4 r5 => ?_) (fun _ z => z)⟩
    have eF2 := g4.s
    have gF2 := g_.trans (g4.weak (by simp))
    replace r_places := r_places.up g4.f
    replace r_readings := r_readings.up g4.f
    refine ⟨_, rfl, _, rfl, _, rfl, ?_⟩
    obtain ⟨p8, xs9, rfl, s10, a11⟩ := dp_lst r5
    refine ⟨_, _, _, rfl, .inl (sq_of (eF2 _ _ s10)), len_all a11, ?_⟩
    refine ⟨F2, _, readings, (b1.length : Int), rfl, eF2, r_readings, (post_bd k).mono (fun b12 k v17 F13 H14 g15 r16 => ?_) (fun _ z => z)⟩
    have eF13 := g15.s
    have gF13 := gF2.trans (g15.weak (by simp))
    replace r_places := r_places.up g15.f
    replace r_readings := r_readings.up g15.f
    replace r5 := r5.up g15.f
    replace s10 := g15.f _ _ s10
    replace a11 := a11.up g15.f
    refine ⟨F13, _, b1, _, b12, rfl, eF13, r5, r16, (post_bd k).mono (fun b19 k v24 F20 H21 g22 r23 => ?_) (fun _ z => z)⟩
    have eF20 := g22.s
    have gF20 := gF13.trans (g22.weak (by simp))
    replace r_places := r_places.up g22.f
    replace r_readings := r_readings.up g22.f
    replace r5 := r5.up g22.f
    replace s10 := g22.f _ _ s10
    replace a11 := a11.up g22.f
    replace r16 := r16.up g22.f
    obtain ⟨p26, xs27, rfl, s28, a29⟩ := dp_lst r23
    refine to_VL (K := K) (M := []) eF20 s28 a29 (en := (e2 PyData.int PyData.int)) (l := b19) fun v34 F30 H31 g32 r33 => ?_
    have eF30 := g32.s
    have gF30 := gF20.trans (g32.weak (by simp))
    replace r_places := r_places.up g32.f
    replace r_readings := r_readings.up g32.f
    replace r5 := r5.up g32.f
    replace s10 := g32.f _ _ s10
    replace a11 := a11.up g32.f
    replace r16 := r16.up g32.f
    replace r23 := r23.up g32.f
    replace s28 := g32.f _ _ s28
    replace a29 := a29.up g32.f
    exact k.h _ _ _ gF30 r33
/-! ### without -/
abbrev s_without : Stmt := top 31
theorem sc_without : FnScope ["listed", "index"] ["listed", "index"] (defScope s_without) := ⟨rfl, rfl, rfl, by decide +kernel, rfl, by decide +kernel, by decide +kernel⟩
def without (listed : (List (Int × Int))) (index : Int) : Mm (List (Int × Int)) := (guardM ((cutL listed none (some index)).length + (cutL listed (some (index + (1 : Int))) none).length ≤ 100000)).bd fun _ => Mm.ok ((cutL listed none (some index)) ++ (cutL listed (some (index + (1 : Int))) none))
def sp_without (K : PySem.W.Frag) : Sp := fun vs H Q _ => ∃ (F : Hp) (v_listed : V) (listed : (List (Int × Int))) (index : Int), vs = [v_listed, (V.int index)] ∧ Ex F H ∧ Dq K F v_listed ((eL (e2 PyData.int PyData.int)) listed) ∧ Post (without listed index) (fun r => Ret [] F H (fun F' _ v => Dq K F' v ((eL (e2 PyData.int PyData.int)) r)) Q) (fun _ => False)
theorem ok_without {P : Program} {w : World} {K : PySem.W.Frag} {mg : Str → Option Value} {base : Heap} {C f : Addr} {fd : FuncData} (B : Bi mg) (FF : FunD K "without" "without" (defArgs s_without) (defBody s_without) (defScope s_without) [] [] f fd) : FnOk P w K mg base CX0 1 f fd ["listed", "index"] (sp_without K) := by
  refine FF.ok sc_without (fun vs H Q E h => ?_) (fun cdv A outer s H vs Q E hr h => ?_)
  · obtain ⟨F, v_listed, listed, index, rfl, _⟩ := h; rfl
  · obtain ⟨F, v_listed, listed, index, rfl, e, r_listed, k⟩ := h
    unfold without at k
    have g_ := Gm.refl (M := []) e
    refine ⟨_, PSs.nox (pss_one (ps_ret (pe_q (pe_op op_cat (pe_q (pe_slice sl_list (pv 0) po_none (po_some (pv 1)))) (pe_q (pe_slice sl_list (pv 0) (po_some (pe_op op_add (pv 1) (pe_int))) po_none)))))), ?_⟩
    refine ⟨_, rfl, _, rfl, _, rfl, ?_⟩
    obtain ⟨p1, xs2, rfl, s3, a4⟩ := dp_lst r_listed
    refine cut_lst (K := K) (M := []) e s3 a4 fun v9 F5 H6 g7 r8 => ?_
    have eF5 := g7.s
    have gF5 := g_.trans (g7.weak (by simp))
    replace r_listed := r_listed.up g7.f
    replace s3 := g7.f _ _ s3
    replace a4 := a4.up g7.f
    refine ⟨_, rfl, _, rfl, _, _, rfl, rfl, _, rfl, ?_⟩
    refine cut_lst (K := K) (M := []) eF5 s3 a4 fun v14 F10 H11 g12 r13 => ?_
    have eF10 := g12.s
    have gF10 := gF5.trans (g12.weak (by simp))
    replace r_listed := r_listed.up g12.f
    replace s3 := g12.f _ _ s3
    replace a4 := a4.up g12.f
    replace r8 := r8.up g12.f
    obtain ⟨p15, xs16, rfl, s17, a18⟩ := dp_lst r8
    obtain ⟨p19, xs20, rfl, s21, a22⟩ := dp_lst r13
    obtain ⟨h24, k⟩ := post_guard k
    refine ⟨_, _, _, _, rfl, rfl, eF10 _ _ s17, eF10 _ _ s21, cat_len a18 a22 h24, new_lstC (K := K) (M := []) (en := (e2 PyData.int PyData.int)) (l := (cutL listed none (some index))) (l' := (cutL listed (some (index + (1 : Int))) none)) eF10 a18 a22 fun v29 F25 H26 g27 r28 => ?_⟩
    have eF25 := g27.s
    have gF25 := gF10.trans (g27.weak (by simp))
    replace r_listed := r_listed.up g27.f
    replace s3 := g27.f _ _ s3
    replace a4 := a4.up g27.f
    replace r8 := r8.up g27.f
    replace r13 := r13.up g27.f
    replace s17 := g27.f _ _ s17
    replace a18 := a18.up g27.f
    replace s21 := g27.f _ _ s21
    replace a22 := a22.up g27.f
    exact k.h _ _ _ gF25 r28
/-! ### fits -/
abbrev s_fits : Stmt := top 32
theorem sc_fits : FnScope ["found", "worths", "degree"] ["found", "worths", "degree"] (defScope s_fits) := ⟨rfl, rfl, rfl, by decide +kernel, rfl, by decide +kernel, by decide +kernel⟩
def fits (found : (List (Int × Int))) (worths : (List (Int × Int))) (degree : Int) : Mm Bool := (polynomial_through (found) (worths)).bd fun b1 => Mm.ok (decide ((b1.length : Int) ≤ (degree + (1 : Int))))
def sp_fits (K : PySem.W.Frag) : Sp := fun vs H Q _ => ∃ (F : Hp) (v_found : V) (found : (List (Int × Int))) (v_worths : V) (worths : (List (Int × Int))) (degree : Int), vs = [v_found, v_worths, (V.int degree)] ∧ Ex F H ∧ Dq K F v_found ((eL (e2 PyData.int PyData.int)) found) ∧ Dq K F v_worths ((eL (e2 PyData.int PyData.int)) worths) ∧ Post (fits found worths degree) (fun r => Ret [] F H (fun F' _ v => v = V.bl r) Q) (fun _ => False)
theorem ok_fits {P : Program} {w : World} {K : PySem.W.Frag} {mg : Str → Option Value} {base : Heap} {C f : Addr} {fd : FuncData} (B : Bi mg) (FF : FunD K "fits" "fits" (defArgs s_fits) (defBody s_fits) (defScope s_fits) [] [] f fd) (G_polynomial_through : Kn P w K mg base "polynomial_through" 6 ["found", "worths"] (sp_polynomial_through K)) : FnOk P w K mg base CX0 7 f fd ["found", "worths", "degree"] (sp_fits K) := by
  refine FF.ok sc_fits (fun vs H Q E h => ?_) (fun cdv A outer s H vs Q E hr h => ?_)
  · obtain ⟨F, v_found, found, v_worths, worths, degree, rfl, _⟩ := h; rfl
  · obtain ⟨F, v_found, found, v_worths, worths, degree, rfl, e, r_found, r_worths, k⟩ := h
    unfold fits at k
    have g_ := Gm.refl (M := []) e
    refine ⟨_, PSs.nox (pss_one (ps_ret (pe_cmpR op_le (pe_callB call_lenM (by rfl) B.len (by decide +kernel) (pa_cons (pe_kn G_polynomial_through (hr.mono (by decide)) (pa_cons (pv 0) (pa_cons (pv 1) (pa_nil)))) pa_nil)) (pe_op op_add (pv 2) (pe_int)) (nomark _)))), ?_⟩
    refine ⟨_, rfl, _, rfl, ?_⟩
    refine ⟨F, _, found, _, worths, rfl, e, r_found, r_worths, (post_bd k).mono (fun b1 k v6 F2 H3 g4 r5 => ?_) (fun _ z => z)⟩
    have eF2 := g4.s
    have gF2 := g_.trans (g4.weak (by simp))
    replace r_found := r_found.up g4.f
    replace r_worths := r_worths.up g4.f
    obtain ⟨p8, xs9, rfl, s10, a11⟩ := dp_lst r5
    refine ⟨_, _, _, rfl, .inl (sq_of (eF2 _ _ s10)), len_all a11, _, rfl, _, _, rfl, rfl, _, _, rfl, rfl, ?_⟩
    exact k.h _ _ _ gF2 rfl
/-! ### false_alone -/
abbrev s_false_alone : Stmt := top 33
theorem sc_false_alone : FnScope ["found", "worths", "degree", "index"] ["found", "worths", "degree"] (defScope s_false_alone) := ⟨rfl, rfl, rfl, by decide +kernel, rfl, by decide +kernel, by decide +kernel⟩
def false_alone (found : (List (Int × Int))) (worths : (List (Int × Int))) (degree : Int) : Mm (List Int) := (rangeM (found.length : Int)).bd fun l6 => (guardM ((rangeL 0 (found.length : Int).toNat).length ≤ 50000)).bd fun _ => (filMm (fun (x9 : Int) => (without (found) (x9)).bd fun b28 => (without (worths) (x9)).bd fun b35 => (fits (b28) (b35) (degree)).bd fun b42 => cond b42 (Mm.ok (some x9)) (Mm.ok none)) (rangeL 0 (found.length : Int).toNat)).bd fun b8 => Mm.ok b8
def sp_false_alone (K : PySem.W.Frag) : Sp := fun vs H Q _ => ∃ (F : Hp) (v_found : V) (found : (List (Int × Int))) (v_worths : V) (worths : (List (Int × Int))) (degree : Int), vs = [v_found, v_worths, (V.int degree)] ∧ Ex F H ∧ Dq K F v_found ((eL (e2 PyData.int PyData.int)) found) ∧ Dq K F v_worths ((eL (e2 PyData.int PyData.int)) worths) ∧ Post (false_alone found worths degree) (fun r => Ret [] F H (fun F' _ v => Dq K F' v ((eL PyData.int) r)) Q) (fun _ => False)
theorem ok_false_alone {P : Program} {w : World} {K : PySem.W.Frag} {mg : Str → Option Value} {base : Heap} {C f : Addr} {fd : FuncData} (B : Bi mg) (FF : FunD K "false_alone" "false_alone" (defArgs s_false_alone) (defBody s_false_alone) (defScope s_false_alone) [] [] f fd) (G_fits : Kn P w K mg base "fits" 7 ["found", "worths", "degree"] (sp_fits K)) (G_without : Kn P w K mg base "without" 1 ["listed", "index"] (sp_without K)) : FnOk P w K mg base CX0 8 f fd ["found", "worths", "degree"] (sp_false_alone K) := by
  refine FF.ok sc_false_alone (fun vs H Q E h => ?_) (fun cdv A outer s H vs Q E hr h => ?_)
  · obtain ⟨F, v_found, found, v_worths, worths, degree, rfl, _⟩ := h; rfl
  · obtain ⟨F, v_found, found, v_worths, worths, degree, rfl, e, r_found, r_worths, k⟩ := h
    unfold false_alone at k
    have g_ := Gm.refl (M := []) e
    refine ⟨_, PSs.nox (pss_one (ps_ret (pe_q (pe_lc (own := [("index", 3)]) (g := gName 3) rfl sc_false_alone.nd (pi_range1 rfl B.range (pa_cons (pe_callB call_lenM (by rfl) B.len (by decide +kernel) (pa_cons (pv 0) pa_nil)) (pa_nil))) (blkOk_by (N := ["found", "worths", "degree", "index"]) (sc := defScope s_false_alone) (by decide +kernel)) (fun _ _ _ _ _ => pg_name (i := 3) sc_false_alone.nd rfl (Or.inl rfl)) (fun _ _ _ _ _ => pts_one (pt_val (pe_kn G_fits (hr.mono (by decide)) (pa_cons (pe_kn G_without (hr.mono (by decide)) (pa_cons (pv 0) (pa_cons (pv 3) (pa_nil)))) (pa_cons (pe_kn G_without (hr.mono (by decide)) (pa_cons (pv 1) (pa_cons (pv 3) (pa_nil)))) (pa_cons (pv 2) (pa_nil))))))) (fun _ _ _ _ _ => pv 3))))), ?_⟩
    refine ⟨_, rfl, ?_⟩
    obtain ⟨p1, xs2, rfl, s3, a4⟩ := dp_lst r_found
    refine ⟨_, _, _, rfl, .inl (sq_of (e _ _ s3)), len_all a4, ?_⟩
    obtain ⟨h5, k⟩ := post_range k
    refine ⟨_, rfl, h5.1, h5.2, ?_⟩
    obtain ⟨h26, k⟩ := post_guard k
    refine lc_fil (K := K) (M := []) wlk_range PyData.int k e h26 (fun _ _ => by simp) (fun x9 v24 F17 H18 F19 H20 g21 g22 r23 Q' k7 => ?_) (fun _ z => z) (fun b8 v10 F11 H12 g13 r14 k => ?_) gm_name
    · have g27 := Gm.refl (M := []) g21.s
      replace r_found := r_found.up g21.f
      replace r_worths := r_worths.up g21.f
      replace s3 := g21.f _ _ s3
      replace a4 := a4.up g21.f
      replace r_found := r_found.up g22.f
      replace r_worths := r_worths.up g22.f
      replace s3 := g22.f _ _ s3
      replace a4 := a4.up g22.f
      have eF19 := g22.s
      have gF19 := g27.trans (g22.weak (by simp))
      subst r23
      refine ⟨rfl, _, rfl, _, rfl, ?_⟩
      refine ⟨F19, _, found, x9, rfl, eF19, r_found, (post_bd k7).mono (fun b28 k7 v33 F29 H30 g31 r32 => ?_) (fun _ z => z)⟩
      have eF29 := g31.s
      have gF29 := gF19.trans (g31.weak (by simp))
      replace r_found := r_found.up g31.f
      replace r_worths := r_worths.up g31.f
      replace s3 := g31.f _ _ s3
      replace a4 := a4.up g31.f
      refine ⟨_, rfl, _, rfl, ?_⟩
      refine ⟨F29, _, worths, x9, rfl, eF29, r_worths, (post_bd k7).mono (fun b35 k7 v40 F36 H37 g38 r39 => ?_) (fun _ z => z)⟩
      have eF36 := g38.s
      have gF36 := gF29.trans (g38.weak (by simp))
      replace r_found := r_found.up g38.f
      replace r_worths := r_worths.up g38.f
      replace s3 := g38.f _ _ s3
      replace a4 := a4.up g38.f
      replace r32 := r32.up g38.f
      refine ⟨_, rfl, ?_⟩
      refine ⟨F36, _, b28, _, b35, degree, rfl, eF36, r32, r39, (post_bd k7).mono (fun b42 k7 v47 F43 H44 g45 r46 => ?_) (fun _ z => z)⟩
      have eF43 := g45.s
      have gF43 := gF36.trans (g45.weak (by simp))
      replace r_found := r_found.up g45.f
      replace r_worths := r_worths.up g45.f
      replace s3 := g45.f _ _ s3
      replace a4 := a4.up g45.f
      replace r32 := r32.up g45.f
      replace r39 := r39.up g45.f
      subst r46
      refine ⟨_, rfl, ?_⟩
      refine cs k7 (fun _ k7 => ?_) (fun _ k7 => ?_)
      · refine ⟨_, rfl, ?_⟩
        exact k7.h _ _ _ gF43 ⟨_, rfl, (Dq.int x9)⟩
      · exact k7.h _ _ _ gF43 rfl
    have eF11 := g13.s
    have gF11 := g_.trans (g13.weak (by simp))
    replace r_found := r_found.up g13.f
    replace r_worths := r_worths.up g13.f
    replace s3 := g13.f _ _ s3
    replace a4 := a4.up g13.f
    exact k.h _ _ _ gF11 r14
/-! ### false_ones -/
abbrev s_false_ones : Stmt := top 34
theorem sc_false_ones : FnScope ["places", "readings", "degree", "found", "worths"] ["places", "readings", "degree"] (defScope s_false_ones) := ⟨rfl, rfl, rfl, by decide +kernel, rfl, by decide +kernel, by decide +kernel⟩
def false_ones (places : (List (Int × Int))) (readings : (List (Int × Int))) (degree : Int) : Mm (List Int) := (checked_places (places)).bd fun b1 => (checked_readings (readings) ((b1.length : Int))).bd fun b12 => (check_within (degree) ((0 : Int)) ((4 : Int))).bd fun b19 => (false_alone (b1) (b12) (degree)).bd fun b26 => Mm.ok b26
def sp_false_ones (K : PySem.W.Frag) : Sp := fun vs H Q _ => ∃ (F : Hp) (v_places : V) (places : (List (Int × Int))) (v_readings : V) (readings : (List (Int × Int))) (degree : Int), vs = [v_places, v_readings, (V.int degree)] ∧ Ex F H ∧ Dq K F v_places ((eV (e2 PyData.int PyData.int)) places) ∧ Dq K F v_readings ((eV (e2 PyData.int PyData.int)) readings) ∧ Post (false_ones places readings degree) (fun r => Ret [] F H (fun F' _ v => Dq K F' v ((eV PyData.int) r)) Q) (fun _ => False)
theorem ok_false_ones {P : Program} {w : World} {K : PySem.W.Frag} {mg : Str → Option Value} {base : Heap} {C f : Addr} {fd : FuncData} (B : Bi mg) (FF : FunD K "false_ones" "false_ones" (defArgs s_false_ones) (defBody s_false_ones) (defScope s_false_ones) [] [] f fd) (G_checked_places : Kn P w K mg base "checked_places" 3 ["places"] (sp_checked_places K)) (G_checked_readings : Kn P w K mg base "checked_readings" 2 ["readings", "count"] (sp_checked_readings K)) (G_check_within : Kn P w K mg base "check_within" 2 ["number", "low", "high"] (sp_check_within K)) (G_false_alone : Kn P w K mg base "false_alone" 8 ["found", "worths", "degree"] (sp_false_alone K)) (c_MOST_READ_DEGREE : ∃ t, mg "MOST_READ_DEGREE" = some (.int 4 t)) : FnOk P w K mg base CX0 9 f fd ["places", "readings", "degree"] (sp_false_ones K) := by
  refine FF.ok sc_false_ones (fun vs H Q E h => ?_) (fun cdv A outer s H vs Q E hr h => ?_)
  · obtain ⟨F, v_places, places, v_readings, readings, degree, rfl, _⟩ := h; rfl
  · obtain ⟨F, v_places, places, v_readings, readings, degree, rfl, e, r_places, r_readings, k⟩ := h
    unfold false_ones at k
    have g_ := Gm.refl (M := []) e
    refine ⟨_, PSs.nox (pss_cons (ps_set (i := 3) sc_false_ones.nd rfl (Or.inl rfl) (pe_kn G_checked_places (hr.mono (by decide)) (pa_cons (pv 0) (pa_nil)))) (pss_cons (ps_set (i := 4) sc_false_ones.nd rfl (Or.inl rfl) (pe_kn G_checked_readings (hr.mono (by decide)) (pa_cons (pv 1) (pa_cons (pe_callB call_lenM (by rfl) B.len (by decide +kernel) (pa_cons (pv 3) pa_nil)) (pa_nil))))) (pss_cons (ps_expr (pe_kn G_check_within (hr.mono (by decide)) (pa_cons (pv 2) (pa_cons (pe_int) (pa_cons (pe_gint c_MOST_READ_DEGREE) (pa_nil)))))) (pss_one (ps_ret (pe_q (pe_callTy call_tuple_of (by rfl) B.tuple (by decide +kernel) (pa_cons (pe_kn G_false_alone (hr.mono (by decide)) (pa_cons (pv 3) (pa_cons (pv 4) (pa_cons (pv 2) (pa_nil))))) pa_nil)))))))), ?_⟩
    refine ⟨_, rfl, ?_⟩
    refine ⟨F, _, places, rfl, e, r_places, (post_bd k).mono (fun b1 k v6 F2 H3 g4 r5 => ?_) (fun _ z => z)⟩
    have eF2 := g4.s
    have gF2 := g_.trans (g4.weak (by simp))
    replace r_places := r_places.up g4.f
    replace r_readings := r_readings.up g4.f
    refine ⟨_, rfl, _, rfl, ?_⟩
    obtain ⟨p8, xs9, rfl, s10, a11⟩ := dp_lst r5
    refine ⟨_, _, _, rfl, .inl (sq_of (eF2 _ _ s10)), len_all a11, ?_⟩
    refine ⟨F2, _, readings, (b1.length : Int), rfl, eF2, r_readings, (post_bd k).mono (fun b12 k v17 F13 H14 g15 r16 => ?_) (fun _ z => z)⟩
    have eF13 := g15.s
    have gF13 := gF2.trans (g15.weak (by simp))
    replace r_places := r_places.up g15.f
    replace r_readings := r_readings.up g15.f
    replace r5 := r5.up g15.f
    replace s10 := g15.f _ _ s10
    replace a11 := a11.up g15.f
    refine ⟨_, rfl, ?_⟩
    refine ⟨F13, degree, (0 : Int), (4 : Int), rfl, eF13, (post_bd k).mono (fun b19 k v24 F20 H21 g22 r23 => ?_) (fun _ z => z)⟩
    have eF20 := g22.s
    have gF20 := gF13.trans (g22.weak (by simp))
    replace r_places := r_places.up g22.f
    replace r_readings := r_readings.up g22.f
    replace r5 := r5.up g22.f
    replace s10 := g22.f _ _ s10
    replace a11 := a11.up g22.f
    replace r16 := r16.up g22.f
    subst r23
    refine ⟨_, rfl, _, rfl, _, rfl, ?_⟩
    refine ⟨F20, _, b1, _, b12, degree, rfl, eF20, r5, r16, (post_bd k).mono (fun b26 k v31 F27 H28 g29 r30 => ?_) (fun _ z => z)⟩
    have eF27 := g29.s
    have gF27 := gF20.trans (g29.weak (by simp))
    replace r_places := r_places.up g29.f
    replace r_readings := r_readings.up g29.f
    replace r5 := r5.up g29.f
    replace s10 := g29.f _ _ s10
    replace a11 := a11.up g29.f
    replace r16 := r16.up g29.f
    obtain ⟨p33, xs34, rfl, s35, a36⟩ := dp_lst r30
    refine to_VL (K := K) (M := []) eF27 s35 a36 (en := PyData.int) (l := b26) fun v41 F37 H38 g39 r40 => ?_
    have eF37 := g39.s
    have gF37 := gF27.trans (g39.weak (by simp))
    replace r_places := r_places.up g39.f
    replace r_readings := r_readings.up g39.f
    replace r5 := r5.up g39.f
    replace s10 := g39.f _ _ s10
    replace a11 := a11.up g39.f
    replace r16 := r16.up g39.f
    replace r30 := r30.up g39.f
    replace s35 := g39.f _ _ s35
    replace a36 := a36.up g39.f
    exact k.h _ _ _ gF37 r40
/-! ### repaired -/
abbrev s_repaired : Stmt := top 35
theorem sc_repaired : FnScope ["places", "readings", "degree", "found", "worths", "alone", "index", "polynomial"] ["places", "readings", "degree"] (defScope s_repaired) := ⟨rfl, rfl, rfl, by decide +kernel, rfl, by decide +kernel, by decide +kernel⟩
def repaired (places : (List (Int × Int))) (readings : (List (Int × Int))) (degree : Int) : Mm (Option (List (Int × Int))) := (checked_places (places)).bd fun b1 => (checked_readings (readings) ((b1.length : Int))).bd fun b12 => (check_within (degree) ((0 : Int)) ((4 : Int))).bd fun b19 => (fits (b1) (b12) (degree)).bd fun b26 => cond b26 (Mm.ok (some b12)) ((false_alone (b1) (b12) (degree)).bd fun b42 => cond (!(decide ((b42.length : Int) = (1 : Int)))) (Mm.ok none) ((getM b42 (0 : Int)).bd fun i53 => (without (b1) (i53)).bd fun b58 => (without (b12) (i53)).bd fun b65 => (polynomial_through (b58) (b65)).bd fun b72 => (getM b1 i53).bd fun i92 => (worth (b72) (i92)).bd fun b97 => (guardM (((cutL b12 none (some i53)) ++ (b97 :: ((cutL b12 (some (i53 + (1 : Int))) none) ++ []))).length ≤ 100000)).bd fun _ => Mm.ok (some ((cutL b12 none (some i53)) ++ (b97 :: ((cutL b12 (some (i53 + (1 : Int))) none) ++ []))))))
def sp_repaired (K : PySem.W.Frag) : Sp := fun vs H Q _ => ∃ (F : Hp) (v_places : V) (places : (List (Int × Int))) (v_readings : V) (readings : (List (Int × Int))) (degree : Int), vs = [v_places, v_readings, (V.int degree)] ∧ Ex F H ∧ Dq K F v_places ((eV (e2 PyData.int PyData.int)) places) ∧ Dq K F v_readings ((eV (e2 PyData.int PyData.int)) readings) ∧ Post (repaired places readings degree) (fun r => Ret [] F H (fun F' _ v => Dq K F' v ((eO (eV (e2 PyData.int PyData.int))) r)) Q) (fun _ => False)
theorem ok_repaired {P : Program} {w : World} {K : PySem.W.Frag} {mg : Str → Option Value} {base : Heap} {C f : Addr} {fd : FuncData} (B : Bi mg) (FF : FunD K "repaired" "repaired" (defArgs s_repaired) (defBody s_repaired) (defScope s_repaired) [] [] f fd) (G_checked_places : Kn P w K mg base "checked_places" 3 ["places"] (sp_checked_places K)) (G_checked_readings : Kn P w K mg base "checked_readings" 2 ["readings", "count"] (sp_checked_readings K)) (G_check_within : Kn P w K mg base "check_within" 2 ["number", "low", "high"] (sp_check_within K)) (G_fits : Kn P w K mg base "fits" 7 ["found", "worths", "degree"] (sp_fits K)) (G_false_alone : Kn P w K mg base "false_alone" 8 ["found", "worths", "degree"] (sp_false_alone K)) (G_polynomial_through : Kn P w K mg base "polynomial_through" 6 ["found", "worths"] (sp_polynomial_through K)) (G_without : Kn P w K mg base "without" 1 ["listed", "index"] (sp_without K)) (G_worth : Kn P w K mg base "worth" 3 ["polynomial", "place"] (sp_worth K)) (c_MOST_READ_DEGREE : ∃ t, mg "MOST_READ_DEGREE" = some (.int 4 t)) : FnOk P w K mg base CX0 9 f fd ["places", "readings", "degree"] (sp_repaired K) := by
  refine FF.ok sc_repaired (fun vs H Q E h => ?_) (fun cdv A outer s H vs Q E hr h => ?_)
  · obtain ⟨F, v_places, places, v_readings, readings, degree, rfl, _⟩ := h; rfl
  · obtain ⟨F, v_places, places, v_readings, readings, degree, rfl, e, r_places, r_readings, k⟩ := h
    unfold repaired at k
    have g_ := Gm.refl (M := []) e
    refine ⟨_, PSs.nox (pss_cons (ps_set (i := 3) sc_repaired.nd rfl (Or.inl rfl) (pe_kn G_checked_places (hr.mono (by decide)) (pa_cons (pv 0) (pa_nil)))) (pss_cons (ps_set (i := 4) sc_repaired.nd rfl (Or.inl rfl) (pe_kn G_checked_readings (hr.mono (by decide)) (pa_cons (pv 1) (pa_cons (pe_callB call_lenM (by rfl) B.len (by decide +kernel) (pa_cons (pv 3) pa_nil)) (pa_nil))))) (pss_cons (ps_expr (pe_kn G_check_within (hr.mono (by decide)) (pa_cons (pv 2) (pa_cons (pe_int) (pa_cons (pe_gint c_MOST_READ_DEGREE) (pa_nil)))))) (pss_cons (ps_if (pt_val (pe_kn G_fits (hr.mono (by decide)) (pa_cons (pv 3) (pa_cons (pv 4) (pa_cons (pv 2) (pa_nil)))))) (pss_one (ps_ret (pe_q (pe_callTy call_tuple_of (by rfl) B.tuple (by decide +kernel) (pa_cons (pv 4) pa_nil))))) pss_nil) (pss_cons (ps_set (i := 5) sc_repaired.nd rfl (Or.inl rfl) (pe_kn G_false_alone (hr.mono (by decide)) (pa_cons (pv 3) (pa_cons (pv 4) (pa_cons (pv 2) (pa_nil)))))) (pss_cons (ps_if (pt_cmpR op_ne (pe_callB call_lenM (by rfl) B.len (by decide +kernel) (pa_cons (pv 5) pa_nil)) (pe_int) (nomark _)) (pss_one (ps_ret (pe_non))) pss_nil) (pss_cons (ps_set (i := 6) sc_repaired.nd rfl (Or.inl rfl) (pe_ix (r := rIxL K) ix_list (pv 5) (pe_int) (fun _ _ => rfl))) (pss_cons (ps_set (i := 7) sc_repaired.nd rfl (Or.inl rfl) (pe_kn G_polynomial_through (hr.mono (by decide)) (pa_cons (pe_kn G_without (hr.mono (by decide)) (pa_cons (pv 3) (pa_cons (pv 6) (pa_nil)))) (pa_cons (pe_kn G_without (hr.mono (by decide)) (pa_cons (pv 4) (pa_cons (pv 6) (pa_nil)))) (pa_nil))))) (pss_one (ps_ret (pe_q (pe_tup (pa_star (pe_q (pe_slice sl_list (pv 4) po_none (po_some (pv 6)))) (pa_cons (pe_kn G_worth (hr.mono (by decide)) (pa_cons (pv 7) (pa_cons (pe_ix (r := rIxL K) ix_list (pv 3) (pv 6) (fun _ _ => rfl)) (pa_nil)))) (pa_star (pe_q (pe_slice sl_list (pv 4) (po_some (pe_op op_add (pv 6) (pe_int))) po_none)) (pa_nil)))))))))))))))), ?_⟩
    refine ⟨_, rfl, ?_⟩
    refine ⟨F, _, places, rfl, e, r_places, (post_bd k).mono (fun b1 k v6 F2 H3 g4 r5 => ?_) (fun _ z => z)⟩
    have eF2 := g4.s
    have gF2 := g_.trans (g4.weak (by simp))
    replace r_places := r_places.up g4.f
    replace r_readings := r_readings.up g4.f
    refine ⟨_, rfl, _, rfl, ?_⟩
    obtain ⟨p8, xs9, rfl, s10, a11⟩ := dp_lst r5
    refine ⟨_, _, _, rfl, .inl (sq_of (eF2 _ _ s10)), len_all a11, ?_⟩
    refine ⟨F2, _, readings, (b1.length : Int), rfl, eF2, r_readings, (post_bd k).mono (fun b12 k v17 F13 H14 g15 r16 => ?_) (fun _ z => z)⟩
    have eF13 := g15.s
    have gF13 := gF2.trans (g15.weak (by simp))
    replace r_places := r_places.up g15.f
    replace r_readings := r_readings.up g15.f
    replace r5 := r5.up g15.f
    replace s10 := g15.f _ _ s10
    replace a11 := a11.up g15.f
    refine ⟨_, rfl, ?_⟩
    refine ⟨F13, degree, (0 : Int), (4 : Int), rfl, eF13, (post_bd k).mono (fun b19 k v24 F20 H21 g22 r23 => ?_) (fun _ z => z)⟩
    have eF20 := g22.s
    have gF20 := gF13.trans (g22.weak (by simp))
    replace r_places := r_places.up g22.f
    replace r_readings := r_readings.up g22.f
    replace r5 := r5.up g22.f
    replace s10 := g22.f _ _ s10
    replace a11 := a11.up g22.f
    replace r16 := r16.up g22.f
    subst r23
    refine ⟨_, rfl, _, rfl, _, rfl, ?_⟩
    refine ⟨F20, _, b1, _, b12, degree, rfl, eF20, r5, r16, (post_bd k).mono (fun b26 k v31 F27 H28 g29 r30 => ?_) (fun _ z => z)⟩
    have eF27 := g29.s
    have gF27 := gF20.trans (g29.weak (by simp))
    replace r_places := r_places.up g29.f
    replace r_readings := r_readings.up g29.f
    replace r5 := r5.up g29.f
    replace s10 := g29.f _ _ s10
    replace a11 := a11.up g29.f
    replace r16 := r16.up g29.f
    subst r30
    refine ⟨_, rfl, ?_⟩
    refine cs k (fun _ k => ?_) (fun _ k => ?_)
    · refine ⟨_, rfl, ?_⟩
      obtain ⟨p33, xs34, rfl, s35, a36⟩ := dp_lst r16
      refine to_VL (K := K) (M := []) eF27 s35 a36 (en := (e2 PyData.int PyData.int)) (l := b12) fun v41 F37 H38 g39 r40 => ?_
      have eF37 := g39.s
      have gF37 := gF27.trans (g39.weak (by simp))
      replace r_places := r_places.up g39.f
      replace r_readings := r_readings.up g39.f
      replace r5 := r5.up g39.f
      replace s10 := g39.f _ _ s10
      replace a11 := a11.up g39.f
      replace r16 := r16.up g39.f
      replace s35 := g39.f _ _ s35
      replace a36 := a36.up g39.f
      exact k.h _ _ _ gF37 r40
    · refine ⟨_, rfl, _, rfl, _, rfl, ?_⟩
      refine ⟨F27, _, b1, _, b12, degree, rfl, eF27, r5, r16, (post_bd k).mono (fun b42 k v47 F43 H44 g45 r46 => ?_) (fun _ z => z)⟩
      have eF43 := g45.s
      have gF43 := gF27.trans (g45.weak (by simp))
      replace r_places := r_places.up g45.f
      replace r_readings := r_readings.up g45.f
      replace r5 := r5.up g45.f
      replace s10 := g45.f _ _ s10
      replace a11 := a11.up g45.f
      replace r16 := r16.up g45.f
      refine ⟨_, rfl, ?_⟩
      obtain ⟨p49, xs50, rfl, s51, a52⟩ := dp_lst r46
      refine ⟨_, _, _, rfl, .inl (sq_of (eF43 _ _ s51)), len_all a52, rfl, ?_⟩
      rw [decV_int]
      refine ⟨_, rfl, ?_⟩
      refine cs k (fun _ k => ?_) (fun _ k => ?_)
      · exact k.h _ _ _ gF43 Dq.non
      · refine ⟨_, rfl, ?_⟩
        obtain ⟨i53, h54, k⟩ := post_get k
        obtain ⟨v55, h56, r57⟩ := dq_at a52 h54
        refine ⟨_, _, _, _, rfl, rfl, (sq_of (eF43 _ _ s51)), h56, ?_⟩
        obtain rfl := dp_int r57
        refine ⟨_, rfl, _, rfl, ?_⟩
        refine ⟨F43, _, b1, i53, rfl, eF43, r5, (post_bd k).mono (fun b58 k v63 F59 H60 g61 r62 => ?_) (fun _ z => z)⟩
        have eF59 := g61.s
        have gF59 := gF43.trans (g61.weak (by simp))
        replace r_places := r_places.up g61.f
        replace r_readings := r_readings.up g61.f
        replace r5 := r5.up g61.f
        replace s10 := g61.f _ _ s10
        replace a11 := a11.up g61.f
        replace r16 := r16.up g61.f
        replace r46 := r46.up g61.f
        replace s51 := g61.f _ _ s51
        replace a52 := a52.up g61.f
        refine ⟨_, rfl, _, rfl, ?_⟩
        refine ⟨F59, _, b12, i53, rfl, eF59, r16, (post_bd k).mono (fun b65 k v70 F66 H67 g68 r69 => ?_) (fun _ z => z)⟩
        have eF66 := g68.s
        have gF66 := gF59.trans (g68.weak (by simp))
        replace r_places := r_places.up g68.f
        replace r_readings := r_readings.up g68.f
        replace r5 := r5.up g68.f
        replace s10 := g68.f _ _ s10
        replace a11 := a11.up g68.f
        replace r16 := r16.up g68.f
        replace r46 := r46.up g68.f
        replace s51 := g68.f _ _ s51
        replace a52 := a52.up g68.f
        replace r62 := r62.up g68.f
        refine ⟨F66, _, b58, _, b65, rfl, eF66, r62, r69, (post_bd k).mono (fun b72 k v77 F73 H74 g75 r76 => ?_) (fun _ z => z)⟩
        have eF73 := g75.s
        have gF73 := gF66.trans (g75.weak (by simp))
        replace r_places := r_places.up g75.f
        replace r_readings := r_readings.up g75.f
        replace r5 := r5.up g75.f
        replace s10 := g75.f _ _ s10
        replace a11 := a11.up g75.f
        replace r16 := r16.up g75.f
        replace r46 := r46.up g75.f
        replace s51 := g75.f _ _ s51
        replace a52 := a52.up g75.f
        replace r62 := r62.up g75.f
        replace r69 := r69.up g75.f
        refine ⟨_, rfl, _, rfl, _, rfl, ?_⟩
        obtain ⟨p79, xs80, rfl, s81, a82⟩ := dp_lst r16
        refine cut_lst (K := K) (M := []) eF73 s81 a82 fun v87 F83 H84 g85 r86 => ?_
        have eF83 := g85.s
        have gF83 := gF73.trans (g85.weak (by simp))
        replace r_places := r_places.up g85.f
        replace r_readings := r_readings.up g85.f
        replace r5 := r5.up g85.f
        replace s10 := g85.f _ _ s10
        replace a11 := a11.up g85.f
        replace r16 := r16.up g85.f
        replace r46 := r46.up g85.f
        replace s51 := g85.f _ _ s51
        replace a52 := a52.up g85.f
        replace r62 := r62.up g85.f
        replace r69 := r69.up g85.f
        replace r76 := r76.up g85.f
        replace s81 := g85.f _ _ s81
        replace a82 := a82.up g85.f
        obtain ⟨p88, xs89, rfl, s90, a91⟩ := dp_lst r86
        refine ⟨_, _, rfl, .inr (sq_of (eF83 _ _ s90)), _, rfl, _, rfl, _, rfl, ?_⟩
        obtain ⟨i92, h93, k⟩ := post_get k
        obtain ⟨v94, h95, r96⟩ := dq_at a11 h93
        refine ⟨_, _, _, _, rfl, rfl, (sq_of (eF83 _ _ s10)), h95, ?_⟩
        refine ⟨F83, _, b72, _, i92, rfl, eF83, r76, r96, (post_bd k).mono (fun b97 k v102 F98 H99 g100 r101 => ?_) (fun _ z => z)⟩
        have eF98 := g100.s
        have gF98 := gF83.trans (g100.weak (by simp))
        replace r_places := r_places.up g100.f
        replace r_readings := r_readings.up g100.f
        replace r5 := r5.up g100.f
        replace s10 := g100.f _ _ s10
        replace a11 := a11.up g100.f
        replace r16 := r16.up g100.f
        replace r46 := r46.up g100.f
        replace s51 := g100.f _ _ s51
        replace a52 := a52.up g100.f
        replace r62 := r62.up g100.f
        replace r69 := r69.up g100.f
        replace r76 := r76.up g100.f
        replace s81 := g100.f _ _ s81
        replace a82 := a82.up g100.f
        replace r86 := r86.up g100.f
        replace s90 := g100.f _ _ s90
        replace a91 := a91.up g100.f
        replace r96 := r96.up g100.f
        refine ⟨_, rfl, _, rfl, _, _, rfl, rfl, _, rfl, ?_⟩
        refine cut_lst (K := K) (M := []) eF98 s81 a82 fun v108 F104 H105 g106 r107 => ?_
        have eF104 := g106.s
        have gF104 := gF98.trans (g106.weak (by simp))
        replace r_places := r_places.up g106.f
        replace r_readings := r_readings.up g106.f
        replace r5 := r5.up g106.f
        replace s10 := g106.f _ _ s10
        replace a11 := a11.up g106.f
        replace r16 := r16.up g106.f
        replace r46 := r46.up g106.f
        replace s51 := g106.f _ _ s51
        replace a52 := a52.up g106.f
        replace r62 := r62.up g106.f
        replace r69 := r69.up g106.f
        replace r76 := r76.up g106.f
        replace s81 := g106.f _ _ s81
        replace a82 := a82.up g106.f
        replace r86 := r86.up g106.f
        replace s90 := g106.f _ _ s90
        replace a91 := a91.up g106.f
        replace r96 := r96.up g106.f
        replace r101 := r101.up g106.f
        obtain ⟨p109, xs110, rfl, s111, a112⟩ := dp_lst r107
        refine ⟨_, _, rfl, .inr (sq_of (eF104 _ _ s111)), ?_⟩
        obtain ⟨h113, k⟩ := post_guard k
        have a114 : DqAll K F104 (xs89 ++ (v102 :: (xs110 ++ []))) (List.map (e2 PyData.int PyData.int) ((cutL b12 none (some i53)) ++ (b97 :: ((cutL b12 (some (i53 + (1 : Int))) none) ++ [])))) := by simpa only [List.map_append, List.map_cons, List.map_nil] using (DqAll.app a91 (DqAll.cons r101 (DqAll.app a112 DqAll.nil)))
        show _ ∧ _
        refine new_tup (K := K) (M := []) eF104 a114 (by rw [DqAll.len a114, List.length_map]; exact h113) fun v119 F115 H116 g117 r118 => ?_
        have eF115 := g117.s
        have gF115 := gF104.trans (g117.weak (by simp))
        replace r_places := r_places.up g117.f
        replace r_readings := r_readings.up g117.f
        replace r5 := r5.up g117.f
        replace s10 := g117.f _ _ s10
        replace a11 := a11.up g117.f
        replace r16 := r16.up g117.f
        replace r46 := r46.up g117.f
        replace s51 := g117.f _ _ s51
        replace a52 := a52.up g117.f
        replace r62 := r62.up g117.f
        replace r69 := r69.up g117.f
        replace r76 := r76.up g117.f
        replace s81 := g117.f _ _ s81
        replace a82 := a82.up g117.f
        replace r86 := r86.up g117.f
        replace s90 := g117.f _ _ s90
        replace a91 := a91.up g117.f
        replace r96 := r96.up g117.f
        replace r101 := r101.up g117.f
        replace r107 := r107.up g117.f
        replace s111 := g117.f _ _ s111
        replace a112 := a112.up g117.f
        replace r118 : Dq K F115 v119 ((eV (e2 PyData.int PyData.int)) ((cutL b12 none (some i53)) ++ (b97 :: ((cutL b12 (some (i53 + (1 : Int))) none) ++ [])))) := r118
        exact k.h _ _ _ gF115 r118
/-! ### _law_taken -/
abbrev s_law_taken : Stmt := top 37
theorem sc_law_taken : FnScope ["_law_row", "_law_many", "_law_found", "_law_cell"] ["_law_row", "_law_many"] (defScope s_law_taken) := ⟨rfl, rfl, rfl, by decide +kernel, rfl, by decide +kernel, by decide +kernel⟩
theorem ok_law_taken {P : Program} {w : World} {K : PySem.W.Frag} {mg : Str → Option Value} {base : Heap} {f : Addr} {fd : FuncData} (B : Bi mg) (FF : FunD K "_law_taken" "_law_taken" (defArgs s_law_taken) (defBody s_law_taken) (defScope s_law_taken) [] [] f fd) : FnOk P w K mg base CX0 1 f fd ["_law_row", "_law_many"] (spTaken takenA K) := by
  refine FF.ok sc_law_taken (fun vs H Q E h => ?_) (fun cdv A outer s H vs Q E hr h => ?_)
  · obtain ⟨F, sc, ra, scr, st, many, rfl, _⟩ := h; rfl
  · obtain ⟨F, sc, ra, scr, st, many, rfl, e, ⟨hL, hF, hS⟩, k⟩ := h
    obtain ⟨pos, seed, left⟩ := st
    unfold takenA at k
    split at k
    case isFalse => exact k.elim
    rename_i hc
    obtain ⟨h1, h2, h3, h4, h5, h6⟩ := hc
    simp only at h3 h4 h5 h6 k hL
    have cd : ∀ i : Int, CDv i many := fun i => cdv_small ⟨by omega, by omega⟩
    refine ⟨_, PSs.nox (pss_cons (ps_if (pt_cmpR op_gt (pe_ix ix_list (pv 0) pe_int (fun _ _ => rfl)) pe_int (nomark _))
        (pss_cons (ps_set (i := 2) sc_law_taken.nd rfl (.inl rfl) (pe_op op_modM (pe_callTy call_intM (by rfl) B.int (by decide +kernel) (pa_cons (pe_ix ix_list (pv 0) pe_int (fun _ _ => rfl)) pa_nil)) (pv 1)))
          (pss_cons (ps_asg (pe_op op_divM (pe_ix ix_list (pv 0) pe_int (fun _ _ => rfl)) (pv 1)) (pg_sub (pv 0) pe_int set_list)) (pss_one (ps_ret (pv 2))))) pss_nil)
      (pss_cons (ps_asg (pe_op op_add (pe_ix ix_list (pv 0) pe_int (fun _ _ => rfl)) pe_int) (pg_sub (pv 0) pe_int set_list))
      (pss_cons (ps_if (pt_cmpR op_gt (pe_ix ix_list (pv 0) pe_int (fun _ _ => rfl)) (pe_callB call_lenM (by rfl) B.len (by decide +kernel) (pa_cons (pe_ix ix_list (pv 0) pe_int (fun _ _ => rfl)) pa_nil)) (nomark _))
        (pss_cons (ps_asg (pe_op op_modM (pe_callTy call_intM (by rfl) B.int (by decide +kernel) (pa_cons (pe_op op_add (pe_op op_mulM (pe_ix ix_list (pv 0) pe_int (fun _ _ => rfl)) pe_int) pe_int) pa_nil)) pe_int) (pg_sub (pv 0) pe_int set_list))
          (pss_one (ps_ret (pe_op op_modM (pe_callTy call_intM (by rfl) B.int (by decide +kernel) (pa_cons (pe_op op_divM (pe_ix ix_list (pv 0) pe_int (fun _ _ => rfl)) pe_int) pa_nil)) (pv 1))))) pss_nil)
      (pss_cons (ps_set (i := 3) sc_law_taken.nd rfl (.inl rfl) (pe_ix ix_list (pe_ix ix_list (pv 0) pe_int (fun _ _ => rfl)) (pe_op op_sub (pe_ix ix_list (pv 0) pe_int (fun _ _ => rfl)) pe_int) (fun _ _ => rfl)))
      (pss_cons (ps_asg (pe_op op_modM (pe_callTy call_intM (by rfl) B.int (by decide +kernel) (pa_cons (pe_op op_add (pe_op op_add (pe_op op_mulM (pe_ix ix_list (pv 0) pe_int (fun _ _ => rfl)) pe_int) (pv 3)) pe_int) pa_nil)) pe_int) (pg_sub (pv 0) pe_int set_list))
      (pss_cons (ps_asg (pe_ifExp (pt_cmpR op_ge (pv 3) (pe_op op_pow pe_int pe_int) (nomark _)) (pe_op op_divM (pv 3) (pv 1)) pe_int) (pg_sub (pv 0) pe_int set_list))
      (pss_one (ps_ret (pe_op op_modM (pe_callTy call_intM (by rfl) B.int (by decide +kernel) (pa_cons (pv 3) pa_nil)) (pv 1)))))))))), ?_⟩
    refine ⟨_, rfl, _, _, _, _, rfl, rfl, sq_of hL, rfl, _, _, rfl, rfl, _, rfl, ?_⟩
    by_cases c1 : left > 0
    · rw [if_pos (show left > 0 from c1)] at k
      rw [if_pos (decide_eq_true c1)]
      refine ⟨_, rfl, _, _, _, _, rfl, rfl, sq_of hL, rfl, _, rfl, _, rfl, _, _, _, rfl, rfl, by omega, rfl, ?_⟩
      refine ⟨_, rfl, _, _, _, _, rfl, rfl, sq_of hL, rfl, _, rfl, _, _, _, rfl, rfl, cd _, rfl, _, rfl, _, _, _, _, rfl, rfl, hL, rfl, _, rfl, ?_⟩
      rw [fmod_pos h1, fdiv_pos h1]
      exact k.h _ F _ (Gm.put e hL hF) ⟨rfl, upd_same, hF, hS⟩
    · rw [if_neg (show ¬ left > 0 from c1)] at k
      rw [if_neg (by simpa using c1)]
      refine ⟨_, rfl, _, _, _, _, rfl, rfl, sq_of hL, rfl, _, _, rfl, rfl, _, rfl, _, _, _, _, rfl, rfl, hL, rfl, ?_⟩
      generalize hq : upd H ra (.lst ([V.ref sc, V.int pos, V.int seed, V.int left].set (Int.toNat 1) ((fun i j => V.int (i + j)) pos 1))) = H1
      have g1 : Gm [ra] F H F H1 := by rw [← hq]; exact Gm.put e hL hF
      have l1 : H1 ra = some (.lst [.ref sc, .int (pos + 1), .int seed, .int left]) := by rw [← hq]; exact upd_same
      clear hq
      refine ⟨_, rfl, _, _, _, _, rfl, rfl, sq_of l1, rfl, _, rfl, _, _, _, _, rfl, rfl, sq_of l1, rfl, _, _, _, rfl, .inl (ex_l g1.s hS), rfl, _, _, rfl, rfl, _, rfl, ?_⟩
      cases c2 : scr[pos.toNat]? with
      | none =>
        rw [c2] at k
        have hlen : pos + 1 > ((scr.map V.int).length : Int) := by
          have := List.getElem?_eq_none_iff.mp c2
          rw [List.length_map]; omega
        rw [if_pos (decide_eq_true hlen)]
        refine ⟨_, rfl, _, _, _, _, rfl, rfl, sq_of l1, rfl, _, _, _, rfl, rfl, cmul_small (by omega) (by decide), rfl, _, _, rfl, rfl, _, rfl, _, _, _, rfl, rfl, by decide, rfl, _, rfl, _, _, _, _, rfl, rfl, l1, rfl, ?_⟩
        have es : (seed * 48271 + 11).fmod 2147483647 = seedN seed 0 := by rw [fmod_pos (by decide)]; unfold seedN; rw [Int.add_zero]
        have g2 : Gm [ra] F H F (upd H1 ra (.lst [.ref sc, .int (pos + 1), .int (seedN seed 0), .int left])) := g1.trans (Gm.put g1.s l1 hF)
        have l2 : (upd H1 ra (.lst [.ref sc, .int (pos + 1), .int (seedN seed 0), .int left])) ra = some (.lst [.ref sc, .int (pos + 1), .int (seedN seed 0), .int left]) := upd_same
        rw [es]
        refine ⟨_, rfl, _, _, _, _, rfl, rfl, sq_of l2, rfl, _, _, _, rfl, rfl, cdv_small ⟨by decide, by decide⟩, rfl, _, rfl, _, rfl, _, _, _, rfl, rfl, by omega, rfl, ?_⟩
        rw [fmod_pos h1, fdiv_pos (by decide)]
        exact k.h _ F _ g2 ⟨rfl, l2, hF, hS⟩
      | some c =>
        rw [c2] at k
        obtain ⟨hp, ec⟩ := List.getElem?_eq_some_iff.mp c2
        have hlen : ¬ pos + 1 > ((scr.map V.int).length : Int) := by rw [List.length_map]; omega
        rw [if_neg (by simpa using hlen)]
        have hat : atI (scr.map V.int) (pos + 1 - 1) = some (.int c) := by
          unfold atI ixN
          rw [if_pos (by omega), if_pos (by rw [List.length_map]; omega)]
          show (scr.map V.int)[(pos + 1 - 1).toNat]? = _
          rw [show (pos + 1 - 1) = pos by omega, List.getElem?_map, c2]; rfl
        refine ⟨_, rfl, _, _, _, _, rfl, rfl, sq_of l1, rfl, _, rfl, _, _, _, _, rfl, rfl, sq_of l1, rfl, _, _, rfl, rfl, _, _, _, _, rfl, rfl, ex_l g1.s hS, hat, ?_⟩
        refine ⟨_, rfl, _, _, _, _, rfl, rfl, sq_of l1, rfl, _, _, _, rfl, rfl, cmul_small (by omega) (by decide), rfl, _, rfl, _, _, rfl, rfl, _, _, rfl, rfl, _, rfl, _, _, _, rfl, rfl, by decide, rfl, _, rfl, _, _, _, _, rfl, rfl, l1, rfl, ?_⟩
        have es : (seed * 48271 + c + 11).fmod 2147483647 = seedN seed c := by rw [fmod_pos (by decide)]; rfl
        have g2 : Gm [ra] F H F (upd H1 ra (.lst [.ref sc, .int (pos + 1), .int (seedN seed c), .int left])) := g1.trans (Gm.put g1.s l1 hF)
        have l2 : (upd H1 ra (.lst [.ref sc, .int (pos + 1), .int (seedN seed c), .int left])) ra = some (.lst [.ref sc, .int (pos + 1), .int (seedN seed c), .int left]) := upd_same
        rw [es]
        refine ⟨_, rfl, _, _, rfl, rfl, ⟨by decide, by decide, by decide⟩, _, _, rfl, rfl, _, rfl, ?_⟩
        have fin : ∀ x, Gm [ra] F H F (upd (upd H1 ra (.lst [.ref sc, .int (pos + 1), .int (seedN seed c), .int left])) ra (.lst [.ref sc, .int (pos + 1), .int (seedN seed c), .int x])) := fun x => g2.trans (Gm.put g2.s l2 hF)
        by_cases c3 : c ≥ 10 ^ 18
        · simp only [if_pos (show c ≥ 10 ^ 18 from c3)] at k
          refine iteP (decide_eq_true c3) ?_
          refine ⟨_, rfl, _, rfl, _, _, _, rfl, rfl, cd _, rfl, _, rfl, _, _, _, _, rfl, rfl, l2, rfl, ?_⟩
          refine ⟨_, rfl, _, rfl, _, rfl, _, _, _, rfl, rfl, by omega, rfl, ?_⟩
          rw [fmod_pos h1, fdiv_pos h1]
          exact k.h _ F _ (fin _) ⟨rfl, upd_same, hF, hS⟩
        · simp only [if_neg (show ¬ c ≥ 10 ^ 18 from c3)] at k
          refine iteN (decide_eq_false c3) ?_
          refine ⟨_, rfl, _, _, _, _, rfl, rfl, l2, rfl, ?_⟩
          refine ⟨_, rfl, _, rfl, _, rfl, _, _, _, rfl, rfl, by omega, rfl, ?_⟩
          rw [fmod_pos h1]
          exact k.h _ F _ (fin _) ⟨rfl, upd_same, hF, hS⟩

/-! ### _law_pick -/
abbrev s_law_pick : Stmt := top 38
theorem sc_law_pick : FnScope ["_law_row", "_law_some"] ["_law_row", "_law_some"] (defScope s_law_pick) := ⟨rfl, rfl, rfl, by decide +kernel, rfl, by decide +kernel, by decide +kernel⟩
theorem ok_law_pick {P : Program} {w : World} {K : PySem.W.Frag} {mg : Str → Option Value} {base : Heap} {f : Addr} {fd : FuncData} (B : Bi mg) (FF : FunD K "_law_pick" "_law_pick" (defArgs s_law_pick) (defBody s_law_pick) (defScope s_law_pick) [] [] f fd)
    (G_law_taken : Kn P w K mg base "_law_taken" 1 ["_law_row", "_law_many"] (spTaken takenA K)) : FnOk P w K mg base CX0 2 f fd ["_law_row", "_law_some"] (spPick takenA K) := by
  refine FF.ok sc_law_pick (fun vs H Q E h => ?_) (fun cdv A outer s H vs Q E hr h => ?_)
  · obtain ⟨F, sc, ra, scr, st, α, en, v, l, rfl, _⟩ := h; rfl
  · obtain ⟨F, sc, ra, scr, st, α, en, v, l, rfl, e, w, r, k⟩ := h
    obtain ⟨p, xs, rfl, hp, ha⟩ := dp_lst r
    unfold pickM at k
    refine ⟨_, PSs.nox (pss_one (ps_ret (pe_ix ix_list (pv 1) (pe_kn G_law_taken (hr.mono (by decide)) (pa_cons (pv 0) (pa_cons (pe_callB call_lenM (by rfl) B.len (by decide +kernel) (pa_cons (pv 1) pa_nil)) pa_nil))) (fun _ _ => rfl)))), ?_⟩
    refine ⟨_, rfl, _, rfl, _, rfl, _, _, _, rfl, .inl (sq_of (e _ _ hp)), len_all ha, ?_⟩
    refine ⟨F, sc, ra, scr, st, _, rfl, e, w, (post_bd k).mono (fun b k v F1 H1 g h => ?_) (fun _ z => z)⟩
    obtain ⟨rfl, w1⟩ := h
    obtain ⟨a, h1, k⟩ := post_get k
    obtain ⟨u, hu, ru⟩ := dq_at (ha.up g.f) h1
    refine ⟨_, _, _, _, rfl, rfl, sq_of (g.s _ _ (g.f _ _ hp)), hu, ?_⟩
    exact k.h _ _ _ g ⟨ru, w1⟩

/-! ### _law_low -/
abbrev s_law_low : Stmt := top 39
theorem sc_law_low : FnScope ["_law_top", "_law_bottom", "_law_one", "_law_other"] ["_law_top", "_law_bottom"] (defScope s_law_low) := ⟨rfl, rfl, rfl, by decide +kernel, rfl, by decide +kernel, by decide +kernel⟩
def law_low (law_top : Int) (law_bottom : Int) : Mm (Int × Int) := cond (decide (law_top = (0 : Int))) (Mm.ok ((0 : Int), (1 : Int))) ((foldW (fun (b6 : (Int × Int)) => Mm.ok (decide (b6.2 > (0 : Int)))) (fun (b7 : (Int × Int)) => (modM b7.1 b7.2).bd fun m24 => Mm.ok (b7.2, m24)) ((absI law_bottom).toNat + 1) ((absI law_top), (absI law_bottom))).bd fun b8 => (cond (decide (law_bottom > (0 : Int))) ((divM law_top b8.1).bd fun m35 => (divM law_bottom b8.1).bd fun m38 => Mm.ok (m35, m38)) ((divM law_top b8.1).bd fun m46 => (divM law_bottom b8.1).bd fun m49 => Mm.ok (((0 : Int) - m46), ((0 : Int) - m49)))).bd fun b33 => Mm.ok b33)
def sp_law_low (K : PySem.W.Frag) : Sp := fun vs H Q _ => ∃ (F : Hp) (law_top : Int) (law_bottom : Int), vs = [(V.int law_top), (V.int law_bottom)] ∧ Ex F H ∧ Post (law_low law_top law_bottom) (fun r => Ret [] F H (fun F' _ v => Dq K F' v ((e2 PyData.int PyData.int) r)) Q) (fun _ => False)
theorem ok_law_low {P : Program} {w : World} {K : PySem.W.Frag} {mg : Str → Option Value} {base : Heap} {C f : Addr} {fd : FuncData} (B : Bi mg) (FF : FunD K "_law_low" "_law_low" (defArgs s_law_low) (defBody s_law_low) (defScope s_law_low) [] [] f fd) : FnOk P w K mg base CX0 1 f fd ["_law_top", "_law_bottom"] (sp_law_low K) := by
  refine FF.ok sc_law_low (fun vs H Q E h => ?_) (fun cdv A outer s H vs Q E hr h => ?_)
  · obtain ⟨F, law_top, law_bottom, rfl, _⟩ := h; rfl
  · obtain ⟨F, law_top, law_bottom, rfl, e, k⟩ := h
    unfold law_low at k
    have g_ := Gm.refl (M := []) e
    refine ⟨_, PSs.nox (pss_cons (ps_if (pt_cmpR op_eq (pv 0) (pe_int) (nomark _)) (pss_one (ps_ret (pe_q (pe_tup (pa_cons (pe_int) (pa_cons (pe_int) (pa_nil))))))) pss_nil) (pss_cons (ps_par (i := 2) (j := 3) (by rfl) sc_law_low.nd rfl rfl (by decide) rfl rfl (pa_cons (pe_callB call_abs (by rfl) B.abs (by decide +kernel) (pa_cons (pv 0) pa_nil)) (pa_cons (pe_callB call_abs (by rfl) B.abs (by decide +kernel) (pa_cons (pv 1) pa_nil)) (pa_nil))) (by rfl)) (pss_cons (ps_while PassesOwn.never (pt_cmpR op_gt (pv 3) (pe_int) (nomark _)) (pss_one (ps_par (i := 2) (j := 3) (by rfl) sc_law_low.nd rfl rfl (by decide) rfl rfl (pa_cons (pv 3) (pa_cons (pe_op op_modM (pv 2) (pv 3)) (pa_nil))) (by rfl)))) (pss_one (ps_ret (pe_ifExp (pt_cmpR op_gt (pv 1) (pe_int) (nomark _)) (pe_q (pe_tup (pa_cons (pe_op op_divM (pv 0) (pv 2)) (pa_cons (pe_op op_divM (pv 1) (pv 2)) (pa_nil))))) (pe_q (pe_tup (pa_cons (pe_op op_sub (pe_int) (pe_op op_divM (pv 0) (pv 2))) (pa_cons (pe_op op_sub (pe_int) (pe_op op_divM (pv 1) (pv 2))) (pa_nil))))))))))), ?_⟩
    refine ⟨_, rfl, rfl, ?_⟩
    rw [decV_int]
    refine ⟨_, rfl, ?_⟩
    refine cs k (fun _ k => ?_) (fun _ k => ?_)
    · show _ ∧ _
      refine new_tup (K := K) (M := []) e (.cons (Dq.int (0 : Int)) (.cons (Dq.int (1 : Int)) .nil)) (by show 2 ≤ 100000; decide) fun v5 F1 H2 g3 r4 => ?_
      have eF1 := g3.s
      have gF1 := g_.trans (g3.weak (by simp))
      replace r4 : Dq K F1 v5 ((e2 PyData.int PyData.int) ((0 : Int), (1 : Int))) := r4
      exact k.h _ _ _ gF1 r4
    · refine ⟨_, rfl, _, rfl, _, rfl, _, rfl, _, _, rfl, ?_⟩
      refine while_mir (M := []) (F := F) (N := (absI law_bottom).toNat + 1) (fun b6 F' H' σ' => σ' = [some (V.int law_top), some (V.int law_bottom), some (V.int b6.1), some (V.int b6.2)]) k e rfl (fun b6 σ13 F9 H10 g11 i12 Q' kcb6 => ?_) (fun b7 σ18 F14 H15 g16 i17 nx kwb6 => ?_) (fun b8 σ23 F19 H20 g21 i22 k => ?_)
      · obtain rfl := i12
        have eF9 := g11.s
        refine ⟨_, rfl, _, _, rfl, rfl, _, rfl, ?_⟩
        exact kcb6.h _ _ g11 rfl
      · obtain rfl := i17
        have eF14 := g16.s
        refine ⟨_, rfl, _, rfl, _, rfl, ?_⟩
        obtain ⟨m24, c25, q26, kwb6⟩ := post_mod kwb6
        refine ⟨_, _, _, rfl, rfl, c25, q26, _, _, rfl, ?_⟩
        exact kwb6.h _ _ _ g16 rfl
      have g27 := g_.trans (g21.weak (by simp))
      have eF19 := g21.s
      obtain rfl := i22
      refine ⟨_, rfl, _, _, rfl, rfl, _, rfl, ?_⟩
      refine if_jM (M := []) (F := F19) (fun b F' H' v => Dq K F' v ((e2 PyData.int PyData.int) b)) k (fun _ Q' kib33 => ?_) (fun _ Q' kib33 => ?_) (fun b33 v28 F29 H30 g31 r32 k => ?_)
      · have gF19_ := Gm.refl (M := []) eF19
        refine ⟨_, rfl, _, rfl, ?_⟩
        obtain ⟨m35, c36, q37, kib33⟩ := post_div kib33
        refine ⟨_, _, _, rfl, rfl, c36, q37, _, rfl, _, rfl, ?_⟩
        obtain ⟨m38, c39, q40, kib33⟩ := post_div kib33
        refine ⟨_, _, _, rfl, rfl, c39, q40, ?_⟩
        show _ ∧ _
        refine new_tup (K := K) (M := []) eF19 (.cons (Dq.int m35) (.cons (Dq.int m38) .nil)) (by show 2 ≤ 100000; decide) fun v45 F41 H42 g43 r44 => ?_
        have eF41 := g43.s
        have gF41 := gF19_.trans (g43.weak (by simp))
        replace r44 : Dq K F41 v45 ((e2 PyData.int PyData.int) (m35, m38)) := r44
        exact kib33.h _ _ _ gF41 r44
      · have gF19_ := Gm.refl (M := []) eF19
        refine ⟨_, rfl, _, rfl, ?_⟩
        obtain ⟨m46, c47, q48, kib33⟩ := post_div kib33
        refine ⟨_, _, _, rfl, rfl, c47, q48, _, _, rfl, rfl, _, rfl, _, rfl, ?_⟩
        obtain ⟨m49, c50, q51, kib33⟩ := post_div kib33
        refine ⟨_, _, _, rfl, rfl, c50, q51, _, _, rfl, rfl, ?_⟩
        show _ ∧ _
        refine new_tup (K := K) (M := []) eF19 (.cons (Dq.int ((0 : Int) - m46)) (.cons (Dq.int ((0 : Int) - m49)) .nil)) (by show 2 ≤ 100000; decide) fun v56 F52 H53 g54 r55 => ?_
        have eF52 := g54.s
        have gF52 := gF19_.trans (g54.weak (by simp))
        replace r55 : Dq K F52 v56 ((e2 PyData.int PyData.int) (((0 : Int) - m46), ((0 : Int) - m49))) := r55
        exact kib33.h _ _ _ gF52 r55
      have eF29 := g31.s
      have gF29 := g27.trans (g31.weak (by simp))
      exact k.h _ _ _ gF29 r32
/-! ### _law_add -/
abbrev s_law_add : Stmt := top 40
theorem sc_law_add : FnScope ["_law_one", "_law_other"] ["_law_one", "_law_other"] (defScope s_law_add) := ⟨rfl, rfl, rfl, by decide +kernel, rfl, by decide +kernel, by decide +kernel⟩
def law_add (law_one : (Int × Int)) (law_other : (Int × Int)) : Mm (Int × Int) := (mulM law_one.1 law_other.2).bd fun m13 => (mulM law_other.1 law_one.2).bd fun m16 => (mulM law_one.2 law_other.2).bd fun m19 => (law_low ((m13 + m16)) (m19)).bd fun b22 => Mm.ok b22
def sp_law_add (K : PySem.W.Frag) : Sp := fun vs H Q _ => ∃ (F : Hp) (v_law_one : V) (law_one : (Int × Int)) (v_law_other : V) (law_other : (Int × Int)), vs = [v_law_one, v_law_other] ∧ Ex F H ∧ Dq K F v_law_one ((e2 PyData.int PyData.int) law_one) ∧ Dq K F v_law_other ((e2 PyData.int PyData.int) law_other) ∧ Post (law_add law_one law_other) (fun r => Ret [] F H (fun F' _ v => Dq K F' v ((e2 PyData.int PyData.int) r)) Q) (fun _ => False)
theorem ok_law_add {P : Program} {w : World} {K : PySem.W.Frag} {mg : Str → Option Value} {base : Heap} {C f : Addr} {fd : FuncData} (B : Bi mg) (FF : FunD K "_law_add" "_law_add" (defArgs s_law_add) (defBody s_law_add) (defScope s_law_add) [] [] f fd) (G_law_low : Kn P w K mg base "_law_low" 1 ["_law_top", "_law_bottom"] (sp_law_low K)) : FnOk P w K mg base CX0 2 f fd ["_law_one", "_law_other"] (sp_law_add K) := by
  refine FF.ok sc_law_add (fun vs H Q E h => ?_) (fun cdv A outer s H vs Q E hr h => ?_)
  · obtain ⟨F, v_law_one, law_one, v_law_other, law_other, rfl, _⟩ := h; rfl
  · obtain ⟨F, v_law_one, law_one, v_law_other, law_other, rfl, e, r_law_one, r_law_other, k⟩ := h
    unfold law_add at k
    have g_ := Gm.refl (M := []) e
    refine ⟨_, PSs.nox (pss_one (ps_ret (pe_kn G_law_low (hr.mono (by decide)) (pa_cons (pe_op op_add (pe_op op_mulM (pe_ix (r := rIxT K) ix_tup (pv 0) (pe_int) (fun _ _ => rfl)) (pe_ix (r := rIxT K) ix_tup (pv 1) (pe_int) (fun _ _ => rfl))) (pe_op op_mulM (pe_ix (r := rIxT K) ix_tup (pv 1) (pe_int) (fun _ _ => rfl)) (pe_ix (r := rIxT K) ix_tup (pv 0) (pe_int) (fun _ _ => rfl)))) (pa_cons (pe_op op_mulM (pe_ix (r := rIxT K) ix_tup (pv 0) (pe_int) (fun _ _ => rfl)) (pe_ix (r := rIxT K) ix_tup (pv 1) (pe_int) (fun _ _ => rfl))) (pa_nil)))))), ?_⟩
    refine ⟨_, rfl, ?_⟩
    obtain ⟨p1, x2, x3, rfl, s4, d5, d6⟩ := dp_tup2 r_law_one
    obtain rfl := dp_int d5
    obtain rfl := dp_int d6
    refine ⟨_, _, _, _, rfl, rfl, ex_t e s4, rfl, _, rfl, ?_⟩
    obtain ⟨p7, x8, x9, rfl, s10, d11, d12⟩ := dp_tup2 r_law_other
    obtain rfl := dp_int d11
    obtain rfl := dp_int d12
    refine ⟨_, _, _, _, rfl, rfl, ex_t e s10, rfl, ?_⟩
    obtain ⟨m13, c14, q15, k⟩ := post_mul k
    refine ⟨_, _, _, rfl, rfl, c14, q15, _, rfl, ?_⟩
    refine ⟨_, _, _, _, rfl, rfl, ex_t e s10, rfl, _, rfl, ?_⟩
    refine ⟨_, _, _, _, rfl, rfl, ex_t e s4, rfl, ?_⟩
    obtain ⟨m16, c17, q18, k⟩ := post_mul k
    refine ⟨_, _, _, rfl, rfl, c17, q18, _, _, rfl, rfl, _, rfl, ?_⟩
    refine ⟨_, _, _, _, rfl, rfl, ex_t e s4, rfl, _, rfl, ?_⟩
    refine ⟨_, _, _, _, rfl, rfl, ex_t e s10, rfl, ?_⟩
    obtain ⟨m19, c20, q21, k⟩ := post_mul k
    refine ⟨_, _, _, rfl, rfl, c20, q21, ?_⟩
    refine ⟨F, (m13 + m16), m19, rfl, e, (post_bd k).mono (fun b22 k v27 F23 H24 g25 r26 => ?_) (fun _ z => z)⟩
    have eF23 := g25.s
    have gF23 := g_.trans (g25.weak (by simp))
    replace r_law_one := r_law_one.up g25.f
    replace r_law_other := r_law_other.up g25.f
    replace s4 := ex_t g25.f s4
    replace s10 := ex_t g25.f s10
    exact k.h _ _ _ gF23 r26
/-! ### _law_mul -/
abbrev s_law_mul : Stmt := top 41
theorem sc_law_mul : FnScope ["_law_one", "_law_other"] ["_law_one", "_law_other"] (defScope s_law_mul) := ⟨rfl, rfl, rfl, by decide +kernel, rfl, by decide +kernel, by decide +kernel⟩
def law_mul (law_one : (Int × Int)) (law_other : (Int × Int)) : Mm (Int × Int) := (mulM law_one.1 law_other.1).bd fun m13 => (mulM law_one.2 law_other.2).bd fun m16 => (law_low (m13) (m16)).bd fun b19 => Mm.ok b19
def sp_law_mul (K : PySem.W.Frag) : Sp := fun vs H Q _ => ∃ (F : Hp) (v_law_one : V) (law_one : (Int × Int)) (v_law_other : V) (law_other : (Int × Int)), vs = [v_law_one, v_law_other] ∧ Ex F H ∧ Dq K F v_law_one ((e2 PyData.int PyData.int) law_one) ∧ Dq K F v_law_other ((e2 PyData.int PyData.int) law_other) ∧ Post (law_mul law_one law_other) (fun r => Ret [] F H (fun F' _ v => Dq K F' v ((e2 PyData.int PyData.int) r)) Q) (fun _ => False)
theorem ok_law_mul {P : Program} {w : World} {K : PySem.W.Frag} {mg : Str → Option Value} {base : Heap} {C f : Addr} {fd : FuncData} (B : Bi mg) (FF : FunD K "_law_mul" "_law_mul" (defArgs s_law_mul) (defBody s_law_mul) (defScope s_law_mul) [] [] f fd) (G_law_low : Kn P w K mg base "_law_low" 1 ["_law_top", "_law_bottom"] (sp_law_low K)) : FnOk P w K mg base CX0 2 f fd ["_law_one", "_law_other"] (sp_law_mul K) := by
  refine FF.ok sc_law_mul (fun vs H Q E h => ?_) (fun cdv A outer s H vs Q E hr h => ?_)
  · obtain ⟨F, v_law_one, law_one, v_law_other, law_other, rfl, _⟩ := h; rfl
  · obtain ⟨F, v_law_one, law_one, v_law_other, law_other, rfl, e, r_law_one, r_law_other, k⟩ := h
    unfold law_mul at k
    have g_ := Gm.refl (M := []) e
    refine ⟨_, PSs.nox (pss_one (ps_ret (pe_kn G_law_low (hr.mono (by decide)) (pa_cons (pe_op op_mulM (pe_ix (r := rIxT K) ix_tup (pv 0) (pe_int) (fun _ _ => rfl)) (pe_ix (r := rIxT K) ix_tup (pv 1) (pe_int) (fun _ _ => rfl))) (pa_cons (pe_op op_mulM (pe_ix (r := rIxT K) ix_tup (pv 0) (pe_int) (fun _ _ => rfl)) (pe_ix (r := rIxT K) ix_tup (pv 1) (pe_int) (fun _ _ => rfl))) (pa_nil)))))), ?_⟩
    refine ⟨_, rfl, ?_⟩
    obtain ⟨p1, x2, x3, rfl, s4, d5, d6⟩ := dp_tup2 r_law_one
    obtain rfl := dp_int d5
    obtain rfl := dp_int d6
    refine ⟨_, _, _, _, rfl, rfl, ex_t e s4, rfl, _, rfl, ?_⟩
    obtain ⟨p7, x8, x9, rfl, s10, d11, d12⟩ := dp_tup2 r_law_other
    obtain rfl := dp_int d11
    obtain rfl := dp_int d12
    refine ⟨_, _, _, _, rfl, rfl, ex_t e s10, rfl, ?_⟩
    obtain ⟨m13, c14, q15, k⟩ := post_mul k
    refine ⟨_, _, _, rfl, rfl, c14, q15, _, rfl, ?_⟩
    refine ⟨_, _, _, _, rfl, rfl, ex_t e s4, rfl, _, rfl, ?_⟩
    refine ⟨_, _, _, _, rfl, rfl, ex_t e s10, rfl, ?_⟩
    obtain ⟨m16, c17, q18, k⟩ := post_mul k
    refine ⟨_, _, _, rfl, rfl, c17, q18, ?_⟩
    refine ⟨F, m13, m16, rfl, e, (post_bd k).mono (fun b19 k v24 F20 H21 g22 r23 => ?_) (fun _ z => z)⟩
    have eF20 := g22.s
    have gF20 := g_.trans (g22.weak (by simp))
    replace r_law_one := r_law_one.up g22.f
    replace r_law_other := r_law_other.up g22.f
    replace s4 := ex_t g22.f s4
    replace s10 := ex_t g22.f s10
    exact k.h _ _ _ gF20 r23
/-! ### _law_neg -/
abbrev s_law_neg : Stmt := top 42
theorem sc_law_neg : FnScope ["_law_one"] ["_law_one"] (defScope s_law_neg) := ⟨rfl, rfl, rfl, by decide +kernel, rfl, by decide +kernel, by decide +kernel⟩
def law_neg (law_one : (Int × Int)) : Mm (Int × Int) := Mm.ok (((0 : Int) - law_one.1), law_one.2)
def sp_law_neg (K : PySem.W.Frag) : Sp := fun vs H Q _ => ∃ (F : Hp) (v_law_one : V) (law_one : (Int × Int)), vs = [v_law_one] ∧ Ex F H ∧ Dq K F v_law_one ((e2 PyData.int PyData.int) law_one) ∧ Post (law_neg law_one) (fun r => Ret [] F H (fun F' _ v => Dq K F' v ((e2 PyData.int PyData.int) r)) Q) (fun _ => False)
theorem ok_law_neg {P : Program} {w : World} {K : PySem.W.Frag} {mg : Str → Option Value} {base : Heap} {C f : Addr} {fd : FuncData} (B : Bi mg) (FF : FunD K "_law_neg" "_law_neg" (defArgs s_law_neg) (defBody s_law_neg) (defScope s_law_neg) [] [] f fd) : FnOk P w K mg base CX0 1 f fd ["_law_one"] (sp_law_neg K) := by
  refine FF.ok sc_law_neg (fun vs H Q E h => ?_) (fun cdv A outer s H vs Q E hr h => ?_)
  · obtain ⟨F, v_law_one, law_one, rfl, _⟩ := h; rfl
  · obtain ⟨F, v_law_one, law_one, rfl, e, r_law_one, k⟩ := h
    unfold law_neg at k
    have g_ := Gm.refl (M := []) e
    refine ⟨_, PSs.nox (pss_one (ps_ret (pe_q (pe_tup (pa_cons (pe_op op_sub (pe_int) (pe_ix (r := rIxT K) ix_tup (pv 0) (pe_int) (fun _ _ => rfl))) (pa_cons (pe_ix (r := rIxT K) ix_tup (pv 0) (pe_int) (fun _ _ => rfl)) (pa_nil))))))), ?_⟩
    refine ⟨_, rfl, ?_⟩
    obtain ⟨p1, x2, x3, rfl, s4, d5, d6⟩ := dp_tup2 r_law_one
    obtain rfl := dp_int d5
    obtain rfl := dp_int d6
    refine ⟨_, _, _, _, rfl, rfl, ex_t e s4, rfl, _, _, rfl, rfl, _, rfl, ?_⟩
    refine ⟨_, _, _, _, rfl, rfl, ex_t e s4, rfl, ?_⟩
    show _ ∧ _
    refine new_tup (K := K) (M := []) e (.cons (Dq.int ((0 : Int) - law_one.1)) (.cons (Dq.int law_one.2) .nil)) (by show 2 ≤ 100000; decide) fun v11 F7 H8 g9 r10 => ?_
    have eF7 := g9.s
    have gF7 := g_.trans (g9.weak (by simp))
    replace r_law_one := r_law_one.up g9.f
    replace s4 := ex_t g9.f s4
    replace r10 : Dq K F7 v11 ((e2 PyData.int PyData.int) (((0 : Int) - law_one.1), law_one.2)) := r10
    exact k.h _ _ _ gF7 r10
/-! ### _law_over -/
abbrev s_law_over : Stmt := top 43
theorem sc_law_over : FnScope ["_law_one", "_law_other"] ["_law_one", "_law_other"] (defScope s_law_over) := ⟨rfl, rfl, rfl, by decide +kernel, rfl, by decide +kernel, by decide +kernel⟩
def law_over (law_one : (Int × Int)) (law_other : (Int × Int)) : Mm (Int × Int) := (mulM law_one.1 law_other.2).bd fun m13 => (mulM law_one.2 law_other.1).bd fun m16 => (law_low (m13) (m16)).bd fun b19 => Mm.ok b19
def sp_law_over (K : PySem.W.Frag) : Sp := fun vs H Q _ => ∃ (F : Hp) (v_law_one : V) (law_one : (Int × Int)) (v_law_other : V) (law_other : (Int × Int)), vs = [v_law_one, v_law_other] ∧ Ex F H ∧ Dq K F v_law_one ((e2 PyData.int PyData.int) law_one) ∧ Dq K F v_law_other ((e2 PyData.int PyData.int) law_other) ∧ Post (law_over law_one law_other) (fun r => Ret [] F H (fun F' _ v => Dq K F' v ((e2 PyData.int PyData.int) r)) Q) (fun _ => False)
theorem ok_law_over {P : Program} {w : World} {K : PySem.W.Frag} {mg : Str → Option Value} {base : Heap} {C f : Addr} {fd : FuncData} (B : Bi mg) (FF : FunD K "_law_over" "_law_over" (defArgs s_law_over) (defBody s_law_over) (defScope s_law_over) [] [] f fd) (G_law_low : Kn P w K mg base "_law_low" 1 ["_law_top", "_law_bottom"] (sp_law_low K)) : FnOk P w K mg base CX0 2 f fd ["_law_one", "_law_other"] (sp_law_over K) := by
  refine FF.ok sc_law_over (fun vs H Q E h => ?_) (fun cdv A outer s H vs Q E hr h => ?_)
  · obtain ⟨F, v_law_one, law_one, v_law_other, law_other, rfl, _⟩ := h; rfl
  · obtain ⟨F, v_law_one, law_one, v_law_other, law_other, rfl, e, r_law_one, r_law_other, k⟩ := h
    unfold law_over at k
    have g_ := Gm.refl (M := []) e
    refine ⟨_, PSs.nox (pss_one (ps_ret (pe_kn G_law_low (hr.mono (by decide)) (pa_cons (pe_op op_mulM (pe_ix (r := rIxT K) ix_tup (pv 0) (pe_int) (fun _ _ => rfl)) (pe_ix (r := rIxT K) ix_tup (pv 1) (pe_int) (fun _ _ => rfl))) (pa_cons (pe_op op_mulM (pe_ix (r := rIxT K) ix_tup (pv 0) (pe_int) (fun _ _ => rfl)) (pe_ix (r := rIxT K) ix_tup (pv 1) (pe_int) (fun _ _ => rfl))) (pa_nil)))))), ?_⟩
    refine ⟨_, rfl, ?_⟩
    obtain ⟨p1, x2, x3, rfl, s4, d5, d6⟩ := dp_tup2 r_law_one
    obtain rfl := dp_int d5
    obtain rfl := dp_int d6
    refine ⟨_, _, _, _, rfl, rfl, ex_t e s4, rfl, _, rfl, ?_⟩
    obtain ⟨p7, x8, x9, rfl, s10, d11, d12⟩ := dp_tup2 r_law_other
    obtain rfl := dp_int d11
    obtain rfl := dp_int d12
    refine ⟨_, _, _, _, rfl, rfl, ex_t e s10, rfl, ?_⟩
    obtain ⟨m13, c14, q15, k⟩ := post_mul k
    refine ⟨_, _, _, rfl, rfl, c14, q15, _, rfl, ?_⟩
    refine ⟨_, _, _, _, rfl, rfl, ex_t e s4, rfl, _, rfl, ?_⟩
    refine ⟨_, _, _, _, rfl, rfl, ex_t e s10, rfl, ?_⟩
    obtain ⟨m16, c17, q18, k⟩ := post_mul k
    refine ⟨_, _, _, rfl, rfl, c17, q18, ?_⟩
    refine ⟨F, m13, m16, rfl, e, (post_bd k).mono (fun b19 k v24 F20 H21 g22 r23 => ?_) (fun _ z => z)⟩
    have eF20 := g22.s
    have gF20 := g_.trans (g22.weak (by simp))
    replace r_law_one := r_law_one.up g22.f
    replace r_law_other := r_law_other.up g22.f
    replace s4 := ex_t g22.f s4
    replace s10 := ex_t g22.f s10
    exact k.h _ _ _ gF20 r23
/-! ### _law_is_less -/
abbrev s_law_is_less : Stmt := top 44
theorem sc_law_is_less : FnScope ["_law_one", "_law_other"] ["_law_one", "_law_other"] (defScope s_law_is_less) := ⟨rfl, rfl, rfl, by decide +kernel, rfl, by decide +kernel, by decide +kernel⟩
def law_is_less (law_one : (Int × Int)) (law_other : (Int × Int)) : Mm Bool := (mulM law_one.1 law_other.2).bd fun m13 => (mulM law_other.1 law_one.2).bd fun m16 => Mm.ok (decide (m13 < m16))
def sp_law_is_less (K : PySem.W.Frag) : Sp := fun vs H Q _ => ∃ (F : Hp) (v_law_one : V) (law_one : (Int × Int)) (v_law_other : V) (law_other : (Int × Int)), vs = [v_law_one, v_law_other] ∧ Ex F H ∧ Dq K F v_law_one ((e2 PyData.int PyData.int) law_one) ∧ Dq K F v_law_other ((e2 PyData.int PyData.int) law_other) ∧ Post (law_is_less law_one law_other) (fun r => Ret [] F H (fun F' _ v => v = V.bl r) Q) (fun _ => False)
theorem ok_law_is_less {P : Program} {w : World} {K : PySem.W.Frag} {mg : Str → Option Value} {base : Heap} {C f : Addr} {fd : FuncData} (B : Bi mg) (FF : FunD K "_law_is_less" "_law_is_less" (defArgs s_law_is_less) (defBody s_law_is_less) (defScope s_law_is_less) [] [] f fd) : FnOk P w K mg base CX0 1 f fd ["_law_one", "_law_other"] (sp_law_is_less K) := by
  refine FF.ok sc_law_is_less (fun vs H Q E h => ?_) (fun cdv A outer s H vs Q E hr h => ?_)
  · obtain ⟨F, v_law_one, law_one, v_law_other, law_other, rfl, _⟩ := h; rfl
  · obtain ⟨F, v_law_one, law_one, v_law_other, law_other, rfl, e, r_law_one, r_law_other, k⟩ := h
    unfold law_is_less at k
    have g_ := Gm.refl (M := []) e
    refine ⟨_, PSs.nox (pss_one (ps_ret (pe_cmpR op_lt (pe_op op_mulM (pe_ix (r := rIxT K) ix_tup (pv 0) (pe_int) (fun _ _ => rfl)) (pe_ix (r := rIxT K) ix_tup (pv 1) (pe_int) (fun _ _ => rfl))) (pe_op op_mulM (pe_ix (r := rIxT K) ix_tup (pv 1) (pe_int) (fun _ _ => rfl)) (pe_ix (r := rIxT K) ix_tup (pv 0) (pe_int) (fun _ _ => rfl))) (nomark _)))), ?_⟩
    refine ⟨_, rfl, ?_⟩
    obtain ⟨p1, x2, x3, rfl, s4, d5, d6⟩ := dp_tup2 r_law_one
    obtain rfl := dp_int d5
    obtain rfl := dp_int d6
    refine ⟨_, _, _, _, rfl, rfl, ex_t e s4, rfl, _, rfl, ?_⟩
    obtain ⟨p7, x8, x9, rfl, s10, d11, d12⟩ := dp_tup2 r_law_other
    obtain rfl := dp_int d11
    obtain rfl := dp_int d12
    refine ⟨_, _, _, _, rfl, rfl, ex_t e s10, rfl, ?_⟩
    obtain ⟨m13, c14, q15, k⟩ := post_mul k
    refine ⟨_, _, _, rfl, rfl, c14, q15, _, rfl, ?_⟩
    refine ⟨_, _, _, _, rfl, rfl, ex_t e s10, rfl, _, rfl, ?_⟩
    refine ⟨_, _, _, _, rfl, rfl, ex_t e s4, rfl, ?_⟩
    obtain ⟨m16, c17, q18, k⟩ := post_mul k
    refine ⟨_, _, _, rfl, rfl, c17, q18, _, _, rfl, rfl, ?_⟩
    exact k.h _ _ _ g_ rfl
/-! ### _law_worth -/
abbrev s_law_worth : Stmt := top 45
theorem sc_law_worth : FnScope ["_law_some", "_law_place", "_law_found", "_law_k"] ["_law_some", "_law_place"] (defScope s_law_worth) := ⟨rfl, rfl, rfl, by decide +kernel, rfl, by decide +kernel, by decide +kernel⟩
def law_worth (law_some : (List (Int × Int))) (law_place : (Int × Int)) : Mm (Int × Int) := (rangeM (law_some.length : Int)).bd fun l11 => (foldM (fun (b12 : (Int × Int)) (x13 : Int) => (law_mul (b12) (law_place)).bd fun b33 => (getM law_some (((law_some.length : Int) - (1 : Int)) - x13)).bd fun i40 => (law_add (b33) (i40)).bd fun b45 => Mm.ok b45) ((0 : Int), (1 : Int)) (rangeL 0 (law_some.length : Int).toNat)).bd fun b29 => Mm.ok b29
def sp_law_worth (K : PySem.W.Frag) : Sp := fun vs H Q _ => ∃ (F : Hp) (v_law_some : V) (law_some : (List (Int × Int))) (v_law_place : V) (law_place : (Int × Int)), vs = [v_law_some, v_law_place] ∧ Ex F H ∧ Dq K F v_law_some ((eL (e2 PyData.int PyData.int)) law_some) ∧ Dq K F v_law_place ((e2 PyData.int PyData.int) law_place) ∧ Post (law_worth law_some law_place) (fun r => Ret [] F H (fun F' _ v => Dq K F' v ((e2 PyData.int PyData.int) r)) Q) (fun _ => False)
theorem ok_law_worth {P : Program} {w : World} {K : PySem.W.Frag} {mg : Str → Option Value} {base : Heap} {C f : Addr} {fd : FuncData} (B : Bi mg) (FF : FunD K "_law_worth" "_law_worth" (defArgs s_law_worth) (defBody s_law_worth) (defScope s_law_worth) [] [] f fd) (G_law_add : Kn P w K mg base "_law_add" 2 ["_law_one", "_law_other"] (sp_law_add K)) (G_law_mul : Kn P w K mg base "_law_mul" 2 ["_law_one", "_law_other"] (sp_law_mul K)) : FnOk P w K mg base CX0 3 f fd ["_law_some", "_law_place"] (sp_law_worth K) := by
  refine FF.ok sc_law_worth (fun vs H Q E h => ?_) (fun cdv A outer s H vs Q E hr h => ?_)
  · obtain ⟨F, v_law_some, law_some, v_law_place, law_place, rfl, _⟩ := h; rfl
  · obtain ⟨F, v_law_some, law_some, v_law_place, law_place, rfl, e, r_law_some, r_law_place, k⟩ := h
    unfold law_worth at k
    have g_ := Gm.refl (M := []) e
    refine ⟨_, PSs.nox (pss_cons (ps_set (i := 2) sc_law_worth.nd rfl (Or.inl rfl) (pe_q (pe_tup (pa_cons (pe_int) (pa_cons (pe_int) (pa_nil)))))) (pss_cons (ps_for PassesOwn.never rfl (pi_range1 rfl B.range (pa_cons (pe_callB call_lenM (by rfl) B.len (by decide +kernel) (pa_cons (pv 0) pa_nil)) (pa_nil))) (pg_name (i := 3) sc_law_worth.nd rfl (Or.inl rfl)) (pss_one (ps_set (i := 2) sc_law_worth.nd rfl (Or.inl rfl) (pe_kn G_law_add (hr.mono (by decide)) (pa_cons (pe_kn G_law_mul (hr.mono (by decide)) (pa_cons (pv 2) (pa_cons (pv 1) (pa_nil)))) (pa_cons (pe_ix (r := rIxL K) ix_list (pv 0) (pe_op op_sub (pe_op op_sub (pe_callB call_lenM (by rfl) B.len (by decide +kernel) (pa_cons (pv 0) pa_nil)) (pe_int)) (pv 3)) (fun _ _ => rfl)) (pa_nil))))))) (pss_one (ps_ret (pv 2))))), ?_⟩
    show _ ∧ _
    refine new_tup (K := K) (M := []) e (.cons (Dq.int (0 : Int)) (.cons (Dq.int (1 : Int)) .nil)) (by show 2 ≤ 100000; decide) fun v5 F1 H2 g3 r4 => ?_
    have eF1 := g3.s
    have gF1 := g_.trans (g3.weak (by simp))
    replace r_law_some := r_law_some.up g3.f
    replace r_law_place := r_law_place.up g3.f
    replace r4 : Dq K F1 v5 ((e2 PyData.int PyData.int) ((0 : Int), (1 : Int))) := r4
    refine ⟨_, rfl, ?_⟩
    obtain ⟨p6, xs7, rfl, s8, a9⟩ := dp_lst r_law_some
    refine ⟨_, _, _, rfl, .inl (sq_of (eF1 _ _ s8)), len_all a9, ?_⟩
    obtain ⟨h10, k⟩ := post_range k
    refine ⟨_, rfl, h10.1, h10.2, ?_⟩
    refine for_m (M := []) (F := F1) wlk_range (fun b12 F' H' σ' => ∃ (c2 : V) (u3 : Option V), σ' = [some (V.ref p6), some v_law_place, some c2, u3] ∧ Dq K F' c2 ((e2 PyData.int PyData.int) b12)) k eF1 ⟨_, _, rfl, r4⟩ (fun b12 x13 v21 σ23 F14 H15 F16 H17 g18 i22 g19 r20 nx kfb12 => ?_) (fun b29 σ28 F24 H25 g26 i27 k => ?_)
    · replace r_law_some := r_law_some.up g18.f
      replace r_law_place := r_law_place.up g18.f
      replace r4 := r4.up g18.f
      replace s8 := g18.f _ _ s8
      replace a9 := a9.up g18.f
      obtain ⟨c30, u31, rfl, r32⟩ := i22
      replace r_law_some := r_law_some.up g19.f
      replace r_law_place := r_law_place.up g19.f
      replace s8 := g19.f _ _ s8
      replace a9 := a9.up g19.f
      replace r32 := r32.up g19.f
      have eF16 := g19.s
      have gF16 := g18.trans (g19.weak (by simp))
      subst r20
      refine ⟨_, rfl, _, rfl, ?_⟩
      refine ⟨F16, _, b12, _, law_place, rfl, eF16, r32, r_law_place, (post_bd kfb12).mono (fun b33 kfb12 v38 F34 H35 g36 r37 => ?_) (fun _ z => z)⟩
      have eF34 := g36.s
      have gF34 := gF16.trans (g36.weak (by simp))
      replace r_law_some := r_law_some.up g36.f
      replace r_law_place := r_law_place.up g36.f
      replace s8 := g36.f _ _ s8
      replace a9 := a9.up g36.f
      replace r32 := r32.up g36.f
      refine ⟨_, rfl, _, rfl, ?_⟩
      refine ⟨_, _, _, rfl, .inl (sq_of (eF34 _ _ s8)), len_all a9, _, _, rfl, rfl, _, rfl, _, _, rfl, rfl, ?_⟩
      obtain ⟨i40, h41, kfb12⟩ := post_get kfb12
      obtain ⟨v42, h43, r44⟩ := dq_at a9 h41
      refine ⟨_, _, _, _, rfl, rfl, (sq_of (eF34 _ _ s8)), h43, ?_⟩
      refine ⟨F34, _, b33, _, i40, rfl, eF34, r37, r44, (post_bd kfb12).mono (fun b45 kfb12 v50 F46 H47 g48 r49 => ?_) (fun _ z => z)⟩
      have eF46 := g48.s
      have gF46 := gF34.trans (g48.weak (by simp))
      replace r_law_some := r_law_some.up g48.f
      replace r_law_place := r_law_place.up g48.f
      replace s8 := g48.f _ _ s8
      replace a9 := a9.up g48.f
      replace r32 := r32.up g48.f
      replace r37 := r37.up g48.f
      replace r44 := r44.up g48.f
      exact kfb12.h _ _ _ gF46 ⟨_, _, rfl, r49⟩
    have g52 := gF1.trans (g26.weak (by simp))
    replace r_law_some := r_law_some.up g26.f
    replace r_law_place := r_law_place.up g26.f
    replace r4 := r4.up g26.f
    replace s8 := g26.f _ _ s8
    replace a9 := a9.up g26.f
    have eF24 := g26.s
    obtain ⟨c53, u54, rfl, r55⟩ := i27
    refine ⟨_, rfl, ?_⟩
    exact k.h _ _ _ g52 r55
/-! ### _law_places -/
abbrev s_law_places : Stmt := top 46
theorem sc_law_places : FnScope ["_law_row", "_law_most", "_law_found", "_law_k", "_law_place", "_law_spot", "_law_one"] ["_law_row", "_law_most"] (defScope s_law_places) := ⟨rfl, rfl, rfl, by decide +kernel, rfl, by decide +kernel, by decide +kernel⟩
def law_places (scr : List Int) (st : Rw) (law_most : Int) : Mm ((List (Int × Int)) × Rw) := (takenA scr st (law_most)).bd fun b6 => (rangeM ((1 : Int) + b6.1)).bd fun l14 => (foldM (fun (b15 : ((List (Int × Int)) × Rw)) (x16 : Int) => (takenA scr b15.2 ((41 : Int))).bd fun b40 => (pickM takenA scr b40.2 [(1 : Int), (1 : Int), (2 : Int), (3 : Int), (10 : Int)]).bd fun b52 => (law_low ((b40.1 - (20 : Int))) (b52.1)).bd fun b59 => cond (!(hasM b15.1 b59)) ((guardM (b15.1.length ≤ 50000)).bd fun _ => (filMm (fun (x72 : (Int × Int)) => (law_is_less (x72) (b59)).bd fun b91 => cond b91 (Mm.ok (some x72)) (Mm.ok none)) b15.1).bd fun b71 => (guardM ((cutL b15.1 none (some (b71.length : Int))).length + [b59].length ≤ 100000)).bd fun _ => (guardM (((cutL b15.1 none (some (b71.length : Int))) ++ [b59]).length + (cutL b15.1 (some (b71.length : Int)) none).length ≤ 100000)).bd fun _ => Mm.ok ((((cutL b15.1 none (some (b71.length : Int))) ++ [b59]) ++ (cutL b15.1 (some (b71.length : Int)) none)), b52.2)) (Mm.ok (b15.1, b52.2))) ([], b6.2) (rangeL 0 ((1 : Int) + b6.1).toNat)).bd fun b32 => Mm.ok (b32.1, b32.2)
def sp_law_places (K : PySem.W.Frag) : Sp := fun vs H Q _ => ∃ (F : Hp) (sc ra : Addr) (scr : List Int) (st : Rw) (law_most : Int), vs = [.ref ra, (V.int law_most)] ∧ Ex F H ∧ RowAt K sc ra scr F H st ∧ Post (law_places scr st law_most) (fun r => Ret [ra] F H (fun F' H' v => Dq K F' v ((eL (e2 PyData.int PyData.int)) r.1) ∧ RowAt K sc ra scr F' H' r.2) Q) (fun _ => False)
theorem ok_law_places {P : Program} {w : World} {K : PySem.W.Frag} {mg : Str → Option Value} {base : Heap} {C f : Addr} {fd : FuncData} (B : Bi mg) (FF : FunD K "_law_places" "_law_places" (defArgs s_law_places) (defBody s_law_places) (defScope s_law_places) [] [] f fd) (G_law_taken : Kn P w K mg base "_law_taken" 1 ["_law_row", "_law_many"] (spTaken takenA K)) (G_law_low : Kn P w K mg base "_law_low" 1 ["_law_top", "_law_bottom"] (sp_law_low K)) (G_law_pick : Kn P w K mg base "_law_pick" 2 ["_law_row", "_law_some"] (spPick takenA K)) (G_law_is_less : Kn P w K mg base "_law_is_less" 1 ["_law_one", "_law_other"] (sp_law_is_less K)) : FnOk P w K mg base CX0 3 f fd ["_law_row", "_law_most"] (sp_law_places K) := by
  refine FF.ok sc_law_places (fun vs H Q E h => ?_) (fun cdv A outer s H vs Q E hr h => ?_)
  · obtain ⟨F, sc, ra, scr, st, law_most, rfl, _⟩ := h; rfl
  · obtain ⟨F, sc, ra, scr, st, law_most, rfl, e, w, k⟩ := h
    unfold law_places at k
    have g_ := Gm.refl (M := [ra]) e
    refine ⟨_, PSs.nox (pss_cons (ps_set (i := 2) sc_law_places.nd rfl (Or.inl rfl) (pe_q (pe_lst (pa_nil)))) (pss_cons (ps_for PassesOwn.never rfl (pi_range1 rfl B.range (pa_cons (pe_op op_add (pe_int) (pe_kn G_law_taken (hr.mono (by decide)) (pa_cons (pv 0) (pa_cons (pv 1) (pa_nil))))) (pa_nil))) (pg_name (i := 3) sc_law_places.nd rfl (Or.inl rfl)) (pss_cons (ps_set (i := 4) sc_law_places.nd rfl (Or.inr rfl) (pe_kn G_law_low (hr.mono (by decide)) (pa_cons (pe_op op_sub (pe_kn G_law_taken (hr.mono (by decide)) (pa_cons (pv 0) (pa_cons (pe_int) (pa_nil)))) (pe_int)) (pa_cons (pe_kn G_law_pick (hr.mono (by decide)) (pa_cons (pv 0) (pa_cons (pe_q (pe_lst (pa_cons (pe_int) (pa_cons (pe_int) (pa_cons (pe_int) (pa_cons (pe_int) (pa_cons (pe_int) (pa_nil)))))))) pa_nil))) (pa_nil))))) (pss_one (ps_if (pt_cmpR (r := rNotInM K (e2 PyData.int PyData.int)) (op_notInM (sh_e2 sh_int sh_int) (units_of2 hr)) (pv 4) (pv 2) (by rfl)) (pss_cons (ps_set (i := 5) sc_law_places.nd rfl (Or.inl rfl) (pe_callB call_lenM (by rfl) B.len (by decide +kernel) (pa_cons (pe_q (pe_lc (own := [("_law_one", 6)]) (g := gName 6) rfl sc_law_places.nd (pi_list (pv 2)) (blkOk_by (N := ["_law_row", "_law_most", "_law_found", "_law_k", "_law_place", "_law_spot", "_law_one"]) (sc := defScope s_law_places) (by decide +kernel)) (fun _ _ _ _ _ => pg_name (i := 6) sc_law_places.nd rfl (Or.inl rfl)) (fun _ _ _ _ _ => pts_one (pt_val (pe_kn G_law_is_less (hr.mono (by decide)) (pa_cons (pv 6) (pa_cons (pv 4) (pa_nil)))))) (fun _ _ _ _ _ => pv 6))) pa_nil))) (pss_one (ps_set (i := 2) sc_law_places.nd rfl (Or.inl rfl) (pe_q (pe_op op_cat (pe_q (pe_op op_cat (pe_q (pe_slice sl_list (pv 2) po_none (po_some (pv 5)))) (pe_q (pe_lst (pa_cons (pv 4) (pa_nil)))))) (pe_q (pe_slice sl_list (pv 2) (po_some (pv 5)) po_none))))))) (pss_nil))))) (pss_one (ps_ret (pv 2))))), ?_⟩
    show _ ∧ _
    refine new_lst (K := K) (M := []) e .nil (by show 0 ≤ 100000; decide) fun v5 F1 H2 g3 r4 => ?_
    have eF1 := g3.s
    have gF1 := g_.trans (g3.weak (by simp))
    replace w := w.keep g3
    replace r4 : Dq K F1 v5 ((eL (e2 PyData.int PyData.int)) []) := r4
    refine ⟨_, rfl, _, rfl, ?_⟩
    refine ⟨F1, sc, ra, scr, st, law_most, rfl, eF1, w, (post_bd k).mono (fun b6 k v11 F7 H8 g9 ⟨r10, w12⟩ => ?_) (fun _ z => z)⟩
    have eF7 := g9.s
    have gF7 := gF1.trans (g9.weak (by simp))
    replace r4 := r4.up g9.f
    subst r10
    refine ⟨_, _, rfl, rfl, ?_⟩
    obtain ⟨h13, k⟩ := post_range k
    refine ⟨_, rfl, h13.1, h13.2, ?_⟩
    refine for_m (M := [ra]) (F := F7) wlk_range (fun b15 F' H' σ' => ∃ (c2 : V) (u3 : Option V) (u4 : Option V) (u5 : Option V) (u6 : Option V), σ' = [some (V.ref ra), some (V.int law_most), some c2, u3, u4, u5, u6] ∧ Dq K F' c2 ((eL (e2 PyData.int PyData.int)) b15.1) ∧ RowAt K sc ra scr F' H' b15.2) k eF7 ⟨_, _, _, _, _, rfl, r4, w12⟩ (fun b15 x16 v24 σ26 F17 H18 F19 H20 g21 i25 g22 r23 nx kfb15 => ?_) (fun b32 σ31 F27 H28 g29 i30 k => ?_)
    · replace r4 := r4.up g21.f
      obtain ⟨c33, u34, u35, u36, u37, rfl, r38, w39⟩ := i25
      replace r38 := r38.up g22.f
      replace w39 := w39.keep g22
      have eF19 := g22.s
      have gF19 := g21.trans (g22.weak (by simp))
      subst r23
      refine ⟨_, rfl, ?_⟩
      refine ⟨F19, sc, ra, scr, b15.2, (41 : Int), rfl, eF19, w39, (post_bd kfb15).mono (fun b40 kfb15 v45 F41 H42 g43 ⟨r44, w46⟩ => ?_) (fun _ z => z)⟩
      have eF41 := g43.s
      have gF41 := gF19.trans (g43.weak (by simp))
      replace r38 := r38.up g43.f
      subst r44
      refine ⟨_, _, rfl, rfl, _, rfl, ?_⟩
      show _ ∧ _
      refine new_lst (K := K) (M := []) eF41 (.cons (Dq.int (1 : Int)) (.cons (Dq.int (1 : Int)) (.cons (Dq.int (2 : Int)) (.cons (Dq.int (3 : Int)) (.cons (Dq.int (10 : Int)) .nil))))) (by show 5 ≤ 100000; decide) fun v51 F47 H48 g49 r50 => ?_
      have eF47 := g49.s
      have gF47 := gF41.trans (g49.weak (by simp))
      replace r38 := r38.up g49.f
      replace w46 := w46.keep g49
      replace r50 : Dq K F47 v51 ((eL PyData.int) [(1 : Int), (1 : Int), (2 : Int), (3 : Int), (10 : Int)]) := r50
      refine ⟨F47, sc, ra, scr, b40.2, _, PyData.int, _, [(1 : Int), (1 : Int), (2 : Int), (3 : Int), (10 : Int)], rfl, eF47, w46, r50, (post_bd kfb15).mono (fun b52 kfb15 v57 F53 H54 g55 ⟨r56, w58⟩ => ?_) (fun _ z => z)⟩
      have eF53 := g55.s
      have gF53 := gF47.trans (g55.weak (by simp))
      replace r38 := r38.up g55.f
      replace r50 := r50.up g55.f
      obtain rfl := dp_int r56
      refine ⟨F53, (b40.1 - (20 : Int)), b52.1, rfl, eF53, (post_bd kfb15).mono (fun b59 kfb15 v64 F60 H61 g62 r63 => ?_) (fun _ z => z)⟩
      have eF60 := g62.s
      have gF60 := gF53.trans (g62.weak (by simp))
      replace r38 := r38.up g62.f
      replace r50 := r50.up g62.f
      replace w58 := w58.keep g62
      refine ⟨_, rfl, _, rfl, b59, b15.1, r63.dp eF60, r38.dp eF60, _, rfl, ?_⟩
      refine cs kfb15 (fun _ kfb15 => ?_) (fun _ kfb15 => ?_)
      · refine ⟨_, rfl, ?_⟩
        obtain ⟨p66, xs67, rfl, s68, a69⟩ := dp_lst r38
        refine ⟨_, rfl, ⟨_, (sq_of (eF60 _ _ s68))⟩, ?_⟩
        obtain ⟨h89, kfb15⟩ := post_guard kfb15
        refine lc_fil (K := K) (M := []) (wlk_list eF60 s68 a69) (e2 PyData.int PyData.int) kfb15 eF60 h89 (fun _ _ => by simp) (fun x72 v87 F80 H81 F82 H83 g84 g85 r86 Q' k70 => ?_) (fun _ z => z) (fun b71 v73 F74 H75 g76 r77 kfb15 => ?_) gm_name
        · have g90 := Gm.refl (M := []) g84.s
          replace r38 := r38.up g84.f
          replace r50 := r50.up g84.f
          replace w58 := w58.keep g84
          replace r63 := r63.up g84.f
          replace s68 := g84.f _ _ s68
          replace a69 := a69.up g84.f
          replace r38 := r38.up g85.f
          replace r50 := r50.up g85.f
          replace w58 := w58.keep g85
          replace r63 := r63.up g85.f
          replace s68 := g85.f _ _ s68
          replace a69 := a69.up g85.f
          have eF82 := g85.s
          have gF82 := g90.trans (g85.weak (by simp))
          refine ⟨rfl, _, rfl, _, rfl, ?_⟩
          refine ⟨F82, _, x72, _, b59, rfl, eF82, r86, r63, (post_bd k70).mono (fun b91 k70 v96 F92 H93 g94 r95 => ?_) (fun _ z => z)⟩
          have eF92 := g94.s
          have gF92 := gF82.trans (g94.weak (by simp))
          replace r38 := r38.up g94.f
          replace r50 := r50.up g94.f
          replace w58 := w58.keep g94
          replace r63 := r63.up g94.f
          replace s68 := g94.f _ _ s68
          replace a69 := a69.up g94.f
          replace r86 := r86.up g94.f
          subst r95
          refine ⟨_, rfl, ?_⟩
          refine cs k70 (fun _ k70 => ?_) (fun _ k70 => ?_)
          · refine ⟨_, rfl, ?_⟩
            exact k70.h _ _ _ gF92 ⟨_, rfl, r86⟩
          · exact k70.h _ _ _ gF92 rfl
        have eF74 := g76.s
        have gF74 := gF60.trans (g76.weak (by simp))
        replace r38 := r38.up g76.f
        replace r50 := r50.up g76.f
        replace w58 := w58.keep g76
        replace r63 := r63.up g76.f
        replace s68 := g76.f _ _ s68
        replace a69 := a69.up g76.f
        obtain ⟨p99, xs100, rfl, s101, a102⟩ := dp_lst r77
        refine ⟨_, _, _, rfl, .inl (sq_of (eF74 _ _ s101)), len_all a102, ?_⟩
        refine ⟨_, rfl, _, rfl, _, rfl, ?_⟩
        refine cut_lst (K := K) (M := []) eF74 s68 a69 fun v107 F103 H104 g105 r106 => ?_
        have eF103 := g105.s
        have gF103 := gF74.trans (g105.weak (by simp))
        replace r38 := r38.up g105.f
        replace r50 := r50.up g105.f
        replace w58 := w58.keep g105
        replace r63 := r63.up g105.f
        replace s68 := g105.f _ _ s68
        replace a69 := a69.up g105.f
        replace r77 := r77.up g105.f
        replace s101 := g105.f _ _ s101
        replace a102 := a102.up g105.f
        refine ⟨_, rfl, ?_⟩
        show _ ∧ _
        refine new_lst (K := K) (M := []) eF103 (.cons r63 .nil) (by show 1 ≤ 100000; decide) fun v112 F108 H109 g110 r111 => ?_
        have eF108 := g110.s
        have gF108 := gF103.trans (g110.weak (by simp))
        replace r38 := r38.up g110.f
        replace r50 := r50.up g110.f
        replace w58 := w58.keep g110
        replace r63 := r63.up g110.f
        replace s68 := g110.f _ _ s68
        replace a69 := a69.up g110.f
        replace r77 := r77.up g110.f
        replace s101 := g110.f _ _ s101
        replace a102 := a102.up g110.f
        replace r106 := r106.up g110.f
        replace r111 : Dq K F108 v112 ((eL (e2 PyData.int PyData.int)) [b59]) := r111
        obtain ⟨p113, xs114, rfl, s115, a116⟩ := dp_lst r106
        obtain ⟨p117, xs118, rfl, s119, a120⟩ := dp_lst r111
        obtain ⟨h122, kfb15⟩ := post_guard kfb15
        refine ⟨_, _, _, _, rfl, rfl, eF108 _ _ s115, eF108 _ _ s119, cat_len a116 a120 h122, new_lstC (K := K) (M := []) (en := (e2 PyData.int PyData.int)) (l := (cutL b15.1 none (some (b71.length : Int)))) (l' := [b59]) eF108 a116 a120 fun v127 F123 H124 g125 r126 => ?_⟩
        have eF123 := g125.s
        have gF123 := gF108.trans (g125.weak (by simp))
        replace r38 := r38.up g125.f
        replace r50 := r50.up g125.f
        replace w58 := w58.keep g125
        replace r63 := r63.up g125.f
        replace s68 := g125.f _ _ s68
        replace a69 := a69.up g125.f
        replace r77 := r77.up g125.f
        replace s101 := g125.f _ _ s101
        replace a102 := a102.up g125.f
        replace r106 := r106.up g125.f
        replace r111 := r111.up g125.f
        replace s115 := g125.f _ _ s115
        replace a116 := a116.up g125.f
        replace s119 := g125.f _ _ s119
        replace a120 := a120.up g125.f
        refine ⟨_, rfl, _, rfl, _, rfl, ?_⟩
        refine cut_lst (K := K) (M := []) eF123 s68 a69 fun v132 F128 H129 g130 r131 => ?_
        have eF128 := g130.s
        have gF128 := gF123.trans (g130.weak (by simp))
        replace r38 := r38.up g130.f
        replace r50 := r50.up g130.f
        replace w58 := w58.keep g130
        replace r63 := r63.up g130.f
        replace s68 := g130.f _ _ s68
        replace a69 := a69.up g130.f
        replace r77 := r77.up g130.f
        replace s101 := g130.f _ _ s101
        replace a102 := a102.up g130.f
        replace r106 := r106.up g130.f
        replace r111 := r111.up g130.f
        replace s115 := g130.f _ _ s115
        replace a116 := a116.up g130.f
        replace s119 := g130.f _ _ s119
        replace a120 := a120.up g130.f
        replace r126 := r126.up g130.f
        obtain ⟨p133, xs134, rfl, s135, a136⟩ := dp_lst r126
        obtain ⟨p137, xs138, rfl, s139, a140⟩ := dp_lst r131
        obtain ⟨h142, kfb15⟩ := post_guard kfb15
        refine ⟨_, _, _, _, rfl, rfl, eF128 _ _ s135, eF128 _ _ s139, cat_len a136 a140 h142, new_lstC (K := K) (M := []) (en := (e2 PyData.int PyData.int)) (l := ((cutL b15.1 none (some (b71.length : Int))) ++ [b59])) (l' := (cutL b15.1 (some (b71.length : Int)) none)) eF128 a136 a140 fun v147 F143 H144 g145 r146 => ?_⟩
        have eF143 := g145.s
        have gF143 := gF128.trans (g145.weak (by simp))
        replace r38 := r38.up g145.f
        replace r50 := r50.up g145.f
        replace w58 := w58.keep g145
        replace r63 := r63.up g145.f
        replace s68 := g145.f _ _ s68
        replace a69 := a69.up g145.f
        replace r77 := r77.up g145.f
        replace s101 := g145.f _ _ s101
        replace a102 := a102.up g145.f
        replace r106 := r106.up g145.f
        replace r111 := r111.up g145.f
        replace s115 := g145.f _ _ s115
        replace a116 := a116.up g145.f
        replace s119 := g145.f _ _ s119
        replace a120 := a120.up g145.f
        replace r126 := r126.up g145.f
        replace r131 := r131.up g145.f
        replace s135 := g145.f _ _ s135
        replace a136 := a136.up g145.f
        replace s139 := g145.f _ _ s139
        replace a140 := a140.up g145.f
        exact kfb15.h _ _ _ gF143 ⟨_, _, _, _, _, rfl, r146, w58⟩
      · exact kfb15.h _ _ _ gF60 ⟨_, _, _, _, _, rfl, r38, w58⟩
    have g148 := gF7.trans (g29.weak (by simp))
    replace r4 := r4.up g29.f
    have eF27 := g29.s
    obtain ⟨c149, u150, u151, u152, u153, rfl, r154, w155⟩ := i30
    refine ⟨_, rfl, ?_⟩
    exact k.h _ _ _ g148 ⟨r154, w155⟩
/-! ### _law_wide -/
abbrev s_law_wide : Stmt := top 47
theorem sc_law_wide : FnScope ["_law_row", "_law_some", "_law_found", "_law_top", "_law_bottom", "_law_by"] ["_law_row", "_law_some"] (defScope s_law_wide) := ⟨rfl, rfl, rfl, by decide +kernel, rfl, by decide +kernel, by decide +kernel⟩
def law_wide (scr : List Int) (st : Rw) (law_some : (List (Int × Int))) : Mm ((List (Int × Int)) × Rw) := (foldM (fun (b12 : ((List (Int × Int)) × Rw)) (x13 : (Int × Int)) => (pickM takenA scr b12.2 [(1 : Int), (2 : Int), (-(1 : Int)), (-(3 : Int))]).bd fun b48 => (mulM x13.1 b48.1).bd fun m55 => (mulM x13.2 b48.1).bd fun m58 => (guardM (b12.1.length < 100000)).bd fun _ => Mm.ok ((b12.1 ++ [(m55, m58)]), b48.2)) ([], st) law_some).bd fun b29 => Mm.ok (b29.1, b29.2)
def sp_law_wide (K : PySem.W.Frag) : Sp := fun vs H Q _ => ∃ (F : Hp) (sc ra : Addr) (scr : List Int) (st : Rw) (v_law_some : V) (law_some : (List (Int × Int))), vs = [.ref ra, v_law_some] ∧ Ex F H ∧ RowAt K sc ra scr F H st ∧ Dq K F v_law_some ((eL (e2 PyData.int PyData.int)) law_some) ∧ Post (law_wide scr st law_some) (fun r => Ret [ra] F H (fun F' H' v => Dq K F' v ((eV (e2 PyData.int PyData.int)) r.1) ∧ RowAt K sc ra scr F' H' r.2) Q) (fun _ => False)
theorem ok_law_wide {P : Program} {w : World} {K : PySem.W.Frag} {mg : Str → Option Value} {base : Heap} {C f : Addr} {fd : FuncData} (B : Bi mg) (FF : FunD K "_law_wide" "_law_wide" (defArgs s_law_wide) (defBody s_law_wide) (defScope s_law_wide) [] [] f fd) (G_law_pick : Kn P w K mg base "_law_pick" 2 ["_law_row", "_law_some"] (spPick takenA K)) : FnOk P w K mg base CX0 3 f fd ["_law_row", "_law_some"] (sp_law_wide K) := by
  refine FF.ok sc_law_wide (fun vs H Q E h => ?_) (fun cdv A outer s H vs Q E hr h => ?_)
  · obtain ⟨F, sc, ra, scr, st, v_law_some, law_some, rfl, _⟩ := h; rfl
  · obtain ⟨F, sc, ra, scr, st, v_law_some, law_some, rfl, e, w, r_law_some, k⟩ := h
    unfold law_wide at k
    have g_ := Gm.refl (M := [ra]) e
    refine ⟨_, PSs.nox (pss_cons (ps_set (i := 2) sc_law_wide.nd rfl (Or.inl rfl) (pe_q (pe_lst (pa_nil)))) (pss_cons (ps_for PassesOwn.never rfl (pi_list (pv 1)) (pg_tup (by rfl) (pgs_cons (pg_name (i := 3) sc_law_wide.nd rfl (Or.inl rfl)) (pgs_cons (pg_name (i := 4) sc_law_wide.nd rfl (Or.inl rfl)) (pgs_nil)))) (pss_cons (ps_set (i := 5) sc_law_wide.nd rfl (Or.inl rfl) (pe_kn G_law_pick (hr.mono (by decide)) (pa_cons (pv 0) (pa_cons (pe_q (pe_lst (pa_cons (pe_int) (pa_cons (pe_int) (pa_cons (pe_un un_neg (pe_int)) (pa_cons (pe_un un_neg (pe_int)) (pa_nil))))))) pa_nil)))) (pss_one (ps_expr (pe_bm PySem.F.plainAttrs_list PySem.F.slot_list_append PySem.F.type_list_append mt_append (pv 2) (pa_cons (pe_q (pe_tup (pa_cons (pe_op op_mulM (pv 3) (pv 5)) (pa_cons (pe_op op_mulM (pv 4) (pv 5)) (pa_nil))))) pa_nil)))))) (pss_one (ps_ret (pe_q (pe_callTy call_tuple_of (by rfl) B.tuple (by decide +kernel) (pa_cons (pv 2) pa_nil))))))), ?_⟩
    show _ ∧ _
    refine new_own (K := K) e .nil (by show 0 ≤ 100000; decide) fun p1 H2 g3 y4 o5 => ?_
    have a6 : DqAll K F [] (List.map (e2 PyData.int PyData.int) []) := .nil
    have np1 := ne_of_none w.1 y4
    have mp1 := np1.symm
    have zp1 := g_.fresh y4
    have eH2 := g3.s
    have gH2 := g_.trans (g3.weak (by simp))
    replace w := w.keep g3
    refine ⟨_, rfl, ?_⟩
    obtain ⟨p8, xs9, rfl, s10, a11⟩ := dp_lst r_law_some
    refine ⟨_, rfl, ⟨_, (sq_of (eH2 _ _ s10))⟩, ?_⟩
    refine for_m (M := [p1, ra]) (F := F) (wlk_list eH2 s10 a11) (fun b12 F' H' σ' => ∃ (u3 : Option V) (u4 : Option V) (u5 : Option V) (xs2 : List V), σ' = [some (V.ref ra), some (V.ref p8), some (V.ref p1), u3, u4, u5] ∧ (H' p1 = some (.lst xs2) ∧ F' p1 = none) ∧ DqAll K F' xs2 (List.map (e2 PyData.int PyData.int) b12.1) ∧ RowAt K sc ra scr F' H' b12.2) k eH2 ⟨_, _, _, _, rfl, o5, a6, w⟩ (fun b12 x13 v21 σ23 F14 H15 F16 H17 g18 i22 g19 r20 nx kfb12 => ?_) (fun b29 σ28 F24 H25 g26 i27 k => ?_)
    · replace r_law_some := r_law_some.up g18.f
      replace s10 := g18.f _ _ s10
      replace a11 := a11.up g18.f
      obtain ⟨u30, u31, u32, xs33, rfl, o34, a35, w36⟩ := i22
      replace r_law_some := r_law_some.up g19.f
      replace s10 := g19.f _ _ s10
      replace a11 := a11.up g19.f
      replace o34 := g19.own (by simp [*]) o34.1 o34.2
      replace a35 := a35.up g19.f
      replace w36 := w36.keep g19
      have eF16 := g19.s
      have gF16 := g18.trans (g19.weak (by simp))
      obtain ⟨p37, x38, x39, rfl, s40, d41, d42⟩ := dp_tup2 r20
      obtain rfl := dp_int d41
      obtain rfl := dp_int d42
      refine ⟨_, _, rfl, ex_t eF16 s40, rfl, _, _, rfl, _, _, rfl, rfl, ?_⟩
      refine ⟨_, rfl, _, rfl, _, rfl, ?_⟩
      show _ ∧ _
      refine new_lst (K := K) (M := []) eF16 (.cons (Dq.int (1 : Int)) (.cons (Dq.int (2 : Int)) (.cons (Dq.int (-(1 : Int))) (.cons (Dq.int (-(3 : Int))) .nil)))) (by show 4 ≤ 100000; decide) fun v47 F43 H44 g45 r46 => ?_
      have eF43 := g45.s
      have gF43 := gF16.trans (g45.weak (by simp))
      replace r_law_some := r_law_some.up g45.f
      replace s10 := g45.f _ _ s10
      replace a11 := a11.up g45.f
      replace o34 := g45.own (by simp [*]) o34.1 o34.2
      replace a35 := a35.up g45.f
      replace w36 := w36.keep g45
      replace r20 := r20.up g45.f
      replace s40 := ex_t g45.f s40
      replace r46 : Dq K F43 v47 ((eL PyData.int) [(1 : Int), (2 : Int), (-(1 : Int)), (-(3 : Int))]) := r46
      refine ⟨F43, sc, ra, scr, b12.2, _, PyData.int, _, [(1 : Int), (2 : Int), (-(1 : Int)), (-(3 : Int))], rfl, eF43, w36, r46, (post_bd kfb12).mono (fun b48 kfb12 v53 F49 H50 g51 ⟨r52, w54⟩ => ?_) (fun _ z => z)⟩
      have eF49 := g51.s
      have gF49 := gF43.trans (g51.weak (by simp))
      replace r_law_some := r_law_some.up g51.f
      replace s10 := g51.f _ _ s10
      replace a11 := a11.up g51.f
      replace o34 := g51.own (by simp [*]) o34.1 o34.2
      replace a35 := a35.up g51.f
      replace r20 := r20.up g51.f
      replace s40 := ex_t g51.f s40
      replace r46 := r46.up g51.f
      obtain rfl := dp_int r52
      refine ⟨_, rfl, .inl ⟨rfl, _, sq_of o34.1⟩, _, rfl, _, rfl, ?_⟩
      obtain ⟨m55, c56, q57, kfb12⟩ := post_mul kfb12
      refine ⟨_, _, _, rfl, rfl, c56, q57, _, rfl, _, rfl, ?_⟩
      obtain ⟨m58, c59, q60, kfb12⟩ := post_mul kfb12
      refine ⟨_, _, _, rfl, rfl, c59, q60, ?_⟩
      show _ ∧ _
      refine new_tup (K := K) (M := []) eF49 (.cons (Dq.int m55) (.cons (Dq.int m58) .nil)) (by show 2 ≤ 100000; decide) fun v65 F61 H62 g63 r64 => ?_
      have eF61 := g63.s
      have gF61 := gF49.trans (g63.weak (by simp))
      replace r_law_some := r_law_some.up g63.f
      replace s10 := g63.f _ _ s10
      replace a11 := a11.up g63.f
      replace o34 := g63.own (by simp [*]) o34.1 o34.2
      replace a35 := a35.up g63.f
      replace r20 := r20.up g63.f
      replace s40 := ex_t g63.f s40
      replace r46 := r46.up g63.f
      replace w54 := w54.keep g63
      replace r64 : Dq K F61 v65 ((e2 PyData.int PyData.int) (m55, m58)) := r64
      obtain ⟨h66, kfb12⟩ := post_guard kfb12
      refine ⟨_, _, _, rfl, rfl, o34.1, own_sz a35 h66, ?_⟩
      have g67 := gF61.putOr (o := .lst (xs33 ++ [v65])) (.inl (by simp)) o34.1 o34.2
      replace w54 := w54.put np1 (o := .lst (xs33 ++ [v65]))
      replace o34 : (upd H62 p1 (.lst (xs33 ++ [v65]))) p1 = some (.lst (xs33 ++ [v65])) ∧ F61 p1 = none := ⟨upd_same, o34.2⟩
      replace a35 : DqAll K F61 (xs33 ++ [v65]) (List.map (e2 PyData.int PyData.int) (b12.1 ++ [(m55, m58)])) := by rw [List.map_append]; exact a35.app (.cons r64 .nil)
      have e68 := g67.s
      exact kfb12.h _ _ _ g67 ⟨_, _, _, _, rfl, o34, a35, w54⟩
    have hy70 : ∀ q ∈ [p1], q ∈ [ra] ∨ H q = none := by intro q hq; simp only [List.mem_cons, List.not_mem_nil, or_false] at hq; rcases hq with rfl; exact (.inr zp1)
    have g69 := Gm.outs [p1] hy70 gH2 (g26.weak (by simp))
    replace r_law_some := r_law_some.up g26.f
    replace s10 := g26.f _ _ s10
    replace a11 := a11.up g26.f
    have eF24 := g26.s
    obtain ⟨u71, u72, u73, xs74, rfl, o75, a76, w77⟩ := i27
    refine ⟨_, rfl, ?_⟩
    refine to_VO (K := K) (M := []) eF24 o75.1 a76 (en := (e2 PyData.int PyData.int)) (l := b29.1) fun v82 F78 H79 g80 r81 => ?_
    have eF78 := g80.s
    have gF78 := g69.trans (g80.weak (by simp))
    replace r_law_some := r_law_some.up g80.f
    replace s10 := g80.f _ _ s10
    replace a11 := a11.up g80.f
    replace o75 := g80.own (by simp [*]) o75.1 o75.2
    replace a76 := a76.up g80.f
    replace w77 := w77.keep g80
    exact k.h _ _ _ gF78 ⟨r81, w77⟩
/-! ### _law_root_product -/
abbrev s_law_root_product : Stmt := top 48
theorem sc_law_root_product : FnScope ["_law_places_here", "_law_found", "_law_place", "_law_longer", "_law_k"] ["_law_places_here"] (defScope s_law_root_product) := ⟨rfl, rfl, rfl, by decide +kernel, rfl, by decide +kernel, by decide +kernel⟩
def law_root_product (law_places_here : (List (Int × Int))) : Mm (List (Int × Int)) := (foldM (fun (b15 : (List (Int × Int))) (x16 : (Int × Int)) => (guardM ([((0 : Int), (1 : Int))].length + b15.length ≤ 100000)).bd fun _ => (rangeM (b15.length : Int)).bd fun l64 => (foldM (fun (b65 : (List (Int × Int))) (x66 : Int) => (getM b65 x66).bd fun i87 => (getM b15 x66).bd fun i92 => (law_mul (x16) (i92)).bd fun b97 => (law_neg (b97)).bd fun b104 => (law_add (i87) (b104)).bd fun b111 => (setM b65 x66 b111).bd fun m118 => Mm.ok m118) ([((0 : Int), (1 : Int))] ++ b15) (rangeL 0 (b15.length : Int).toNat)).bd fun b82 => Mm.ok b82) [((1 : Int), (1 : Int))] law_places_here).bd fun b32 => Mm.ok b32
def sp_law_root_product (K : PySem.W.Frag) : Sp := fun vs H Q _ => ∃ (F : Hp) (v_law_places_here : V) (law_places_here : (List (Int × Int))), vs = [v_law_places_here] ∧ Ex F H ∧ Dq K F v_law_places_here ((eL (e2 PyData.int PyData.int)) law_places_here) ∧ Post (law_root_product law_places_here) (fun r => Ret [] F H (fun F' _ v => Dq K F' v ((eL (e2 PyData.int PyData.int)) r)) Q) (fun _ => False)
theorem ok_law_root_product {P : Program} {w : World} {K : PySem.W.Frag} {mg : Str → Option Value} {base : Heap} {C f : Addr} {fd : FuncData} (B : Bi mg) (FF : FunD K "_law_root_product" "_law_root_product" (defArgs s_law_root_product) (defBody s_law_root_product) (defScope s_law_root_product) [] [] f fd) (G_law_add : Kn P w K mg base "_law_add" 2 ["_law_one", "_law_other"] (sp_law_add K)) (G_law_neg : Kn P w K mg base "_law_neg" 1 ["_law_one"] (sp_law_neg K)) (G_law_mul : Kn P w K mg base "_law_mul" 2 ["_law_one", "_law_other"] (sp_law_mul K)) : FnOk P w K mg base CX0 3 f fd ["_law_places_here"] (sp_law_root_product K) := by
  refine FF.ok sc_law_root_product (fun vs H Q E h => ?_) (fun cdv A outer s H vs Q E hr h => ?_)
  · obtain ⟨F, v_law_places_here, law_places_here, rfl, _⟩ := h; rfl
  · obtain ⟨F, v_law_places_here, law_places_here, rfl, e, r_law_places_here, k⟩ := h
    unfold law_root_product at k
    have g_ := Gm.refl (M := []) e
    refine ⟨_, PSs.nox (pss_cons (ps_set (i := 1) sc_law_root_product.nd rfl (Or.inl rfl) (pe_q (pe_lst (pa_cons (pe_q (pe_tup (pa_cons (pe_int) (pa_cons (pe_int) (pa_nil))))) (pa_nil))))) (pss_cons (ps_for PassesOwn.never rfl (pi_list (pv 0)) (pg_name (i := 2) sc_law_root_product.nd rfl (Or.inl rfl)) (pss_cons (ps_set (i := 3) sc_law_root_product.nd rfl (Or.inl rfl) (pe_q (pe_op op_cat (pe_q (pe_lst (pa_cons (pe_q (pe_tup (pa_cons (pe_int) (pa_cons (pe_int) (pa_nil))))) (pa_nil)))) (pv 1)))) (pss_cons (ps_for PassesOwn.never rfl (pi_range1 rfl B.range (pa_cons (pe_callB call_lenM (by rfl) B.len (by decide +kernel) (pa_cons (pv 1) pa_nil)) (pa_nil))) (pg_name (i := 4) sc_law_root_product.nd rfl (Or.inl rfl)) (pss_one (ps_asg (pe_kn G_law_add (hr.mono (by decide)) (pa_cons (pe_ix (r := rIxL K) ix_list (pv 3) (pv 4) (fun _ _ => rfl)) (pa_cons (pe_kn G_law_neg (hr.mono (by decide)) (pa_cons (pe_kn G_law_mul (hr.mono (by decide)) (pa_cons (pv 2) (pa_cons (pe_ix (r := rIxL K) ix_list (pv 1) (pv 4) (fun _ _ => rfl)) (pa_nil)))) (pa_nil))) (pa_nil)))) (pg_sub (pv 3) (pv 4) set_list)))) (pss_one (ps_set (i := 1) sc_law_root_product.nd rfl (Or.inl rfl) (pv 3)))))) (pss_one (ps_ret (pv 1))))), ?_⟩
    show _ ∧ _
    refine new_tup (K := K) (M := []) e (.cons (Dq.int (1 : Int)) (.cons (Dq.int (1 : Int)) .nil)) (by show 2 ≤ 100000; decide) fun v5 F1 H2 g3 r4 => ?_
    have eF1 := g3.s
    have gF1 := g_.trans (g3.weak (by simp))
    replace r_law_places_here := r_law_places_here.up g3.f
    replace r4 : Dq K F1 v5 ((e2 PyData.int PyData.int) ((1 : Int), (1 : Int))) := r4
    show _ ∧ _
    refine new_lst (K := K) (M := []) eF1 (.cons r4 .nil) (by show 1 ≤ 100000; decide) fun v10 F6 H7 g8 r9 => ?_
    have eF6 := g8.s
    have gF6 := gF1.trans (g8.weak (by simp))
    replace r_law_places_here := r_law_places_here.up g8.f
    replace r4 := r4.up g8.f
    replace r9 : Dq K F6 v10 ((eL (e2 PyData.int PyData.int)) [((1 : Int), (1 : Int))]) := r9
    refine ⟨_, rfl, ?_⟩
    obtain ⟨p11, xs12, rfl, s13, a14⟩ := dp_lst r_law_places_here
    refine ⟨_, rfl, ⟨_, (sq_of (eF6 _ _ s13))⟩, ?_⟩
    refine for_m (M := []) (F := F6) (wlk_list eF6 s13 a14) (fun b15 F' H' σ' => ∃ (c1 : V) (u2 : Option V) (u3 : Option V) (u4 : Option V), σ' = [some (V.ref p11), some c1, u2, u3, u4] ∧ Dq K F' c1 ((eL (e2 PyData.int PyData.int)) b15)) k eF6 ⟨_, _, _, _, rfl, r9⟩ (fun b15 x16 v24 σ26 F17 H18 F19 H20 g21 i25 g22 r23 nx kfb15 => ?_) (fun b32 σ31 F27 H28 g29 i30 k => ?_)
    · replace r_law_places_here := r_law_places_here.up g21.f
      replace r4 := r4.up g21.f
      replace r9 := r9.up g21.f
      replace s13 := g21.f _ _ s13
      replace a14 := a14.up g21.f
      obtain ⟨c33, u34, u35, u36, rfl, r37⟩ := i25
      replace r_law_places_here := r_law_places_here.up g22.f
      replace r4 := r4.up g22.f
      replace s13 := g22.f _ _ s13
      replace a14 := a14.up g22.f
      replace r37 := r37.up g22.f
      have eF19 := g22.s
      have gF19 := g21.trans (g22.weak (by simp))
      show _ ∧ _
      refine new_tup (K := K) (M := []) eF19 (.cons (Dq.int (0 : Int)) (.cons (Dq.int (1 : Int)) .nil)) (by show 2 ≤ 100000; decide) fun v42 F38 H39 g40 r41 => ?_
      have eF38 := g40.s
      have gF38 := gF19.trans (g40.weak (by simp))
      replace r_law_places_here := r_law_places_here.up g40.f
      replace r4 := r4.up g40.f
      replace s13 := g40.f _ _ s13
      replace a14 := a14.up g40.f
      replace r37 := r37.up g40.f
      replace r23 := r23.up g40.f
      replace r41 : Dq K F38 v42 ((e2 PyData.int PyData.int) ((0 : Int), (1 : Int))) := r41
      show _ ∧ _
      refine new_lst (K := K) (M := []) eF38 (.cons r41 .nil) (by show 1 ≤ 100000; decide) fun v47 F43 H44 g45 r46 => ?_
      have eF43 := g45.s
      have gF43 := gF38.trans (g45.weak (by simp))
      replace r_law_places_here := r_law_places_here.up g45.f
      replace r4 := r4.up g45.f
      replace s13 := g45.f _ _ s13
      replace a14 := a14.up g45.f
      replace r37 := r37.up g45.f
      replace r23 := r23.up g45.f
      replace r41 := r41.up g45.f
      replace r46 : Dq K F43 v47 ((eL (e2 PyData.int PyData.int)) [((0 : Int), (1 : Int))]) := r46
      refine ⟨_, rfl, ?_⟩
      obtain ⟨p48, xs49, rfl, s50, a51⟩ := dp_lst r46
      obtain ⟨p52, xs53, rfl, s54, a55⟩ := dp_lst r37
      obtain ⟨h56, kfb15⟩ := post_guard kfb15
      refine ⟨_, _, _, _, rfl, rfl, (eF43 _ _ s50), (eF43 _ _ s54), cat_len a51 a55 h56, own_of eF43 fun p57 H58 g59 y60 o61 => ?_⟩
      have a62 : DqAll K F43 (xs49 ++ xs53) (List.map (e2 PyData.int PyData.int) ([((0 : Int), (1 : Int))] ++ b15)) := by rw [List.map_append]; exact a51.app a55
      have zp57 := gF43.fresh y60
      have eH58 := g59.s
      have gH58 := gF43.trans (g59.weak (by simp))
      refine ⟨_, rfl, ?_⟩
      refine ⟨_, _, _, rfl, .inl (sq_of (eH58 _ _ s54)), len_all a55, ?_⟩
      obtain ⟨h63, kfb15⟩ := post_range kfb15
      refine ⟨_, rfl, h63.1, h63.2, ?_⟩
      refine for_m (M := [p57]) (F := F43) wlk_range (fun b65 F' H' σ' => ∃ (u4 : Option V) (xs3 : List V), σ' = [some (V.ref p11), some (V.ref p52), some v24, some (V.ref p57), u4] ∧ (H' p57 = some (.lst xs3) ∧ F' p57 = none) ∧ DqAll K F' xs3 (List.map (e2 PyData.int PyData.int) b65)) kfb15 eH58 ⟨_, _, rfl, o61, a62⟩ (fun b65 x66 v74 σ76 F67 H68 F69 H70 g71 i75 g72 r73 nx kfb15fb65 => ?_) (fun b82 σ81 F77 H78 g79 i80 kfb15 => ?_)
      · replace r_law_places_here := r_law_places_here.up g71.f
        replace r4 := r4.up g71.f
        replace s13 := g71.f _ _ s13
        replace a14 := a14.up g71.f
        replace r37 := r37.up g71.f
        replace r23 := r23.up g71.f
        replace r41 := r41.up g71.f
        replace r46 := r46.up g71.f
        replace s50 := g71.f _ _ s50
        replace a51 := a51.up g71.f
        replace s54 := g71.f _ _ s54
        replace a55 := a55.up g71.f
        obtain ⟨u83, xs84, rfl, o85, a86⟩ := i75
        replace r_law_places_here := r_law_places_here.up g72.f
        replace r4 := r4.up g72.f
        replace s13 := g72.f _ _ s13
        replace a14 := a14.up g72.f
        replace r37 := r37.up g72.f
        replace r23 := r23.up g72.f
        replace r41 := r41.up g72.f
        replace r46 := r46.up g72.f
        replace s50 := g72.f _ _ s50
        replace a51 := a51.up g72.f
        replace s54 := g72.f _ _ s54
        replace a55 := a55.up g72.f
        replace o85 := g72.own (by simp [*]) o85.1 o85.2
        replace a86 := a86.up g72.f
        have eF69 := g72.s
        have gF69 := g71.trans (g72.weak (by simp))
        subst r73
        refine ⟨_, rfl, _, rfl, ?_⟩
        obtain ⟨i87, h88, kfb15fb65⟩ := post_get kfb15fb65
        obtain ⟨v89, h90, r91⟩ := dq_at a86 h88
        refine ⟨_, _, _, _, rfl, rfl, (sq_of o85.1), h90, ?_⟩
        refine ⟨_, rfl, _, rfl, _, rfl, ?_⟩
        obtain ⟨i92, h93, kfb15fb65⟩ := post_get kfb15fb65
        obtain ⟨v94, h95, r96⟩ := dq_at a55 h93
        refine ⟨_, _, _, _, rfl, rfl, (sq_of (eF69 _ _ s54)), h95, ?_⟩
        refine ⟨F69, _, x16, _, i92, rfl, eF69, r23, r96, (post_bd kfb15fb65).mono (fun b97 kfb15fb65 v102 F98 H99 g100 r101 => ?_) (fun _ z => z)⟩
        have eF98 := g100.s
        have gF98 := gF69.trans (g100.weak (by simp))
        replace r_law_places_here := r_law_places_here.up g100.f
        replace r4 := r4.up g100.f
        replace s13 := g100.f _ _ s13
        replace a14 := a14.up g100.f
        replace r37 := r37.up g100.f
        replace r23 := r23.up g100.f
        replace r41 := r41.up g100.f
        replace r46 := r46.up g100.f
        replace s50 := g100.f _ _ s50
        replace a51 := a51.up g100.f
        replace s54 := g100.f _ _ s54
        replace a55 := a55.up g100.f
        replace o85 := g100.own (by simp [*]) o85.1 o85.2
        replace a86 := a86.up g100.f
        replace r91 := r91.up g100.f
        replace r96 := r96.up g100.f
        refine ⟨F98, _, b97, rfl, eF98, r101, (post_bd kfb15fb65).mono (fun b104 kfb15fb65 v109 F105 H106 g107 r108 => ?_) (fun _ z => z)⟩
        have eF105 := g107.s
        have gF105 := gF98.trans (g107.weak (by simp))
        replace r_law_places_here := r_law_places_here.up g107.f
        replace r4 := r4.up g107.f
        replace s13 := g107.f _ _ s13
        replace a14 := a14.up g107.f
        replace r37 := r37.up g107.f
        replace r23 := r23.up g107.f
        replace r41 := r41.up g107.f
        replace r46 := r46.up g107.f
        replace s50 := g107.f _ _ s50
        replace a51 := a51.up g107.f
        replace s54 := g107.f _ _ s54
        replace a55 := a55.up g107.f
        replace o85 := g107.own (by simp [*]) o85.1 o85.2
        replace a86 := a86.up g107.f
        replace r91 := r91.up g107.f
        replace r96 := r96.up g107.f
        replace r101 := r101.up g107.f
        refine ⟨F105, _, i87, _, b104, rfl, eF105, r91, r108, (post_bd kfb15fb65).mono (fun b111 kfb15fb65 v116 F112 H113 g114 r115 => ?_) (fun _ z => z)⟩
        have eF112 := g114.s
        have gF112 := gF105.trans (g114.weak (by simp))
        replace r_law_places_here := r_law_places_here.up g114.f
        replace r4 := r4.up g114.f
        replace s13 := g114.f _ _ s13
        replace a14 := a14.up g114.f
        replace r37 := r37.up g114.f
        replace r23 := r23.up g114.f
        replace r41 := r41.up g114.f
        replace r46 := r46.up g114.f
        replace s50 := g114.f _ _ s50
        replace a51 := a51.up g114.f
        replace s54 := g114.f _ _ s54
        replace a55 := a55.up g114.f
        replace o85 := g114.own (by simp [*]) o85.1 o85.2
        replace a86 := a86.up g114.f
        replace r91 := r91.up g114.f
        replace r96 := r96.up g114.f
        replace r101 := r101.up g114.f
        replace r108 := r108.up g114.f
        refine ⟨_, rfl, _, rfl, ?_⟩
        obtain ⟨m118, j119, h120, h121, kfb15fb65⟩ := post_set kfb15fb65
        refine ⟨_, _, _, _, rfl, rfl, o85.1, all_ix a86 h120, ?_⟩
        have g122 := gF112.putOr (o := (.lst (List.set xs84 j119 v116))) (.inl (by simp)) o85.1 o85.2
        replace o85 : (upd H113 p57 (.lst (List.set xs84 j119 v116))) p57 = some (.lst (List.set xs84 j119 v116)) ∧ F112 p57 = none := ⟨upd_same, o85.2⟩
        replace a86 : DqAll K F112 (List.set xs84 j119 v116) (List.map (e2 PyData.int PyData.int) m118) := all_set a86 r115 h121
        have e123 := g122.s
        exact kfb15fb65.h _ _ _ g122 ⟨_, _, rfl, o85, a86⟩
      have hy125 : ∀ q ∈ [p57], q ∈ [] ∨ H7 q = none := by intro q hq; simp only [List.mem_cons, List.not_mem_nil, or_false] at hq; rcases hq with rfl; exact (.inr zp57)
      have g124 := Gm.outs [p57] hy125 gH58 (g79.weak (by simp))
      replace r_law_places_here := r_law_places_here.up g79.f
      replace r4 := r4.up g79.f
      replace s13 := g79.f _ _ s13
      replace a14 := a14.up g79.f
      replace r37 := r37.up g79.f
      replace r23 := r23.up g79.f
      replace r41 := r41.up g79.f
      replace r46 := r46.up g79.f
      replace s50 := g79.f _ _ s50
      replace a51 := a51.up g79.f
      replace s54 := g79.f _ _ s54
      replace a55 := a55.up g79.f
      have eF77 := g79.s
      obtain ⟨u126, xs127, rfl, o128, a129⟩ := i80
      refine ⟨_, rfl, ?_⟩
      have g130 := g124.fix o128.1 o128.2 zp57
      have ur131 : Ex F77 (upd F77 p57 (.lst xs127)) := Ex.new o128.2
      have r131 : Dq K (upd F77 p57 (.lst xs127)) (.ref p57) (eL (e2 PyData.int PyData.int) b82) := .lst upd_same (a129.up ur131)
      have s133 : (upd F77 p57 (.lst xs127)) p57 = some (.lst xs127) := upd_same
      have a134 := a129.up ur131
      replace r_law_places_here := r_law_places_here.up ur131
      replace r4 := r4.up ur131
      replace s13 := ur131 _ _ s13
      replace a14 := a14.up ur131
      replace r37 := r37.up ur131
      replace r23 := r23.up ur131
      replace r41 := r41.up ur131
      replace r46 := r46.up ur131
      replace s50 := ur131 _ _ s50
      replace a51 := a51.up ur131
      replace s54 := ur131 _ _ s54
      replace a55 := a55.up ur131
      have e135 := g130.s
      exact kfb15.h _ _ _ g130 ⟨_, _, _, _, rfl, r131⟩
    have g136 := gF6.trans (g29.weak (by simp))
    replace r_law_places_here := r_law_places_here.up g29.f
    replace r4 := r4.up g29.f
    replace r9 := r9.up g29.f
    replace s13 := g29.f _ _ s13
    replace a14 := a14.up g29.f
    have eF27 := g29.s
    obtain ⟨c137, u138, u139, u140, rfl, r141⟩ := i30
    refine ⟨_, rfl, ?_⟩
    exact k.h _ _ _ g136 r141
/-! ### _law_through -/
abbrev s_law_through : Stmt := top 49
theorem sc_law_through : FnScope ["_law_places_here", "_law_marks_of", "_law_found", "_law_k", "_law_some", "_law_below", "_law_other", "_law_part", "_law_turn", "_law_j"] ["_law_places_here", "_law_marks_of"] (defScope s_law_through) := ⟨rfl, rfl, rfl, by decide +kernel, rfl, by decide +kernel, by decide +kernel⟩
def law_through (law_places_here : (List (Int × Int))) (law_marks_of : (List (Int × Int))) : Mm (List (Int × Int)) := (repM [((0 : Int), (1 : Int))] (law_places_here.length : Int)).bd fun m19 => (rangeM (law_places_here.length : Int)).bd fun l29 => (foldM (fun (b30 : (List (Int × Int))) (x31 : Int) => (guardM ((cutL law_places_here none (some x31)).length + (cutL law_places_here (some (x31 + (1 : Int))) none).length ≤ 100000)).bd fun _ => (law_root_product (((cutL law_places_here none (some x31)) ++ (cutL law_places_here (some (x31 + (1 : Int))) none)))).bd fun b84 => (guardM ((cutL law_places_here none (some x31)).length + (cutL law_places_here (some (x31 + (1 : Int))) none).length ≤ 100000)).bd fun _ => (foldM (fun (b130 : (Int × Int)) (x131 : (Int × Int)) => (getM law_places_here x31).bd fun i154 => (law_neg (x131)).bd fun b159 => (law_add (i154) (b159)).bd fun b166 => (law_mul (b130) (b166)).bd fun b173 => Mm.ok b173) ((1 : Int), (1 : Int)) ((cutL law_places_here none (some x31)) ++ (cutL law_places_here (some (x31 + (1 : Int))) none))).bd fun b147 => (getM law_marks_of x31).bd fun i191 => (law_over (i191) (b147)).bd fun b196 => (rangeM (b30.length : Int)).bd fun l204 => (guardM ((rangeL 0 (b30.length : Int).toNat).length ≤ 50000)).bd fun _ => (mapMm (fun (x207 : Int) => (getM b30 x207).bd fun i226 => (getM b84 x207).bd fun i235 => (law_mul (b196) (i235)).bd fun b240 => (law_add (i226) (b240)).bd fun b247 => Mm.ok b247) (rangeL 0 (b30.length : Int).toNat)).bd fun b206 => Mm.ok b206) m19 (rangeL 0 (law_places_here.length : Int).toNat)).bd fun b47 => (rangeM (law_places_here.length : Int)).bd fun l274 => (foldM (fun (b275 : (List (Int × Int))) (x276 : Int) => (cond (!(decide (b275 = []))) ((getM b275 (-(1 : Int))).bd fun i312 => Mm.ok (decide (i312.1 = (0 : Int)))) (Mm.ok false)).bd fun b308 => cond b308 ((popN b275).bd fun _ => Mm.ok (List.dropLast b275)) (Mm.ok b275)) b47 (rangeL 0 (law_places_here.length : Int).toNat)).bd fun b292 => Mm.ok b292
def sp_law_through (K : PySem.W.Frag) : Sp := fun vs H Q _ => ∃ (F : Hp) (v_law_places_here : V) (law_places_here : (List (Int × Int))) (v_law_marks_of : V) (law_marks_of : (List (Int × Int))), vs = [v_law_places_here, v_law_marks_of] ∧ Ex F H ∧ Dq K F v_law_places_here ((eL (e2 PyData.int PyData.int)) law_places_here) ∧ Dq K F v_law_marks_of ((eL (e2 PyData.int PyData.int)) law_marks_of) ∧ Post (law_through law_places_here law_marks_of) (fun r => Ret [] F H (fun F' _ v => Dq K F' v ((eL (e2 PyData.int PyData.int)) r)) Q) (fun _ => False)
theorem ok_law_through {P : Program} {w : World} {K : PySem.W.Frag} {mg : Str → Option Value} {base : Heap} {C f : Addr} {fd : FuncData} (B : Bi mg) (FF : FunD K "_law_through" "_law_through" (defArgs s_law_through) (defBody s_law_through) (defScope s_law_through) [] [] f fd) (G_law_root_product : Kn P w K mg base "_law_root_product" 3 ["_law_places_here"] (sp_law_root_product K)) (G_law_mul : Kn P w K mg base "_law_mul" 2 ["_law_one", "_law_other"] (sp_law_mul K)) (G_law_add : Kn P w K mg base "_law_add" 2 ["_law_one", "_law_other"] (sp_law_add K)) (G_law_neg : Kn P w K mg base "_law_neg" 1 ["_law_one"] (sp_law_neg K)) (G_law_over : Kn P w K mg base "_law_over" 2 ["_law_one", "_law_other"] (sp_law_over K)) : FnOk P w K mg base CX0 4 f fd ["_law_places_here", "_law_marks_of"] (sp_law_through K) := by
  refine FF.ok sc_law_through (fun vs H Q E h => ?_) (fun cdv A outer s H vs Q E hr h => ?_)
  · obtain ⟨F, v_law_places_here, law_places_here, v_law_marks_of, law_marks_of, rfl, _⟩ := h; rfl
  · obtain ⟨F, v_law_places_here, law_places_here, v_law_marks_of, law_marks_of, rfl, e, r_law_places_here, r_law_marks_of, k⟩ := h
    unfold law_through at k
    have g_ := Gm.refl (M := []) e
    refine ⟨_, PSs.nox (pss_cons (ps_set (i := 2) sc_law_through.nd rfl (Or.inr rfl) (pe_q (pe_op op_rep (pe_q (pe_lst (pa_cons (pe_q (pe_tup (pa_cons (pe_int) (pa_cons (pe_int) (pa_nil))))) (pa_nil)))) (pe_callB call_lenM (by rfl) B.len (by decide +kernel) (pa_cons (pv 0) pa_nil))))) (pss_cons (ps_for PassesOwn.never rfl (pi_range1 rfl B.range (pa_cons (pe_callB call_lenM (by rfl) B.len (by decide +kernel) (pa_cons (pv 0) pa_nil)) (pa_nil))) (pg_name (i := 3) sc_law_through.nd rfl (Or.inl rfl)) (pss_cons (ps_asg (pe_q (pe_tup (pa_cons (pe_kn G_law_root_product (hr.mono (by decide)) (pa_cons (pe_q (pe_op op_cat (pe_q (pe_slice sl_list (pv 0) po_none (po_some (pv 3)))) (pe_q (pe_slice sl_list (pv 0) (po_some (pe_op op_add (pv 3) (pe_int))) po_none)))) (pa_nil))) (pa_cons (pe_q (pe_tup (pa_cons (pe_int) (pa_cons (pe_int) (pa_nil))))) (pa_nil))))) (pg_tup (by rfl) (pgs_cons (pg_name (i := 4) sc_law_through.nd rfl (Or.inr rfl)) (pgs_cons (pg_name (i := 5) sc_law_through.nd rfl (Or.inl rfl)) (pgs_nil))))) (pss_cons (ps_for PassesOwn.never rfl (pi_list (pe_q (pe_op op_cat (pe_q (pe_slice sl_list (pv 0) po_none (po_some (pv 3)))) (pe_q (pe_slice sl_list (pv 0) (po_some (pe_op op_add (pv 3) (pe_int))) po_none))))) (pg_name (i := 6) sc_law_through.nd rfl (Or.inl rfl)) (pss_one (ps_set (i := 5) sc_law_through.nd rfl (Or.inl rfl) (pe_kn G_law_mul (hr.mono (by decide)) (pa_cons (pv 5) (pa_cons (pe_kn G_law_add (hr.mono (by decide)) (pa_cons (pe_ix (r := rIxL K) ix_list (pv 0) (pv 3) (fun _ _ => rfl)) (pa_cons (pe_kn G_law_neg (hr.mono (by decide)) (pa_cons (pv 6) (pa_nil))) (pa_nil)))) (pa_nil))))))) (pss_cons (ps_set (i := 7) sc_law_through.nd rfl (Or.inr rfl) (pe_kn G_law_over (hr.mono (by decide)) (pa_cons (pe_ix (r := rIxL K) ix_list (pv 1) (pv 3) (fun _ _ => rfl)) (pa_cons (pv 5) (pa_nil))))) (pss_one (ps_set (i := 2) sc_law_through.nd rfl (Or.inr rfl) (pe_q (pe_lc (own := [("_law_j", 9)]) (g := gName 9) rfl sc_law_through.nd (pi_range1 rfl B.range (pa_cons (pe_callB call_lenM (by rfl) B.len (by decide +kernel) (pa_cons (pv 2) pa_nil)) (pa_nil))) (blkOk_by (N := ["_law_places_here", "_law_marks_of", "_law_found", "_law_k", "_law_some", "_law_below", "_law_other", "_law_part", "_law_turn", "_law_j"]) (sc := defScope s_law_through) (by decide +kernel)) (fun _ _ _ _ _ => pg_name (i := 9) sc_law_through.nd rfl (Or.inl rfl)) (fun _ _ _ _ _ => pts_nil) (fun _ _ _ _ _ => pe_kn G_law_add (hr.mono (by decide)) (pa_cons (pe_ix (r := rIxL K) ix_list (pv 2) (pv 9) (fun _ _ => rfl)) (pa_cons (pe_kn G_law_mul (hr.mono (by decide)) (pa_cons (pv 7) (pa_cons (pe_ix (r := rIxL K) ix_list (pv 4) (pv 9) (fun _ _ => rfl)) (pa_nil)))) (pa_nil)))))))))))) (pss_cons (ps_for PassesOwn.never rfl (pi_range1 rfl B.range (pa_cons (pe_callB call_lenM (by rfl) B.len (by decide +kernel) (pa_cons (pv 0) pa_nil)) (pa_nil))) (pg_name (i := 8) sc_law_through.nd rfl (Or.inl rfl)) (pss_one (ps_if (PW.pt (pw_and (pt_cmpR (r := rNeM K (eL (e2 PyData.int PyData.int))) (op_neM (sh_eL (sh_e2 sh_int sh_int)) (units_of hr)) (pv 2) (pe_q (pe_lst (pa_nil))) (nomark _)) (pw_and1 (pt_cmpR op_eq (pe_ix (r := rIxT K) ix_tup (pe_ix (r := rIxL K) ix_list (pv 2) (pe_un un_neg (pe_int)) (fun _ _ => rfl)) (pe_int) (fun _ _ => rfl)) (pe_int) (nomark _))))) (pss_one (ps_expr (pe_bm0 PySem.F.plainAttrs_list PySem.F.slot_list_pop PySem.F.type_list_pop mt_pop (pv 2)))) (pss_nil)))) (pss_one (ps_ret (pv 2)))))), ?_⟩
    show _ ∧ _
    refine new_tup (K := K) (M := []) e (.cons (Dq.int (0 : Int)) (.cons (Dq.int (1 : Int)) .nil)) (by show 2 ≤ 100000; decide) fun v5 F1 H2 g3 r4 => ?_
    have eF1 := g3.s
    have gF1 := g_.trans (g3.weak (by simp))
    replace r_law_places_here := r_law_places_here.up g3.f
    replace r_law_marks_of := r_law_marks_of.up g3.f
    replace r4 : Dq K F1 v5 ((e2 PyData.int PyData.int) ((0 : Int), (1 : Int))) := r4
    show _ ∧ _
    refine new_lst (K := K) (M := []) eF1 (.cons r4 .nil) (by show 1 ≤ 100000; decide) fun v10 F6 H7 g8 r9 => ?_
    have eF6 := g8.s
    have gF6 := gF1.trans (g8.weak (by simp))
    replace r_law_places_here := r_law_places_here.up g8.f
    replace r_law_marks_of := r_law_marks_of.up g8.f
    replace r4 := r4.up g8.f
    replace r9 : Dq K F6 v10 ((eL (e2 PyData.int PyData.int)) [((0 : Int), (1 : Int))]) := r9
    refine ⟨_, rfl, ?_⟩
    obtain ⟨p11, xs12, rfl, s13, a14⟩ := dp_lst r_law_places_here
    refine ⟨_, _, _, rfl, .inl (sq_of (eF6 _ _ s13)), len_all a14, ?_⟩
    obtain ⟨p15, xs16, rfl, s17, a18⟩ := dp_lst r9
    obtain ⟨m19, c20, q21, k⟩ := post_rep k
    refine rep_own (K := K) (en := (e2 PyData.int PyData.int)) eF6 (eF6 _ _ s17) a18 c20 fun p22 H23 g24 y25 o26 => ?_
    have a27 : DqAll K F6 (List.replicate ((law_places_here.length : Int)).toNat xs16).flatten (List.map (e2 PyData.int PyData.int) m19) := all_repM a18 q21
    have zp22 := gF6.fresh y25
    have eH23 := g24.s
    have gH23 := gF6.trans (g24.weak (by simp))
    refine ⟨_, rfl, ?_⟩
    refine ⟨_, _, _, rfl, .inl (sq_of (eH23 _ _ s13)), len_all a14, ?_⟩
    obtain ⟨h28, k⟩ := post_range k
    refine ⟨_, rfl, h28.1, h28.2, ?_⟩
    refine for_m (M := [p22]) (F := F6) wlk_range (fun b30 F' H' σ' => ∃ (q2 : Addr) (u3 : Option V) (u4 : Option V) (u5 : Option V) (u6 : Option V) (u7 : Option V) (u8 : Option V) (u9 : Option V) (xs2 : List V), σ' = [some (V.ref p11), some v_law_marks_of, some (V.ref q2), u3, u4, u5, u6, u7, u8, u9] ∧ (q2 ∈ [p22] ∨ H23 q2 = none) ∧ (H' q2 = some (.lst xs2) ∧ F' q2 = none) ∧ DqAll K F' xs2 (List.map (e2 PyData.int PyData.int) b30)) k eH23 ⟨_, _, _, _, _, _, _, _, _, rfl, .inl (by simp), o26, a27⟩ (fun b30 x31 v39 σ41 F32 H33 F34 H35 g36 i40 g37 r38 nx kfb30 => ?_) (fun b47 σ46 F42 H43 g44 i45 k => ?_)
    · replace r_law_places_here := r_law_places_here.up g36.f
      replace r_law_marks_of := r_law_marks_of.up g36.f
      replace r4 := r4.up g36.f
      replace r9 := r9.up g36.f
      replace s13 := g36.f _ _ s13
      replace a14 := a14.up g36.f
      replace s17 := g36.f _ _ s17
      replace a18 := a18.up g36.f
      obtain ⟨q48, u49, u50, u51, u52, u53, u54, u55, xs56, rfl, yq48, o57, a58⟩ := i40
      replace r_law_places_here := r_law_places_here.up g37.f
      replace r_law_marks_of := r_law_marks_of.up g37.f
      replace r4 := r4.up g37.f
      replace r9 := r9.up g37.f
      replace s13 := g37.f _ _ s13
      replace a14 := a14.up g37.f
      replace s17 := g37.f _ _ s17
      replace a18 := a18.up g37.f
      replace o57 := g37.own (by simp [*]) o57.1 o57.2
      replace a58 := a58.up g37.f
      have eF34 := g37.s
      have gF34 := g36.trans (g37.weak (by simp))
      subst r38
      refine ⟨_, rfl, _, rfl, _, rfl, ?_⟩
      refine cut_lst (K := K) (M := []) eF34 s13 a14 fun v63 F59 H60 g61 r62 => ?_
      have eF59 := g61.s
      have gF59 := gF34.trans (g61.weak (by simp))
      replace r_law_places_here := r_law_places_here.up g61.f
      replace r_law_marks_of := r_law_marks_of.up g61.f
      replace r4 := r4.up g61.f
      replace r9 := r9.up g61.f
      replace s13 := g61.f _ _ s13
      replace a14 := a14.up g61.f
      replace s17 := g61.f _ _ s17
      replace a18 := a18.up g61.f
      replace o57 := g61.own (by simp [*]) o57.1 o57.2
      replace a58 := a58.up g61.f
      refine ⟨_, rfl, _, rfl, _, _, rfl, rfl, _, rfl, ?_⟩
      refine cut_lst (K := K) (M := []) eF59 s13 a14 fun v68 F64 H65 g66 r67 => ?_
      have eF64 := g66.s
      have gF64 := gF59.trans (g66.weak (by simp))
      replace r_law_places_here := r_law_places_here.up g66.f
      replace r_law_marks_of := r_law_marks_of.up g66.f
      replace r4 := r4.up g66.f
      replace r9 := r9.up g66.f
      replace s13 := g66.f _ _ s13
      replace a14 := a14.up g66.f
      replace s17 := g66.f _ _ s17
      replace a18 := a18.up g66.f
      replace o57 := g66.own (by simp [*]) o57.1 o57.2
      replace a58 := a58.up g66.f
      replace r62 := r62.up g66.f
      obtain ⟨p69, xs70, rfl, s71, a72⟩ := dp_lst r62
      obtain ⟨p73, xs74, rfl, s75, a76⟩ := dp_lst r67
      obtain ⟨h78, kfb30⟩ := post_guard kfb30
      refine ⟨_, _, _, _, rfl, rfl, eF64 _ _ s71, eF64 _ _ s75, cat_len a72 a76 h78, new_lstC (K := K) (M := []) (en := (e2 PyData.int PyData.int)) (l := (cutL law_places_here none (some x31))) (l' := (cutL law_places_here (some (x31 + (1 : Int))) none)) eF64 a72 a76 fun v83 F79 H80 g81 r82 => ?_⟩
      have eF79 := g81.s
      have gF79 := gF64.trans (g81.weak (by simp))
      replace r_law_places_here := r_law_places_here.up g81.f
      replace r_law_marks_of := r_law_marks_of.up g81.f
      replace r4 := r4.up g81.f
      replace r9 := r9.up g81.f
      replace s13 := g81.f _ _ s13
      replace a14 := a14.up g81.f
      replace s17 := g81.f _ _ s17
      replace a18 := a18.up g81.f
      replace o57 := g81.own (by simp [*]) o57.1 o57.2
      replace a58 := a58.up g81.f
      replace r62 := r62.up g81.f
      replace r67 := r67.up g81.f
      replace s71 := g81.f _ _ s71
      replace a72 := a72.up g81.f
      replace s75 := g81.f _ _ s75
      replace a76 := a76.up g81.f
      refine ⟨F79, _, ((cutL law_places_here none (some x31)) ++ (cutL law_places_here (some (x31 + (1 : Int))) none)), rfl, eF79, r82, (post_bd kfb30).mono (fun b84 kfb30 v89 F85 H86 g87 r88 => ?_) (fun _ z => z)⟩
      have eF85 := g87.s
      have gF85 := gF79.trans (g87.weak (by simp))
      replace r_law_places_here := r_law_places_here.up g87.f
      replace r_law_marks_of := r_law_marks_of.up g87.f
      replace r4 := r4.up g87.f
      replace r9 := r9.up g87.f
      replace s13 := g87.f _ _ s13
      replace a14 := a14.up g87.f
      replace s17 := g87.f _ _ s17
      replace a18 := a18.up g87.f
      replace o57 := g87.own (by simp [*]) o57.1 o57.2
      replace a58 := a58.up g87.f
      replace r62 := r62.up g87.f
      replace r67 := r67.up g87.f
      replace s71 := g87.f _ _ s71
      replace a72 := a72.up g87.f
      replace s75 := g87.f _ _ s75
      replace a76 := a76.up g87.f
      replace r82 := r82.up g87.f
      show _ ∧ _
      refine new_tup (K := K) (M := []) eF85 (.cons (Dq.int (1 : Int)) (.cons (Dq.int (1 : Int)) .nil)) (by show 2 ≤ 100000; decide) fun v95 F91 H92 g93 r94 => ?_
      have eF91 := g93.s
      have gF91 := gF85.trans (g93.weak (by simp))
      replace r_law_places_here := r_law_places_here.up g93.f
      replace r_law_marks_of := r_law_marks_of.up g93.f
      replace r4 := r4.up g93.f
      replace r9 := r9.up g93.f
      replace s13 := g93.f _ _ s13
      replace a14 := a14.up g93.f
      replace s17 := g93.f _ _ s17
      replace a18 := a18.up g93.f
      replace o57 := g93.own (by simp [*]) o57.1 o57.2
      replace a58 := a58.up g93.f
      replace r62 := r62.up g93.f
      replace r67 := r67.up g93.f
      replace s71 := g93.f _ _ s71
      replace a72 := a72.up g93.f
      replace s75 := g93.f _ _ s75
      replace a76 := a76.up g93.f
      replace r82 := r82.up g93.f
      replace r88 := r88.up g93.f
      replace r94 : Dq K F91 v95 ((e2 PyData.int PyData.int) ((1 : Int), (1 : Int))) := r94
      show _ ∧ _
      refine new_tupR (K := K) (M := []) eF91 (by show 2 ≤ 100000; decide) fun p96 F97 H98 g99 s100 => ?_
      have eF97 := g99.s
      have gF97 := gF91.trans (g99.weak (by simp))
      replace r_law_places_here := r_law_places_here.up g99.f
      replace r_law_marks_of := r_law_marks_of.up g99.f
      replace r4 := r4.up g99.f
      replace r9 := r9.up g99.f
      replace s13 := g99.f _ _ s13
      replace a14 := a14.up g99.f
      replace s17 := g99.f _ _ s17
      replace a18 := a18.up g99.f
      replace o57 := g99.own (by simp [*]) o57.1 o57.2
      replace a58 := a58.up g99.f
      replace r62 := r62.up g99.f
      replace r67 := r67.up g99.f
      replace s71 := g99.f _ _ s71
      replace a72 := a72.up g99.f
      replace s75 := g99.f _ _ s75
      replace a76 := a76.up g99.f
      replace r82 := r82.up g99.f
      replace r88 := r88.up g99.f
      replace r94 := r94.up g99.f
      refine ⟨_, _, rfl, ex_t eF97 s100, rfl, _, _, rfl, _, _, rfl, rfl, ?_⟩
      refine ⟨_, rfl, _, rfl, _, rfl, ?_⟩
      refine cut_lst (K := K) (M := []) eF97 s13 a14 fun v105 F101 H102 g103 r104 => ?_
      have eF101 := g103.s
      have gF101 := gF97.trans (g103.weak (by simp))
      replace r_law_places_here := r_law_places_here.up g103.f
      replace r_law_marks_of := r_law_marks_of.up g103.f
      replace r4 := r4.up g103.f
      replace r9 := r9.up g103.f
      replace s13 := g103.f _ _ s13
      replace a14 := a14.up g103.f
      replace s17 := g103.f _ _ s17
      replace a18 := a18.up g103.f
      replace o57 := g103.own (by simp [*]) o57.1 o57.2
      replace a58 := a58.up g103.f
      replace r62 := r62.up g103.f
      replace r67 := r67.up g103.f
      replace s71 := g103.f _ _ s71
      replace a72 := a72.up g103.f
      replace s75 := g103.f _ _ s75
      replace a76 := a76.up g103.f
      replace r82 := r82.up g103.f
      replace r88 := r88.up g103.f
      replace r94 := r94.up g103.f
      replace s100 := ex_t g103.f s100
      refine ⟨_, rfl, _, rfl, _, _, rfl, rfl, _, rfl, ?_⟩
      refine cut_lst (K := K) (M := []) eF101 s13 a14 fun v110 F106 H107 g108 r109 => ?_
      have eF106 := g108.s
      have gF106 := gF101.trans (g108.weak (by simp))
      replace r_law_places_here := r_law_places_here.up g108.f
      replace r_law_marks_of := r_law_marks_of.up g108.f
      replace r4 := r4.up g108.f
      replace r9 := r9.up g108.f
      replace s13 := g108.f _ _ s13
      replace a14 := a14.up g108.f
      replace s17 := g108.f _ _ s17
      replace a18 := a18.up g108.f
      replace o57 := g108.own (by simp [*]) o57.1 o57.2
      replace a58 := a58.up g108.f
      replace r62 := r62.up g108.f
      replace r67 := r67.up g108.f
      replace s71 := g108.f _ _ s71
      replace a72 := a72.up g108.f
      replace s75 := g108.f _ _ s75
      replace a76 := a76.up g108.f
      replace r82 := r82.up g108.f
      replace r88 := r88.up g108.f
      replace r94 := r94.up g108.f
      replace s100 := ex_t g108.f s100
      replace r104 := r104.up g108.f
      obtain ⟨p111, xs112, rfl, s113, a114⟩ := dp_lst r104
      obtain ⟨p115, xs116, rfl, s117, a118⟩ := dp_lst r109
      obtain ⟨h120, kfb30⟩ := post_guard kfb30
      refine ⟨_, _, _, _, rfl, rfl, eF106 _ _ s113, eF106 _ _ s117, cat_len a114 a118 h120, new_lstC (K := K) (M := []) (en := (e2 PyData.int PyData.int)) (l := (cutL law_places_here none (some x31))) (l' := (cutL law_places_here (some (x31 + (1 : Int))) none)) eF106 a114 a118 fun v125 F121 H122 g123 r124 => ?_⟩
      have eF121 := g123.s
      have gF121 := gF106.trans (g123.weak (by simp))
      replace r_law_places_here := r_law_places_here.up g123.f
      replace r_law_marks_of := r_law_marks_of.up g123.f
      replace r4 := r4.up g123.f
      replace r9 := r9.up g123.f
      replace s13 := g123.f _ _ s13
      replace a14 := a14.up g123.f
      replace s17 := g123.f _ _ s17
      replace a18 := a18.up g123.f
      replace o57 := g123.own (by simp [*]) o57.1 o57.2
      replace a58 := a58.up g123.f
      replace r62 := r62.up g123.f
      replace r67 := r67.up g123.f
      replace s71 := g123.f _ _ s71
      replace a72 := a72.up g123.f
      replace s75 := g123.f _ _ s75
      replace a76 := a76.up g123.f
      replace r82 := r82.up g123.f
      replace r88 := r88.up g123.f
      replace r94 := r94.up g123.f
      replace s100 := ex_t g123.f s100
      replace r104 := r104.up g123.f
      replace r109 := r109.up g123.f
      replace s113 := g123.f _ _ s113
      replace a114 := a114.up g123.f
      replace s117 := g123.f _ _ s117
      replace a118 := a118.up g123.f
      obtain ⟨p126, xs127, rfl, s128, a129⟩ := dp_lst r124
      refine ⟨_, rfl, ⟨_, (sq_of (eF121 _ _ s128))⟩, ?_⟩
      refine for_m (M := []) (F := F121) (wlk_list eF121 s128 a129) (fun b130 F' H' σ' => ∃ (c5 : V) (u6 : Option V) (u7 : Option V) (u8 : Option V) (u9 : Option V), σ' = [some (V.ref p11), some v_law_marks_of, some (V.ref q48), some (V.int x31), some v89, some c5, u6, u7, u8, u9] ∧ Dq K F' c5 ((e2 PyData.int PyData.int) b130)) kfb30 eF121 ⟨_, _, _, _, _, rfl, r94⟩ (fun b130 x131 v139 σ141 F132 H133 F134 H135 g136 i140 g137 r138 nx kfb30fb130 => ?_) (fun b147 σ146 F142 H143 g144 i145 kfb30 => ?_)
      · replace r_law_places_here := r_law_places_here.up g136.f
        replace r_law_marks_of := r_law_marks_of.up g136.f
        replace r4 := r4.up g136.f
        replace r9 := r9.up g136.f
        replace s13 := g136.f _ _ s13
        replace a14 := a14.up g136.f
        replace s17 := g136.f _ _ s17
        replace a18 := a18.up g136.f
        replace o57 := g136.own (by simp [*]) o57.1 o57.2
        replace a58 := a58.up g136.f
        replace r62 := r62.up g136.f
        replace r67 := r67.up g136.f
        replace s71 := g136.f _ _ s71
        replace a72 := a72.up g136.f
        replace s75 := g136.f _ _ s75
        replace a76 := a76.up g136.f
        replace r82 := r82.up g136.f
        replace r88 := r88.up g136.f
        replace r94 := r94.up g136.f
        replace s100 := ex_t g136.f s100
        replace r104 := r104.up g136.f
        replace r109 := r109.up g136.f
        replace s113 := g136.f _ _ s113
        replace a114 := a114.up g136.f
        replace s117 := g136.f _ _ s117
        replace a118 := a118.up g136.f
        replace r124 := r124.up g136.f
        replace s128 := g136.f _ _ s128
        replace a129 := a129.up g136.f
        obtain ⟨c148, u149, u150, u151, u152, rfl, r153⟩ := i140
        replace r_law_places_here := r_law_places_here.up g137.f
        replace r_law_marks_of := r_law_marks_of.up g137.f
        replace r4 := r4.up g137.f
        replace r9 := r9.up g137.f
        replace s13 := g137.f _ _ s13
        replace a14 := a14.up g137.f
        replace s17 := g137.f _ _ s17
        replace a18 := a18.up g137.f
        replace o57 := g137.own (by simp [*]) o57.1 o57.2
        replace a58 := a58.up g137.f
        replace r62 := r62.up g137.f
        replace r67 := r67.up g137.f
        replace s71 := g137.f _ _ s71
        replace a72 := a72.up g137.f
        replace s75 := g137.f _ _ s75
        replace a76 := a76.up g137.f
        replace r82 := r82.up g137.f
        replace r88 := r88.up g137.f
        replace s100 := ex_t g137.f s100
        replace r104 := r104.up g137.f
        replace r109 := r109.up g137.f
        replace s113 := g137.f _ _ s113
        replace a114 := a114.up g137.f
        replace s117 := g137.f _ _ s117
        replace a118 := a118.up g137.f
        replace r124 := r124.up g137.f
        replace s128 := g137.f _ _ s128
        replace a129 := a129.up g137.f
        replace r153 := r153.up g137.f
        have eF134 := g137.s
        have gF134 := g136.trans (g137.weak (by simp))
        refine ⟨_, rfl, _, rfl, _, rfl, ?_⟩
        obtain ⟨i154, h155, kfb30fb130⟩ := post_get kfb30fb130
        obtain ⟨v156, h157, r158⟩ := dq_at a14 h155
        refine ⟨_, _, _, _, rfl, rfl, (sq_of (eF134 _ _ s13)), h157, ?_⟩
        refine ⟨_, rfl, ?_⟩
        refine ⟨F134, _, x131, rfl, eF134, r138, (post_bd kfb30fb130).mono (fun b159 kfb30fb130 v164 F160 H161 g162 r163 => ?_) (fun _ z => z)⟩
        have eF160 := g162.s
        have gF160 := gF134.trans (g162.weak (by simp))
        replace r_law_places_here := r_law_places_here.up g162.f
        replace r_law_marks_of := r_law_marks_of.up g162.f
        replace r4 := r4.up g162.f
        replace r9 := r9.up g162.f
        replace s13 := g162.f _ _ s13
        replace a14 := a14.up g162.f
        replace s17 := g162.f _ _ s17
        replace a18 := a18.up g162.f
        replace o57 := g162.own (by simp [*]) o57.1 o57.2
        replace a58 := a58.up g162.f
        replace r62 := r62.up g162.f
        replace r67 := r67.up g162.f
        replace s71 := g162.f _ _ s71
        replace a72 := a72.up g162.f
        replace s75 := g162.f _ _ s75
        replace a76 := a76.up g162.f
        replace r82 := r82.up g162.f
        replace r88 := r88.up g162.f
        replace s100 := ex_t g162.f s100
        replace r104 := r104.up g162.f
        replace r109 := r109.up g162.f
        replace s113 := g162.f _ _ s113
        replace a114 := a114.up g162.f
        replace s117 := g162.f _ _ s117
        replace a118 := a118.up g162.f
        replace r124 := r124.up g162.f
        replace s128 := g162.f _ _ s128
        replace a129 := a129.up g162.f
        replace r153 := r153.up g162.f
        replace r138 := r138.up g162.f
        replace r158 := r158.up g162.f
        refine ⟨F160, _, i154, _, b159, rfl, eF160, r158, r163, (post_bd kfb30fb130).mono (fun b166 kfb30fb130 v171 F167 H168 g169 r170 => ?_) (fun _ z => z)⟩
        have eF167 := g169.s
        have gF167 := gF160.trans (g169.weak (by simp))
        replace r_law_places_here := r_law_places_here.up g169.f
        replace r_law_marks_of := r_law_marks_of.up g169.f
        replace r4 := r4.up g169.f
        replace r9 := r9.up g169.f
        replace s13 := g169.f _ _ s13
        replace a14 := a14.up g169.f
        replace s17 := g169.f _ _ s17
        replace a18 := a18.up g169.f
        replace o57 := g169.own (by simp [*]) o57.1 o57.2
        replace a58 := a58.up g169.f
        replace r62 := r62.up g169.f
        replace r67 := r67.up g169.f
        replace s71 := g169.f _ _ s71
        replace a72 := a72.up g169.f
        replace s75 := g169.f _ _ s75
        replace a76 := a76.up g169.f
        replace r82 := r82.up g169.f
        replace r88 := r88.up g169.f
        replace s100 := ex_t g169.f s100
        replace r104 := r104.up g169.f
        replace r109 := r109.up g169.f
        replace s113 := g169.f _ _ s113
        replace a114 := a114.up g169.f
        replace s117 := g169.f _ _ s117
        replace a118 := a118.up g169.f
        replace r124 := r124.up g169.f
        replace s128 := g169.f _ _ s128
        replace a129 := a129.up g169.f
        replace r153 := r153.up g169.f
        replace r138 := r138.up g169.f
        replace r158 := r158.up g169.f
        replace r163 := r163.up g169.f
        refine ⟨F167, _, b130, _, b166, rfl, eF167, r153, r170, (post_bd kfb30fb130).mono (fun b173 kfb30fb130 v178 F174 H175 g176 r177 => ?_) (fun _ z => z)⟩
        have eF174 := g176.s
        have gF174 := gF167.trans (g176.weak (by simp))
        replace r_law_places_here := r_law_places_here.up g176.f
        replace r_law_marks_of := r_law_marks_of.up g176.f
        replace r4 := r4.up g176.f
        replace r9 := r9.up g176.f
        replace s13 := g176.f _ _ s13
        replace a14 := a14.up g176.f
        replace s17 := g176.f _ _ s17
        replace a18 := a18.up g176.f
        replace o57 := g176.own (by simp [*]) o57.1 o57.2
        replace a58 := a58.up g176.f
        replace r62 := r62.up g176.f
        replace r67 := r67.up g176.f
        replace s71 := g176.f _ _ s71
        replace a72 := a72.up g176.f
        replace s75 := g176.f _ _ s75
        replace a76 := a76.up g176.f
        replace r82 := r82.up g176.f
        replace r88 := r88.up g176.f
        replace s100 := ex_t g176.f s100
        replace r104 := r104.up g176.f
        replace r109 := r109.up g176.f
        replace s113 := g176.f _ _ s113
        replace a114 := a114.up g176.f
        replace s117 := g176.f _ _ s117
        replace a118 := a118.up g176.f
        replace r124 := r124.up g176.f
        replace s128 := g176.f _ _ s128
        replace a129 := a129.up g176.f
        replace r153 := r153.up g176.f
        replace r138 := r138.up g176.f
        replace r158 := r158.up g176.f
        replace r163 := r163.up g176.f
        replace r170 := r170.up g176.f
        exact kfb30fb130.h _ _ _ gF174 ⟨_, _, _, _, _, rfl, r177⟩
      have g180 := gF121.trans (g144.weak (by simp))
      replace r_law_places_here := r_law_places_here.up g144.f
      replace r_law_marks_of := r_law_marks_of.up g144.f
      replace r4 := r4.up g144.f
      replace r9 := r9.up g144.f
      replace s13 := g144.f _ _ s13
      replace a14 := a14.up g144.f
      replace s17 := g144.f _ _ s17
      replace a18 := a18.up g144.f
      replace o57 := g144.own (by simp [*]) o57.1 o57.2
      replace a58 := a58.up g144.f
      replace r62 := r62.up g144.f
      replace r67 := r67.up g144.f
      replace s71 := g144.f _ _ s71
      replace a72 := a72.up g144.f
      replace s75 := g144.f _ _ s75
      replace a76 := a76.up g144.f
      replace r82 := r82.up g144.f
      replace r88 := r88.up g144.f
      replace r94 := r94.up g144.f
      replace s100 := ex_t g144.f s100
      replace r104 := r104.up g144.f
      replace r109 := r109.up g144.f
      replace s113 := g144.f _ _ s113
      replace a114 := a114.up g144.f
      replace s117 := g144.f _ _ s117
      replace a118 := a118.up g144.f
      replace r124 := r124.up g144.f
      replace s128 := g144.f _ _ s128
      replace a129 := a129.up g144.f
      have eF142 := g144.s
      obtain ⟨c181, u182, u183, u184, u185, rfl, r186⟩ := i145
      refine ⟨_, rfl, _, rfl, ?_⟩
      obtain ⟨p187, xs188, rfl, s189, a190⟩ := dp_lst r_law_marks_of
      obtain ⟨i191, h192, kfb30⟩ := post_get kfb30
      obtain ⟨v193, h194, r195⟩ := dq_at a190 h192
      refine ⟨_, _, _, _, rfl, rfl, (sq_of (eF142 _ _ s189)), h194, ?_⟩
      refine ⟨_, rfl, ?_⟩
      refine ⟨F142, _, i191, _, b147, rfl, eF142, r195, r186, (post_bd kfb30).mono (fun b196 kfb30 v201 F197 H198 g199 r200 => ?_) (fun _ z => z)⟩
      have eF197 := g199.s
      have gF197 := g180.trans (g199.weak (by simp))
      replace r_law_places_here := r_law_places_here.up g199.f
      replace r_law_marks_of := r_law_marks_of.up g199.f
      replace r4 := r4.up g199.f
      replace r9 := r9.up g199.f
      replace s13 := g199.f _ _ s13
      replace a14 := a14.up g199.f
      replace s17 := g199.f _ _ s17
      replace a18 := a18.up g199.f
      replace o57 := g199.own (by simp [*]) o57.1 o57.2
      replace a58 := a58.up g199.f
      replace r62 := r62.up g199.f
      replace r67 := r67.up g199.f
      replace s71 := g199.f _ _ s71
      replace a72 := a72.up g199.f
      replace s75 := g199.f _ _ s75
      replace a76 := a76.up g199.f
      replace r82 := r82.up g199.f
      replace r88 := r88.up g199.f
      replace s100 := ex_t g199.f s100
      replace r104 := r104.up g199.f
      replace r109 := r109.up g199.f
      replace s113 := g199.f _ _ s113
      replace a114 := a114.up g199.f
      replace s117 := g199.f _ _ s117
      replace a118 := a118.up g199.f
      replace r124 := r124.up g199.f
      replace s128 := g199.f _ _ s128
      replace a129 := a129.up g199.f
      replace r186 := r186.up g199.f
      replace s189 := g199.f _ _ s189
      replace a190 := a190.up g199.f
      replace r195 := r195.up g199.f
      refine ⟨_, rfl, ?_⟩
      refine ⟨_, _, _, rfl, .inl (sq_of o57.1), len_all a58, ?_⟩
      obtain ⟨h203, kfb30⟩ := post_range kfb30
      refine ⟨_, rfl, h203.1, h203.2, ?_⟩
      obtain ⟨h224, kfb30⟩ := post_guard kfb30
      refine lc_mapO (K := K) (M := []) wlk_range (e2 PyData.int PyData.int) kfb30 eF197 h224 (fun _ _ => by simp) (fun x207 v222 F215 H216 F217 H218 g219 g220 r221 Q' k205 => ?_) (fun _ z => z) (fun b206 p255 xs256 F209 H210 g211 y259 o257 a258 kfb30 => ?_) gm_name
      · have g225 := Gm.refl (M := []) g219.s
        replace r_law_places_here := r_law_places_here.up g219.f
        replace r_law_marks_of := r_law_marks_of.up g219.f
        replace r4 := r4.up g219.f
        replace r9 := r9.up g219.f
        replace s13 := g219.f _ _ s13
        replace a14 := a14.up g219.f
        replace s17 := g219.f _ _ s17
        replace a18 := a18.up g219.f
        replace o57 := g219.own (by simp [*]) o57.1 o57.2
        replace a58 := a58.up g219.f
        replace r62 := r62.up g219.f
        replace r67 := r67.up g219.f
        replace s71 := g219.f _ _ s71
        replace a72 := a72.up g219.f
        replace s75 := g219.f _ _ s75
        replace a76 := a76.up g219.f
        replace r82 := r82.up g219.f
        replace r88 := r88.up g219.f
        replace s100 := ex_t g219.f s100
        replace r104 := r104.up g219.f
        replace r109 := r109.up g219.f
        replace s113 := g219.f _ _ s113
        replace a114 := a114.up g219.f
        replace s117 := g219.f _ _ s117
        replace a118 := a118.up g219.f
        replace r124 := r124.up g219.f
        replace s128 := g219.f _ _ s128
        replace a129 := a129.up g219.f
        replace r186 := r186.up g219.f
        replace s189 := g219.f _ _ s189
        replace a190 := a190.up g219.f
        replace r195 := r195.up g219.f
        replace r200 := r200.up g219.f
        replace r_law_places_here := r_law_places_here.up g220.f
        replace r_law_marks_of := r_law_marks_of.up g220.f
        replace r4 := r4.up g220.f
        replace r9 := r9.up g220.f
        replace s13 := g220.f _ _ s13
        replace a14 := a14.up g220.f
        replace s17 := g220.f _ _ s17
        replace a18 := a18.up g220.f
        replace o57 := g220.own (by simp [*]) o57.1 o57.2
        replace a58 := a58.up g220.f
        replace r62 := r62.up g220.f
        replace r67 := r67.up g220.f
        replace s71 := g220.f _ _ s71
        replace a72 := a72.up g220.f
        replace s75 := g220.f _ _ s75
        replace a76 := a76.up g220.f
        replace r82 := r82.up g220.f
        replace r88 := r88.up g220.f
        replace s100 := ex_t g220.f s100
        replace r104 := r104.up g220.f
        replace r109 := r109.up g220.f
        replace s113 := g220.f _ _ s113
        replace a114 := a114.up g220.f
        replace s117 := g220.f _ _ s117
        replace a118 := a118.up g220.f
        replace r124 := r124.up g220.f
        replace s128 := g220.f _ _ s128
        replace a129 := a129.up g220.f
        replace r186 := r186.up g220.f
        replace s189 := g220.f _ _ s189
        replace a190 := a190.up g220.f
        replace r195 := r195.up g220.f
        replace r200 := r200.up g220.f
        have eF217 := g220.s
        have gF217 := g225.trans (g220.weak (by simp))
        subst r221
        refine ⟨rfl, _, rfl, _, rfl, ?_⟩
        obtain ⟨i226, h227, k205⟩ := post_get k205
        obtain ⟨v228, h229, r230⟩ := dq_at a58 h227
        refine ⟨_, _, _, _, rfl, rfl, (sq_of o57.1), h229, ?_⟩
        refine ⟨_, rfl, _, rfl, _, rfl, ?_⟩
        obtain ⟨p231, xs232, rfl, s233, a234⟩ := dp_lst r88
        obtain ⟨i235, h236, k205⟩ := post_get k205
        obtain ⟨v237, h238, r239⟩ := dq_at a234 h236
        refine ⟨_, _, _, _, rfl, rfl, (sq_of (eF217 _ _ s233)), h238, ?_⟩
        refine ⟨F217, _, b196, _, i235, rfl, eF217, r200, r239, (post_bd k205).mono (fun b240 k205 v245 F241 H242 g243 r244 => ?_) (fun _ z => z)⟩
        have eF241 := g243.s
        have gF241 := gF217.trans (g243.weak (by simp))
        replace r_law_places_here := r_law_places_here.up g243.f
        replace r_law_marks_of := r_law_marks_of.up g243.f
        replace r4 := r4.up g243.f
        replace r9 := r9.up g243.f
        replace s13 := g243.f _ _ s13
        replace a14 := a14.up g243.f
        replace s17 := g243.f _ _ s17
        replace a18 := a18.up g243.f
        replace o57 := g243.own (by simp [*]) o57.1 o57.2
        replace a58 := a58.up g243.f
        replace r62 := r62.up g243.f
        replace r67 := r67.up g243.f
        replace s71 := g243.f _ _ s71
        replace a72 := a72.up g243.f
        replace s75 := g243.f _ _ s75
        replace a76 := a76.up g243.f
        replace r82 := r82.up g243.f
        replace r88 := r88.up g243.f
        replace s100 := ex_t g243.f s100
        replace r104 := r104.up g243.f
        replace r109 := r109.up g243.f
        replace s113 := g243.f _ _ s113
        replace a114 := a114.up g243.f
        replace s117 := g243.f _ _ s117
        replace a118 := a118.up g243.f
        replace r124 := r124.up g243.f
        replace s128 := g243.f _ _ s128
        replace a129 := a129.up g243.f
        replace r186 := r186.up g243.f
        replace s189 := g243.f _ _ s189
        replace a190 := a190.up g243.f
        replace r195 := r195.up g243.f
        replace r200 := r200.up g243.f
        replace r230 := r230.up g243.f
        replace s233 := g243.f _ _ s233
        replace a234 := a234.up g243.f
        replace r239 := r239.up g243.f
        refine ⟨F241, _, i226, _, b240, rfl, eF241, r230, r244, (post_bd k205).mono (fun b247 k205 v252 F248 H249 g250 r251 => ?_) (fun _ z => z)⟩
        have eF248 := g250.s
        have gF248 := gF241.trans (g250.weak (by simp))
        replace r_law_places_here := r_law_places_here.up g250.f
        replace r_law_marks_of := r_law_marks_of.up g250.f
        replace r4 := r4.up g250.f
        replace r9 := r9.up g250.f
        replace s13 := g250.f _ _ s13
        replace a14 := a14.up g250.f
        replace s17 := g250.f _ _ s17
        replace a18 := a18.up g250.f
        replace o57 := g250.own (by simp [*]) o57.1 o57.2
        replace a58 := a58.up g250.f
        replace r62 := r62.up g250.f
        replace r67 := r67.up g250.f
        replace s71 := g250.f _ _ s71
        replace a72 := a72.up g250.f
        replace s75 := g250.f _ _ s75
        replace a76 := a76.up g250.f
        replace r82 := r82.up g250.f
        replace r88 := r88.up g250.f
        replace s100 := ex_t g250.f s100
        replace r104 := r104.up g250.f
        replace r109 := r109.up g250.f
        replace s113 := g250.f _ _ s113
        replace a114 := a114.up g250.f
        replace s117 := g250.f _ _ s117
        replace a118 := a118.up g250.f
        replace r124 := r124.up g250.f
        replace s128 := g250.f _ _ s128
        replace a129 := a129.up g250.f
        replace r186 := r186.up g250.f
        replace s189 := g250.f _ _ s189
        replace a190 := a190.up g250.f
        replace r195 := r195.up g250.f
        replace r200 := r200.up g250.f
        replace r230 := r230.up g250.f
        replace s233 := g250.f _ _ s233
        replace a234 := a234.up g250.f
        replace r239 := r239.up g250.f
        replace r244 := r244.up g250.f
        exact k205.h _ _ _ gF248 r251
      have nq48_p255 := ne_of_none o57.1 y259
      have np255_q48 := nq48_p255.symm
      have zp255 := gF197.fresh y259
      have eF209 := g211.s
      have gF209 := gF197.trans (g211.weak (by simp))
      replace r_law_places_here := r_law_places_here.up g211.f
      replace r_law_marks_of := r_law_marks_of.up g211.f
      replace r4 := r4.up g211.f
      replace r9 := r9.up g211.f
      replace s13 := g211.f _ _ s13
      replace a14 := a14.up g211.f
      replace s17 := g211.f _ _ s17
      replace a18 := a18.up g211.f
      replace o57 := g211.own (by simp [*]) o57.1 o57.2
      replace a58 := a58.up g211.f
      replace r62 := r62.up g211.f
      replace r67 := r67.up g211.f
      replace s71 := g211.f _ _ s71
      replace a72 := a72.up g211.f
      replace s75 := g211.f _ _ s75
      replace a76 := a76.up g211.f
      replace r82 := r82.up g211.f
      replace r88 := r88.up g211.f
      replace s100 := ex_t g211.f s100
      replace r104 := r104.up g211.f
      replace r109 := r109.up g211.f
      replace s113 := g211.f _ _ s113
      replace a114 := a114.up g211.f
      replace s117 := g211.f _ _ s117
      replace a118 := a118.up g211.f
      replace r124 := r124.up g211.f
      replace s128 := g211.f _ _ s128
      replace a129 := a129.up g211.f
      replace r186 := r186.up g211.f
      replace s189 := g211.f _ _ s189
      replace a190 := a190.up g211.f
      replace r195 := r195.up g211.f
      replace r200 := r200.up g211.f
      exact kfb30.h _ _ _ gF209 ⟨_, _, _, _, _, _, _, _, _, rfl, (.inr zp255), o257, a258⟩
    have hy261 : ∀ q ∈ [p22], q ∈ [] ∨ H q = none := by intro q hq; simp only [List.mem_cons, List.not_mem_nil, or_false] at hq; rcases hq with rfl; exact (.inr zp22)
    have g260 := Gm.outs [p22] hy261 gH23 (g44.weak (by simp))
    replace r_law_places_here := r_law_places_here.up g44.f
    replace r_law_marks_of := r_law_marks_of.up g44.f
    replace r4 := r4.up g44.f
    replace r9 := r9.up g44.f
    replace s13 := g44.f _ _ s13
    replace a14 := a14.up g44.f
    replace s17 := g44.f _ _ s17
    replace a18 := a18.up g44.f
    have eF42 := g44.s
    obtain ⟨q262, u263, u264, u265, u266, u267, u268, u269, xs270, rfl, yq262, o271, a272⟩ := i45
    replace yq262 := out_y hy261 gH23 yq262
    refine ⟨_, rfl, ?_⟩
    refine ⟨_, _, _, rfl, .inl (sq_of (eF42 _ _ s13)), len_all a14, ?_⟩
    obtain ⟨h273, k⟩ := post_range k
    refine ⟨_, rfl, h273.1, h273.2, ?_⟩
    refine for_m (M := [q262]) (F := F42) wlk_range (fun b275 F' H' σ' => ∃ (u3 : Option V) (u4 : Option V) (u5 : Option V) (u6 : Option V) (u7 : Option V) (u8 : Option V) (u9 : Option V) (xs2 : List V), σ' = [some (V.ref p11), some v_law_marks_of, some (V.ref q262), u3, u4, u5, u6, u7, u8, u9] ∧ (H' q262 = some (.lst xs2) ∧ F' q262 = none) ∧ DqAll K F' xs2 (List.map (e2 PyData.int PyData.int) b275)) k eF42 ⟨_, _, _, _, _, _, _, _, rfl, o271, a272⟩ (fun b275 x276 v284 σ286 F277 H278 F279 H280 g281 i285 g282 r283 nx kfb275 => ?_) (fun b292 σ291 F287 H288 g289 i290 k => ?_)
    · replace r_law_places_here := r_law_places_here.up g281.f
      replace r_law_marks_of := r_law_marks_of.up g281.f
      replace r4 := r4.up g281.f
      replace r9 := r9.up g281.f
      replace s13 := g281.f _ _ s13
      replace a14 := a14.up g281.f
      replace s17 := g281.f _ _ s17
      replace a18 := a18.up g281.f
      obtain ⟨u293, u294, u295, u296, u297, u298, u299, xs300, rfl, o301, a302⟩ := i285
      replace r_law_places_here := r_law_places_here.up g282.f
      replace r_law_marks_of := r_law_marks_of.up g282.f
      replace r4 := r4.up g282.f
      replace r9 := r9.up g282.f
      replace s13 := g282.f _ _ s13
      replace a14 := a14.up g282.f
      replace s17 := g282.f _ _ s17
      replace a18 := a18.up g282.f
      replace o301 := g282.own (by simp [*]) o301.1 o301.2
      replace a302 := a302.up g282.f
      have eF279 := g282.s
      have gF279 := g281.trans (g282.weak (by simp))
      subst r283
      refine ⟨_, rfl, ?_⟩
      show _ ∧ _
      refine new_lst (K := K) (M := []) eF279 .nil (by show 0 ≤ 100000; decide) fun v307 F303 H304 g305 r306 => ?_
      have eF303 := g305.s
      have gF303 := gF279.trans (g305.weak (by simp))
      replace r_law_places_here := r_law_places_here.up g305.f
      replace r_law_marks_of := r_law_marks_of.up g305.f
      replace r4 := r4.up g305.f
      replace r9 := r9.up g305.f
      replace s13 := g305.f _ _ s13
      replace a14 := a14.up g305.f
      replace s17 := g305.f _ _ s17
      replace a18 := a18.up g305.f
      replace o301 := g305.own (by simp [*]) o301.1 o301.2
      replace a302 := a302.up g305.f
      replace r306 : Dq K F303 v307 ((eL (e2 PyData.int PyData.int)) []) := r306
      refine ⟨b275, [], (own_dp (en := (e2 PyData.int PyData.int)) (l := b275) o301.1 a302 eF303), r306.dp eF303, ?_⟩
      refine ⟨_, rfl, ?_⟩
      refine and_jM (M := []) eF303 kfb275 (fun _ Q' kfb275tb308 => ?_) (fun b308 F309 H310 g311 kfb275 => ?_)
      · have gF303_ := Gm.refl (M := []) eF303
        refine ⟨_, rfl, _, rfl, ?_⟩
        obtain ⟨i312, h313, kfb275tb308⟩ := post_get kfb275tb308
        obtain ⟨v314, h315, r316⟩ := dq_at a302 h313
        refine ⟨_, _, _, _, rfl, rfl, (sq_of o301.1), h315, ?_⟩
        obtain ⟨p317, x318, x319, rfl, s320, d321, d322⟩ := dp_tup2 r316
        obtain rfl := dp_int d321
        obtain rfl := dp_int d322
        refine ⟨_, _, _, _, rfl, rfl, ex_t eF303 s320, rfl, rfl, ?_⟩
        rw [decV_int]
        refine ⟨_, rfl, ?_⟩
        exact kfb275tb308.h _ _ gF303_
      have eF309 := g311.s
      have gF309 := gF303.trans (g311.weak (by simp))
      replace r_law_places_here := r_law_places_here.up g311.f
      replace r_law_marks_of := r_law_marks_of.up g311.f
      replace r4 := r4.up g311.f
      replace r9 := r9.up g311.f
      replace s13 := g311.f _ _ s13
      replace a14 := a14.up g311.f
      replace s17 := g311.f _ _ s17
      replace a18 := a18.up g311.f
      replace o301 := g311.own (by simp [*]) o301.1 o301.2
      replace a302 := a302.up g311.f
      replace r306 := r306.up g311.f
      refine cs kfb275 (fun _ kfb275 => ?_) (fun _ kfb275 => ?_)
      · obtain ⟨h323, kfb275⟩ := post_pop kfb275
        obtain ⟨y324, h325⟩ := pop_at a302 h323
        refine ⟨_, rfl, .inl ⟨rfl, _, sq_of o301.1⟩, _, _, _, rfl, rfl, o301.1, h325, ?_⟩
        have g326 := gF309.putOr (o := (.lst (List.dropLast xs300))) (.inl (by simp)) o301.1 o301.2
        replace o301 : (upd H310 q262 (.lst (List.dropLast xs300))) q262 = some (.lst (List.dropLast xs300)) ∧ F309 q262 = none := ⟨upd_same, o301.2⟩
        replace a302 : DqAll K F309 (List.dropLast xs300) (List.map (e2 PyData.int PyData.int) (List.dropLast b275)) := all_pop a302
        have e327 := g326.s
        exact kfb275.h _ _ _ g326 ⟨_, _, _, _, _, _, _, _, rfl, o301, a302⟩
      · exact kfb275.h _ _ _ gF309 ⟨_, _, _, _, _, _, _, _, rfl, o301, a302⟩
    have hy329 : ∀ q ∈ [q262], q ∈ [] ∨ H q = none := by intro q hq; simp only [List.mem_cons, List.not_mem_nil, or_false] at hq; rcases hq with rfl; exact yq262
    have g328 := Gm.outs [q262] hy329 g260 (g289.weak (by simp))
    replace r_law_places_here := r_law_places_here.up g289.f
    replace r_law_marks_of := r_law_marks_of.up g289.f
    replace r4 := r4.up g289.f
    replace r9 := r9.up g289.f
    replace s13 := g289.f _ _ s13
    replace a14 := a14.up g289.f
    replace s17 := g289.f _ _ s17
    replace a18 := a18.up g289.f
    have eF287 := g289.s
    obtain ⟨u330, u331, u332, u333, u334, u335, u336, xs337, rfl, o338, a339⟩ := i290
    refine ⟨_, rfl, ?_⟩
    have g340 := g328.fix o338.1 o338.2 (y_no yq262)
    have ur341 : Ex F287 (upd F287 q262 (.lst xs337)) := Ex.new o338.2
    have r341 : Dq K (upd F287 q262 (.lst xs337)) (.ref q262) (eL (e2 PyData.int PyData.int) b292) := .lst upd_same (a339.up ur341)
    have s343 : (upd F287 q262 (.lst xs337)) q262 = some (.lst xs337) := upd_same
    have a344 := a339.up ur341
    replace r_law_places_here := r_law_places_here.up ur341
    replace r_law_marks_of := r_law_marks_of.up ur341
    replace r4 := r4.up ur341
    replace r9 := r9.up ur341
    replace s13 := ur341 _ _ s13
    replace a14 := a14.up ur341
    replace s17 := ur341 _ _ s17
    replace a18 := a18.up ur341
    have e345 := g340.s
    exact k.h _ _ _ g340 r341
/-! ### _law_repaired -/
abbrev s_law_repaired : Stmt := top 50
theorem sc_law_repaired : FnScope ["_law_places_here", "_law_marks_of", "_law_degree", "_law_bad", "_law_k", "_law_made"] ["_law_places_here", "_law_marks_of", "_law_degree", "_law_bad"] (defScope s_law_repaired) := ⟨rfl, rfl, rfl, by decide +kernel, rfl, by decide +kernel, by decide +kernel⟩
def law_repaired (law_places_here : (List (Int × Int))) (law_marks_of : (List (Int × Int))) (law_degree : Int) (law_bad : (List Int)) : Mm (Option (List (Int × Int))) := (law_through (law_places_here) (law_marks_of)).bd fun b1 => cond (decide ((b1.length : Int) ≤ (law_degree + (1 : Int)))) (Mm.ok (some law_marks_of)) ((cond (!(decide ((law_bad.length : Int) = (1 : Int)))) (Mm.ok true) (Mm.ok (decide ((law_places_here.length : Int) < (law_degree + (2 : Int)))))).bd fun b25 => cond b25 (Mm.ok none) ((getM law_bad (0 : Int)).bd fun i33 => (guardM ((cutL law_places_here none (some i33)).length + (cutL law_places_here (some (i33 + (1 : Int))) none).length ≤ 100000)).bd fun _ => (guardM ((cutL law_marks_of none (some i33)).length + (cutL law_marks_of (some (i33 + (1 : Int))) none).length ≤ 100000)).bd fun _ => (law_through (((cutL law_places_here none (some i33)) ++ (cutL law_places_here (some (i33 + (1 : Int))) none))) (((cutL law_marks_of none (some i33)) ++ (cutL law_marks_of (some (i33 + (1 : Int))) none)))).bd fun b96 => (getM law_places_here i33).bd fun i108 => (law_worth (b96) (i108)).bd fun b113 => (guardM ((cutL law_marks_of none (some i33)).length + [b113].length ≤ 100000)).bd fun _ => (guardM (((cutL law_marks_of none (some i33)) ++ [b113]).length + (cutL law_marks_of (some (i33 + (1 : Int))) none).length ≤ 100000)).bd fun _ => Mm.ok (some (((cutL law_marks_of none (some i33)) ++ [b113]) ++ (cutL law_marks_of (some (i33 + (1 : Int))) none)))))
def sp_law_repaired (K : PySem.W.Frag) : Sp := fun vs H Q _ => ∃ (F : Hp) (v_law_places_here : V) (law_places_here : (List (Int × Int))) (v_law_marks_of : V) (law_marks_of : (List (Int × Int))) (law_degree : Int) (v_law_bad : V) (law_bad : (List Int)), vs = [v_law_places_here, v_law_marks_of, (V.int law_degree), v_law_bad] ∧ Ex F H ∧ Dq K F v_law_places_here ((eL (e2 PyData.int PyData.int)) law_places_here) ∧ Dq K F v_law_marks_of ((eL (e2 PyData.int PyData.int)) law_marks_of) ∧ Dq K F v_law_bad ((eL PyData.int) law_bad) ∧ Post (law_repaired law_places_here law_marks_of law_degree law_bad) (fun r => Ret [] F H (fun F' _ v => Dq K F' v ((eO (eV (e2 PyData.int PyData.int))) r)) Q) (fun _ => False)
theorem ok_law_repaired {P : Program} {w : World} {K : PySem.W.Frag} {mg : Str → Option Value} {base : Heap} {C f : Addr} {fd : FuncData} (B : Bi mg) (FF : FunD K "_law_repaired" "_law_repaired" (defArgs s_law_repaired) (defBody s_law_repaired) (defScope s_law_repaired) [] [] f fd) (G_law_through : Kn P w K mg base "_law_through" 4 ["_law_places_here", "_law_marks_of"] (sp_law_through K)) (G_law_worth : Kn P w K mg base "_law_worth" 3 ["_law_some", "_law_place"] (sp_law_worth K)) : FnOk P w K mg base CX0 5 f fd ["_law_places_here", "_law_marks_of", "_law_degree", "_law_bad"] (sp_law_repaired K) := by
  refine FF.ok sc_law_repaired (fun vs H Q E h => ?_) (fun cdv A outer s H vs Q E hr h => ?_)
  · obtain ⟨F, v_law_places_here, law_places_here, v_law_marks_of, law_marks_of, law_degree, v_law_bad, law_bad, rfl, _⟩ := h; rfl
  · obtain ⟨F, v_law_places_here, law_places_here, v_law_marks_of, law_marks_of, law_degree, v_law_bad, law_bad, rfl, e, r_law_places_here, r_law_marks_of, r_law_bad, k⟩ := h
    unfold law_repaired at k
    have g_ := Gm.refl (M := []) e
    refine ⟨_, PSs.nox (pss_cons (ps_if (pt_cmpR op_le (pe_callB call_lenM (by rfl) B.len (by decide +kernel) (pa_cons (pe_kn G_law_through (hr.mono (by decide)) (pa_cons (pv 0) (pa_cons (pv 1) (pa_nil)))) pa_nil)) (pe_op op_add (pv 2) (pe_int)) (nomark _)) (pss_one (ps_ret (pe_q (pe_callTy call_tuple_of (by rfl) B.tuple (by decide +kernel) (pa_cons (pv 1) pa_nil))))) pss_nil) (pss_cons (ps_if (PW.pt (pw_or (pt_cmpR op_ne (pe_callB call_lenM (by rfl) B.len (by decide +kernel) (pa_cons (pv 3) pa_nil)) (pe_int) (nomark _)) (pw_or1 (pt_cmpR op_lt (pe_callB call_lenM (by rfl) B.len (by decide +kernel) (pa_cons (pv 0) pa_nil)) (pe_op op_add (pv 2) (pe_int)) (nomark _))))) (pss_one (ps_ret (pe_non))) pss_nil) (pss_cons (ps_set (i := 4) sc_law_repaired.nd rfl (Or.inl rfl) (pe_ix (r := rIxL K) ix_list (pv 3) (pe_int) (fun _ _ => rfl))) (pss_cons (ps_set (i := 5) sc_law_repaired.nd rfl (Or.inl rfl) (pe_kn G_law_through (hr.mono (by decide)) (pa_cons (pe_q (pe_op op_cat (pe_q (pe_slice sl_list (pv 0) po_none (po_some (pv 4)))) (pe_q (pe_slice sl_list (pv 0) (po_some (pe_op op_add (pv 4) (pe_int))) po_none)))) (pa_cons (pe_q (pe_op op_cat (pe_q (pe_slice sl_list (pv 1) po_none (po_some (pv 4)))) (pe_q (pe_slice sl_list (pv 1) (po_some (pe_op op_add (pv 4) (pe_int))) po_none)))) (pa_nil))))) (pss_one (ps_ret (pe_q (pe_callTy call_tuple_of (by rfl) B.tuple (by decide +kernel) (pa_cons (pe_q (pe_op op_cat (pe_q (pe_op op_cat (pe_q (pe_slice sl_list (pv 1) po_none (po_some (pv 4)))) (pe_q (pe_lst (pa_cons (pe_kn G_law_worth (hr.mono (by decide)) (pa_cons (pv 5) (pa_cons (pe_ix (r := rIxL K) ix_list (pv 0) (pv 4) (fun _ _ => rfl)) (pa_nil)))) (pa_nil)))))) (pe_q (pe_slice sl_list (pv 1) (po_some (pe_op op_add (pv 4) (pe_int))) po_none)))) pa_nil))))))))), ?_⟩
    refine ⟨_, rfl, _, rfl, ?_⟩
    refine ⟨F, _, law_places_here, _, law_marks_of, rfl, e, r_law_places_here, r_law_marks_of, (post_bd k).mono (fun b1 k v6 F2 H3 g4 r5 => ?_) (fun _ z => z)⟩
    have eF2 := g4.s
    have gF2 := g_.trans (g4.weak (by simp))
    replace r_law_places_here := r_law_places_here.up g4.f
    replace r_law_marks_of := r_law_marks_of.up g4.f
    replace r_law_bad := r_law_bad.up g4.f
    obtain ⟨p8, xs9, rfl, s10, a11⟩ := dp_lst r5
    refine ⟨_, _, _, rfl, .inl (sq_of (eF2 _ _ s10)), len_all a11, _, rfl, _, _, rfl, rfl, _, _, rfl, rfl, _, rfl, ?_⟩
    refine cs k (fun _ k => ?_) (fun _ k => ?_)
    · refine ⟨_, rfl, ?_⟩
      obtain ⟨p12, xs13, rfl, s14, a15⟩ := dp_lst r_law_marks_of
      refine to_VL (K := K) (M := []) eF2 s14 a15 (en := (e2 PyData.int PyData.int)) (l := law_marks_of) fun v20 F16 H17 g18 r19 => ?_
      have eF16 := g18.s
      have gF16 := gF2.trans (g18.weak (by simp))
      replace r_law_places_here := r_law_places_here.up g18.f
      replace r_law_marks_of := r_law_marks_of.up g18.f
      replace r_law_bad := r_law_bad.up g18.f
      replace r5 := r5.up g18.f
      replace s10 := g18.f _ _ s10
      replace a11 := a11.up g18.f
      replace s14 := g18.f _ _ s14
      replace a15 := a15.up g18.f
      exact k.h _ _ _ gF16 r19
    · refine ⟨_, rfl, ?_⟩
      obtain ⟨p21, xs22, rfl, s23, a24⟩ := dp_lst r_law_bad
      refine ⟨_, _, _, rfl, .inl (sq_of (eF2 _ _ s23)), len_all a24, rfl, ?_⟩
      rw [decV_int]
      refine ⟨_, rfl, ?_⟩
      refine or_jM (M := []) eF2 k (fun _ Q' ktb25 => ?_) (fun b25 F26 H27 g28 k => ?_)
      · have gF2_ := Gm.refl (M := []) eF2
        refine ⟨_, rfl, ?_⟩
        obtain ⟨p29, xs30, rfl, s31, a32⟩ := dp_lst r_law_places_here
        refine ⟨_, _, _, rfl, .inl (sq_of (eF2 _ _ s31)), len_all a32, _, rfl, _, _, rfl, rfl, _, _, rfl, rfl, _, rfl, ?_⟩
        exact ktb25.h _ _ gF2_
      have eF26 := g28.s
      have gF26 := gF2.trans (g28.weak (by simp))
      replace r_law_places_here := r_law_places_here.up g28.f
      replace r_law_marks_of := r_law_marks_of.up g28.f
      replace r_law_bad := r_law_bad.up g28.f
      replace r5 := r5.up g28.f
      replace s10 := g28.f _ _ s10
      replace a11 := a11.up g28.f
      replace s23 := g28.f _ _ s23
      replace a24 := a24.up g28.f
      refine cs k (fun _ k => ?_) (fun _ k => ?_)
      · exact k.h _ _ _ gF26 Dq.non
      · refine ⟨_, rfl, ?_⟩
        obtain ⟨i33, h34, k⟩ := post_get k
        obtain ⟨v35, h36, r37⟩ := dq_at a24 h34
        refine ⟨_, _, _, _, rfl, rfl, (sq_of (eF26 _ _ s23)), h36, ?_⟩
        obtain rfl := dp_int r37
        refine ⟨_, rfl, _, rfl, _, rfl, ?_⟩
        obtain ⟨p38, xs39, rfl, s40, a41⟩ := dp_lst r_law_places_here
        refine cut_lst (K := K) (M := []) eF26 s40 a41 fun v46 F42 H43 g44 r45 => ?_
        have eF42 := g44.s
        have gF42 := gF26.trans (g44.weak (by simp))
        replace r_law_places_here := r_law_places_here.up g44.f
        replace r_law_marks_of := r_law_marks_of.up g44.f
        replace r_law_bad := r_law_bad.up g44.f
        replace r5 := r5.up g44.f
        replace s10 := g44.f _ _ s10
        replace a11 := a11.up g44.f
        replace s23 := g44.f _ _ s23
        replace a24 := a24.up g44.f
        replace s40 := g44.f _ _ s40
        replace a41 := a41.up g44.f
        refine ⟨_, rfl, _, rfl, _, _, rfl, rfl, _, rfl, ?_⟩
        refine cut_lst (K := K) (M := []) eF42 s40 a41 fun v51 F47 H48 g49 r50 => ?_
        have eF47 := g49.s
        have gF47 := gF42.trans (g49.weak (by simp))
        replace r_law_places_here := r_law_places_here.up g49.f
        replace r_law_marks_of := r_law_marks_of.up g49.f
        replace r_law_bad := r_law_bad.up g49.f
        replace r5 := r5.up g49.f
        replace s10 := g49.f _ _ s10
        replace a11 := a11.up g49.f
        replace s23 := g49.f _ _ s23
        replace a24 := a24.up g49.f
        replace s40 := g49.f _ _ s40
        replace a41 := a41.up g49.f
        replace r45 := r45.up g49.f
        obtain ⟨p52, xs53, rfl, s54, a55⟩ := dp_lst r45
        obtain ⟨p56, xs57, rfl, s58, a59⟩ := dp_lst r50
        obtain ⟨h61, k⟩ := post_guard k
        refine ⟨_, _, _, _, rfl, rfl, eF47 _ _ s54, eF47 _ _ s58, cat_len a55 a59 h61, new_lstC (K := K) (M := []) (en := (e2 PyData.int PyData.int)) (l := (cutL law_places_here none (some i33))) (l' := (cutL law_places_here (some (i33 + (1 : Int))) none)) eF47 a55 a59 fun v66 F62 H63 g64 r65 => ?_⟩
        have eF62 := g64.s
        have gF62 := gF47.trans (g64.weak (by simp))
        replace r_law_places_here := r_law_places_here.up g64.f
        replace r_law_marks_of := r_law_marks_of.up g64.f
        replace r_law_bad := r_law_bad.up g64.f
        replace r5 := r5.up g64.f
        replace s10 := g64.f _ _ s10
        replace a11 := a11.up g64.f
        replace s23 := g64.f _ _ s23
        replace a24 := a24.up g64.f
        replace s40 := g64.f _ _ s40
        replace a41 := a41.up g64.f
        replace r45 := r45.up g64.f
        replace r50 := r50.up g64.f
        replace s54 := g64.f _ _ s54
        replace a55 := a55.up g64.f
        replace s58 := g64.f _ _ s58
        replace a59 := a59.up g64.f
        refine ⟨_, rfl, _, rfl, _, rfl, ?_⟩
        obtain ⟨p67, xs68, rfl, s69, a70⟩ := dp_lst r_law_marks_of
        refine cut_lst (K := K) (M := []) eF62 s69 a70 fun v75 F71 H72 g73 r74 => ?_
        have eF71 := g73.s
        have gF71 := gF62.trans (g73.weak (by simp))
        replace r_law_places_here := r_law_places_here.up g73.f
        replace r_law_marks_of := r_law_marks_of.up g73.f
        replace r_law_bad := r_law_bad.up g73.f
        replace r5 := r5.up g73.f
        replace s10 := g73.f _ _ s10
        replace a11 := a11.up g73.f
        replace s23 := g73.f _ _ s23
        replace a24 := a24.up g73.f
        replace s40 := g73.f _ _ s40
        replace a41 := a41.up g73.f
        replace r45 := r45.up g73.f
        replace r50 := r50.up g73.f
        replace s54 := g73.f _ _ s54
        replace a55 := a55.up g73.f
        replace s58 := g73.f _ _ s58
        replace a59 := a59.up g73.f
        replace r65 := r65.up g73.f
        replace s69 := g73.f _ _ s69
        replace a70 := a70.up g73.f
        refine ⟨_, rfl, _, rfl, _, _, rfl, rfl, _, rfl, ?_⟩
        refine cut_lst (K := K) (M := []) eF71 s69 a70 fun v80 F76 H77 g78 r79 => ?_
        have eF76 := g78.s
        have gF76 := gF71.trans (g78.weak (by simp))
        replace r_law_places_here := r_law_places_here.up g78.f
        replace r_law_marks_of := r_law_marks_of.up g78.f
        replace r_law_bad := r_law_bad.up g78.f
        replace r5 := r5.up g78.f
        replace s10 := g78.f _ _ s10
        replace a11 := a11.up g78.f
        replace s23 := g78.f _ _ s23
        replace a24 := a24.up g78.f
        replace s40 := g78.f _ _ s40
        replace a41 := a41.up g78.f
        replace r45 := r45.up g78.f
        replace r50 := r50.up g78.f
        replace s54 := g78.f _ _ s54
        replace a55 := a55.up g78.f
        replace s58 := g78.f _ _ s58
        replace a59 := a59.up g78.f
        replace r65 := r65.up g78.f
        replace s69 := g78.f _ _ s69
        replace a70 := a70.up g78.f
        replace r74 := r74.up g78.f
        obtain ⟨p81, xs82, rfl, s83, a84⟩ := dp_lst r74
        obtain ⟨p85, xs86, rfl, s87, a88⟩ := dp_lst r79
        obtain ⟨h90, k⟩ := post_guard k
        refine ⟨_, _, _, _, rfl, rfl, eF76 _ _ s83, eF76 _ _ s87, cat_len a84 a88 h90, new_lstC (K := K) (M := []) (en := (e2 PyData.int PyData.int)) (l := (cutL law_marks_of none (some i33))) (l' := (cutL law_marks_of (some (i33 + (1 : Int))) none)) eF76 a84 a88 fun v95 F91 H92 g93 r94 => ?_⟩
        have eF91 := g93.s
        have gF91 := gF76.trans (g93.weak (by simp))
        replace r_law_places_here := r_law_places_here.up g93.f
        replace r_law_marks_of := r_law_marks_of.up g93.f
        replace r_law_bad := r_law_bad.up g93.f
        replace r5 := r5.up g93.f
        replace s10 := g93.f _ _ s10
        replace a11 := a11.up g93.f
        replace s23 := g93.f _ _ s23
        replace a24 := a24.up g93.f
        replace s40 := g93.f _ _ s40
        replace a41 := a41.up g93.f
        replace r45 := r45.up g93.f
        replace r50 := r50.up g93.f
        replace s54 := g93.f _ _ s54
        replace a55 := a55.up g93.f
        replace s58 := g93.f _ _ s58
        replace a59 := a59.up g93.f
        replace r65 := r65.up g93.f
        replace s69 := g93.f _ _ s69
        replace a70 := a70.up g93.f
        replace r74 := r74.up g93.f
        replace r79 := r79.up g93.f
        replace s83 := g93.f _ _ s83
        replace a84 := a84.up g93.f
        replace s87 := g93.f _ _ s87
        replace a88 := a88.up g93.f
        refine ⟨F91, _, ((cutL law_places_here none (some i33)) ++ (cutL law_places_here (some (i33 + (1 : Int))) none)), _, ((cutL law_marks_of none (some i33)) ++ (cutL law_marks_of (some (i33 + (1 : Int))) none)), rfl, eF91, r65, r94, (post_bd k).mono (fun b96 k v101 F97 H98 g99 r100 => ?_) (fun _ z => z)⟩
        have eF97 := g99.s
        have gF97 := gF91.trans (g99.weak (by simp))
        replace r_law_places_here := r_law_places_here.up g99.f
        replace r_law_marks_of := r_law_marks_of.up g99.f
        replace r_law_bad := r_law_bad.up g99.f
        replace r5 := r5.up g99.f
        replace s10 := g99.f _ _ s10
        replace a11 := a11.up g99.f
        replace s23 := g99.f _ _ s23
        replace a24 := a24.up g99.f
        replace s40 := g99.f _ _ s40
        replace a41 := a41.up g99.f
        replace r45 := r45.up g99.f
        replace r50 := r50.up g99.f
        replace s54 := g99.f _ _ s54
        replace a55 := a55.up g99.f
        replace s58 := g99.f _ _ s58
        replace a59 := a59.up g99.f
        replace r65 := r65.up g99.f
        replace s69 := g99.f _ _ s69
        replace a70 := a70.up g99.f
        replace r74 := r74.up g99.f
        replace r79 := r79.up g99.f
        replace s83 := g99.f _ _ s83
        replace a84 := a84.up g99.f
        replace s87 := g99.f _ _ s87
        replace a88 := a88.up g99.f
        replace r94 := r94.up g99.f
        refine ⟨_, rfl, _, rfl, _, rfl, ?_⟩
        refine cut_lst (K := K) (M := []) eF97 s69 a70 fun v107 F103 H104 g105 r106 => ?_
        have eF103 := g105.s
        have gF103 := gF97.trans (g105.weak (by simp))
        replace r_law_places_here := r_law_places_here.up g105.f
        replace r_law_marks_of := r_law_marks_of.up g105.f
        replace r_law_bad := r_law_bad.up g105.f
        replace r5 := r5.up g105.f
        replace s10 := g105.f _ _ s10
        replace a11 := a11.up g105.f
        replace s23 := g105.f _ _ s23
        replace a24 := a24.up g105.f
        replace s40 := g105.f _ _ s40
        replace a41 := a41.up g105.f
        replace r45 := r45.up g105.f
        replace r50 := r50.up g105.f
        replace s54 := g105.f _ _ s54
        replace a55 := a55.up g105.f
        replace s58 := g105.f _ _ s58
        replace a59 := a59.up g105.f
        replace r65 := r65.up g105.f
        replace s69 := g105.f _ _ s69
        replace a70 := a70.up g105.f
        replace r74 := r74.up g105.f
        replace r79 := r79.up g105.f
        replace s83 := g105.f _ _ s83
        replace a84 := a84.up g105.f
        replace s87 := g105.f _ _ s87
        replace a88 := a88.up g105.f
        replace r94 := r94.up g105.f
        replace r100 := r100.up g105.f
        refine ⟨_, rfl, _, rfl, _, rfl, ?_⟩
        obtain ⟨i108, h109, k⟩ := post_get k
        obtain ⟨v110, h111, r112⟩ := dq_at a41 h109
        refine ⟨_, _, _, _, rfl, rfl, (sq_of (eF103 _ _ s40)), h111, ?_⟩
        refine ⟨F103, _, b96, _, i108, rfl, eF103, r100, r112, (post_bd k).mono (fun b113 k v118 F114 H115 g116 r117 => ?_) (fun _ z => z)⟩
        have eF114 := g116.s
        have gF114 := gF103.trans (g116.weak (by simp))
        replace r_law_places_here := r_law_places_here.up g116.f
        replace r_law_marks_of := r_law_marks_of.up g116.f
        replace r_law_bad := r_law_bad.up g116.f
        replace r5 := r5.up g116.f
        replace s10 := g116.f _ _ s10
        replace a11 := a11.up g116.f
        replace s23 := g116.f _ _ s23
        replace a24 := a24.up g116.f
        replace s40 := g116.f _ _ s40
        replace a41 := a41.up g116.f
        replace r45 := r45.up g116.f
        replace r50 := r50.up g116.f
        replace s54 := g116.f _ _ s54
        replace a55 := a55.up g116.f
        replace s58 := g116.f _ _ s58
        replace a59 := a59.up g116.f
        replace r65 := r65.up g116.f
        replace s69 := g116.f _ _ s69
        replace a70 := a70.up g116.f
        replace r74 := r74.up g116.f
        replace r79 := r79.up g116.f
        replace s83 := g116.f _ _ s83
        replace a84 := a84.up g116.f
        replace s87 := g116.f _ _ s87
        replace a88 := a88.up g116.f
        replace r94 := r94.up g116.f
        replace r100 := r100.up g116.f
        replace r106 := r106.up g116.f
        replace r112 := r112.up g116.f
        show _ ∧ _
        refine new_lst (K := K) (M := []) eF114 (.cons r117 .nil) (by show 1 ≤ 100000; decide) fun v124 F120 H121 g122 r123 => ?_
        have eF120 := g122.s
        have gF120 := gF114.trans (g122.weak (by simp))
        replace r_law_places_here := r_law_places_here.up g122.f
        replace r_law_marks_of := r_law_marks_of.up g122.f
        replace r_law_bad := r_law_bad.up g122.f
        replace r5 := r5.up g122.f
        replace s10 := g122.f _ _ s10
        replace a11 := a11.up g122.f
        replace s23 := g122.f _ _ s23
        replace a24 := a24.up g122.f
        replace s40 := g122.f _ _ s40
        replace a41 := a41.up g122.f
        replace r45 := r45.up g122.f
        replace r50 := r50.up g122.f
        replace s54 := g122.f _ _ s54
        replace a55 := a55.up g122.f
        replace s58 := g122.f _ _ s58
        replace a59 := a59.up g122.f
        replace r65 := r65.up g122.f
        replace s69 := g122.f _ _ s69
        replace a70 := a70.up g122.f
        replace r74 := r74.up g122.f
        replace r79 := r79.up g122.f
        replace s83 := g122.f _ _ s83
        replace a84 := a84.up g122.f
        replace s87 := g122.f _ _ s87
        replace a88 := a88.up g122.f
        replace r94 := r94.up g122.f
        replace r100 := r100.up g122.f
        replace r106 := r106.up g122.f
        replace r112 := r112.up g122.f
        replace r117 := r117.up g122.f
        replace r123 : Dq K F120 v124 ((eL (e2 PyData.int PyData.int)) [b113]) := r123
        obtain ⟨p125, xs126, rfl, s127, a128⟩ := dp_lst r106
        obtain ⟨p129, xs130, rfl, s131, a132⟩ := dp_lst r123
        obtain ⟨h134, k⟩ := post_guard k
        refine ⟨_, _, _, _, rfl, rfl, eF120 _ _ s127, eF120 _ _ s131, cat_len a128 a132 h134, new_lstC (K := K) (M := []) (en := (e2 PyData.int PyData.int)) (l := (cutL law_marks_of none (some i33))) (l' := [b113]) eF120 a128 a132 fun v139 F135 H136 g137 r138 => ?_⟩
        have eF135 := g137.s
        have gF135 := gF120.trans (g137.weak (by simp))
        replace r_law_places_here := r_law_places_here.up g137.f
        replace r_law_marks_of := r_law_marks_of.up g137.f
        replace r_law_bad := r_law_bad.up g137.f
        replace r5 := r5.up g137.f
        replace s10 := g137.f _ _ s10
        replace a11 := a11.up g137.f
        replace s23 := g137.f _ _ s23
        replace a24 := a24.up g137.f
        replace s40 := g137.f _ _ s40
        replace a41 := a41.up g137.f
        replace r45 := r45.up g137.f
        replace r50 := r50.up g137.f
        replace s54 := g137.f _ _ s54
        replace a55 := a55.up g137.f
        replace s58 := g137.f _ _ s58
        replace a59 := a59.up g137.f
        replace r65 := r65.up g137.f
        replace s69 := g137.f _ _ s69
        replace a70 := a70.up g137.f
        replace r74 := r74.up g137.f
        replace r79 := r79.up g137.f
        replace s83 := g137.f _ _ s83
        replace a84 := a84.up g137.f
        replace s87 := g137.f _ _ s87
        replace a88 := a88.up g137.f
        replace r94 := r94.up g137.f
        replace r100 := r100.up g137.f
        replace r106 := r106.up g137.f
        replace r112 := r112.up g137.f
        replace r117 := r117.up g137.f
        replace r123 := r123.up g137.f
        replace s127 := g137.f _ _ s127
        replace a128 := a128.up g137.f
        replace s131 := g137.f _ _ s131
        replace a132 := a132.up g137.f
        refine ⟨_, rfl, _, rfl, _, _, rfl, rfl, _, rfl, ?_⟩
        refine cut_lst (K := K) (M := []) eF135 s69 a70 fun v144 F140 H141 g142 r143 => ?_
        have eF140 := g142.s
        have gF140 := gF135.trans (g142.weak (by simp))
        replace r_law_places_here := r_law_places_here.up g142.f
        replace r_law_marks_of := r_law_marks_of.up g142.f
        replace r_law_bad := r_law_bad.up g142.f
        replace r5 := r5.up g142.f
        replace s10 := g142.f _ _ s10
        replace a11 := a11.up g142.f
        replace s23 := g142.f _ _ s23
        replace a24 := a24.up g142.f
        replace s40 := g142.f _ _ s40
        replace a41 := a41.up g142.f
        replace r45 := r45.up g142.f
        replace r50 := r50.up g142.f
        replace s54 := g142.f _ _ s54
        replace a55 := a55.up g142.f
        replace s58 := g142.f _ _ s58
        replace a59 := a59.up g142.f
        replace r65 := r65.up g142.f
        replace s69 := g142.f _ _ s69
        replace a70 := a70.up g142.f
        replace r74 := r74.up g142.f
        replace r79 := r79.up g142.f
        replace s83 := g142.f _ _ s83
        replace a84 := a84.up g142.f
        replace s87 := g142.f _ _ s87
        replace a88 := a88.up g142.f
        replace r94 := r94.up g142.f
        replace r100 := r100.up g142.f
        replace r106 := r106.up g142.f
        replace r112 := r112.up g142.f
        replace r117 := r117.up g142.f
        replace r123 := r123.up g142.f
        replace s127 := g142.f _ _ s127
        replace a128 := a128.up g142.f
        replace s131 := g142.f _ _ s131
        replace a132 := a132.up g142.f
        replace r138 := r138.up g142.f
        obtain ⟨p145, xs146, rfl, s147, a148⟩ := dp_lst r138
        obtain ⟨p149, xs150, rfl, s151, a152⟩ := dp_lst r143
        obtain ⟨h154, k⟩ := post_guard k
        refine ⟨_, _, _, _, rfl, rfl, eF140 _ _ s147, eF140 _ _ s151, cat_len a148 a152 h154, new_lstC (K := K) (M := []) (en := (e2 PyData.int PyData.int)) (l := ((cutL law_marks_of none (some i33)) ++ [b113])) (l' := (cutL law_marks_of (some (i33 + (1 : Int))) none)) eF140 a148 a152 fun v159 F155 H156 g157 r158 => ?_⟩
        have eF155 := g157.s
        have gF155 := gF140.trans (g157.weak (by simp))
        replace r_law_places_here := r_law_places_here.up g157.f
        replace r_law_marks_of := r_law_marks_of.up g157.f
        replace r_law_bad := r_law_bad.up g157.f
        replace r5 := r5.up g157.f
        replace s10 := g157.f _ _ s10
        replace a11 := a11.up g157.f
        replace s23 := g157.f _ _ s23
        replace a24 := a24.up g157.f
        replace s40 := g157.f _ _ s40
        replace a41 := a41.up g157.f
        replace r45 := r45.up g157.f
        replace r50 := r50.up g157.f
        replace s54 := g157.f _ _ s54
        replace a55 := a55.up g157.f
        replace s58 := g157.f _ _ s58
        replace a59 := a59.up g157.f
        replace r65 := r65.up g157.f
        replace s69 := g157.f _ _ s69
        replace a70 := a70.up g157.f
        replace r74 := r74.up g157.f
        replace r79 := r79.up g157.f
        replace s83 := g157.f _ _ s83
        replace a84 := a84.up g157.f
        replace s87 := g157.f _ _ s87
        replace a88 := a88.up g157.f
        replace r94 := r94.up g157.f
        replace r100 := r100.up g157.f
        replace r106 := r106.up g157.f
        replace r112 := r112.up g157.f
        replace r117 := r117.up g157.f
        replace r123 := r123.up g157.f
        replace s127 := g157.f _ _ s127
        replace a128 := a128.up g157.f
        replace s131 := g157.f _ _ s131
        replace a132 := a132.up g157.f
        replace r138 := r138.up g157.f
        replace r143 := r143.up g157.f
        replace s147 := g157.f _ _ s147
        replace a148 := a148.up g157.f
        replace s151 := g157.f _ _ s151
        replace a152 := a152.up g157.f
        obtain ⟨p160, xs161, rfl, s162, a163⟩ := dp_lst r158
        refine to_VL (K := K) (M := []) eF155 s162 a163 (en := (e2 PyData.int PyData.int)) (l := (((cutL law_marks_of none (some i33)) ++ [b113]) ++ (cutL law_marks_of (some (i33 + (1 : Int))) none))) fun v168 F164 H165 g166 r167 => ?_
        have eF164 := g166.s
        have gF164 := gF155.trans (g166.weak (by simp))
        replace r_law_places_here := r_law_places_here.up g166.f
        replace r_law_marks_of := r_law_marks_of.up g166.f
        replace r_law_bad := r_law_bad.up g166.f
        replace r5 := r5.up g166.f
        replace s10 := g166.f _ _ s10
        replace a11 := a11.up g166.f
        replace s23 := g166.f _ _ s23
        replace a24 := a24.up g166.f
        replace s40 := g166.f _ _ s40
        replace a41 := a41.up g166.f
        replace r45 := r45.up g166.f
        replace r50 := r50.up g166.f
        replace s54 := g166.f _ _ s54
        replace a55 := a55.up g166.f
        replace s58 := g166.f _ _ s58
        replace a59 := a59.up g166.f
        replace r65 := r65.up g166.f
        replace s69 := g166.f _ _ s69
        replace a70 := a70.up g166.f
        replace r74 := r74.up g166.f
        replace r79 := r79.up g166.f
        replace s83 := g166.f _ _ s83
        replace a84 := a84.up g166.f
        replace s87 := g166.f _ _ s87
        replace a88 := a88.up g166.f
        replace r94 := r94.up g166.f
        replace r100 := r100.up g166.f
        replace r106 := r106.up g166.f
        replace r112 := r112.up g166.f
        replace r117 := r117.up g166.f
        replace r123 := r123.up g166.f
        replace s127 := g166.f _ _ s127
        replace a128 := a128.up g166.f
        replace s131 := g166.f _ _ s131
        replace a132 := a132.up g166.f
        replace r138 := r138.up g166.f
        replace r143 := r143.up g166.f
        replace s147 := g166.f _ _ s147
        replace a148 := a148.up g166.f
        replace s151 := g166.f _ _ s151
        replace a152 := a152.up g166.f
        replace r158 := r158.up g166.f
        replace s162 := g166.f _ _ s162
        replace a163 := a163.up g166.f
        exact k.h _ _ _ gF164 r167
/-! ### law -/
abbrev s_law : Stmt := top 51
theorem sc_law : FnScope ["_law_script", "_law_row", "_law_places_here", "_law_degree", "_law_truth", "_law_marks_of", "_law_turn", "_law_k", "_law_spots", "_law_wide_here", "_law_bad", "_law_some", "_law_found", "_law_place"] ["_law_script"] (defScope s_law) := ⟨rfl, rfl, rfl, by decide +kernel, rfl, by decide +kernel, by decide +kernel⟩
def law (scr : List Int) : Mm Bool := (law_places scr (Rw.mk 0 0 0) ((8 : Int))).bd fun b1 => (takenA scr b1.2 ((5 : Int))).bd fun b17 => (takenA scr b17.2 ((b17.1 + (1 : Int)))).bd fun b24 => (rangeM ((1 : Int) + b24.1)).bd fun l32 => (guardM ((rangeL 0 ((1 : Int) + b24.1).toNat).length ≤ 50000)).bd fun _ => (mapSt (fun (st42 : Rw) (x35 : Int) => (takenA scr st42 ((11 : Int))).bd fun b54 => (takenA scr b54.2 ((2 : Int))).bd fun b61 => Mm.ok (((b54.1 - (5 : Int)), ((1 : Int) + b61.1)), b61.2)) b24.2 (rangeL 0 ((1 : Int) + b24.1).toNat)).bd fun b34 => (guardM ((cutL b1.1 none (some (6 : Int))).length ≤ 50000)).bd fun _ => (mapMm (fun (x80 : (Int × Int)) => (law_worth (b34.1) (x80)).bd fun b99 => Mm.ok b99) (cutL b1.1 none (some (6 : Int)))).bd fun b79 => (takenA scr b34.2 ((3 : Int))).bd fun b112 => (rangeM b112.1).bd fun l120 => (foldM (fun (b121 : ((List (Int × Int)) × Rw)) (x122 : Int) => (takenA scr b121.2 (((cutL b1.1 none (some (6 : Int))).length : Int))).bd fun b151 => (getM b121.1 b151.1).bd fun i158 => (takenA scr b151.2 ((5 : Int))).bd fun b163 => (law_add (i158) ((((1 : Int) + b163.1), (1 : Int)))).bd fun b175 => (setM b121.1 b151.1 b175).bd fun m182 => Mm.ok (m182, b163.2)) (b79, b112.2) (rangeL 0 b112.1.toNat)).bd fun b138 => (law_wide scr b138.2 ((cutL b1.1 none (some (6 : Int))))).bd fun b202 => (law_wide scr b202.2 (b138.1)).bd fun b215 => (polynomial_by (b202.1) (b215.1)).bd fun b222 => (law_through ((cutL b1.1 none (some (6 : Int)))) (b138.1)).bd fun b229 => cond (!(decide (b222 = b229))) (Mm.ok false) ((rangeM ((cutL b1.1 none (some (6 : Int))).length : Int)).bd fun l253 => (foldM (fun (b254 : ((List Int) × Rw)) (x255 : Int) => (guardM ((cutL (cutL b1.1 none (some (6 : Int))) none (some x255)).length + (cutL (cutL b1.1 none (some (6 : Int))) (some (x255 + (1 : Int))) none).length ≤ 100000)).bd fun _ => (guardM ((cutL b138.1 none (some x255)).length + (cutL b138.1 (some (x255 + (1 : Int))) none).length ≤ 100000)).bd fun _ => (law_through (((cutL (cutL b1.1 none (some (6 : Int))) none (some x255)) ++ (cutL (cutL b1.1 none (some (6 : Int))) (some (x255 + (1 : Int))) none))) (((cutL b138.1 none (some x255)) ++ (cutL b138.1 (some (x255 + (1 : Int))) none)))).bd fun b331 => cond (decide ((b331.length : Int) ≤ (b17.1 + (1 : Int)))) ((guardM (b254.1.length < 100000)).bd fun _ => Mm.ok ((b254.1 ++ [x255]), b254.2)) (Mm.ok (b254.1, b254.2))) ([], b215.2) (rangeL 0 ((cutL b1.1 none (some (6 : Int))).length : Int).toNat)).bd fun b271 => (false_ones (b202.1) (b215.1) (b17.1)).bd fun b356 => cond (!(decide (b356 = b271.1))) (Mm.ok false) ((repaired (b202.1) (b215.1) (b17.1)).bd fun b368 => (law_repaired ((cutL b1.1 none (some (6 : Int)))) (b138.1) (b17.1) (b271.1)).bd fun b381 => cond (!(decide (b368 = b381))) (Mm.ok false) (cond b368.isNone (Mm.ok true) ((getO b368).bd fun a388 => (polynomial_by ((cutL b1.1 none (some (6 : Int)))) (a388)).bd fun b395 => cond (decide ((b395.length : Int) ≤ (b17.1 + (1 : Int)))) ((repaired ((cutL b1.1 none (some (6 : Int)))) (a388) (b17.1)).bd fun b411 => Mm.ok (decide (b411 = (some a388)))) (Mm.ok false)))))
def sp_law (K : PySem.W.Frag) : Sp := fun vs H Q _ => ∃ (sc : Addr) (scr : List Int), vs = [.ref sc] ∧ SqL K H sc (scr.map V.int) ∧ Post (law scr) (fun r => ∀ H', Q (.bl r) H') (fun _ => False)
theorem ok_law {P : Program} {w : World} {K : PySem.W.Frag} {mg : Str → Option Value} {base : Heap} {C f : Addr} {fd : FuncData} (B : Bi mg) (FF : FunD K "law" "law" (defArgs s_law) (defBody s_law) (defScope s_law) [] [] f fd) (G_law_places : Kn P w K mg base "_law_places" 3 ["_law_row", "_law_most"] (sp_law_places K)) (G_law_taken : Kn P w K mg base "_law_taken" 1 ["_law_row", "_law_many"] (spTaken takenA K)) (G_law_worth : Kn P w K mg base "_law_worth" 3 ["_law_some", "_law_place"] (sp_law_worth K)) (G_law_add : Kn P w K mg base "_law_add" 2 ["_law_one", "_law_other"] (sp_law_add K)) (G_law_wide : Kn P w K mg base "_law_wide" 3 ["_law_row", "_law_some"] (sp_law_wide K)) (G_polynomial_by : Kn P w K mg base "polynomial_by" 7 ["places", "readings"] (sp_polynomial_by K)) (G_law_through : Kn P w K mg base "_law_through" 4 ["_law_places_here", "_law_marks_of"] (sp_law_through K)) (G_false_ones : Kn P w K mg base "false_ones" 9 ["places", "readings", "degree"] (sp_false_ones K)) (G_repaired : Kn P w K mg base "repaired" 9 ["places", "readings", "degree"] (sp_repaired K)) (G_law_repaired : Kn P w K mg base "_law_repaired" 5 ["_law_places_here", "_law_marks_of", "_law_degree", "_law_bad"] (sp_law_repaired K)) : FnOk P w K mg base CX0 10 f fd ["_law_script"] (sp_law K) := by
  refine FF.ok sc_law (fun vs H Q E h => ?_) (fun cdv A outer s H vs Q E hr h => ?_)
  · obtain ⟨sc, scr, rfl, _⟩ := h; rfl
  · obtain ⟨sc, scr, rfl, hs, k⟩ := h
    unfold law at k
    refine ⟨_, PSs.nox (pss_cons (ps_set (i := 1) sc_law.nd rfl (Or.inr rfl) (pe_q (pe_lst (pa_cons (pv 0) (pa_cons pe_int (pa_cons pe_int (pa_cons pe_int pa_nil))))))) (pss_cons (ps_par (i := 2) (j := 3) (by rfl) sc_law.nd rfl rfl (by decide) rfl rfl (pa_cons (pe_q (pe_slice sl_list (pe_kn G_law_places (hr.mono (by decide)) (pa_cons (pv 1) (pa_cons (pe_int) (pa_nil)))) po_none (po_some (pe_int)))) (pa_cons (pe_kn G_law_taken (hr.mono (by decide)) (pa_cons (pv 1) (pa_cons (pe_int) (pa_nil)))) (pa_nil))) (by rfl)) (pss_cons (ps_set (i := 4) sc_law.nd rfl (Or.inr rfl) (pe_q (pe_lc (own := [("_law_k", 7)]) (g := gName 7) rfl sc_law.nd (pi_range1 rfl B.range (pa_cons (pe_op op_add (pe_int) (pe_kn G_law_taken (hr.mono (by decide)) (pa_cons (pv 1) (pa_cons (pe_op op_add (pv 3) (pe_int)) (pa_nil))))) (pa_nil))) (blkOk_by (N := ["_law_script", "_law_row", "_law_places_here", "_law_degree", "_law_truth", "_law_marks_of", "_law_turn", "_law_k", "_law_spots", "_law_wide_here", "_law_bad", "_law_some", "_law_found", "_law_place"]) (sc := defScope s_law) (by decide +kernel)) (fun _ _ _ _ _ => pg_name (i := 7) sc_law.nd rfl (Or.inl rfl)) (fun _ _ _ _ _ => pts_nil) (fun _ _ _ _ _ => pe_q (pe_tup (pa_cons (pe_op op_sub (pe_kn G_law_taken (hr.mono (by decide)) (pa_cons (pv 1) (pa_cons (pe_int) (pa_nil)))) (pe_int)) (pa_cons (pe_op op_add (pe_int) (pe_kn G_law_taken (hr.mono (by decide)) (pa_cons (pv 1) (pa_cons (pe_int) (pa_nil))))) (pa_nil)))))))) (pss_cons (ps_q (ps_setLc (i := 5) (own := [("_law_place", 13)]) (g := gName 13) rfl sc_law.nd rfl rfl (sw_true rfl rfl rfl (by decide +kernel)) (pi_list (pv 2)) (blkOk_by (N := ["_law_script", "_law_row", "_law_places_here", "_law_degree", "_law_truth", "_law_marks_of", "_law_turn", "_law_k", "_law_spots", "_law_wide_here", "_law_bad", "_law_some", "_law_found", "_law_place"]) (sc := defScope s_law) (by decide +kernel)) (fun _ _ _ _ _ => pg_name (i := 13) sc_law.nd rfl (Or.inl rfl)) (fun _ _ _ _ _ => pts_nil) (fun _ _ _ _ _ => pe_kn G_law_worth (hr.mono (by decide)) (pa_cons (pv 4) (pa_cons (pv 13) (pa_nil)))))) (pss_cons (ps_for PassesOwn.never rfl (pi_range1 rfl B.range (pa_cons (pe_kn G_law_taken (hr.mono (by decide)) (pa_cons (pv 1) (pa_cons (pe_int) (pa_nil)))) (pa_nil))) (pg_name (i := 6) sc_law.nd rfl (Or.inl rfl)) (pss_cons (ps_set (i := 7) sc_law.nd rfl (Or.inl rfl) (pe_kn G_law_taken (hr.mono (by decide)) (pa_cons (pv 1) (pa_cons (pe_callB call_lenM (by rfl) B.len (by decide +kernel) (pa_cons (pv 2) pa_nil)) (pa_nil))))) (pss_one (ps_asg (pe_kn G_law_add (hr.mono (by decide)) (pa_cons (pe_ix (r := rIxL K) ix_list (pv 5) (pv 7) (fun _ _ => rfl)) (pa_cons (pe_q (pe_tup (pa_cons (pe_op op_add (pe_int) (pe_kn G_law_taken (hr.mono (by decide)) (pa_cons (pv 1) (pa_cons (pe_int) (pa_nil))))) (pa_cons (pe_int) (pa_nil))))) (pa_nil)))) (pg_sub (pv 5) (pv 7) set_list))))) (pss_cons (ps_par (i := 8) (j := 9) (by rfl) sc_law.nd rfl rfl (by decide) rfl rfl (pa_cons (pe_kn G_law_wide (hr.mono (by decide)) (pa_cons (pv 1) (pa_cons (pv 2) (pa_nil)))) (pa_cons (pe_kn G_law_wide (hr.mono (by decide)) (pa_cons (pv 1) (pa_cons (pv 5) (pa_nil)))) (pa_nil))) (by rfl)) (pss_cons (ps_if (pt_cmpR (r := rNeM K (eV (e2 PyData.int PyData.int))) (op_neM (sh_eV (sh_e2 sh_int sh_int)) (units_of hr)) (pe_kn G_polynomial_by (hr.mono (by decide)) (pa_cons (pv 8) (pa_cons (pv 9) (pa_nil)))) (pe_q (pe_callTy call_tuple_of (by rfl) B.tuple (by decide +kernel) (pa_cons (pe_kn G_law_through (hr.mono (by decide)) (pa_cons (pv 2) (pa_cons (pv 5) (pa_nil)))) pa_nil))) (nomark _)) (pss_one (ps_ret (pe_bl))) pss_nil) (pss_cons (ps_set (i := 10) sc_law.nd rfl (Or.inl rfl) (pe_q (pe_lst (pa_nil)))) (pss_cons (ps_for PassesOwn.never rfl (pi_range1 rfl B.range (pa_cons (pe_callB call_lenM (by rfl) B.len (by decide +kernel) (pa_cons (pv 2) pa_nil)) (pa_nil))) (pg_name (i := 7) sc_law.nd rfl (Or.inl rfl)) (pss_cons (ps_set (i := 11) sc_law.nd rfl (Or.inl rfl) (pe_kn G_law_through (hr.mono (by decide)) (pa_cons (pe_q (pe_op op_cat (pe_q (pe_slice sl_list (pv 2) po_none (po_some (pv 7)))) (pe_q (pe_slice sl_list (pv 2) (po_some (pe_op op_add (pv 7) (pe_int))) po_none)))) (pa_cons (pe_q (pe_op op_cat (pe_q (pe_slice sl_list (pv 5) po_none (po_some (pv 7)))) (pe_q (pe_slice sl_list (pv 5) (po_some (pe_op op_add (pv 7) (pe_int))) po_none)))) (pa_nil))))) (pss_one (ps_if (pt_cmpR op_le (pe_callB call_lenM (by rfl) B.len (by decide +kernel) (pa_cons (pv 11) pa_nil)) (pe_op op_add (pv 3) (pe_int)) (nomark _)) (pss_one (ps_expr (pe_bm PySem.F.plainAttrs_list PySem.F.slot_list_append PySem.F.type_list_append mt_append (pv 10) (pa_cons (pv 7) pa_nil)))) (pss_nil))))) (pss_cons (ps_if (pt_cmpR (r := rNeM K (eV PyData.int)) (op_neM (sh_eV sh_int) (units_of hr)) (pe_kn G_false_ones (hr.mono (by decide)) (pa_cons (pv 8) (pa_cons (pv 9) (pa_cons (pv 3) (pa_nil))))) (pe_q (pe_callTy call_tuple_of (by rfl) B.tuple (by decide +kernel) (pa_cons (pv 10) pa_nil))) (nomark _)) (pss_one (ps_ret (pe_bl))) pss_nil) (pss_cons (ps_set (i := 12) sc_law.nd rfl (Or.inl rfl) (pe_kn G_repaired (hr.mono (by decide)) (pa_cons (pv 8) (pa_cons (pv 9) (pa_cons (pv 3) (pa_nil)))))) (pss_cons (ps_if (pt_cmpR (r := rNeM K (eO (eV (e2 PyData.int PyData.int)))) (op_neM (sh_eO (sh_eV (sh_e2 sh_int sh_int))) (units_of hr)) (pv 12) (pe_kn G_law_repaired (hr.mono (by decide)) (pa_cons (pv 2) (pa_cons (pv 5) (pa_cons (pv 3) (pa_cons (pv 10) (pa_nil)))))) (nomark _)) (pss_one (ps_ret (pe_bl))) pss_nil) (pss_cons (ps_if (pt_cmp (pc_isN (pv 12)) rfl) (pss_one (ps_ret (pe_bl))) pss_nil) (pss_one (ps_ret (pe_and (pe_cmpR op_le (pe_callB call_lenM (by rfl) B.len (by decide +kernel) (pa_cons (pe_kn G_polynomial_by (hr.mono (by decide)) (pa_cons (pe_q (pe_callTy call_tuple_of (by rfl) B.tuple (by decide +kernel) (pa_cons (pv 2) pa_nil))) (pa_cons (pv 12) (pa_nil)))) pa_nil)) (pe_op op_add (pv 3) (pe_int)) (nomark _)) (pe_one (pe_cmpR (r := rEqM K (eO (eV (e2 PyData.int PyData.int)))) (op_eqM (sh_eO (sh_eV (sh_e2 sh_int sh_int))) (units_of hr)) (pe_kn G_repaired (hr.mono (by decide)) (pa_cons (pe_q (pe_callTy call_tuple_of (by rfl) B.tuple (by decide +kernel) (pa_cons (pv 2) pa_nil))) (pa_cons (pv 12) (pa_cons (pv 3) (pa_nil))))) (pv 12) (nomark _))))))))))))))))))), ?_⟩
    refine ⟨_, rfl, ?_⟩
    show _ ∧ _
    refine new_row hs fun ra H0 e w => ?_
    have g_ := Gm.refl (M := [ra]) e
    refine ⟨_, rfl, ?_⟩
    refine ⟨H, sc, ra, scr, (Rw.mk 0 0 0), (8 : Int), rfl, e, w, (post_bd k).mono (fun b1 k v6 F2 H3 g4 ⟨r5, w7⟩ => ?_) (fun _ z => z)⟩
    have eF2 := g4.s
    have gF2 := g_.trans (g4.weak (by simp))
    refine ⟨_, rfl, ?_⟩
    obtain ⟨p8, xs9, rfl, s10, a11⟩ := dp_lst r5
    refine cut_lst (K := K) (M := []) eF2 s10 a11 fun v16 F12 H13 g14 r15 => ?_
    have eF12 := g14.s
    have gF12 := gF2.trans (g14.weak (by simp))
    replace w7 := w7.keep g14
    replace r5 := r5.up g14.f
    replace s10 := g14.f _ _ s10
    replace a11 := a11.up g14.f
    refine ⟨_, rfl, ?_⟩
    refine ⟨F12, sc, ra, scr, b1.2, (5 : Int), rfl, eF12, w7, (post_bd k).mono (fun b17 k v22 F18 H19 g20 ⟨r21, w23⟩ => ?_) (fun _ z => z)⟩
    have eF18 := g20.s
    have gF18 := gF12.trans (g20.weak (by simp))
    replace r5 := r5.up g20.f
    replace s10 := g20.f _ _ s10
    replace a11 := a11.up g20.f
    replace r15 := r15.up g20.f
    subst r21
    refine ⟨_, _, rfl, ?_⟩
    refine ⟨_, rfl, _, rfl, _, _, rfl, rfl, ?_⟩
    refine ⟨F18, sc, ra, scr, b17.2, (b17.1 + (1 : Int)), rfl, eF18, w23, (post_bd k).mono (fun b24 k v29 F25 H26 g27 ⟨r28, w30⟩ => ?_) (fun _ z => z)⟩
    have eF25 := g27.s
    have gF25 := gF18.trans (g27.weak (by simp))
    replace r5 := r5.up g27.f
    replace s10 := g27.f _ _ s10
    replace a11 := a11.up g27.f
    replace r15 := r15.up g27.f
    subst r28
    refine ⟨_, _, rfl, rfl, ?_⟩
    obtain ⟨h31, k⟩ := post_range k
    refine ⟨_, rfl, h31.1, h31.2, ?_⟩
    obtain ⟨h52, k⟩ := post_guard k
    refine lc_st (K := K) wlk_range (e2 PyData.int PyData.int) k eF25 h52 w30 (fun st42 x35 v50 F43 H44 F45 H46 g47 w51 g48 r49 Q' k33 => ?_) (fun _ z => z) (fun b34 v36 F37 H38 g39 ⟨r40, w41⟩ k => ?_) gm_name
    · have g53 := Gm.refl (M := [ra]) g47.s
      replace r5 := r5.up g47.f
      replace s10 := g47.f _ _ s10
      replace a11 := a11.up g47.f
      replace r15 := r15.up g47.f
      clear w30
      replace r5 := r5.up g48.f
      replace s10 := g48.f _ _ s10
      replace a11 := a11.up g48.f
      replace r15 := r15.up g48.f
      replace w51 := w51.keep g48
      have eF45 := g48.s
      have gF45 := g53.trans (g48.weak (by simp))
      subst r49
      refine ⟨rfl, _, rfl, ?_⟩
      refine ⟨F45, sc, ra, scr, st42, (11 : Int), rfl, eF45, w51, (post_bd k33).mono (fun b54 k33 v59 F55 H56 g57 ⟨r58, w60⟩ => ?_) (fun _ z => z)⟩
      have eF55 := g57.s
      have gF55 := gF45.trans (g57.weak (by simp))
      replace r5 := r5.up g57.f
      replace s10 := g57.f _ _ s10
      replace a11 := a11.up g57.f
      replace r15 := r15.up g57.f
      subst r58
      refine ⟨_, _, rfl, rfl, _, rfl, ?_⟩
      refine ⟨F55, sc, ra, scr, b54.2, (2 : Int), rfl, eF55, w60, (post_bd k33).mono (fun b61 k33 v66 F62 H63 g64 ⟨r65, w67⟩ => ?_) (fun _ z => z)⟩
      have eF62 := g64.s
      have gF62 := gF55.trans (g64.weak (by simp))
      replace r5 := r5.up g64.f
      replace s10 := g64.f _ _ s10
      replace a11 := a11.up g64.f
      replace r15 := r15.up g64.f
      subst r65
      refine ⟨_, _, rfl, rfl, ?_⟩
      show _ ∧ _
      refine new_tup (K := K) (M := []) eF62 (.cons (Dq.int (b54.1 - (5 : Int))) (.cons (Dq.int ((1 : Int) + b61.1)) .nil)) (by show 2 ≤ 100000; decide) fun v72 F68 H69 g70 r71 => ?_
      have eF68 := g70.s
      have gF68 := gF62.trans (g70.weak (by simp))
      replace r5 := r5.up g70.f
      replace s10 := g70.f _ _ s10
      replace a11 := a11.up g70.f
      replace r15 := r15.up g70.f
      replace w67 := w67.keep g70
      replace r71 : Dq K F68 v72 ((e2 PyData.int PyData.int) ((b54.1 - (5 : Int)), ((1 : Int) + b61.1))) := r71
      exact k33.h _ _ _ gF68 ⟨r71, w67⟩
    have eF37 := g39.s
    have gF37 := gF25.trans (g39.weak (by simp))
    replace r5 := r5.up g39.f
    replace s10 := g39.f _ _ s10
    replace a11 := a11.up g39.f
    replace r15 := r15.up g39.f
    refine ⟨_, rfl, ?_⟩
    obtain ⟨p74, xs75, rfl, s76, a77⟩ := dp_lst r15
    refine ⟨_, rfl, ⟨_, (sq_of (eF37 _ _ s76))⟩, ?_⟩
    obtain ⟨h97, k⟩ := post_guard k
    refine lc_mapO (K := K) (M := []) (wlk_list eF37 s76 a77) (e2 PyData.int PyData.int) k eF37 h97 (fun _ _ => by simp) (fun x80 v95 F88 H89 F90 H91 g92 g93 r94 Q' k78 => ?_) (fun _ z => z) (fun b79 p107 xs108 F82 H83 g84 y111 o109 a110 k => ?_) gm_name
    · have g98 := Gm.refl (M := []) g92.s
      replace r5 := r5.up g92.f
      replace s10 := g92.f _ _ s10
      replace a11 := a11.up g92.f
      replace r15 := r15.up g92.f
      replace w41 := w41.keep g92
      replace r40 := r40.up g92.f
      replace s76 := g92.f _ _ s76
      replace a77 := a77.up g92.f
      replace r5 := r5.up g93.f
      replace s10 := g93.f _ _ s10
      replace a11 := a11.up g93.f
      replace r15 := r15.up g93.f
      replace w41 := w41.keep g93
      replace r40 := r40.up g93.f
      replace s76 := g93.f _ _ s76
      replace a77 := a77.up g93.f
      have eF90 := g93.s
      have gF90 := g98.trans (g93.weak (by simp))
      refine ⟨rfl, _, rfl, _, rfl, ?_⟩
      refine ⟨F90, _, b34.1, _, x80, rfl, eF90, r40, r94, (post_bd k78).mono (fun b99 k78 v104 F100 H101 g102 r103 => ?_) (fun _ z => z)⟩
      have eF100 := g102.s
      have gF100 := gF90.trans (g102.weak (by simp))
      replace r5 := r5.up g102.f
      replace s10 := g102.f _ _ s10
      replace a11 := a11.up g102.f
      replace r15 := r15.up g102.f
      replace w41 := w41.keep g102
      replace r40 := r40.up g102.f
      replace s76 := g102.f _ _ s76
      replace a77 := a77.up g102.f
      replace r94 := r94.up g102.f
      exact k78.h _ _ _ gF100 r103
    have np107 := ne_of_none w41.1 y111
    have mp107 := np107.symm
    have zp107 := gF37.fresh y111
    have eF82 := g84.s
    have gF82 := gF37.trans (g84.weak (by simp))
    replace r5 := r5.up g84.f
    replace s10 := g84.f _ _ s10
    replace a11 := a11.up g84.f
    replace r15 := r15.up g84.f
    replace w41 := w41.keep g84
    replace r40 := r40.up g84.f
    replace s76 := g84.f _ _ s76
    replace a77 := a77.up g84.f
    refine ⟨_, rfl, ?_⟩
    refine ⟨F82, sc, ra, scr, b34.2, (3 : Int), rfl, eF82, w41, (post_bd k).mono (fun b112 k v117 F113 H114 g115 ⟨r116, w118⟩ => ?_) (fun _ z => z)⟩
    have eF113 := g115.s
    have gF113 := gF82.trans (g115.weak (by simp))
    replace r5 := r5.up g115.f
    replace s10 := g115.f _ _ s10
    replace a11 := a11.up g115.f
    replace r15 := r15.up g115.f
    replace r40 := r40.up g115.f
    replace s76 := g115.f _ _ s76
    replace a77 := a77.up g115.f
    replace o109 := g115.own (by simp [*]) o109.1 o109.2
    replace a110 := a110.up g115.f
    subst r116
    obtain ⟨h119, k⟩ := post_range k
    refine ⟨_, rfl, h119.1, h119.2, ?_⟩
    refine for_m (M := [p107, ra]) (F := F113) wlk_range (fun b121 F' H' σ' => ∃ (u6 : Option V) (u7 : Option V) (u8 : Option V) (u9 : Option V) (u10 : Option V) (u11 : Option V) (u12 : Option V) (u13 : Option V) (xs5 : List V), σ' = [some (V.ref sc), some (V.ref ra), some (V.ref p74), some (V.int b17.1), some v36, some (V.ref p107), u6, u7, u8, u9, u10, u11, u12, u13] ∧ (H' p107 = some (.lst xs5) ∧ F' p107 = none) ∧ DqAll K F' xs5 (List.map (e2 PyData.int PyData.int) b121.1) ∧ RowAt K sc ra scr F' H' b121.2) k eF113 ⟨_, _, _, _, _, _, _, _, _, rfl, o109, a110, w118⟩ (fun b121 x122 v130 σ132 F123 H124 F125 H126 g127 i131 g128 r129 nx kfb121 => ?_) (fun b138 σ137 F133 H134 g135 i136 k => ?_)
    · replace r5 := r5.up g127.f
      replace s10 := g127.f _ _ s10
      replace a11 := a11.up g127.f
      replace r15 := r15.up g127.f
      replace r40 := r40.up g127.f
      replace s76 := g127.f _ _ s76
      replace a77 := a77.up g127.f
      obtain ⟨u139, u140, u141, u142, u143, u144, u145, u146, xs147, rfl, o148, a149, w150⟩ := i131
      replace r5 := r5.up g128.f
      replace s10 := g128.f _ _ s10
      replace a11 := a11.up g128.f
      replace r15 := r15.up g128.f
      replace r40 := r40.up g128.f
      replace s76 := g128.f _ _ s76
      replace a77 := a77.up g128.f
      replace o148 := g128.own (by simp [*]) o148.1 o148.2
      replace a149 := a149.up g128.f
      replace w150 := w150.keep g128
      have eF125 := g128.s
      have gF125 := g127.trans (g128.weak (by simp))
      subst r129
      refine ⟨_, rfl, _, rfl, ?_⟩
      refine ⟨_, _, _, rfl, .inl (sq_of (eF125 _ _ s76)), len_all a77, ?_⟩
      refine ⟨F125, sc, ra, scr, b121.2, ((cutL b1.1 none (some (6 : Int))).length : Int), rfl, eF125, w150, (post_bd kfb121).mono (fun b151 kfb121 v156 F152 H153 g154 ⟨r155, w157⟩ => ?_) (fun _ z => z)⟩
      have eF152 := g154.s
      have gF152 := gF125.trans (g154.weak (by simp))
      replace r5 := r5.up g154.f
      replace s10 := g154.f _ _ s10
      replace a11 := a11.up g154.f
      replace r15 := r15.up g154.f
      replace r40 := r40.up g154.f
      replace s76 := g154.f _ _ s76
      replace a77 := a77.up g154.f
      replace o148 := g154.own (by simp [*]) o148.1 o148.2
      replace a149 := a149.up g154.f
      subst r155
      refine ⟨_, rfl, _, rfl, ?_⟩
      obtain ⟨i158, h159, kfb121⟩ := post_get kfb121
      obtain ⟨v160, h161, r162⟩ := dq_at a149 h159
      refine ⟨_, _, _, _, rfl, rfl, (sq_of o148.1), h161, ?_⟩
      refine ⟨_, rfl, ?_⟩
      refine ⟨F152, sc, ra, scr, b151.2, (5 : Int), rfl, eF152, w157, (post_bd kfb121).mono (fun b163 kfb121 v168 F164 H165 g166 ⟨r167, w169⟩ => ?_) (fun _ z => z)⟩
      have eF164 := g166.s
      have gF164 := gF152.trans (g166.weak (by simp))
      replace r5 := r5.up g166.f
      replace s10 := g166.f _ _ s10
      replace a11 := a11.up g166.f
      replace r15 := r15.up g166.f
      replace r40 := r40.up g166.f
      replace s76 := g166.f _ _ s76
      replace a77 := a77.up g166.f
      replace o148 := g166.own (by simp [*]) o148.1 o148.2
      replace a149 := a149.up g166.f
      replace r162 := r162.up g166.f
      subst r167
      refine ⟨_, _, rfl, rfl, ?_⟩
      show _ ∧ _
      refine new_tup (K := K) (M := []) eF164 (.cons (Dq.int ((1 : Int) + b163.1)) (.cons (Dq.int (1 : Int)) .nil)) (by show 2 ≤ 100000; decide) fun v174 F170 H171 g172 r173 => ?_
      have eF170 := g172.s
      have gF170 := gF164.trans (g172.weak (by simp))
      replace r5 := r5.up g172.f
      replace s10 := g172.f _ _ s10
      replace a11 := a11.up g172.f
      replace r15 := r15.up g172.f
      replace r40 := r40.up g172.f
      replace s76 := g172.f _ _ s76
      replace a77 := a77.up g172.f
      replace o148 := g172.own (by simp [*]) o148.1 o148.2
      replace a149 := a149.up g172.f
      replace r162 := r162.up g172.f
      replace w169 := w169.keep g172
      replace r173 : Dq K F170 v174 ((e2 PyData.int PyData.int) (((1 : Int) + b163.1), (1 : Int))) := r173
      refine ⟨F170, _, i158, _, (((1 : Int) + b163.1), (1 : Int)), rfl, eF170, r162, r173, (post_bd kfb121).mono (fun b175 kfb121 v180 F176 H177 g178 r179 => ?_) (fun _ z => z)⟩
      have eF176 := g178.s
      have gF176 := gF170.trans (g178.weak (by simp))
      replace r5 := r5.up g178.f
      replace s10 := g178.f _ _ s10
      replace a11 := a11.up g178.f
      replace r15 := r15.up g178.f
      replace r40 := r40.up g178.f
      replace s76 := g178.f _ _ s76
      replace a77 := a77.up g178.f
      replace o148 := g178.own (by simp [*]) o148.1 o148.2
      replace a149 := a149.up g178.f
      replace r162 := r162.up g178.f
      replace w169 := w169.keep g178
      replace r173 := r173.up g178.f
      refine ⟨_, rfl, _, rfl, ?_⟩
      obtain ⟨m182, j183, h184, h185, kfb121⟩ := post_set kfb121
      refine ⟨_, _, _, _, rfl, rfl, o148.1, all_ix a149 h184, ?_⟩
      have g186 := gF176.putOr (o := (.lst (List.set xs147 j183 v180))) (.inl (by simp)) o148.1 o148.2
      replace w169 := w169.put np107 (o := (.lst (List.set xs147 j183 v180)))
      replace o148 : (upd H177 p107 (.lst (List.set xs147 j183 v180))) p107 = some (.lst (List.set xs147 j183 v180)) ∧ F176 p107 = none := ⟨upd_same, o148.2⟩
      replace a149 : DqAll K F176 (List.set xs147 j183 v180) (List.map (e2 PyData.int PyData.int) m182) := all_set a149 r179 h185
      have e187 := g186.s
      exact kfb121.h _ _ _ g186 ⟨_, _, _, _, _, _, _, _, _, rfl, o148, a149, w169⟩
    have hy189 : ∀ q ∈ [p107], q ∈ [ra] ∨ H0 q = none := by intro q hq; simp only [List.mem_cons, List.not_mem_nil, or_false] at hq; rcases hq with rfl; exact (.inr zp107)
    have g188 := Gm.outs [p107] hy189 gF113 (g135.weak (by simp))
    replace r5 := r5.up g135.f
    replace s10 := g135.f _ _ s10
    replace a11 := a11.up g135.f
    replace r15 := r15.up g135.f
    replace r40 := r40.up g135.f
    replace s76 := g135.f _ _ s76
    replace a77 := a77.up g135.f
    have eF133 := g135.s
    obtain ⟨u190, u191, u192, u193, u194, u195, u196, u197, xs198, rfl, o199, a200, w201⟩ := i136
    refine ⟨_, rfl, _, rfl, ?_⟩
    refine ⟨F133, sc, ra, scr, b138.2, _, (cutL b1.1 none (some (6 : Int))), rfl, eF133, w201, r15, (post_bd k).mono (fun b202 k v207 F203 H204 g205 ⟨r206, w208⟩ => ?_) (fun _ z => z)⟩
    have eF203 := g205.s
    have gF203 := g188.trans (g205.weak (by simp))
    replace r5 := r5.up g205.f
    replace s10 := g205.f _ _ s10
    replace a11 := a11.up g205.f
    replace r15 := r15.up g205.f
    replace r40 := r40.up g205.f
    replace s76 := g205.f _ _ s76
    replace a77 := a77.up g205.f
    replace o199 := g205.own (by simp [*]) o199.1 o199.2
    replace a200 := a200.up g205.f
    refine ⟨_, rfl, _, rfl, ?_⟩
    have g209 := gF203.fix o199.1 o199.2 zp107
    have ur210 : Ex F203 (upd F203 p107 (.lst xs198)) := Ex.new o199.2
    have r210 : Dq K (upd F203 p107 (.lst xs198)) (.ref p107) (eL (e2 PyData.int PyData.int) b138.1) := .lst upd_same (a200.up ur210)
    have s212 : (upd F203 p107 (.lst xs198)) p107 = some (.lst xs198) := upd_same
    have a213 := a200.up ur210
    replace r5 := r5.up ur210
    replace s10 := ur210 _ _ s10
    replace a11 := a11.up ur210
    replace r15 := r15.up ur210
    replace r40 := r40.up ur210
    replace s76 := ur210 _ _ s76
    replace a77 := a77.up ur210
    replace w208 := w208.fix np107 ur210 (o := .lst xs198)
    replace r206 := r206.up ur210
    have e214 := g209.s
    refine ⟨(upd F203 p107 (.lst xs198)), sc, ra, scr, b202.2, _, b138.1, rfl, e214, w208, r210, (post_bd k).mono (fun b215 k v220 F216 H217 g218 ⟨r219, w221⟩ => ?_) (fun _ z => z)⟩
    have eF216 := g218.s
    have gF216 := g209.trans (g218.weak (by simp))
    replace r5 := r5.up g218.f
    replace s10 := g218.f _ _ s10
    replace a11 := a11.up g218.f
    replace r15 := r15.up g218.f
    replace r40 := r40.up g218.f
    replace s76 := g218.f _ _ s76
    replace a77 := a77.up g218.f
    replace r206 := r206.up g218.f
    replace r210 := r210.up g218.f
    replace s212 := g218.f _ _ s212
    replace a213 := a213.up g218.f
    refine ⟨_, _, rfl, ?_⟩
    refine ⟨_, rfl, _, rfl, ?_⟩
    refine ⟨F216, _, b202.1, _, b215.1, rfl, eF216, r206, r219, (post_bd k).mono (fun b222 k v227 F223 H224 g225 r226 => ?_) (fun _ z => z)⟩
    have eF223 := g225.s
    have gF223 := gF216.trans (g225.weak (by simp))
    replace r5 := r5.up g225.f
    replace s10 := g225.f _ _ s10
    replace a11 := a11.up g225.f
    replace r15 := r15.up g225.f
    replace r40 := r40.up g225.f
    replace s76 := g225.f _ _ s76
    replace a77 := a77.up g225.f
    replace r206 := r206.up g225.f
    replace r210 := r210.up g225.f
    replace s212 := g225.f _ _ s212
    replace a213 := a213.up g225.f
    replace w221 := w221.keep g225
    replace r219 := r219.up g225.f
    refine ⟨_, rfl, _, rfl, ?_⟩
    refine ⟨F223, _, (cutL b1.1 none (some (6 : Int))), _, b138.1, rfl, eF223, r15, r210, (post_bd k).mono (fun b229 k v234 F230 H231 g232 r233 => ?_) (fun _ z => z)⟩
    have eF230 := g232.s
    have gF230 := gF223.trans (g232.weak (by simp))
    replace r5 := r5.up g232.f
    replace s10 := g232.f _ _ s10
    replace a11 := a11.up g232.f
    replace r15 := r15.up g232.f
    replace r40 := r40.up g232.f
    replace s76 := g232.f _ _ s76
    replace a77 := a77.up g232.f
    replace r206 := r206.up g232.f
    replace r210 := r210.up g232.f
    replace s212 := g232.f _ _ s212
    replace a213 := a213.up g232.f
    replace w221 := w221.keep g232
    replace r219 := r219.up g232.f
    replace r226 := r226.up g232.f
    obtain ⟨p236, xs237, rfl, s238, a239⟩ := dp_lst r233
    refine to_VL (K := K) (M := []) eF230 s238 a239 (en := (e2 PyData.int PyData.int)) (l := b229) fun v244 F240 H241 g242 r243 => ?_
    have eF240 := g242.s
    have gF240 := gF230.trans (g242.weak (by simp))
    replace r5 := r5.up g242.f
    replace s10 := g242.f _ _ s10
    replace a11 := a11.up g242.f
    replace r15 := r15.up g242.f
    replace r40 := r40.up g242.f
    replace s76 := g242.f _ _ s76
    replace a77 := a77.up g242.f
    replace r206 := r206.up g242.f
    replace r210 := r210.up g242.f
    replace s212 := g242.f _ _ s212
    replace a213 := a213.up g242.f
    replace w221 := w221.keep g242
    replace r219 := r219.up g242.f
    replace r226 := r226.up g242.f
    replace r233 := r233.up g242.f
    replace s238 := g242.f _ _ s238
    replace a239 := a239.up g242.f
    refine ⟨b222, b229, r226.dp eF240, r243.dp eF240, ?_⟩
    refine ⟨_, rfl, ?_⟩
    refine cs k (fun _ k => ?_) (fun _ k => ?_)
    · exact k.h _
    · show _ ∧ _
      refine new_own (K := K) eF240 .nil (by show 0 ≤ 100000; decide) fun p245 H246 g247 y248 o249 => ?_
      have a250 : DqAll K F240 [] (List.map PyData.int []) := .nil
      have np245 := ne_of_none w221.1 y248
      have mp245 := np245.symm
      have zp245 := gF240.fresh y248
      have eH246 := g247.s
      have gH246 := gF240.trans (g247.weak (by simp))
      replace w221 := w221.keep g247
      refine ⟨_, rfl, ?_⟩
      refine ⟨_, _, _, rfl, .inl (sq_of (eH246 _ _ s76)), len_all a77, ?_⟩
      obtain ⟨h252, k⟩ := post_range k
      refine ⟨_, rfl, h252.1, h252.2, ?_⟩
      refine for_m (M := [p245, ra]) (F := F240) wlk_range (fun b254 F' H' σ' => ∃ (u6 : Option V) (u7 : Option V) (u11 : Option V) (u12 : Option V) (u13 : Option V) (xs10 : List V), σ' = [some (V.ref sc), some (V.ref ra), some (V.ref p74), some (V.int b17.1), some v36, some (V.ref p107), u6, u7, some v207, some v220, some (V.ref p245), u11, u12, u13] ∧ (H' p245 = some (.lst xs10) ∧ F' p245 = none) ∧ DqAll K F' xs10 (List.map PyData.int b254.1) ∧ RowAt K sc ra scr F' H' b254.2) k eH246 ⟨_, _, _, _, _, _, rfl, o249, a250, w221⟩ (fun b254 x255 v263 σ265 F256 H257 F258 H259 g260 i264 g261 r262 nx kfb254 => ?_) (fun b271 σ270 F266 H267 g268 i269 k => ?_)
      · replace r5 := r5.up g260.f
        replace s10 := g260.f _ _ s10
        replace a11 := a11.up g260.f
        replace r15 := r15.up g260.f
        replace r40 := r40.up g260.f
        replace s76 := g260.f _ _ s76
        replace a77 := a77.up g260.f
        replace r206 := r206.up g260.f
        replace r210 := r210.up g260.f
        replace s212 := g260.f _ _ s212
        replace a213 := a213.up g260.f
        replace r219 := r219.up g260.f
        replace r226 := r226.up g260.f
        replace r233 := r233.up g260.f
        replace s238 := g260.f _ _ s238
        replace a239 := a239.up g260.f
        replace r243 := r243.up g260.f
        obtain ⟨u272, u273, u274, u275, u276, xs277, rfl, o278, a279, w280⟩ := i264
        replace r5 := r5.up g261.f
        replace s10 := g261.f _ _ s10
        replace a11 := a11.up g261.f
        replace r15 := r15.up g261.f
        replace r40 := r40.up g261.f
        replace s76 := g261.f _ _ s76
        replace a77 := a77.up g261.f
        replace r206 := r206.up g261.f
        replace r210 := r210.up g261.f
        replace s212 := g261.f _ _ s212
        replace a213 := a213.up g261.f
        replace r219 := r219.up g261.f
        replace r226 := r226.up g261.f
        replace r233 := r233.up g261.f
        replace s238 := g261.f _ _ s238
        replace a239 := a239.up g261.f
        replace r243 := r243.up g261.f
        replace o278 := g261.own (by simp [*]) o278.1 o278.2
        replace a279 := a279.up g261.f
        replace w280 := w280.keep g261
        have eF258 := g261.s
        have gF258 := g260.trans (g261.weak (by simp))
        subst r262
        refine ⟨_, rfl, _, rfl, _, rfl, ?_⟩
        refine cut_lst (K := K) (M := []) eF258 s76 a77 fun v285 F281 H282 g283 r284 => ?_
        have eF281 := g283.s
        have gF281 := gF258.trans (g283.weak (by simp))
        replace r5 := r5.up g283.f
        replace s10 := g283.f _ _ s10
        replace a11 := a11.up g283.f
        replace r15 := r15.up g283.f
        replace r40 := r40.up g283.f
        replace s76 := g283.f _ _ s76
        replace a77 := a77.up g283.f
        replace r206 := r206.up g283.f
        replace r210 := r210.up g283.f
        replace s212 := g283.f _ _ s212
        replace a213 := a213.up g283.f
        replace r219 := r219.up g283.f
        replace r226 := r226.up g283.f
        replace r233 := r233.up g283.f
        replace s238 := g283.f _ _ s238
        replace a239 := a239.up g283.f
        replace r243 := r243.up g283.f
        replace o278 := g283.own (by simp [*]) o278.1 o278.2
        replace a279 := a279.up g283.f
        replace w280 := w280.keep g283
        refine ⟨_, rfl, _, rfl, _, _, rfl, rfl, _, rfl, ?_⟩
        refine cut_lst (K := K) (M := []) eF281 s76 a77 fun v290 F286 H287 g288 r289 => ?_
        have eF286 := g288.s
        have gF286 := gF281.trans (g288.weak (by simp))
        replace r5 := r5.up g288.f
        replace s10 := g288.f _ _ s10
        replace a11 := a11.up g288.f
        replace r15 := r15.up g288.f
        replace r40 := r40.up g288.f
        replace s76 := g288.f _ _ s76
        replace a77 := a77.up g288.f
        replace r206 := r206.up g288.f
        replace r210 := r210.up g288.f
        replace s212 := g288.f _ _ s212
        replace a213 := a213.up g288.f
        replace r219 := r219.up g288.f
        replace r226 := r226.up g288.f
        replace r233 := r233.up g288.f
        replace s238 := g288.f _ _ s238
        replace a239 := a239.up g288.f
        replace r243 := r243.up g288.f
        replace o278 := g288.own (by simp [*]) o278.1 o278.2
        replace a279 := a279.up g288.f
        replace w280 := w280.keep g288
        replace r284 := r284.up g288.f
        obtain ⟨p291, xs292, rfl, s293, a294⟩ := dp_lst r284
        obtain ⟨p295, xs296, rfl, s297, a298⟩ := dp_lst r289
        obtain ⟨h300, kfb254⟩ := post_guard kfb254
        refine ⟨_, _, _, _, rfl, rfl, eF286 _ _ s293, eF286 _ _ s297, cat_len a294 a298 h300, new_lstC (K := K) (M := []) (en := (e2 PyData.int PyData.int)) (l := (cutL (cutL b1.1 none (some (6 : Int))) none (some x255))) (l' := (cutL (cutL b1.1 none (some (6 : Int))) (some (x255 + (1 : Int))) none)) eF286 a294 a298 fun v305 F301 H302 g303 r304 => ?_⟩
        have eF301 := g303.s
        have gF301 := gF286.trans (g303.weak (by simp))
        replace r5 := r5.up g303.f
        replace s10 := g303.f _ _ s10
        replace a11 := a11.up g303.f
        replace r15 := r15.up g303.f
        replace r40 := r40.up g303.f
        replace s76 := g303.f _ _ s76
        replace a77 := a77.up g303.f
        replace r206 := r206.up g303.f
        replace r210 := r210.up g303.f
        replace s212 := g303.f _ _ s212
        replace a213 := a213.up g303.f
        replace r219 := r219.up g303.f
        replace r226 := r226.up g303.f
        replace r233 := r233.up g303.f
        replace s238 := g303.f _ _ s238
        replace a239 := a239.up g303.f
        replace r243 := r243.up g303.f
        replace o278 := g303.own (by simp [*]) o278.1 o278.2
        replace a279 := a279.up g303.f
        replace w280 := w280.keep g303
        replace r284 := r284.up g303.f
        replace r289 := r289.up g303.f
        replace s293 := g303.f _ _ s293
        replace a294 := a294.up g303.f
        replace s297 := g303.f _ _ s297
        replace a298 := a298.up g303.f
        refine ⟨_, rfl, _, rfl, _, rfl, ?_⟩
        refine cut_lst (K := K) (M := []) eF301 s212 a213 fun v310 F306 H307 g308 r309 => ?_
        have eF306 := g308.s
        have gF306 := gF301.trans (g308.weak (by simp))
        replace r5 := r5.up g308.f
        replace s10 := g308.f _ _ s10
        replace a11 := a11.up g308.f
        replace r15 := r15.up g308.f
        replace r40 := r40.up g308.f
        replace s76 := g308.f _ _ s76
        replace a77 := a77.up g308.f
        replace r206 := r206.up g308.f
        replace r210 := r210.up g308.f
        replace s212 := g308.f _ _ s212
        replace a213 := a213.up g308.f
        replace r219 := r219.up g308.f
        replace r226 := r226.up g308.f
        replace r233 := r233.up g308.f
        replace s238 := g308.f _ _ s238
        replace a239 := a239.up g308.f
        replace r243 := r243.up g308.f
        replace o278 := g308.own (by simp [*]) o278.1 o278.2
        replace a279 := a279.up g308.f
        replace w280 := w280.keep g308
        replace r284 := r284.up g308.f
        replace r289 := r289.up g308.f
        replace s293 := g308.f _ _ s293
        replace a294 := a294.up g308.f
        replace s297 := g308.f _ _ s297
        replace a298 := a298.up g308.f
        replace r304 := r304.up g308.f
        refine ⟨_, rfl, _, rfl, _, _, rfl, rfl, _, rfl, ?_⟩
        refine cut_lst (K := K) (M := []) eF306 s212 a213 fun v315 F311 H312 g313 r314 => ?_
        have eF311 := g313.s
        have gF311 := gF306.trans (g313.weak (by simp))
        replace r5 := r5.up g313.f
        replace s10 := g313.f _ _ s10
        replace a11 := a11.up g313.f
        replace r15 := r15.up g313.f
        replace r40 := r40.up g313.f
        replace s76 := g313.f _ _ s76
        replace a77 := a77.up g313.f
        replace r206 := r206.up g313.f
        replace r210 := r210.up g313.f
        replace s212 := g313.f _ _ s212
        replace a213 := a213.up g313.f
        replace r219 := r219.up g313.f
        replace r226 := r226.up g313.f
        replace r233 := r233.up g313.f
        replace s238 := g313.f _ _ s238
        replace a239 := a239.up g313.f
        replace r243 := r243.up g313.f
        replace o278 := g313.own (by simp [*]) o278.1 o278.2
        replace a279 := a279.up g313.f
        replace w280 := w280.keep g313
        replace r284 := r284.up g313.f
        replace r289 := r289.up g313.f
        replace s293 := g313.f _ _ s293
        replace a294 := a294.up g313.f
        replace s297 := g313.f _ _ s297
        replace a298 := a298.up g313.f
        replace r304 := r304.up g313.f
        replace r309 := r309.up g313.f
        obtain ⟨p316, xs317, rfl, s318, a319⟩ := dp_lst r309
        obtain ⟨p320, xs321, rfl, s322, a323⟩ := dp_lst r314
        obtain ⟨h325, kfb254⟩ := post_guard kfb254
        refine ⟨_, _, _, _, rfl, rfl, eF311 _ _ s318, eF311 _ _ s322, cat_len a319 a323 h325, new_lstC (K := K) (M := []) (en := (e2 PyData.int PyData.int)) (l := (cutL b138.1 none (some x255))) (l' := (cutL b138.1 (some (x255 + (1 : Int))) none)) eF311 a319 a323 fun v330 F326 H327 g328 r329 => ?_⟩
        have eF326 := g328.s
        have gF326 := gF311.trans (g328.weak (by simp))
        replace r5 := r5.up g328.f
        replace s10 := g328.f _ _ s10
        replace a11 := a11.up g328.f
        replace r15 := r15.up g328.f
        replace r40 := r40.up g328.f
        replace s76 := g328.f _ _ s76
        replace a77 := a77.up g328.f
        replace r206 := r206.up g328.f
        replace r210 := r210.up g328.f
        replace s212 := g328.f _ _ s212
        replace a213 := a213.up g328.f
        replace r219 := r219.up g328.f
        replace r226 := r226.up g328.f
        replace r233 := r233.up g328.f
        replace s238 := g328.f _ _ s238
        replace a239 := a239.up g328.f
        replace r243 := r243.up g328.f
        replace o278 := g328.own (by simp [*]) o278.1 o278.2
        replace a279 := a279.up g328.f
        replace w280 := w280.keep g328
        replace r284 := r284.up g328.f
        replace r289 := r289.up g328.f
        replace s293 := g328.f _ _ s293
        replace a294 := a294.up g328.f
        replace s297 := g328.f _ _ s297
        replace a298 := a298.up g328.f
        replace r304 := r304.up g328.f
        replace r309 := r309.up g328.f
        replace r314 := r314.up g328.f
        replace s318 := g328.f _ _ s318
        replace a319 := a319.up g328.f
        replace s322 := g328.f _ _ s322
        replace a323 := a323.up g328.f
        refine ⟨F326, _, ((cutL (cutL b1.1 none (some (6 : Int))) none (some x255)) ++ (cutL (cutL b1.1 none (some (6 : Int))) (some (x255 + (1 : Int))) none)), _, ((cutL b138.1 none (some x255)) ++ (cutL b138.1 (some (x255 + (1 : Int))) none)), rfl, eF326, r304, r329, (post_bd kfb254).mono (fun b331 kfb254 v336 F332 H333 g334 r335 => ?_) (fun _ z => z)⟩
        have eF332 := g334.s
        have gF332 := gF326.trans (g334.weak (by simp))
        replace r5 := r5.up g334.f
        replace s10 := g334.f _ _ s10
        replace a11 := a11.up g334.f
        replace r15 := r15.up g334.f
        replace r40 := r40.up g334.f
        replace s76 := g334.f _ _ s76
        replace a77 := a77.up g334.f
        replace r206 := r206.up g334.f
        replace r210 := r210.up g334.f
        replace s212 := g334.f _ _ s212
        replace a213 := a213.up g334.f
        replace r219 := r219.up g334.f
        replace r226 := r226.up g334.f
        replace r233 := r233.up g334.f
        replace s238 := g334.f _ _ s238
        replace a239 := a239.up g334.f
        replace r243 := r243.up g334.f
        replace o278 := g334.own (by simp [*]) o278.1 o278.2
        replace a279 := a279.up g334.f
        replace w280 := w280.keep g334
        replace r284 := r284.up g334.f
        replace r289 := r289.up g334.f
        replace s293 := g334.f _ _ s293
        replace a294 := a294.up g334.f
        replace s297 := g334.f _ _ s297
        replace a298 := a298.up g334.f
        replace r304 := r304.up g334.f
        replace r309 := r309.up g334.f
        replace r314 := r314.up g334.f
        replace s318 := g334.f _ _ s318
        replace a319 := a319.up g334.f
        replace s322 := g334.f _ _ s322
        replace a323 := a323.up g334.f
        replace r329 := r329.up g334.f
        refine ⟨_, rfl, ?_⟩
        obtain ⟨p338, xs339, rfl, s340, a341⟩ := dp_lst r335
        refine ⟨_, _, _, rfl, .inl (sq_of (eF332 _ _ s340)), len_all a341, _, rfl, _, _, rfl, rfl, _, _, rfl, rfl, _, rfl, ?_⟩
        refine cs kfb254 (fun _ kfb254 => ?_) (fun _ kfb254 => ?_)
        · refine ⟨_, rfl, .inl ⟨rfl, _, sq_of o278.1⟩, _, rfl, ?_⟩
          obtain ⟨h342, kfb254⟩ := post_guard kfb254
          refine ⟨_, _, _, rfl, rfl, o278.1, own_sz a279 h342, ?_⟩
          have g343 := gF332.putOr (o := .lst (xs277 ++ [(V.int x255)])) (.inl (by simp)) o278.1 o278.2
          replace w280 := w280.put np245 (o := .lst (xs277 ++ [(V.int x255)]))
          replace o278 : (upd H333 p245 (.lst (xs277 ++ [(V.int x255)]))) p245 = some (.lst (xs277 ++ [(V.int x255)])) ∧ F332 p245 = none := ⟨upd_same, o278.2⟩
          replace a279 : DqAll K F332 (xs277 ++ [(V.int x255)]) (List.map PyData.int (b254.1 ++ [x255])) := by rw [List.map_append]; exact a279.app (.cons (Dq.int x255) .nil)
          have e344 := g343.s
          exact kfb254.h _ _ _ g343 ⟨_, _, _, _, _, _, rfl, o278, a279, w280⟩
        · exact kfb254.h _ _ _ gF332 ⟨_, _, _, _, _, _, rfl, o278, a279, w280⟩
      have hy346 : ∀ q ∈ [p245], q ∈ [ra] ∨ H0 q = none := by intro q hq; simp only [List.mem_cons, List.not_mem_nil, or_false] at hq; rcases hq with rfl; exact (.inr zp245)
      have g345 := Gm.outs [p245] hy346 gH246 (g268.weak (by simp))
      replace r5 := r5.up g268.f
      replace s10 := g268.f _ _ s10
      replace a11 := a11.up g268.f
      replace r15 := r15.up g268.f
      replace r40 := r40.up g268.f
      replace s76 := g268.f _ _ s76
      replace a77 := a77.up g268.f
      replace r206 := r206.up g268.f
      replace r210 := r210.up g268.f
      replace s212 := g268.f _ _ s212
      replace a213 := a213.up g268.f
      replace r219 := r219.up g268.f
      replace r226 := r226.up g268.f
      replace r233 := r233.up g268.f
      replace s238 := g268.f _ _ s238
      replace a239 := a239.up g268.f
      replace r243 := r243.up g268.f
      have eF266 := g268.s
      obtain ⟨u347, u348, u349, u350, u351, xs352, rfl, o353, a354, w355⟩ := i269
      refine ⟨_, rfl, _, rfl, _, rfl, ?_⟩
      refine ⟨F266, _, b202.1, _, b215.1, b17.1, rfl, eF266, r206, r219, (post_bd k).mono (fun b356 k v361 F357 H358 g359 r360 => ?_) (fun _ z => z)⟩
      have eF357 := g359.s
      have gF357 := g345.trans (g359.weak (by simp))
      replace r5 := r5.up g359.f
      replace s10 := g359.f _ _ s10
      replace a11 := a11.up g359.f
      replace r15 := r15.up g359.f
      replace r40 := r40.up g359.f
      replace s76 := g359.f _ _ s76
      replace a77 := a77.up g359.f
      replace r206 := r206.up g359.f
      replace r210 := r210.up g359.f
      replace s212 := g359.f _ _ s212
      replace a213 := a213.up g359.f
      replace r219 := r219.up g359.f
      replace r226 := r226.up g359.f
      replace r233 := r233.up g359.f
      replace s238 := g359.f _ _ s238
      replace a239 := a239.up g359.f
      replace r243 := r243.up g359.f
      replace o353 := g359.own (by simp [*]) o353.1 o353.2
      replace a354 := a354.up g359.f
      replace w355 := w355.keep g359
      refine ⟨_, rfl, ?_⟩
      refine to_VO (K := K) (M := []) eF357 o353.1 a354 (en := PyData.int) (l := b271.1) fun v367 F363 H364 g365 r366 => ?_
      have eF363 := g365.s
      have gF363 := gF357.trans (g365.weak (by simp))
      replace r5 := r5.up g365.f
      replace s10 := g365.f _ _ s10
      replace a11 := a11.up g365.f
      replace r15 := r15.up g365.f
      replace r40 := r40.up g365.f
      replace s76 := g365.f _ _ s76
      replace a77 := a77.up g365.f
      replace r206 := r206.up g365.f
      replace r210 := r210.up g365.f
      replace s212 := g365.f _ _ s212
      replace a213 := a213.up g365.f
      replace r219 := r219.up g365.f
      replace r226 := r226.up g365.f
      replace r233 := r233.up g365.f
      replace s238 := g365.f _ _ s238
      replace a239 := a239.up g365.f
      replace r243 := r243.up g365.f
      replace o353 := g365.own (by simp [*]) o353.1 o353.2
      replace a354 := a354.up g365.f
      replace w355 := w355.keep g365
      replace r360 := r360.up g365.f
      refine ⟨b356, b271.1, r360.dp eF363, r366.dp eF363, ?_⟩
      refine ⟨_, rfl, ?_⟩
      refine cs k (fun _ k => ?_) (fun _ k => ?_)
      · exact k.h _
      · refine ⟨_, rfl, _, rfl, _, rfl, ?_⟩
        refine ⟨F363, _, b202.1, _, b215.1, b17.1, rfl, eF363, r206, r219, (post_bd k).mono (fun b368 k v373 F369 H370 g371 r372 => ?_) (fun _ z => z)⟩
        have eF369 := g371.s
        have gF369 := gF363.trans (g371.weak (by simp))
        replace r5 := r5.up g371.f
        replace s10 := g371.f _ _ s10
        replace a11 := a11.up g371.f
        replace r15 := r15.up g371.f
        replace r40 := r40.up g371.f
        replace s76 := g371.f _ _ s76
        replace a77 := a77.up g371.f
        replace r206 := r206.up g371.f
        replace r210 := r210.up g371.f
        replace s212 := g371.f _ _ s212
        replace a213 := a213.up g371.f
        replace r219 := r219.up g371.f
        replace r226 := r226.up g371.f
        replace r233 := r233.up g371.f
        replace s238 := g371.f _ _ s238
        replace a239 := a239.up g371.f
        replace r243 := r243.up g371.f
        replace o353 := g371.own (by simp [*]) o353.1 o353.2
        replace a354 := a354.up g371.f
        replace w355 := w355.keep g371
        replace r360 := r360.up g371.f
        replace r366 := r366.up g371.f
        refine ⟨_, rfl, _, rfl, _, rfl, _, rfl, _, rfl, ?_⟩
        have g375 := gF369.fix o353.1 o353.2 zp245
        have ur376 : Ex F369 (upd F369 p245 (.lst xs352)) := Ex.new o353.2
        have r376 : Dq K (upd F369 p245 (.lst xs352)) (.ref p245) (eL PyData.int b271.1) := .lst upd_same (a354.up ur376)
        have s378 : (upd F369 p245 (.lst xs352)) p245 = some (.lst xs352) := upd_same
        have a379 := a354.up ur376
        replace r5 := r5.up ur376
        replace s10 := ur376 _ _ s10
        replace a11 := a11.up ur376
        replace r15 := r15.up ur376
        replace r40 := r40.up ur376
        replace s76 := ur376 _ _ s76
        replace a77 := a77.up ur376
        replace r206 := r206.up ur376
        replace r210 := r210.up ur376
        replace s212 := ur376 _ _ s212
        replace a213 := a213.up ur376
        replace r219 := r219.up ur376
        replace r226 := r226.up ur376
        replace r233 := r233.up ur376
        replace s238 := ur376 _ _ s238
        replace a239 := a239.up ur376
        replace r243 := r243.up ur376
        replace w355 := w355.fix np245 ur376 (o := .lst xs352)
        replace r360 := r360.up ur376
        replace r366 := r366.up ur376
        replace r372 := r372.up ur376
        have e380 := g375.s
        refine ⟨(upd F369 p245 (.lst xs352)), _, (cutL b1.1 none (some (6 : Int))), _, b138.1, b17.1, _, b271.1, rfl, e380, r15, r210, r376, (post_bd k).mono (fun b381 k v386 F382 H383 g384 r385 => ?_) (fun _ z => z)⟩
        have eF382 := g384.s
        have gF382 := g375.trans (g384.weak (by simp))
        replace r5 := r5.up g384.f
        replace s10 := g384.f _ _ s10
        replace a11 := a11.up g384.f
        replace r15 := r15.up g384.f
        replace r40 := r40.up g384.f
        replace s76 := g384.f _ _ s76
        replace a77 := a77.up g384.f
        replace r206 := r206.up g384.f
        replace r210 := r210.up g384.f
        replace s212 := g384.f _ _ s212
        replace a213 := a213.up g384.f
        replace r219 := r219.up g384.f
        replace r226 := r226.up g384.f
        replace r233 := r233.up g384.f
        replace s238 := g384.f _ _ s238
        replace a239 := a239.up g384.f
        replace r243 := r243.up g384.f
        replace w355 := w355.keep g384
        replace r360 := r360.up g384.f
        replace r366 := r366.up g384.f
        replace r372 := r372.up g384.f
        replace r376 := r376.up g384.f
        replace s378 := g384.f _ _ s378
        replace a379 := a379.up g384.f
        refine ⟨b368, b381, r372.dp eF382, r385.dp eF382, ?_⟩
        refine ⟨_, rfl, ?_⟩
        refine cs k (fun _ k => ?_) (fun _ k => ?_)
        · exact k.h _
        · refine ⟨_, rfl, _, rfl, ?_⟩
          rw [none_O r372]
          refine cs k (fun _ k => ?_) (fun _ k => ?_)
          · exact k.h _
          · obtain ⟨a388, h389, k⟩ := post_getO k
            have qa388 := dq_some r372 h389
            refine ⟨_, rfl, ?_⟩
            refine to_VL (K := K) (M := []) eF382 s76 a77 (en := (e2 PyData.int PyData.int)) (l := (cutL b1.1 none (some (6 : Int)))) fun v394 F390 H391 g392 r393 => ?_
            have eF390 := g392.s
            have gF390 := gF382.trans (g392.weak (by simp))
            replace r5 := r5.up g392.f
            replace s10 := g392.f _ _ s10
            replace a11 := a11.up g392.f
            replace r15 := r15.up g392.f
            replace r40 := r40.up g392.f
            replace s76 := g392.f _ _ s76
            replace a77 := a77.up g392.f
            replace r206 := r206.up g392.f
            replace r210 := r210.up g392.f
            replace s212 := g392.f _ _ s212
            replace a213 := a213.up g392.f
            replace r219 := r219.up g392.f
            replace r226 := r226.up g392.f
            replace r233 := r233.up g392.f
            replace s238 := g392.f _ _ s238
            replace a239 := a239.up g392.f
            replace r243 := r243.up g392.f
            replace w355 := w355.keep g392
            replace r360 := r360.up g392.f
            replace r366 := r366.up g392.f
            replace r372 := r372.up g392.f
            replace r376 := r376.up g392.f
            replace s378 := g392.f _ _ s378
            replace a379 := a379.up g392.f
            replace r385 := r385.up g392.f
            replace qa388 := qa388.up g392.f
            refine ⟨_, rfl, ?_⟩
            refine ⟨F390, _, (cutL b1.1 none (some (6 : Int))), _, a388, rfl, eF390, r393, qa388, (post_bd k).mono (fun b395 k v400 F396 H397 g398 r399 => ?_) (fun _ z => z)⟩
            have eF396 := g398.s
            have gF396 := gF390.trans (g398.weak (by simp))
            replace r5 := r5.up g398.f
            replace s10 := g398.f _ _ s10
            replace a11 := a11.up g398.f
            replace r15 := r15.up g398.f
            replace r40 := r40.up g398.f
            replace s76 := g398.f _ _ s76
            replace a77 := a77.up g398.f
            replace r206 := r206.up g398.f
            replace r210 := r210.up g398.f
            replace s212 := g398.f _ _ s212
            replace a213 := a213.up g398.f
            replace r219 := r219.up g398.f
            replace r226 := r226.up g398.f
            replace r233 := r233.up g398.f
            replace s238 := g398.f _ _ s238
            replace a239 := a239.up g398.f
            replace r243 := r243.up g398.f
            replace w355 := w355.keep g398
            replace r360 := r360.up g398.f
            replace r366 := r366.up g398.f
            replace r372 := r372.up g398.f
            replace r376 := r376.up g398.f
            replace s378 := g398.f _ _ s378
            replace a379 := a379.up g398.f
            replace r385 := r385.up g398.f
            replace qa388 := qa388.up g398.f
            replace r393 := r393.up g398.f
            obtain ⟨p402, xs403, rfl, s404, a405⟩ := dp_tup r399
            refine ⟨_, _, _, rfl, .inr (ex_t eF396 s404), len_all a405, _, rfl, _, _, rfl, rfl, _, _, rfl, rfl, _, rfl, ?_⟩
            refine cs k (fun _ k => ?_) (fun _ k => ?_)
            · refine ⟨_, rfl, ?_⟩
              refine to_VL (K := K) (M := []) eF396 s76 a77 (en := (e2 PyData.int PyData.int)) (l := (cutL b1.1 none (some (6 : Int)))) fun v410 F406 H407 g408 r409 => ?_
              have eF406 := g408.s
              have gF406 := gF396.trans (g408.weak (by simp))
              replace r5 := r5.up g408.f
              replace s10 := g408.f _ _ s10
              replace a11 := a11.up g408.f
              replace r15 := r15.up g408.f
              replace r40 := r40.up g408.f
              replace s76 := g408.f _ _ s76
              replace a77 := a77.up g408.f
              replace r206 := r206.up g408.f
              replace r210 := r210.up g408.f
              replace s212 := g408.f _ _ s212
              replace a213 := a213.up g408.f
              replace r219 := r219.up g408.f
              replace r226 := r226.up g408.f
              replace r233 := r233.up g408.f
              replace s238 := g408.f _ _ s238
              replace a239 := a239.up g408.f
              replace r243 := r243.up g408.f
              replace w355 := w355.keep g408
              replace r360 := r360.up g408.f
              replace r366 := r366.up g408.f
              replace r372 := r372.up g408.f
              replace r376 := r376.up g408.f
              replace s378 := g408.f _ _ s378
              replace a379 := a379.up g408.f
              replace r385 := r385.up g408.f
              replace qa388 := qa388.up g408.f
              replace r393 := r393.up g408.f
              replace r399 := r399.up g408.f
              replace s404 := ex_t g408.f s404
              replace a405 := a405.up g408.f
              refine ⟨_, rfl, _, rfl, ?_⟩
              refine ⟨F406, _, (cutL b1.1 none (some (6 : Int))), _, a388, b17.1, rfl, eF406, r409, qa388, (post_bd k).mono (fun b411 k v416 F412 H413 g414 r415 => ?_) (fun _ z => z)⟩
              have eF412 := g414.s
              have gF412 := gF406.trans (g414.weak (by simp))
              replace r5 := r5.up g414.f
              replace s10 := g414.f _ _ s10
              replace a11 := a11.up g414.f
              replace r15 := r15.up g414.f
              replace r40 := r40.up g414.f
              replace s76 := g414.f _ _ s76
              replace a77 := a77.up g414.f
              replace r206 := r206.up g414.f
              replace r210 := r210.up g414.f
              replace s212 := g414.f _ _ s212
              replace a213 := a213.up g414.f
              replace r219 := r219.up g414.f
              replace r226 := r226.up g414.f
              replace r233 := r233.up g414.f
              replace s238 := g414.f _ _ s238
              replace a239 := a239.up g414.f
              replace r243 := r243.up g414.f
              replace w355 := w355.keep g414
              replace r360 := r360.up g414.f
              replace r366 := r366.up g414.f
              replace r372 := r372.up g414.f
              replace r376 := r376.up g414.f
              replace s378 := g414.f _ _ s378
              replace a379 := a379.up g414.f
              replace r385 := r385.up g414.f
              replace qa388 := qa388.up g414.f
              replace r393 := r393.up g414.f
              replace r399 := r399.up g414.f
              replace s404 := ex_t g414.f s404
              replace a405 := a405.up g414.f
              replace r409 := r409.up g414.f
              refine ⟨_, rfl, b411, (some a388), r415.dp eF412, qa388.dp eF412, ?_⟩
              exact k.h _
            · exact k.h _
end L

set_option Elab.async false
set_option linter.all false
set_option maxRecDepth 100000
set_option maxHeartbeats 0
namespace L
open PySem L2 Evl Wk
/-! ### the head -/
def dd_whole_within : He5.DefA := ⟨gAt "whole_within", "whole_within", "whole_within", defArgs s_whole_within, defBody s_whole_within, defScope s_whole_within, [], []⟩
def dd_check_within : He5.DefA := ⟨gAt "check_within", "check_within", "check_within", defArgs s_check_within, defBody s_check_within, defScope s_check_within, [], []⟩
def dd_lowest : He5.DefA := ⟨gAt "lowest", "lowest", "lowest", defArgs s_lowest, defBody s_lowest, defScope s_lowest, [], []⟩
def dd_plus : He5.DefA := ⟨gAt "plus", "plus", "plus", defArgs s_plus, defBody s_plus, defScope s_plus, [], []⟩
def dd_minus : He5.DefA := ⟨gAt "minus", "minus", "minus", defArgs s_minus, defBody s_minus, defScope s_minus, [], []⟩
def dd_times : He5.DefA := ⟨gAt "times", "times", "times", defArgs s_times, defBody s_times, defScope s_times, [], []⟩
def dd_over : He5.DefA := ⟨gAt "over", "over", "over", defArgs s_over, defBody s_over, defScope s_over, [], []⟩
def dd_is_less : He5.DefA := ⟨gAt "is_less", "is_less", "is_less", defArgs s_is_less, defBody s_is_less, defScope s_is_less, [], []⟩
def dd_with_root : He5.DefA := ⟨gAt "with_root", "with_root", "with_root", defArgs s_with_root, defBody s_with_root, defScope s_with_root, [], []⟩
def dd_with_roots : He5.DefA := ⟨gAt "with_roots", "with_roots", "with_roots", defArgs s_with_roots, defBody s_with_roots, defScope s_with_roots, [], []⟩
def dd_worth : He5.DefA := ⟨gAt "worth", "worth", "worth", defArgs s_worth, defBody s_worth, defScope s_worth, [], []⟩
def dd_only_at : He5.DefA := ⟨gAt "only_at", "only_at", "only_at", defArgs s_only_at, defBody s_only_at, defScope s_only_at, [], []⟩
def dd_trimmed : He5.DefA := ⟨gAt "trimmed", "trimmed", "trimmed", defArgs s_trimmed, defBody s_trimmed, defScope s_trimmed, [], []⟩
def dd_ascending_places : He5.DefA := ⟨gAt "ascending_places", "ascending_places", "ascending_places", defArgs s_ascending_places, defBody s_ascending_places, defScope s_ascending_places, [], []⟩
def dd_checked_places : He5.DefA := ⟨gAt "checked_places", "checked_places", "checked_places", defArgs s_checked_places, defBody s_checked_places, defScope s_checked_places, [], []⟩
def dd_checked_readings : He5.DefA := ⟨gAt "checked_readings", "checked_readings", "checked_readings", defArgs s_checked_readings, defBody s_checked_readings, defScope s_checked_readings, [], []⟩
def dd_polynomial_through : He5.DefA := ⟨gAt "polynomial_through", "polynomial_through", "polynomial_through", defArgs s_polynomial_through, defBody s_polynomial_through, defScope s_polynomial_through, [], []⟩
def dd_polynomial_by : He5.DefA := ⟨gAt "polynomial_by", "polynomial_by", "polynomial_by", defArgs s_polynomial_by, defBody s_polynomial_by, defScope s_polynomial_by, [], []⟩
def dd_without : He5.DefA := ⟨gAt "without", "without", "without", defArgs s_without, defBody s_without, defScope s_without, [], []⟩
def dd_fits : He5.DefA := ⟨gAt "fits", "fits", "fits", defArgs s_fits, defBody s_fits, defScope s_fits, [], []⟩
def dd_false_alone : He5.DefA := ⟨gAt "false_alone", "false_alone", "false_alone", defArgs s_false_alone, defBody s_false_alone, defScope s_false_alone, [], []⟩
def dd_false_ones : He5.DefA := ⟨gAt "false_ones", "false_ones", "false_ones", defArgs s_false_ones, defBody s_false_ones, defScope s_false_ones, [], []⟩
def dd_repaired : He5.DefA := ⟨gAt "repaired", "repaired", "repaired", defArgs s_repaired, defBody s_repaired, defScope s_repaired, [], []⟩
def dd_law_taken : He5.DefA := ⟨gAt "_law_taken", "_law_taken", "_law_taken", defArgs s_law_taken, defBody s_law_taken, defScope s_law_taken, [], []⟩
def dd_law_pick : He5.DefA := ⟨gAt "_law_pick", "_law_pick", "_law_pick", defArgs s_law_pick, defBody s_law_pick, defScope s_law_pick, [], []⟩
def dd_law_low : He5.DefA := ⟨gAt "_law_low", "_law_low", "_law_low", defArgs s_law_low, defBody s_law_low, defScope s_law_low, [], []⟩
def dd_law_add : He5.DefA := ⟨gAt "_law_add", "_law_add", "_law_add", defArgs s_law_add, defBody s_law_add, defScope s_law_add, [], []⟩
def dd_law_mul : He5.DefA := ⟨gAt "_law_mul", "_law_mul", "_law_mul", defArgs s_law_mul, defBody s_law_mul, defScope s_law_mul, [], []⟩
def dd_law_neg : He5.DefA := ⟨gAt "_law_neg", "_law_neg", "_law_neg", defArgs s_law_neg, defBody s_law_neg, defScope s_law_neg, [], []⟩
def dd_law_over : He5.DefA := ⟨gAt "_law_over", "_law_over", "_law_over", defArgs s_law_over, defBody s_law_over, defScope s_law_over, [], []⟩
def dd_law_is_less : He5.DefA := ⟨gAt "_law_is_less", "_law_is_less", "_law_is_less", defArgs s_law_is_less, defBody s_law_is_less, defScope s_law_is_less, [], []⟩
def dd_law_worth : He5.DefA := ⟨gAt "_law_worth", "_law_worth", "_law_worth", defArgs s_law_worth, defBody s_law_worth, defScope s_law_worth, [], []⟩
def dd_law_places : He5.DefA := ⟨gAt "_law_places", "_law_places", "_law_places", defArgs s_law_places, defBody s_law_places, defScope s_law_places, [], []⟩
def dd_law_wide : He5.DefA := ⟨gAt "_law_wide", "_law_wide", "_law_wide", defArgs s_law_wide, defBody s_law_wide, defScope s_law_wide, [], []⟩
def dd_law_root_product : He5.DefA := ⟨gAt "_law_root_product", "_law_root_product", "_law_root_product", defArgs s_law_root_product, defBody s_law_root_product, defScope s_law_root_product, [], []⟩
def dd_law_through : He5.DefA := ⟨gAt "_law_through", "_law_through", "_law_through", defArgs s_law_through, defBody s_law_through, defScope s_law_through, [], []⟩
def dd_law_repaired : He5.DefA := ⟨gAt "_law_repaired", "_law_repaired", "_law_repaired", defArgs s_law_repaired, defBody s_law_repaired, defScope s_law_repaired, [], []⟩
def dd_law : He5.DefA := ⟨gAt "law", "law", "law", defArgs s_law, defBody s_law, defScope s_law, [], []⟩
def fn : List He5.DefA := [dd_whole_within, dd_check_within, dd_lowest, dd_plus, dd_minus, dd_times, dd_over, dd_is_less, dd_with_root, dd_with_roots, dd_worth, dd_only_at, dd_trimmed, dd_ascending_places, dd_checked_places, dd_checked_readings, dd_polynomial_through, dd_polynomial_by, dd_without, dd_fits, dd_false_alone, dd_false_ones, dd_repaired, dd_law_taken, dd_law_pick, dd_law_low, dd_law_add, dd_law_mul, dd_law_neg, dd_law_over, dd_law_is_less, dd_law_worth, dd_law_places, dd_law_wide, dd_law_root_product, dd_law_through, dd_law_repaired, dd_law]
def fa : List He.Fa := [.free "len", .free "int", .free "bool", .free "str", .free "abs", .free "sum", .free "min", .free "max", .free "list", .free "tuple", .free "set", .free "dict", .free "sorted", .free "range", .free "enumerate", .free "zip", .free "reversed", .free "isinstance", .glo "whole_within", .glo "check_within", .glo "lowest", .glo "plus", .glo "minus", .glo "times", .glo "over", .glo "is_less", .glo "with_root", .glo "with_roots", .glo "worth", .glo "only_at", .glo "trimmed", .glo "ascending_places", .glo "checked_places", .glo "checked_readings", .glo "polynomial_through", .glo "polynomial_by", .glo "without", .glo "fits", .glo "false_alone", .glo "false_ones", .glo "repaired", .glo "_law_taken", .glo "_law_pick", .glo "_law_low", .glo "_law_add", .glo "_law_mul", .glo "_law_neg", .glo "_law_over", .glo "_law_is_less", .glo "_law_worth", .glo "_law_places", .glo "_law_wide", .glo "_law_root_product", .glo "_law_through", .glo "_law_repaired", .glo "law", .glo "NOUGHT", .glo "ONE", .int "MOST_PLACES" (6), .int "MOST_READ_DEGREE" (4)]
def ex (K : PySem.W.Frag) : Bool := bltB "gcd" "math.gcd" K && (He.tupB K "NOUGHT" [.int (0), .int (1)] && (He.tupB K "ONE" [.int (1), .int (1)]))
abbrev R : PySem.W.OpenRow := PySem.W.OpenLaw.row PySem.Challenge.rw_fewreadings_k72_whole_false_readings_by
abbrev hk : PySem.W.Hook := hookX 6 fa fn ex
def ob (s : PySem.W.SharedT) : He.AlD := obsXG 6 fa fn ex (HandSHeadRun.getT s)
theorem ob_eq (s : PySem.W.SharedT) : ob s = hk.obs s.abs := obsXG_eq (HandSHeadRun.getT_eq s)
abbrev looseN : List Str := (["ReadingError", "InvalidNumber", "InvalidPlaces", "InvalidReadings", "NOUGHT", "ONE", "whole_within", "check_within", "lowest", "plus", "minus", "times", "over", "is_less", "with_root", "with_roots", "worth", "only_at", "trimmed", "MOST_PLACES"] : List Str) ++ (["ascending_places", "checked_places", "MOST_READ_DEGREE", "checked_readings", "polynomial_through", "polynomial_by", "without", "fits", "false_alone", "false_ones", "repaired", "_law_taken", "_law_pick", "_law_low", "_law_add", "_law_mul", "_law_neg", "_law_over", "_law_is_less", "_law_worth"] : List Str) ++ (["_law_places", "_law_wide", "_law_root_product", "_law_through", "_law_repaired"] : List Str)
abbrev vw : Program := PySem.W.view R.prog [0, 51]
theorem run (w : World) : HandSHeadRun.RunEqI R vw hk ob 6000 looseN w := by
  unfold HandSHeadRun.RunEqI
  kernel_rfl
theorem facts {P : Program} {w : World} {K : PySem.W.Frag} {h : Heap} {mg : Str → Option Value} {f : Addr} (X : K.In h) (G : h.Ns mainGlobals mg) (hfa : mg ("law" : Str) = some (.ref f)) (c : SaysX fa fn ex K) :
    ∃ fd : FuncData, (∀ (s : Shared) (v : Value), BindsTo s fd ⟨[v], []⟩ [("_law_script", v)]) ∧ ∀ base : Heap, K.In base → base.Ns mainGlobals mg → FnOk P w K mg base CX0 10 f fd ["_law_script"] (sp_law K) := by
  have B : Bi mg := ⟨He.free_ok X G (c.fact 0 (f := .free "len") rfl), He.free_ok X G (c.fact 1 (f := .free "int") rfl), He.free_ok X G (c.fact 2 (f := .free "bool") rfl), He.free_ok X G (c.fact 3 (f := .free "str") rfl), He.free_ok X G (c.fact 4 (f := .free "abs") rfl), He.free_ok X G (c.fact 5 (f := .free "sum") rfl), He.free_ok X G (c.fact 6 (f := .free "min") rfl), He.free_ok X G (c.fact 7 (f := .free "max") rfl), He.free_ok X G (c.fact 8 (f := .free "list") rfl), He.free_ok X G (c.fact 9 (f := .free "tuple") rfl), He.free_ok X G (c.fact 10 (f := .free "set") rfl), He.free_ok X G (c.fact 11 (f := .free "dict") rfl), He.free_ok X G (c.fact 12 (f := .free "sorted") rfl), He.free_ok X G (c.fact 13 (f := .free "range") rfl), He.free_ok X G (c.fact 14 (f := .free "enumerate") rfl), He.free_ok X G (c.fact 15 (f := .free "zip") rfl), He.free_ok X G (c.fact 16 (f := .free "reversed") rfl), He.free_ok X G (c.fact 17 (f := .free "isinstance") rfl)⟩
  obtain ⟨fd_whole_within, F_whole_within⟩ := c.def_ 0 (d := dd_whole_within) rfl
  obtain ⟨fd_check_within, F_check_within⟩ := c.def_ 1 (d := dd_check_within) rfl
  obtain ⟨fd_lowest, F_lowest⟩ := c.def_ 2 (d := dd_lowest) rfl
  obtain ⟨fd_plus, F_plus⟩ := c.def_ 3 (d := dd_plus) rfl
  obtain ⟨fd_minus, F_minus⟩ := c.def_ 4 (d := dd_minus) rfl
  obtain ⟨fd_times, F_times⟩ := c.def_ 5 (d := dd_times) rfl
  obtain ⟨fd_over, F_over⟩ := c.def_ 6 (d := dd_over) rfl
  obtain ⟨fd_is_less, F_is_less⟩ := c.def_ 7 (d := dd_is_less) rfl
  obtain ⟨fd_with_root, F_with_root⟩ := c.def_ 8 (d := dd_with_root) rfl
  obtain ⟨fd_with_roots, F_with_roots⟩ := c.def_ 9 (d := dd_with_roots) rfl
  obtain ⟨fd_worth, F_worth⟩ := c.def_ 10 (d := dd_worth) rfl
  obtain ⟨fd_only_at, F_only_at⟩ := c.def_ 11 (d := dd_only_at) rfl
  obtain ⟨fd_trimmed, F_trimmed⟩ := c.def_ 12 (d := dd_trimmed) rfl
  obtain ⟨fd_ascending_places, F_ascending_places⟩ := c.def_ 13 (d := dd_ascending_places) rfl
  obtain ⟨fd_checked_places, F_checked_places⟩ := c.def_ 14 (d := dd_checked_places) rfl
  obtain ⟨fd_checked_readings, F_checked_readings⟩ := c.def_ 15 (d := dd_checked_readings) rfl
  obtain ⟨fd_polynomial_through, F_polynomial_through⟩ := c.def_ 16 (d := dd_polynomial_through) rfl
  obtain ⟨fd_polynomial_by, F_polynomial_by⟩ := c.def_ 17 (d := dd_polynomial_by) rfl
  obtain ⟨fd_without, F_without⟩ := c.def_ 18 (d := dd_without) rfl
  obtain ⟨fd_fits, F_fits⟩ := c.def_ 19 (d := dd_fits) rfl
  obtain ⟨fd_false_alone, F_false_alone⟩ := c.def_ 20 (d := dd_false_alone) rfl
  obtain ⟨fd_false_ones, F_false_ones⟩ := c.def_ 21 (d := dd_false_ones) rfl
  obtain ⟨fd_repaired, F_repaired⟩ := c.def_ 22 (d := dd_repaired) rfl
  obtain ⟨fd_law_taken, F_law_taken⟩ := c.def_ 23 (d := dd_law_taken) rfl
  obtain ⟨fd_law_pick, F_law_pick⟩ := c.def_ 24 (d := dd_law_pick) rfl
  obtain ⟨fd_law_low, F_law_low⟩ := c.def_ 25 (d := dd_law_low) rfl
  obtain ⟨fd_law_add, F_law_add⟩ := c.def_ 26 (d := dd_law_add) rfl
  obtain ⟨fd_law_mul, F_law_mul⟩ := c.def_ 27 (d := dd_law_mul) rfl
  obtain ⟨fd_law_neg, F_law_neg⟩ := c.def_ 28 (d := dd_law_neg) rfl
  obtain ⟨fd_law_over, F_law_over⟩ := c.def_ 29 (d := dd_law_over) rfl
  obtain ⟨fd_law_is_less, F_law_is_less⟩ := c.def_ 30 (d := dd_law_is_less) rfl
  obtain ⟨fd_law_worth, F_law_worth⟩ := c.def_ 31 (d := dd_law_worth) rfl
  obtain ⟨fd_law_places, F_law_places⟩ := c.def_ 32 (d := dd_law_places) rfl
  obtain ⟨fd_law_wide, F_law_wide⟩ := c.def_ 33 (d := dd_law_wide) rfl
  obtain ⟨fd_law_root_product, F_law_root_product⟩ := c.def_ 34 (d := dd_law_root_product) rfl
  obtain ⟨fd_law_through, F_law_through⟩ := c.def_ 35 (d := dd_law_through) rfl
  obtain ⟨fd_law_repaired, F_law_repaired⟩ := c.def_ 36 (d := dd_law_repaired) rfl
  obtain ⟨fd_law, F_law⟩ := c.def_ 37 (d := dd_law) rfl
  have e0 := c.ext
  obtain ⟨x0, e1⟩ := He.ba e0
  obtain ⟨x1, e2⟩ := He.ba e1
  have x2 := e2
  have c_gcd := bltB_ok X G x0
  have c_NOUGHT := He.glo_ok X G (c.fact 56 (f := .glo "NOUGHT") rfl)
  have d_NOUGHT : ∀ F, Dq K F (.ref (He.ga K "NOUGHT")) (.tuple [.int (0), .int (1)]) := fun F => .tup (He.tupB_ok x1 F) (.cons (Dq.int _) (.cons (Dq.int _) (.nil)))
  have c_ONE := He.glo_ok X G (c.fact 57 (f := .glo "ONE") rfl)
  have d_ONE : ∀ F, Dq K F (.ref (He.ga K "ONE")) (.tuple [.int (1), .int (1)]) := fun F => .tup (He.tupB_ok x2 F) (.cons (Dq.int _) (.cons (Dq.int _) (.nil)))
  have c_MOST_PLACES := He.int_ok X G (c.fact 58 (f := .int "MOST_PLACES" (6)) rfl)
  have c_MOST_READ_DEGREE := He.int_ok X G (c.fact 59 (f := .int "MOST_READ_DEGREE" (4)) rfl)
  have e := hfa.symm.trans (He.glo_ok X G (c.fact 55 (f := .glo "law") rfl))
  cases e
  have bl := FunD.bindsA (ps := ["_law_script"]) F_law fun _ _ _ _ _ _ us hl => match us, hl with | [_], _ => rfl
  refine ⟨fd_law, fun s v => bl s [v] rfl, fun base _ _ => ?_⟩
  have G_whole_within : Kn P w K mg base "whole_within" 1 ["number", "low", "high"] (sp_whole_within K) := ⟨_, _, ok_whole_within (C := (0 : Addr)) B F_whole_within, He.glo_ok X G (c.fact 18 (f := .glo "whole_within") rfl), F_whole_within.kp, F_whole_within.bindsN fun _ _ _ _ _ _ us hl => match us, hl with | [_, _, _], _ => rfl⟩
  have G_check_within : Kn P w K mg base "check_within" 2 ["number", "low", "high"] (sp_check_within K) := ⟨_, _, ok_check_within (C := (0 : Addr)) B F_check_within G_whole_within, He.glo_ok X G (c.fact 19 (f := .glo "check_within") rfl), F_check_within.kp, F_check_within.bindsN fun _ _ _ _ _ _ us hl => match us, hl with | [_, _, _], _ => rfl⟩
  have G_lowest : Kn P w K mg base "lowest" 1 ["top", "bottom"] (sp_lowest K) := ⟨_, _, ok_lowest (C := (0 : Addr)) B F_lowest c_gcd, He.glo_ok X G (c.fact 20 (f := .glo "lowest") rfl), F_lowest.kp, F_lowest.bindsN fun _ _ _ _ _ _ us hl => match us, hl with | [_, _], _ => rfl⟩
  have G_plus : Kn P w K mg base "plus" 2 ["one", "other"] (sp_plus K) := ⟨_, _, ok_plus (C := (0 : Addr)) B F_plus G_lowest, He.glo_ok X G (c.fact 21 (f := .glo "plus") rfl), F_plus.kp, F_plus.bindsN fun _ _ _ _ _ _ us hl => match us, hl with | [_, _], _ => rfl⟩
  have G_minus : Kn P w K mg base "minus" 2 ["one", "other"] (sp_minus K) := ⟨_, _, ok_minus (C := (0 : Addr)) B F_minus G_lowest, He.glo_ok X G (c.fact 22 (f := .glo "minus") rfl), F_minus.kp, F_minus.bindsN fun _ _ _ _ _ _ us hl => match us, hl with | [_, _], _ => rfl⟩
  have G_times : Kn P w K mg base "times" 2 ["one", "other"] (sp_times K) := ⟨_, _, ok_times (C := (0 : Addr)) B F_times G_lowest, He.glo_ok X G (c.fact 23 (f := .glo "times") rfl), F_times.kp, F_times.bindsN fun _ _ _ _ _ _ us hl => match us, hl with | [_, _], _ => rfl⟩
  have G_over : Kn P w K mg base "over" 2 ["one", "other"] (sp_over K) := ⟨_, _, ok_over (C := (0 : Addr)) B F_over G_lowest, He.glo_ok X G (c.fact 24 (f := .glo "over") rfl), F_over.kp, F_over.bindsN fun _ _ _ _ _ _ us hl => match us, hl with | [_, _], _ => rfl⟩
  have G_is_less : Kn P w K mg base "is_less" 1 ["one", "other"] (sp_is_less K) := ⟨_, _, ok_is_less (C := (0 : Addr)) B F_is_less, He.glo_ok X G (c.fact 25 (f := .glo "is_less") rfl), F_is_less.kp, F_is_less.bindsN fun _ _ _ _ _ _ us hl => match us, hl with | [_, _], _ => rfl⟩
  have G_with_root : Kn P w K mg base "with_root" 3 ["polynomial", "place"] (sp_with_root K) := ⟨_, _, ok_with_root (C := (0 : Addr)) B F_with_root G_times G_minus c_NOUGHT d_NOUGHT, He.glo_ok X G (c.fact 26 (f := .glo "with_root") rfl), F_with_root.kp, F_with_root.bindsN fun _ _ _ _ _ _ us hl => match us, hl with | [_, _], _ => rfl⟩
  have G_with_roots : Kn P w K mg base "with_roots" 4 ["places"] (sp_with_roots K) := ⟨_, _, ok_with_roots (C := (0 : Addr)) B F_with_roots G_with_root c_ONE d_ONE, He.glo_ok X G (c.fact 27 (f := .glo "with_roots") rfl), F_with_roots.kp, F_with_roots.bindsN fun _ _ _ _ _ _ us hl => match us, hl with | [_], _ => rfl⟩
  have G_worth : Kn P w K mg base "worth" 3 ["polynomial", "place"] (sp_worth K) := ⟨_, _, ok_worth (C := (0 : Addr)) B F_worth G_plus G_times c_NOUGHT d_NOUGHT, He.glo_ok X G (c.fact 28 (f := .glo "worth") rfl), F_worth.kp, F_worth.bindsN fun _ _ _ _ _ _ us hl => match us, hl with | [_, _], _ => rfl⟩
  have G_only_at : Kn P w K mg base "only_at" 5 ["places", "index"] (sp_only_at K) := ⟨_, _, ok_only_at (C := (0 : Addr)) B F_only_at G_with_roots G_worth G_over, He.glo_ok X G (c.fact 29 (f := .glo "only_at") rfl), F_only_at.kp, F_only_at.bindsN fun _ _ _ _ _ _ us hl => match us, hl with | [_, _], _ => rfl⟩
  have G_trimmed : Kn P w K mg base "trimmed" 1 ["polynomial"] (sp_trimmed K) := ⟨_, _, ok_trimmed (C := (0 : Addr)) B F_trimmed c_NOUGHT d_NOUGHT, He.glo_ok X G (c.fact 30 (f := .glo "trimmed") rfl), F_trimmed.kp, F_trimmed.bindsN fun _ _ _ _ _ _ us hl => match us, hl with | [_], _ => rfl⟩
  have G_ascending_places : Kn P w K mg base "ascending_places" 2 ["places", "most"] (sp_ascending_places K) := ⟨_, _, ok_ascending_places (C := (0 : Addr)) B F_ascending_places G_lowest G_is_less, He.glo_ok X G (c.fact 31 (f := .glo "ascending_places") rfl), F_ascending_places.kp, F_ascending_places.bindsN fun _ _ _ _ _ _ us hl => match us, hl with | [_, _], _ => rfl⟩
  have G_checked_places : Kn P w K mg base "checked_places" 3 ["places"] (sp_checked_places K) := ⟨_, _, ok_checked_places (C := (0 : Addr)) B F_checked_places G_ascending_places c_MOST_PLACES, He.glo_ok X G (c.fact 32 (f := .glo "checked_places") rfl), F_checked_places.kp, F_checked_places.bindsN fun _ _ _ _ _ _ us hl => match us, hl with | [_], _ => rfl⟩
  have G_checked_readings : Kn P w K mg base "checked_readings" 2 ["readings", "count"] (sp_checked_readings K) := ⟨_, _, ok_checked_readings (C := (0 : Addr)) B F_checked_readings G_lowest, He.glo_ok X G (c.fact 33 (f := .glo "checked_readings") rfl), F_checked_readings.kp, F_checked_readings.bindsN fun _ _ _ _ _ _ us hl => match us, hl with | [_, _], _ => rfl⟩
  have G_polynomial_through : Kn P w K mg base "polynomial_through" 6 ["found", "worths"] (sp_polynomial_through K) := ⟨_, _, ok_polynomial_through (C := (0 : Addr)) B F_polynomial_through G_only_at G_times G_plus G_trimmed c_NOUGHT d_NOUGHT, He.glo_ok X G (c.fact 34 (f := .glo "polynomial_through") rfl), F_polynomial_through.kp, F_polynomial_through.bindsN fun _ _ _ _ _ _ us hl => match us, hl with | [_, _], _ => rfl⟩
  have G_polynomial_by : Kn P w K mg base "polynomial_by" 7 ["places", "readings"] (sp_polynomial_by K) := ⟨_, _, ok_polynomial_by (C := (0 : Addr)) B F_polynomial_by G_checked_places G_polynomial_through G_checked_readings, He.glo_ok X G (c.fact 35 (f := .glo "polynomial_by") rfl), F_polynomial_by.kp, F_polynomial_by.bindsN fun _ _ _ _ _ _ us hl => match us, hl with | [_, _], _ => rfl⟩
  have G_without : Kn P w K mg base "without" 1 ["listed", "index"] (sp_without K) := ⟨_, _, ok_without (C := (0 : Addr)) B F_without, He.glo_ok X G (c.fact 36 (f := .glo "without") rfl), F_without.kp, F_without.bindsN fun _ _ _ _ _ _ us hl => match us, hl with | [_, _], _ => rfl⟩
  have G_fits : Kn P w K mg base "fits" 7 ["found", "worths", "degree"] (sp_fits K) := ⟨_, _, ok_fits (C := (0 : Addr)) B F_fits G_polynomial_through, He.glo_ok X G (c.fact 37 (f := .glo "fits") rfl), F_fits.kp, F_fits.bindsN fun _ _ _ _ _ _ us hl => match us, hl with | [_, _, _], _ => rfl⟩
  have G_false_alone : Kn P w K mg base "false_alone" 8 ["found", "worths", "degree"] (sp_false_alone K) := ⟨_, _, ok_false_alone (C := (0 : Addr)) B F_false_alone G_fits G_without, He.glo_ok X G (c.fact 38 (f := .glo "false_alone") rfl), F_false_alone.kp, F_false_alone.bindsN fun _ _ _ _ _ _ us hl => match us, hl with | [_, _, _], _ => rfl⟩
  have G_false_ones : Kn P w K mg base "false_ones" 9 ["places", "readings", "degree"] (sp_false_ones K) := ⟨_, _, ok_false_ones (C := (0 : Addr)) B F_false_ones G_checked_places G_checked_readings G_check_within G_false_alone c_MOST_READ_DEGREE, He.glo_ok X G (c.fact 39 (f := .glo "false_ones") rfl), F_false_ones.kp, F_false_ones.bindsN fun _ _ _ _ _ _ us hl => match us, hl with | [_, _, _], _ => rfl⟩
  have G_repaired : Kn P w K mg base "repaired" 9 ["places", "readings", "degree"] (sp_repaired K) := ⟨_, _, ok_repaired (C := (0 : Addr)) B F_repaired G_checked_places G_checked_readings G_check_within G_fits G_false_alone G_polynomial_through G_without G_worth c_MOST_READ_DEGREE, He.glo_ok X G (c.fact 40 (f := .glo "repaired") rfl), F_repaired.kp, F_repaired.bindsN fun _ _ _ _ _ _ us hl => match us, hl with | [_, _, _], _ => rfl⟩
  have G_law_taken : Kn P w K mg base "_law_taken" 1 ["_law_row", "_law_many"] (spTaken takenA K) := ⟨_, _, ok_law_taken B F_law_taken, He.glo_ok X G (c.fact 41 (f := .glo "_law_taken") rfl), F_law_taken.kp, F_law_taken.bindsN fun _ _ _ _ _ _ us hl => match us, hl with | [_, _], _ => rfl⟩
  have G_law_pick : Kn P w K mg base "_law_pick" 2 ["_law_row", "_law_some"] (spPick takenA K) := ⟨_, _, ok_law_pick B F_law_pick G_law_taken, He.glo_ok X G (c.fact 42 (f := .glo "_law_pick") rfl), F_law_pick.kp, F_law_pick.bindsN fun _ _ _ _ _ _ us hl => match us, hl with | [_, _], _ => rfl⟩
  have G_law_low : Kn P w K mg base "_law_low" 1 ["_law_top", "_law_bottom"] (sp_law_low K) := ⟨_, _, ok_law_low (C := (0 : Addr)) B F_law_low, He.glo_ok X G (c.fact 43 (f := .glo "_law_low") rfl), F_law_low.kp, F_law_low.bindsN fun _ _ _ _ _ _ us hl => match us, hl with | [_, _], _ => rfl⟩
  have G_law_add : Kn P w K mg base "_law_add" 2 ["_law_one", "_law_other"] (sp_law_add K) := ⟨_, _, ok_law_add (C := (0 : Addr)) B F_law_add G_law_low, He.glo_ok X G (c.fact 44 (f := .glo "_law_add") rfl), F_law_add.kp, F_law_add.bindsN fun _ _ _ _ _ _ us hl => match us, hl with | [_, _], _ => rfl⟩
  have G_law_mul : Kn P w K mg base "_law_mul" 2 ["_law_one", "_law_other"] (sp_law_mul K) := ⟨_, _, ok_law_mul (C := (0 : Addr)) B F_law_mul G_law_low, He.glo_ok X G (c.fact 45 (f := .glo "_law_mul") rfl), F_law_mul.kp, F_law_mul.bindsN fun _ _ _ _ _ _ us hl => match us, hl with | [_, _], _ => rfl⟩
  have G_law_neg : Kn P w K mg base "_law_neg" 1 ["_law_one"] (sp_law_neg K) := ⟨_, _, ok_law_neg (C := (0 : Addr)) B F_law_neg, He.glo_ok X G (c.fact 46 (f := .glo "_law_neg") rfl), F_law_neg.kp, F_law_neg.bindsN fun _ _ _ _ _ _ us hl => match us, hl with | [_], _ => rfl⟩
  have G_law_over : Kn P w K mg base "_law_over" 2 ["_law_one", "_law_other"] (sp_law_over K) := ⟨_, _, ok_law_over (C := (0 : Addr)) B F_law_over G_law_low, He.glo_ok X G (c.fact 47 (f := .glo "_law_over") rfl), F_law_over.kp, F_law_over.bindsN fun _ _ _ _ _ _ us hl => match us, hl with | [_, _], _ => rfl⟩
  have G_law_is_less : Kn P w K mg base "_law_is_less" 1 ["_law_one", "_law_other"] (sp_law_is_less K) := ⟨_, _, ok_law_is_less (C := (0 : Addr)) B F_law_is_less, He.glo_ok X G (c.fact 48 (f := .glo "_law_is_less") rfl), F_law_is_less.kp, F_law_is_less.bindsN fun _ _ _ _ _ _ us hl => match us, hl with | [_, _], _ => rfl⟩
  have G_law_worth : Kn P w K mg base "_law_worth" 3 ["_law_some", "_law_place"] (sp_law_worth K) := ⟨_, _, ok_law_worth (C := (0 : Addr)) B F_law_worth G_law_add G_law_mul, He.glo_ok X G (c.fact 49 (f := .glo "_law_worth") rfl), F_law_worth.kp, F_law_worth.bindsN fun _ _ _ _ _ _ us hl => match us, hl with | [_, _], _ => rfl⟩
  have G_law_places : Kn P w K mg base "_law_places" 3 ["_law_row", "_law_most"] (sp_law_places K) := ⟨_, _, ok_law_places (C := (0 : Addr)) B F_law_places G_law_taken G_law_low G_law_pick G_law_is_less, He.glo_ok X G (c.fact 50 (f := .glo "_law_places") rfl), F_law_places.kp, F_law_places.bindsN fun _ _ _ _ _ _ us hl => match us, hl with | [_, _], _ => rfl⟩
  have G_law_wide : Kn P w K mg base "_law_wide" 3 ["_law_row", "_law_some"] (sp_law_wide K) := ⟨_, _, ok_law_wide (C := (0 : Addr)) B F_law_wide G_law_pick, He.glo_ok X G (c.fact 51 (f := .glo "_law_wide") rfl), F_law_wide.kp, F_law_wide.bindsN fun _ _ _ _ _ _ us hl => match us, hl with | [_, _], _ => rfl⟩
  have G_law_root_product : Kn P w K mg base "_law_root_product" 3 ["_law_places_here"] (sp_law_root_product K) := ⟨_, _, ok_law_root_product (C := (0 : Addr)) B F_law_root_product G_law_add G_law_neg G_law_mul, He.glo_ok X G (c.fact 52 (f := .glo "_law_root_product") rfl), F_law_root_product.kp, F_law_root_product.bindsN fun _ _ _ _ _ _ us hl => match us, hl with | [_], _ => rfl⟩
  have G_law_through : Kn P w K mg base "_law_through" 4 ["_law_places_here", "_law_marks_of"] (sp_law_through K) := ⟨_, _, ok_law_through (C := (0 : Addr)) B F_law_through G_law_root_product G_law_mul G_law_add G_law_neg G_law_over, He.glo_ok X G (c.fact 53 (f := .glo "_law_through") rfl), F_law_through.kp, F_law_through.bindsN fun _ _ _ _ _ _ us hl => match us, hl with | [_, _], _ => rfl⟩
  have G_law_repaired : Kn P w K mg base "_law_repaired" 5 ["_law_places_here", "_law_marks_of", "_law_degree", "_law_bad"] (sp_law_repaired K) := ⟨_, _, ok_law_repaired (C := (0 : Addr)) B F_law_repaired G_law_through G_law_worth, He.glo_ok X G (c.fact 54 (f := .glo "_law_repaired") rfl), F_law_repaired.kp, F_law_repaired.bindsN fun _ _ _ _ _ _ us hl => match us, hl with | [_, _, _, _], _ => rfl⟩
  exact ok_law (C := (0 : Addr)) B F_law G_law_places G_law_taken G_law_worth G_law_add G_law_wide G_polynomial_by G_law_through G_false_ones G_repaired G_law_repaired
open PySem PySem.W PySem.Calls PyProof.Rows
theorem of_law (math : ∀ scr : List Int, scr.length ≤ 63 → law scr = .ok true) : PySem.Challenge.rw_fewreadings_k72_whole_false_readings_by.Holds := by
  w_on; o_law
  refine HandSHeadRun.head_imp (r := R) (q := vw) (H := hk) (ob := ob) (M := 6000) (loose := looseN) (d := HandSHeadRun.topDef R.prog 51) (kwd := []) ob_eq
    run (by kernel_rfl) (by kernel_rfl) (by kernel_rfl) (by rfl) (by first | assumption | decide +kernel) (by decide +kernel) ⟨rfl, rfl, rfl, rfl, rfl, by decide +kernel⟩ ?hw ?hc
  case hw => w_witness2
  case hc =>
    refine L2.walk_ofE (l := PySem.Challenge.rw_fewreadings_k72_whole_false_readings_by) (n := 63) (k := 10) (x := "_law_script") (CX := L2.CX0) rfl (by decide) (by kernel_rfl) ⟨rfl, by decide, by decide⟩ ?F (fun _ _ _ _ z => z)
    intro w mg fa h Y G hmg0
    obtain ⟨K, KX, c⟩ := Y
    have hmg : mg ("law" : PySem.Str) = some (.ref fa) := by
      have e : (HandSHeadRun.topDef R.prog 51).name = ("law" : PySem.Str) := by kernel_rfl
      rw [← e]
      exact hmg0
    obtain ⟨fd, hb, hF⟩ := facts (P := PySem.Challenge.rw_fewreadings_k72_whole_false_readings_by.prog) (w := w) KX G hmg c
    refine ⟨K, fd, sp_law K, KX, hb, fun H a ns hl _ hS => ⟨a, ns, rfl, hS, ?_⟩, hF⟩
    rw [math ns hl]
    exact ⟨fun H => rfl⟩
end L

set_option Elab.async false
set_option linter.all false
set_option maxRecDepth 100000
set_option maxHeartbeats 2000000
set_option exponentiation.threshold 100
namespace L
open PySem L2 Evl Wk
/-! ### fractions, in any terms -/
theorem lowest_any {a b : Int} {n : Nat} (h : b ≠ 0) (hb : b.natAbs < 2 ^ n) (hn : n < 9000) : lowest a b = .ok (fr ((a : Rat) / (b : Rat))) := by
  unfold lowest
  have g1 := Nat.lt_of_le_of_lt (gcd_leZ (a := a) h) hb
  have g0 := gcd_posZ (a := a) h
  by_cases q : b < 0
  · rw [cT (decide_eq_true q), bdo, div_any (by omega) (by rw [Int.natAbs_neg]; exact g1) hn, bdo, div_any (by omega) (by rw [Int.natAbs_neg]; exact g1) hn, bdo, fr_neg q]
  · rw [cF (decide_eq_false q), bdo, div_any (by omega) g1 hn, bdo, div_any (by omega) g1 hn, bdo, fr_pos (by omega)]
theorem lowest_ok {a b : Int} {n : Nat} (h : 0 < b) (hb : b.natAbs < 2 ^ n) (hn : n < 9000) : lowest a b = .ok (fr ((a : Rat) / (b : Rat))) := lowest_any (by omega) hb hn
theorem lowest_x {x : Int × Int} {q : Rat} {n : Nat} (h : Rx n x q) (hn : n < 9000) : lowest x.1 x.2 = .ok (fr q) := by rw [lowest_any h.nz h.b hn, h.v]
theorem plus_x {x y : Int × Int} {p q : Rat} {a b : Nat} (hx : Rx a x p) (hy : Rx b y q) (h : a + b < 8999) : plus x y = .ok (fr (p + q)) := by
  unfold plus
  rw [mul_ok hx.t hy.b (by omega), bdo, mul_ok hy.t hx.b (by omega), bdo, mul_ok hx.b hy.b (by omega), bdo, lowest_any (mul_nz hx.nz hy.nz) (mul_lt hx.b hy.b (Nat.le_refl _)) (by omega), bdo, rx_add hx hy]
theorem minus_x {x y : Int × Int} {p q : Rat} {a b : Nat} (hx : Rx a x p) (hy : Rx b y q) (h : a + b < 8999) : minus x y = .ok (fr (p - q)) := by
  unfold minus
  rw [mul_ok hx.t hy.b (by omega), bdo, mul_ok hy.t hx.b (by omega), bdo, mul_ok hx.b hy.b (by omega), bdo, lowest_any (mul_nz hx.nz hy.nz) (mul_lt hx.b hy.b (Nat.le_refl _)) (by omega), bdo, rx_sub hx hy]
theorem times_x {x y : Int × Int} {p q : Rat} {a b : Nat} (hx : Rx a x p) (hy : Rx b y q) (h : a + b < 8999) : times x y = .ok (fr (p * q)) := by
  unfold times
  rw [mul_ok hx.t hy.t (by omega), bdo, mul_ok hx.b hy.b (by omega), bdo, lowest_any (mul_nz hx.nz hy.nz) (mul_lt hx.b hy.b (Nat.le_refl _)) (by omega), bdo, rx_mul hx hy]
theorem plus_ok {p q : Rat} {a b : Nat} (ha : Sq a p) (hb : Sq b q) (h : a + b < 8999) : plus (fr p) (fr q) = .ok (fr (p + q)) := plus_x (rx_fr ha) (rx_fr hb) h
theorem minus_ok {p q : Rat} {a b : Nat} (ha : Sq a p) (hb : Sq b q) (h : a + b < 8999) : minus (fr p) (fr q) = .ok (fr (p - q)) := minus_x (rx_fr ha) (rx_fr hb) h
theorem times_ok {p q : Rat} {a b : Nat} (ha : Sq a p) (hb : Sq b q) (h : a + b < 8999) : times (fr p) (fr q) = .ok (fr (p * q)) := times_x (rx_fr ha) (rx_fr hb) h
theorem over_x {x y : Int × Int} {p q : Rat} {a b : Nat} (hx : Rx a x p) (hy : Rx b y q) (hq : q ≠ 0) (h : a + b < 8999) : over x y = .ok (fr (p / q)) := by
  unfold over
  rw [mul_ok hx.t hy.b (by omega), bdo, mul_ok hx.b hy.t (by omega), bdo, lowest_any (mul_nz hx.nz (hy.top hq)) (mul_lt hx.b hy.t (Nat.le_refl _)) (by omega), bdo, rx_div hx hy hq]
theorem over_ok {p q : Rat} {a b : Nat} (ha : Sq a p) (hb : Sq b q) (hq : q ≠ 0) (h : a + b < 8999) : over (fr p) (fr q) = .ok (fr (p / q)) := over_x (rx_fr ha) (rx_fr hb) hq h
theorem is_less_ok {p q : Rat} {a b : Nat} (ha : Sq a p) (hb : Sq b q) (h : a + b < 8999) : is_less (fr p) (fr q) = .ok (decide (p < q)) := by
  unfold is_less
  rw [mul_ok (i := (fr p).1) (j := (fr q).2) ha.1 hb.d (by omega), bdo, mul_ok (i := (fr q).1) (j := (fr p).2) hb.1 ha.d (by omega), bdo]
  congr 1
  exact decide_eq_decide.mpr (Rat.lt_iff p q).symm
theorem worth_ok {p : Rat} {b c : Nat} (hp : Sq b p) (l : List Rat) (h : Sqs c l) (hN : (b + c + 1) * l.length + 1 ≤ 8990) : worth (l.map fr) (fr p) = .ok (fr (ev l p)) := by
  unfold worth
  rw [← List.map_reverse, foldM_map, horner hp 8990 (fun x hx q a ha hN => ?_) l h hN, bdo]
  rw [times_ok ha hp (by omega), bdo, plus_ok (sq_mul ha hp (Nat.le_refl _)) hx (by omega), bdo]
/-! ### places, weights, polynomials that are handed in -/
theorem asc_step {f : List (Int × Int) → Int × (Int × Int) → Mm (List (Int × Int))} {done : List Rat} {p : Rat} {x : Int × Int} {most : Int} {c : Nat} (hc : c < 4000)
    (hf : ∀ s y, f s y = cond ((decide (y.1 = most)) || (decide (y.2.2 = (0 : Int)))) (Mm.bad) ((lowest (y.2.1) (y.2.2)).bd fun b49 => (cond (decide (y.1 > (0 : Int))) ((getM s (-(1 : Int))).bd fun i60 => (is_less (i60) (b49)).bd fun b65 => Mm.ok (!b65)) (Mm.ok false)).bd fun b56 => cond b56 (Mm.bad) ((guardM (s.length < 100000)).bd fun _ => Mm.ok (s ++ [b49]))))
    (hw : Rx c x p) (ha : ∀ q ∈ done, q < p) (hs : Sqs c done) (hl : (done.length : Int) < most) (hm : most ≤ 6) : f (done.map fr) ((done.length : Int), x) = .ok ((done ++ [p]).map fr) := by
  have g : guardM ((done.map fr).length < 100000) = .ok () := guard_ok (by rw [List.length_map]; omega)
  have c1 : (decide ((done.length : Int) = most) || decide (x.2 = 0)) = false := by
    rw [decide_eq_false (by omega), decide_eq_false hw.nz]
    rfl
  have e1 : cond (decide ((done.length : Int) > 0)) ((getM (done.map fr) (-(1 : Int))).bd fun i60 => (is_less (i60) (fr p)).bd fun b65 => Mm.ok (!b65)) (Mm.ok false) = Mm.ok false := by
    rcases List.eq_nil_or_concat done with e | ⟨l, q, e⟩
    · subst e
      rfl
    · rw [List.concat_eq_append] at e
      subst e
      rw [cT (decide_eq_true (by rw [List.length_append, List.length_singleton]; omega))]
      have hq : q ∈ l ++ [q] := by simp
      rw [List.map_append, List.map_cons, List.map_nil, getM_last, bdo, is_less_ok (hs q hq) hw.sq (by omega), bdo, decide_eq_true (ha q hq)]
      rfl
  rw [hf, cF (c := decide (((done.length : Int), x).1 = most) || decide (((done.length : Int), x).2.2 = 0)) c1, lowest_x hw (by omega), bdo, e1, bdo, cF rfl, g, bdo, List.map_append]
  rfl
theorem asc_fold {f : List (Int × Int) → Int × (Int × Int) → Mm (List (Int × Int))} {most : Int} {c : Nat} (hc : c < 4000) (hm : most ≤ 6)
    (hf : ∀ s y, f s y = cond ((decide (y.1 = most)) || (decide (y.2.2 = (0 : Int)))) (Mm.bad) ((lowest (y.2.1) (y.2.2)).bd fun b49 => (cond (decide (y.1 > (0 : Int))) ((getM s (-(1 : Int))).bd fun i60 => (is_less (i60) (b49)).bd fun b65 => Mm.ok (!b65)) (Mm.ok false)).bd fun b56 => cond b56 (Mm.bad) ((guardM (s.length < 100000)).bd fun _ => Mm.ok (s ++ [b49])))) :
    ∀ (ps : List Rat) (pl : List (Int × Int)) (done : List Rat), All2 (fun p x => Rx c x p) ps pl → (done ++ ps).Pairwise (· < ·) → Sqs c done → ((done ++ ps).length : Int) ≤ most → foldM f (done.map fr) (numL (done.length : Int) pl) = .ok ((done ++ ps).map fr) := by
  intro ps
  induction ps with
  | nil =>
    intro pl done h _ _ _
    cases h
    rw [List.append_nil]
    rfl
  | cons p ps ih =>
    intro pl done h ha hs hl
    cases h with
    | cons hw hr =>
      rw [List.length_append, List.length_cons] at hl
      have ha' := List.pairwise_append.mp ha
      unfold numL foldM
      rw [asc_step hc hf hw (fun q hq => ha'.2.2 q hq p (List.mem_cons_self ..)) hs (by omega) hm, bdo]
      have e : done ++ p :: ps = (done ++ [p]) ++ ps := by simp
      rw [e] at ha ⊢
      have := ih _ (done ++ [p]) hr ha (fun q hq => by
        rcases List.mem_append.mp hq with z | z
        · exact hs q z
        · rw [List.mem_singleton.mp z]; exact hw.sq) (by simp only [List.length_append, List.length_singleton]; omega)
      have e2 : ((done ++ [p]).length : Int) = (done.length : Int) + 1 := by simp
      rw [e2] at this
      exact this
theorem ascending_places_ok {ps : List Rat} {pl : List (Int × Int)} {c : Nat} {most : Int} (hc : c < 4000) (h : All2 (fun p x => Rx c x p) ps pl) (ha : ps.Pairwise (· < ·)) (hl : (ps.length : Int) ≤ most) (hm : most ≤ 6) : ascending_places pl most = .ok (ps.map fr) := by
  unfold ascending_places
  have f := asc_fold hc hm (fun _ _ => rfl) ps pl [] h ha (fun q hq => by cases hq) hl
  rw [enumL_eq]
  refine (congrArg (fun m => Mm.bd m _) f).trans ?_
  rfl
theorem checked_places_x {ps : List Rat} {pl : List (Int × Int)} {c : Nat} (hc : c < 4000) (h : All2 (fun p x => Rx c x p) ps pl) (ha : ps.Pairwise (· < ·)) (hl : ps.length ≤ 6) (h0 : 0 < ps.length) : checked_places pl = .ok (ps.map fr) := by
  have l := h.len
  unfold checked_places
  rw [cF (decide_eq_false (by omega)), ascending_places_ok hc h ha (by omega) (by decide), bdo]
theorem weights_fold {f : Unit → Int × (Int × Int) → Mm Unit} {count : Int} (hf : ∀ s y, f s y = cond ((decide (y.1 = count)) || (decide (y.2.2 = (0 : Int)))) (Mm.bad) (Mm.ok ())) : ∀ (l : List (Int × Int)) (k : Int), k + l.length ≤ count → (∀ x ∈ l, x.2 ≠ 0) → foldM f () (numL k l) = .ok ()
  | [], k, _, _ => rfl
  | x :: l, k, h, hn => by
    rw [List.length_cons] at h
    unfold numL foldM
    rw [hf, cF (by rw [decide_eq_false (by show ¬ k = count; omega), decide_eq_false (hn x (List.mem_cons_self ..))]; rfl), bdo]
    exact weights_fold hf l (k + 1) (by omega) fun y hy => hn y (List.mem_cons_of_mem _ hy)
def toR (l : List Int) : List Rat := l.map fun x => ((x : Int) : Rat)
theorem toR_fr (l : List Int) : (toR l).map fr = l.map fun x => (x, (1 : Int)) := by
  unfold toR
  rw [List.map_map]
  exact List.map_congr_left fun x _ => fr_of_int x
theorem toR_sq {l : List Int} {c : Nat} (h : ∀ x ∈ l, x.natAbs < 2 ^ c) (h0 : 0 < c) : Sqs c (toR l) := fun q hq => by
  obtain ⟨x, hx, rfl⟩ := List.mem_map.mp hq
  exact sq_int (h x hx) h0
def zipR (ps ws : List Rat) (f : List Rat) : List Rat := (ps.zip ws).map fun x => x.2 * ev f x.1
/-- what a rule tells -/
def Rd (ps ws f : List Rat) : Rat := (zipR ps ws f).sum
/-! ### weightings that are right, their sums -/
theorem pow_fold {f : Int → Int → Mm Int} {base : Int} {b : Nat} (hb : base.natAbs < 2 ^ b) (hf : ∀ s x, f s x = (mulM s base).bd fun m => Mm.ok m) : ∀ (l : List Int) (s : Int) (a : Nat), s.natAbs < 2 ^ a → a + b * (l.length + 1) ≤ 900000 → foldM f s l = .ok (s * base ^ l.length)
  | [], s, a, _, _ => by simp [foldM]
  | x :: l, s, a, ha, h => by
    have e : a + b + b * (l.length + 1) ≤ 900000 := by
      rw [List.length_cons] at h
      have : b * (l.length + 1 + 1) = b * (l.length + 1) + b := by rw [Nat.mul_succ]
      omega
    unfold foldM
    rw [hf, mul_ok ha hb (by omega)]
    show foldM f (s * base) l = _
    rw [pow_fold hb hf l (s * base) (a + b) (mul_lt ha hb (Nat.le_refl _)) e, List.length_cons, Int.mul_assoc, Int.pow_succ']
theorem pow_lt {base : Int} {b : Nat} (hb : base.natAbs < 2 ^ b) : ∀ n : Nat, (base ^ n).natAbs < 2 ^ (b * n + 1)
  | 0 => by simp
  | n + 1 => by
    rw [Int.pow_succ]
    exact mul_lt (pow_lt hb n) hb (by rw [Nat.mul_succ]; omega)
theorem sum_lt {a : Nat} : ∀ l : List Int, (∀ x ∈ l, x.natAbs < 2 ^ a) → l.sum.natAbs < 2 ^ (a + l.length)
  | [], _ => by
    have := two_le (a + 0)
    show 0 < 2 ^ (a + 0)
    omega
  | x :: l, h => by
    rw [List.sum_cons]
    refine add_lt (h x (List.mem_cons_self ..)) (sum_lt l fun y hy => h y (List.mem_cons_of_mem _ hy)) ?_ ?_ <;> (rw [List.length_cons]; omega)
structure Good (w : Wt) : Prop where
  ms : ∀ m ∈ w.1, m.1.natAbs ≤ 20 ∧ 1 ≤ m.2 ∧ m.2 ≤ 20
  ss : ∀ s ∈ w.2, s.1.natAbs ≤ 20 ∧ s.2.1.natAbs ≤ 20 ∧ 1 ≤ s.2.2 ∧ s.2.2 ≤ 20 ∧ s.1 < s.2.1
  lm : w.1.length ≤ 6
  ls : w.2.length ≤ 4
  ne : w.1 ≠ [] ∨ w.2 ≠ []
def mI (k : Nat) (m : Int × Int) : Int := m.2 * m.1 ^ k
def sI (k : Nat) (s : Int × Int × Int) : Int := s.2.2 * (s.2.1 ^ (k + 1) - s.1 ^ (k + 1))
def PS (w : Wt) (k : Nat) : Rat := (((w.1.map (mI k)).sum * ((k : Int) + 1) + (w.2.map (sI k)).sum : Int) : Rat) / (((k : Int) + 1 : Int) : Rat)
theorem pow_lt20 {x : Int} {k : Nat} (h : x.natAbs ≤ 20) (hk : k ≤ 61) : (x ^ k).natAbs < 2 ^ 306 := up_lt (pow_lt (b := 5) (by omega) k) (by omega)
theorem mI_lt {k : Nat} {m : Int × Int} (h : m.1.natAbs ≤ 20 ∧ 1 ≤ m.2 ∧ m.2 ≤ 20) (hk : k ≤ 60) : (mI k m).natAbs < 2 ^ 320 :=
  mul_lt (a := 5) (by omega) (pow_lt20 h.1 (by omega)) (by decide)
theorem sI_lt {k : Nat} {s : Int × Int × Int} (h : s.1.natAbs ≤ 20 ∧ s.2.1.natAbs ≤ 20 ∧ 1 ≤ s.2.2 ∧ s.2.2 ≤ 20 ∧ s.1 < s.2.1) (hk : k ≤ 60) : (sI k s).natAbs < 2 ^ 320 :=
  mul_lt (a := 5) (by omega) (sub_lt (n := 307) (pow_lt20 h.2.1 (by omega)) (pow_lt20 h.1 (by omega)) (by decide) (by decide)) (by decide)
theorem small_lt {k : Nat} (hk : k ≤ 60) : ((k : Int) + 1).natAbs < 2 ^ 6 := by
  have : (2 : Nat) ^ 6 = 64 := by decide
  omega
theorem sums_lt {w : Wt} (g : Good w) {k : Nat} (hk : k ≤ 60) : (w.1.map (mI k)).sum.natAbs < 2 ^ 326 ∧ (w.2.map (sI k)).sum.natAbs < 2 ^ 326 := by
  constructor
  · refine up_lt (sum_lt (a := 320) _ fun x hx => ?_) (by rw [List.length_map]; have := g.lm; omega)
    obtain ⟨m, hm, rfl⟩ := List.mem_map.mp hx
    exact mI_lt (g.ms m hm) hk
  · refine up_lt (sum_lt (a := 320) _ fun x hx => ?_) (by rw [List.length_map]; have := g.ls; omega)
    obtain ⟨m, hm, rfl⟩ := List.mem_map.mp hx
    exact sI_lt (g.ss m hm) hk
theorem sq_PS {w : Wt} (g : Good w) {k : Nat} (hk : k ≤ 60) : Sq 340 (PS w k) := by
  obtain ⟨a, b⟩ := sums_lt g hk
  refine sq_div (by omega) ?_ (up_lt (small_lt hk) (by decide))
  exact add_lt (mul_lt a (small_lt hk) (Nat.le_refl _)) b (by decide) (by decide)
theorem whole_ok {n l h : Int} (a : l ≤ n) (b : n ≤ h) : whole_within n l h = .ok true := by
  unfold whole_within
  rw [decide_eq_true a, decide_eq_true b]
  rfl
theorem check_within_ok {n l h : Int} (a : l ≤ n) (b : n ≤ h) : check_within n l h = .ok () := by
  unfold check_within
  rw [whole_ok a b, bdo]
  rfl
theorem sum_cast {α : Type} (f : α → Int) : ∀ l : List α, (l.map fun x => ((f x : Int) : Rat)).sum = (((l.map f).sum : Int) : Rat)
  | [] => rfl
  | x :: l => by
    rw [List.map_cons, List.sum_cons, List.map_cons, List.sum_cons, sum_cast f l]
    push_cast
    rfl
theorem sum_castD {α : Type} (f : α → Int) (c : Rat) : ∀ l : List α, (l.map fun x => ((f x : Int) : Rat) / c).sum = (((l.map f).sum : Int) : Rat) / c
  | [] => by
    show (0 : Rat) = ((0 : Int) : Rat) / c
    push_cast
    grind
  | x :: l => by
    rw [List.map_cons, List.sum_cons, List.map_cons, List.sum_cons, sum_castD f c l]
    push_cast
    grind
theorem sum_nn : ∀ l : List Int, (∀ x ∈ l, 0 < x) → 0 ≤ l.sum ∧ (l ≠ [] → 0 < l.sum)
  | [], _ => ⟨by decide, fun h => absurd rfl h⟩
  | x :: l, h => by
    have a := (sum_nn l fun y hy => h y (List.mem_cons_of_mem _ hy)).1
    have b := h x (List.mem_cons_self ..)
    rw [List.sum_cons]
    exact ⟨by omega, fun _ => by omega⟩
theorem PS0_pos {w : Wt} (g : Good w) : 0 < PS w 0 := by
  have a := sum_nn (w.1.map (mI 0)) fun x hx => by
    obtain ⟨m, hm, rfl⟩ := List.mem_map.mp hx
    have := g.ms m hm
    unfold mI
    rw [Int.pow_zero]
    omega
  have b := sum_nn (w.2.map (sI 0)) fun x hx => by
    obtain ⟨s, hs, rfl⟩ := List.mem_map.mp hx
    have := g.ss s hs
    unfold sI
    rw [Int.pow_succ, Int.pow_zero, Int.pow_succ, Int.pow_zero, Int.one_mul, Int.one_mul]
    exact Int.mul_pos (by omega) (by omega)
  have c : 0 < (w.1.map (mI 0)).sum + (w.2.map (sI 0)).sum := by
    rcases g.ne with h | h
    · have := a.2 (by simpa using h)
      omega
    · have := b.2 (by simpa using h)
      omega
  unfold PS
  have e : (((w.1.map (mI 0)).sum * (((0 : Nat) : Int) + 1) + (w.2.map (sI 0)).sum : Int) : Rat) / (((((0 : Nat) : Int) + 1 : Int)) : Rat) = (((w.1.map (mI 0)).sum + (w.2.map (sI 0)).sum : Int) : Rat) := by
    push_cast
    grind
  rw [e]
  exact Rat.intCast_pos.mpr c
theorem pow_lt12 {x : Int} {k : Nat} (h : x.natAbs ≤ 20) (hk : k ≤ 13) : (x ^ k).natAbs < 2 ^ 66 := up_lt (pow_lt (b := 5) (by omega) k) (by omega)
theorem sq_PS12 {w : Wt} (g : Good w) {k : Nat} (hk : k ≤ 12) : Sq 90 (PS w k) := by
  have sm : ((k : Int) + 1).natAbs < 2 ^ 4 := by
    have : (2 : Nat) ^ 4 = 16 := by decide
    omega
  have a : (w.1.map (mI k)).sum.natAbs < 2 ^ 80 := by
    refine up_lt (sum_lt (a := 72) _ fun x hx => ?_) (by rw [List.length_map]; have := g.lm; omega)
    obtain ⟨m, hm, rfl⟩ := List.mem_map.mp hx
    have q := g.ms m hm
    exact mul_lt (a := 5) (by omega) (pow_lt12 q.1 (by omega)) (by decide)
  have b : (w.2.map (sI k)).sum.natAbs < 2 ^ 80 := by
    refine up_lt (sum_lt (a := 72) _ fun x hx => ?_) (by rw [List.length_map]; have := g.ls; omega)
    obtain ⟨s, hs, rfl⟩ := List.mem_map.mp hx
    have q := g.ss s hs
    exact mul_lt (a := 5) (by omega) (sub_lt (n := 67) (pow_lt12 q.2.1 (by omega)) (pow_lt12 q.1 (by omega)) (by decide) (by decide)) (by decide)
  refine sq_div (by omega) ?_ (up_lt sm (by decide))
  exact add_lt (mul_lt a sm (Nat.le_refl _)) b (by decide) (by decide)
def tW (w : Wt) (x : Int × Rat) : Rat := x.2 * PS w x.1.toNat
def WS (w : Wt) (l : List Rat) : Rat := ((numL 0 l).map (tW w)).sum
structure MsOk (ms : Ms) : Prop where
  each : ∀ m ∈ ms, m.1.natAbs ≤ 20 ∧ 1 ≤ m.2 ∧ m.2 ≤ 20
  asc : (ms.map (·.1)).Pairwise (· < ·)
  len : ms.length ≤ 6
theorem zeroW : MsOk [(0, 1)] := ⟨by decide, by decide, by decide⟩
def SsTo : Int → Ss → Int → Prop
  | a, [], z => a ≤ z
  | a, s :: l, z => a ≤ s.1 ∧ s.1 < s.2.1 ∧ 1 ≤ s.2.2 ∧ s.2.2 ≤ 20 ∧ SsTo s.2.1 l z
theorem SsTo.le : ∀ {l : Ss} {a z : Int}, SsTo a l z → a ≤ z
  | [], _, _, h => h
  | s :: l, a, z, h => by
    have := SsTo.le h.2.2.2.2
    have := h.1
    have := h.2.1
    omega
theorem SsTo.up : ∀ {l : Ss} {a z z' : Int}, SsTo a l z → z ≤ z' → SsTo a l z'
  | [], _, _, _, h, k => Int.le_trans h k
  | s :: l, _, _, _, ⟨a, b, c, d, e⟩, k => ⟨a, b, c, d, SsTo.up e k⟩
theorem SsTo.low : ∀ {l : Ss} {a a' z : Int}, SsTo a l z → a' ≤ a → SsTo a' l z
  | [], _, _, _, h, k => Int.le_trans k h
  | s :: l, _, _, _, ⟨a, b, c, d, e⟩, k => ⟨Int.le_trans k a, b, c, d, e⟩
theorem SsTo.app {lo hi h : Int} : ∀ {l : Ss} {a y : Int}, SsTo a l y → y ≤ lo → lo < hi → 1 ≤ h → h ≤ 20 → SsTo a (l ++ [(lo, hi, h)]) hi
  | [], a, y, h1, h2, h3, h4, h5 => ⟨Int.le_trans h1 h2, h3, h4, h5, Int.le_refl _⟩
  | s :: l, a, y, ⟨a1, b, c, d, e⟩, h2, h3, h4, h5 => ⟨a1, b, c, d, SsTo.app e h2 h3 h4 h5⟩
theorem SsTo.each : ∀ {l : Ss} {a z : Int}, SsTo a l z → -20 ≤ a → z ≤ 20 → ∀ s ∈ l, s.1.natAbs ≤ 20 ∧ s.2.1.natAbs ≤ 20 ∧ 1 ≤ s.2.2 ∧ s.2.2 ≤ 20 ∧ s.1 < s.2.1
  | [], _, _, _, _, _, _, h => by cases h
  | t :: l, a, z, ⟨a1, b, c, d, e⟩, ha, hz, s, h => by
    have := SsTo.le e
    rcases List.mem_cons.mp h with rfl | h
    · omega
    · exact SsTo.each e (by omega) hz s h
structure WOk (w : Wt) : Prop where
  ms : MsOk w.1
  ss : SsTo (-20) w.2 20
  ls : w.2.length ≤ 4
  ne : w.1 ≠ [] ∨ w.2 ≠ []
theorem WOk.good {w : Wt} (h : WOk w) : Good w := ⟨h.ms.each, h.ss.each (by decide) (by decide), h.ms.len, h.ls, h.ne⟩
theorem map_id3 (l : Ss) : l.map (fun x => (x.1, x.2.1, x.2.2)) = l := by
  conv => rhs; rw [← List.map_id l]
  rfl
theorem map_id2 (l : Ms) : l.map (fun x => (x.1, x.2)) = l := by
  conv => rhs; rw [← List.map_id l]
  rfl
/-! ### polynomials by their roots -/
def rp (p : Rat) : Rat → List Rat → List Rat
  | z, [] => [z]
  | z, x :: l => (z - x * p) :: rp p x l
theorem rp_len (p : Rat) : ∀ (l : List Rat) (z : Rat), (rp p z l).length = l.length + 1
  | [], _ => rfl
  | x :: l, z => by
    unfold rp
    rw [List.length_cons, rp_len p l, List.length_cons]
theorem zip_rp (p : Rat) : ∀ (l : List Rat) (z : Rat), ((z :: l).zip (l.map (· * p) ++ [0])).map (fun x => x.1 - x.2) = rp p z l
  | [], z => by
    show [z - 0] = [z]
    congr 1
    grind
  | x :: l, z => by
    rw [List.map_cons, List.cons_append, List.zip_cons_cons, List.map_cons, zip_rp p l x]
    rfl
theorem with_root_ok {p : Rat} {l : List Rat} {a b : Nat} (hp : Sq b p) (hl : Sqs a l) (ha : 0 < a) (h : 2 * a + b < 8990) (hn : l.length < 40000) : with_root (l.map fr) (fr p) = .ok ((rp p 0 l).map fr) := by
  unfold with_root
  rw [bd_guard (by simp only [List.length_map, List.length_cons, List.length_nil]; omega), bd_guard (by rw [List.length_map]; omega), mapMm_map, mapMm_eq (g := fun x => fr (x * p)) _ fun x hx => ?_]
  · have e1 : [((0, 1) : Int × Int)] ++ l.map fr = (0 :: l).map fr := by rw [List.map_cons, fr_zero]; rfl
    have e2 : l.map (fun x => fr (x * p)) ++ [((0, 1) : Int × Int)] = (l.map (· * p) ++ [0]).map fr := by
      rw [List.map_append, List.map_map, List.map_cons, fr_zero]
      rfl
    show (guardM _).bd _ = _
    rw [bd_guard (by simp only [List.length_map, List.length_cons, List.length_nil]; omega), e1, e2, List.zip_map, bd_guard (by simp only [List.length_map, List.length_zip, List.length_cons, List.length_append, List.length_nil]; omega), mapMm_map, mapMm_eq (g := fun x => fr (x.1 - x.2)) _ fun x hx => ?_]
    · show Mm.ok _ = _
      rw [← zip_rp, List.map_map]
      rfl
    · have m := List.of_mem_zip (a := x.1) (b := x.2) hx
      have h1 : Sq a x.1 := by
        rcases List.mem_cons.mp m.1 with e | e
        · rw [e]; exact zero_sqn ha
        · exact hl _ e
      have h2 : Sq (a + b) x.2 := by
        rcases List.mem_append.mp m.2 with e | e
        · obtain ⟨y, hy, e⟩ := List.mem_map.mp e
          rw [← e]
          exact sq_mul (hl y hy) hp (Nat.le_refl _)
        · rw [List.mem_singleton.mp e]
          exact zero_sqn (by omega)
      show (minus (fr x.1) (fr x.2)).bd _ = _
      rw [minus_ok h1 h2 (by omega)]
      rfl
  · show (times (fr x) (fr p)).bd _ = _
    rw [times_ok (hl x hx) hp (by omega)]
    rfl
def WRf (ps l : List Rat) : List Rat := ps.foldl (fun l p => rp p 0 l) l
def WR (ps : List Rat) : List Rat := WRf ps [1]
theorem WRf_len : ∀ (ps l : List Rat), (WRf ps l).length = l.length + ps.length
  | [], l => rfl
  | p :: ps, l => by
    show (WRf ps (rp p 0 l)).length = _
    rw [WRf_len ps, rp_len, List.length_cons]
    omega
theorem WR_len (ps : List Rat) : (WR ps).length = ps.length + 1 := by
  unfold WR
  rw [WRf_len]
  show 1 + _ = _
  omega
/-! ### what has a bottom in common -/
def Dv (D : Int) (a : Nat) (q : Rat) : Prop := ∃ n : Int, q = (n : Rat) / (D : Rat) ∧ n.natAbs < 2 ^ a
theorem Dv.sq {D : Int} {a : Nat} {q : Rat} (h : Dv D a q) (h0 : 0 < D) (hD : D.natAbs < 2 ^ a) : Sq a q := by
  obtain ⟨n, rfl, hn⟩ := h
  exact sq_div h0 hn hD
theorem Dv.up {D : Int} {a b : Nat} {q : Rat} (h : Dv D a q) (k : a ≤ b) : Dv D b q := by
  obtain ⟨n, e, hn⟩ := h
  exact ⟨n, e, up_lt hn k⟩
theorem dv_zero {D : Int} {a : Nat} : Dv D a 0 := ⟨0, by push_cast; grind, by have := two_le a; show 0 < 2 ^ a; omega⟩
theorem dv_step {D B : Int} {a e : Nat} {z x p : Rat} (hD : 0 < D) (hB : 0 < B) (hz : Dv D a z) (hx : Dv D a x) (hp : Dv B e p) (hBe : B.natAbs < 2 ^ e) : Dv (D * B) (a + e + 1) (z - x * p) := by
  obtain ⟨n, rfl, hn⟩ := hz
  obtain ⟨m, rfl, hm⟩ := hx
  obtain ⟨s, rfl, hs⟩ := hp
  refine ⟨n * B - m * s, ?_, sub_lt (mul_lt hn hBe (Nat.le_refl _)) (mul_lt hm hs (Nat.le_refl _)) (by omega) (by omega)⟩
  have k1 := intc_ne (n := D) (by omega)
  have k2 := intc_ne (n := B) (by omega)
  push_cast
  grind
theorem dv_last {D B : Int} {a e : Nat} {z : Rat} (hD : 0 < D) (hB : 0 < B) (hz : Dv D a z) (hBe : B.natAbs < 2 ^ e) : Dv (D * B) (a + e + 1) z := by
  obtain ⟨n, rfl, hn⟩ := hz
  refine ⟨n * B, ?_, mul_lt hn hBe (by omega)⟩
  have k1 := intc_ne (n := D) (by omega)
  have k2 := intc_ne (n := B) (by omega)
  push_cast
  grind
theorem rp_dv {D B : Int} {a e : Nat} {p : Rat} (hD : 0 < D) (hB : 0 < B) (hp : Dv B e p) (hBe : B.natAbs < 2 ^ e) : ∀ (l : List Rat) (z : Rat), Dv D a z → (∀ x ∈ l, Dv D a x) → ∀ q ∈ rp p z l, Dv (D * B) (a + e + 1) q
  | [], z, hz, _, q, hq => by
    rw [List.mem_singleton.mp hq]
    exact dv_last hD hB hz hBe
  | x :: l, z, hz, hl, q, hq => by
    have hx := hl x (List.mem_cons_self ..)
    rcases List.mem_cons.mp hq with rfl | hq
    · exact dv_step hD hB hz hx hp hBe
    · exact rp_dv hD hB hp hBe l x hx (fun y hy => hl y (List.mem_cons_of_mem _ hy)) q hq
theorem wrf_dv {B : Int} {e : Nat} (hB : 0 < B) (hBe : B.natAbs < 2 ^ e) : ∀ (ps l : List Rat) (D : Int) (a : Nat), 0 < D → (∀ p ∈ ps, Dv B e p) → (∀ x ∈ l, Dv D a x) → ∀ q ∈ WRf ps l, Dv (D * B ^ ps.length) (a + (e + 1) * ps.length) q
  | [], l, D, a, _, _, hl, q, hq => by
    rw [List.length_nil, Int.pow_zero, Int.mul_one]
    exact hl q hq
  | p :: ps, l, D, a, hD, hp, hl, q, hq => by
    have h := wrf_dv hB hBe ps (rp p 0 l) (D * B) (a + e + 1) (Int.mul_pos hD hB) (fun q hq => hp q (List.mem_cons_of_mem _ hq)) (rp_dv hD hB (hp p (List.mem_cons_self ..)) hBe l 0 dv_zero hl) q hq
    have e1 : D * B * B ^ ps.length = D * B ^ (p :: ps).length := by rw [List.length_cons, Int.pow_succ, Int.mul_assoc, Int.mul_comm B]
    have e2 : a + e + 1 + (e + 1) * ps.length = a + (e + 1) * (p :: ps).length := by rw [List.length_cons, Nat.mul_succ]; omega
    rw [e1, e2] at h
    exact h
structure PB (B : Int) (e : Nat) (ps : List Rat) : Prop where
  b0 : 0 < B
  be : B.natAbs < 2 ^ e
  each : ∀ p ∈ ps, Dv B e p
theorem PB.sq {B : Int} {e : Nat} {ps : List Rat} (h : PB B e ps) : Sqs e ps := fun p hp => (h.each p hp).sq h.b0 h.be
theorem PB.sub {B : Int} {e : Nat} {ps qs : List Rat} (h : PB B e ps) (k : ∀ p ∈ qs, p ∈ ps) : PB B e qs := ⟨h.b0, h.be, fun p hp => h.each p (k p hp)⟩
theorem pow_ltZ {B : Int} {e : Nat} (h : B.natAbs < 2 ^ e) : ∀ n : Nat, (B ^ n).natAbs < 2 ^ (e * n + 1)
  | 0 => by simp
  | n + 1 => by
    rw [Int.pow_succ]
    exact mul_lt (pow_ltZ h n) h (by rw [Nat.mul_succ]; omega)
theorem pow_posZ {B : Int} (h : 0 < B) : ∀ n : Nat, 0 < B ^ n
  | 0 => by rw [Int.pow_zero]; decide
  | n + 1 => by
    rw [Int.pow_succ]
    exact Int.mul_pos (pow_posZ h n) h
theorem dv_one {a : Nat} : Dv 1 (a + 1) 1 := ⟨1, by decide +kernel, by have := two_le a; show 1 < 2 ^ (a + 1); rw [Nat.pow_succ]; omega⟩
theorem WR_sq {B : Int} {e : Nat} {ps : List Rat} (h : PB B e ps) : Sqs (1 + (e + 1) * ps.length) (WR ps) := fun q hq => by
  have d := wrf_dv h.b0 h.be ps [1] 1 1 (by decide) h.each (fun x hx => by rw [List.mem_singleton.mp hx]; exact dv_one) q hq
  rw [Int.one_mul] at d
  refine d.sq (pow_posZ h.b0 _) (up_lt (pow_ltZ h.be _) ?_)
  rw [Nat.succ_mul]
  omega
theorem with_roots_fold {B : Int} {e : Nat} {f : List (Int × Int) → (Int × Int) → Mm (List (Int × Int))} (hf : ∀ s x, f s x = (with_root s x).bd fun b => .ok b) (hB : 0 < B) (hBe : B.natAbs < 2 ^ e) : ∀ (ps l : List Rat) (D : Int) (a : Nat), 0 < D → D.natAbs < 2 ^ a → 0 < a → (∀ p ∈ ps, Dv B e p) → (∀ x ∈ l, Dv D a x) → 2 * (a + (e + 1) * ps.length) + e < 8990 → l.length + ps.length < 1000 → foldM f (l.map fr) (ps.map fr) = .ok ((WRf ps l).map fr)
  | [], l, D, a, _, _, _, _, _, _, _ => rfl
  | p :: ps, l, D, a, hD, hDa, ha, hp, hl, hN, hn => by
    have e2 : (e + 1) * (p :: ps).length = (e + 1) * ps.length + (e + 1) := by rw [List.length_cons, Nat.mul_succ]
    rw [List.length_cons] at hn
    have sp := (hp p (List.mem_cons_self ..)).sq hB hBe
    have sl : Sqs a l := fun x hx => (hl x hx).sq hD hDa
    rw [List.map_cons]
    unfold foldM
    rw [hf, with_root_ok sp sl ha (by omega) (by omega), bdo, bdo]
    exact with_roots_fold hf hB hBe ps (rp p 0 l) (D * B) (a + e + 1) (Int.mul_pos hD hB) (mul_lt hDa hBe (by omega)) (by omega) (fun q hq => hp q (List.mem_cons_of_mem _ hq)) (rp_dv hD hB (hp p (List.mem_cons_self ..)) hBe l 0 dv_zero hl) (by omega) (by rw [rp_len]; omega)
theorem with_roots_ok {B : Int} {e : Nat} {ps : List Rat} (h : PB B e ps) (hl : ps.length ≤ 12) (he : e ≤ 100) : with_roots (ps.map fr) = .ok ((WR ps).map fr) := by
  unfold with_roots
  have m : (e + 1) * ps.length ≤ 101 * 12 := Nat.mul_le_mul (by omega) hl
  have := with_roots_fold (f := fun (b10 : (List (Int × Int))) (x11 : (Int × Int)) => (with_root (b10) (x11)).bd fun b31 => Mm.ok b31) (fun _ _ => rfl) h.b0 h.be ps [1] 1 1 (by decide) (by decide) (by decide) h.each (fun x hx => by rw [List.mem_singleton.mp hx]; exact dv_one) (by omega) (by show 1 + ps.length < 1000; omega)
  rw [List.map_cons, fr_one] at this
  rw [show ([((1, 1) : Int × Int)] : List (Int × Int)) = (1, 1) :: List.map fr [] from rfl, this]
  rfl
/-! ### values -/
theorem ev_rp (p x : Rat) : ∀ (l : List Rat) (z : Rat), ev (rp p z l) x = z + ev l x * (x - p)
  | [], z => by
    show z + x * 0 = z + 0 * (x - p)
    grind
  | c :: l, z => by
    show (z - c * p) + x * ev (rp p c l) x = z + (c + x * ev l x) * (x - p)
    rw [ev_rp p x l c]
    grind
def prd (x : Rat) (ps : List Rat) : Rat := ps.foldl (fun a p => a * (x - p)) 1
theorem prd_from (x : Rat) : ∀ (ps : List Rat) (a : Rat), ps.foldl (fun a p => a * (x - p)) a = a * prd x ps
  | [], a => by
    show a = a * 1
    grind
  | p :: ps, a => by
    unfold prd
    rw [List.foldl_cons, List.foldl_cons, prd_from x ps, prd_from x ps]
    grind
theorem prd_cons (x p : Rat) (ps : List Rat) : prd x (p :: ps) = (x - p) * prd x ps := by
  unfold prd
  rw [List.foldl_cons, prd_from]
  show 1 * (x - p) * prd x ps = _
  unfold prd
  grind
theorem ev_WRf (x : Rat) : ∀ (ps l : List Rat), ev (WRf ps l) x = ev l x * prd x ps
  | [], l => by
    show ev l x = ev l x * 1
    grind
  | p :: ps, l => by
    show ev (WRf ps (rp p 0 l)) x = _
    rw [ev_WRf x ps, ev_rp, prd_cons]
    grind
theorem ev_WR (x : Rat) (ps : List Rat) : ev (WR ps) x = prd x ps := by
  unfold WR
  rw [ev_WRf]
  show (1 + x * 0) * _ = _
  grind
theorem prd_ne {x : Rat} : ∀ {ps : List Rat}, x ∉ ps → prd x ps ≠ 0
  | [], _ => by
    show (1 : Rat) ≠ 0
    decide
  | p :: ps, h => by
    have h1 : x ≠ p := fun e => h (by rw [e]; exact List.mem_cons_self ..)
    have h2 := prd_ne (x := x) (ps := ps) fun e => h (List.mem_cons_of_mem _ e)
    rw [prd_cons]
    intro z
    rcases Rat.mul_eq_zero.mp z with q | q
    · exact h1 (by grind)
    · exact h2 q
theorem prd_zero {x : Rat} : ∀ {ps : List Rat}, x ∈ ps → prd x ps = 0
  | [], h => by cases h
  | p :: ps, h => by
    rw [prd_cons]
    rcases List.mem_cons.mp h with rfl | h
    · grind
    · rw [prd_zero h]
      grind
theorem prd_sq {B : Int} {e : Nat} {x : Rat} : ∀ {ps : List Rat}, 0 < B → B.natAbs < 2 ^ e → Dv B e x → (∀ p ∈ ps, Dv B e p) → Sq (1 + (e + 1) * ps.length) (prd x ps)
  | [], _, _, _, _ => one_sq
  | p :: ps, hB, hBe, hx, hp => by
    have ih := prd_sq (ps := ps) hB hBe hx fun q hq => hp q (List.mem_cons_of_mem _ hq)
    have d : Sq (e + 1) (x - p) := by
      obtain ⟨n, rfl, hn⟩ := hx
      obtain ⟨m, rfl, hm⟩ := hp p (List.mem_cons_self ..)
      have k := intc_ne (n := B) (by omega)
      have e1 : (n : Rat) / (B : Rat) - (m : Rat) / (B : Rat) = ((n - m : Int) : Rat) / (B : Rat) := by
        push_cast
        grind
      rw [e1]
      exact sq_div hB (sub_lt hn hm (by omega) (by omega)) (up_lt hBe (by omega))
    rw [prd_cons]
    exact sq_mul d ih (by rw [List.length_cons, Nat.mul_succ]; omega)
/-! ### the polynomial that is 1 at one place and 0 at the others -/
def oth (ps : List Rat) (i : Nat) : List Rat := ps.take i ++ ps.drop (i + 1)
def LB (ps : List Rat) (i : Nat) : List Rat := (WR (oth ps i)).map fun c => c / prd (ps.getD i 0) (oth ps i)
theorem oth_len {ps : List Rat} {i : Nat} (h : i < ps.length) : (oth ps i).length = ps.length - 1 := by
  unfold oth
  rw [List.length_append, List.length_take, List.length_drop]
  omega
theorem oth_mem {ps : List Rat} {i : Nat} {q : Rat} (h : q ∈ oth ps i) : q ∈ ps := by
  rcases List.mem_append.mp h with h | h
  · exact List.mem_of_mem_take h
  · exact List.mem_of_mem_drop h
theorem oth_not {ps : List Rat} {i : Nat} (ha : ps.Pairwise (· < ·)) (h : i < ps.length) : ps[i] ∉ oth ps i := by
  have e : ps = ps.take i ++ ps[i] :: ps.drop (i + 1) := by
    rw [← List.drop_eq_getElem_cons h, List.take_append_drop]
  have k : ∀ (l r : List Rat) (x : Rat), (l ++ x :: r).Pairwise (· < ·) → x ∉ l ++ r := fun l r x hp hx => by
    obtain ⟨_, h2, h3⟩ := List.pairwise_append.mp hp
    rcases List.mem_append.mp hx with q | q
    · exact absurd (h3 x q x (List.mem_cons_self ..)) (by grind)
    · exact absurd ((List.pairwise_cons.mp h2).1 x q) (by grind)
  exact k _ _ _ (by rw [← e]; exact ha)
theorem getD_at {ps : List Rat} {i : Nat} (h : i < ps.length) : ps.getD i 0 = ps[i] := by
  rw [List.getD_eq_getElem?_getD, List.getElem?_eq_getElem h]
  rfl
theorem cut_lo {α : Type} (l : List α) (n : Nat) (h : n ≤ l.length) : cutL l none (some (n : Int)) = l.take n := by
  unfold cutL
  rw [HT.sIx_none, HT.sIx_nat, Nat.min_eq_left h]
  rfl
theorem cut_hi {α : Type} (l : List α) (n : Nat) (h : n ≤ l.length) : cutL l (some (n : Int)) none = l.drop n := by
  unfold cutL
  rw [HT.sIx_none, HT.sIx_nat, Nat.min_eq_left h]
  exact List.take_of_length_le (by rw [List.length_drop]; omega)
theorem LB_len {ps : List Rat} {i : Nat} (h : i < ps.length) : (LB ps i).length = ps.length := by
  unfold LB
  rw [List.length_map, WR_len, oth_len h]
  omega
theorem LB_sq {B : Int} {e : Nat} {ps : List Rat} (hp : PB B e ps) (ha : ps.Pairwise (· < ·)) {i : Nat} (h : i < ps.length) : Sqs (2 * (1 + (e + 1) * (ps.length - 1))) (LB ps i) := fun q hq => by
  have ho : PB B e (oth ps i) := hp.sub fun p hp => oth_mem hp
  obtain ⟨c, hc, rfl⟩ := List.mem_map.mp hq
  have s1 := WR_sq ho c hc
  have s2 := prd_sq (ps := oth ps i) hp.b0 hp.be (hp.each ps[i] (List.getElem_mem h)) ho.each
  rw [oth_len h] at s1 s2
  have ne := prd_ne (oth_not ha h)
  rw [getD_at h]
  exact sq_divB s1 s2 ne (by omega)
theorem only_at_ok {B : Int} {e : Nat} {ps : List Rat} (hp : PB B e ps) (ha : ps.Pairwise (· < ·)) (hl : ps.length ≤ 6) (he : e ≤ 30) {i : Nat} (h : i < ps.length) : only_at (ps.map fr) (i : Int) = .ok ((LB ps i).map fr) := by
  have ho : PB B e (oth ps i) := hp.sub fun p hp => oth_mem hp
  have ol := oth_len h
  have sW := WR_sq ho
  have m : (e + 1) * (oth ps i).length ≤ 31 * 5 := Nat.mul_le_mul (by omega) (by omega)
  have s2 := prd_sq (ps := oth ps i) hp.b0 hp.be (hp.each ps[i] (List.getElem_mem h)) ho.each
  have wl := WR_len (oth ps i)
  have mm : (e + (1 + (e + 1) * (oth ps i).length) + 1) * (WR (oth ps i)).length ≤ 200 * 6 := Nat.mul_le_mul (by omega) (by omega)
  unfold only_at
  rw [cut_lo _ _ (by rw [List.length_map]; omega), show ((i : Int) + 1) = ((i + 1 : Nat) : Int) by omega, cut_hi _ _ (by rw [List.length_map]; omega), guard_ok (by rw [List.length_take, List.length_drop, List.length_map]; omega), bdo]
  have e1 : (ps.map fr).take i ++ (ps.map fr).drop (i + 1) = (oth ps i).map fr := by
    unfold oth
    rw [List.map_append, List.map_take, List.map_drop]
  rw [e1, with_roots_ok ho (by omega) (by omega), bdo, getM_map (List.getElem?_eq_getElem h), bdo, worth_ok (hp.sq _ (List.getElem_mem h)) _ sW (by omega), bdo, ev_WR, guard_ok (by rw [List.length_map]; omega), bdo, mapMm_map, mapMm_eq (g := fun c => fr (c / prd ps[i] (oth ps i))) _ fun c hc => ?_, bdo]
  · congr 1
    unfold LB
    rw [List.map_map, getD_at h]
    rfl
  · rw [over_ok (sW c hc) s2 (prd_ne (oth_not ha h)) (by omega), bdo]
/-! ### weights -/
def Wts (w : Wt) (ps : List Rat) : List Rat := (List.range ps.length).map fun i => WS w (LB ps i)
theorem Wts_len (w : Wt) (ps : List Rat) : (Wts w ps).length = ps.length := by
  unfold Wts
  rw [List.length_map, List.length_range]
theorem WS_sq {w : Wt} (g : Good w) {B : Int} {e : Nat} {ps : List Rat} (hp : PB B e ps) (ha : ps.Pairwise (· < ·)) (hl : ps.length ≤ 6) (he : e ≤ 30) {i : Nat} (h : i < ps.length) : Sq (1 + (2 * (1 + (e + 1) * (ps.length - 1)) + 91) * ps.length) (WS w (LB ps i)) := by
  have sL := LB_sq hp ha h
  have k : ∀ l : List (Int × Rat), (∀ x ∈ l, Sq (2 * (1 + (e + 1) * (ps.length - 1)) + 90) (tW w x)) → Sq (1 + (2 * (1 + (e + 1) * (ps.length - 1)) + 91) * l.length) (l.map (tW w)).sum := fun l => by
    induction l with
    | nil => intro _; exact zero_sqn (by omega)
    | cons x l ih =>
      intro hx
      rw [List.map_cons, List.sum_cons]
      exact sq_add (hx x (List.mem_cons_self ..)) (ih fun y hy => hx y (List.mem_cons_of_mem _ hy)) (by rw [List.length_cons, Nat.mul_succ]; omega)
  have q := k (numL 0 (LB ps i)) fun x hx => by
    obtain ⟨a, b, m⟩ := numL_mem _ 0 x hx
    have := LB_len h
    exact sq_mul (sL _ m) (sq_PS12 g (by omega)) (Nat.le_refl _)
  rw [numL_len, LB_len h] at q
  exact q
/-! ### indexes -/
theorem filMm_eq {α γ : Type} {f : α → Mm (Option γ)} (g : α → Option γ) : ∀ l : List α, (∀ x ∈ l, f x = .ok (g x)) → filMm f l = .ok (l.filterMap g)
  | [], _ => rfl
  | x :: l, h => by
    unfold filMm
    rw [h x (List.mem_cons_self ..), bdo, filMm_eq g l fun y hy => h y (List.mem_cons_of_mem _ hy), bdo, List.filterMap_cons]
    cases g x <;> rfl
theorem filMm_map {α β γ : Type} {f : β → Mm (Option γ)} {g : α → β} : ∀ l : List α, filMm f (l.map g) = filMm (fun x => f (g x)) l
  | [] => rfl
  | x :: l => by
    rw [List.map_cons]
    unfold filMm
    rw [filMm_map l]
theorem numL_fst {α : Type} : ∀ (l : List α) (k : Int), (numL k l).map (·.1) = rangeL k l.length
  | [], k => rfl
  | x :: l, k => by
    unfold numL
    rw [List.map_cons, numL_fst l, List.length_cons, rangeL_succ]
theorem numL_at {α : Type} {l : List α} {y : Int × α} (h : y ∈ numL 0 l) : l[y.1.toNat]? = some y.2 ∧ 0 ≤ y.1 := by
  have k : ∀ (l pre : List α) (y : Int × α), y ∈ numL (pre.length : Int) l → (pre ++ l)[y.1.toNat]? = some y.2 := fun l => by
    induction l with
    | nil => intro pre y h; cases h
    | cons x l ih =>
      intro pre y h
      rcases List.mem_cons.mp h with rfl | h
      · show (pre ++ x :: l)[((pre.length : Int)).toNat]? = some x
        rw [Int.toNat_natCast]
        simp
      · have := ih (pre ++ [x]) y (by rw [List.length_append, List.length_singleton]; exact h)
        simpa using this
  exact ⟨by simpa using k l [] y h, (numL_mem l 0 y h).1⟩
def idx (P : Rat → Bool) (l : List Rat) : List Int := (numL 0 l).filterMap fun y => if P y.2 then some y.1 else none
theorem idx_prog {f : Int × (Int × Int) → Mm (Option Int)} (P : Rat → Bool) (l : List Rat) (hf : ∀ (i : Int) (q : Rat), q ∈ l → f (i, fr q) = .ok (if P q then some i else none)) : filMm f (enumL (l.map fr)) = .ok (idx P l) := by
  rw [enumL_eq, numL_map, filMm_map]
  exact filMm_eq _ _ fun y hy => hf y.1 y.2 (numL_mem l 0 y hy).2.2
theorem idx_law {f : Int → Mm (Option Int)} (P : Rat → Bool) (l : List Rat) (hf : ∀ (i : Nat) (q : Rat), l[i]? = some q → f (i : Int) = .ok (if P q then some (i : Int) else none)) : filMm f (rangeL 0 l.length) = .ok (idx P l) := by
  rw [← numL_fst, filMm_map]
  refine filMm_eq _ _ fun y hy => ?_
  obtain ⟨h1, h2⟩ := numL_at hy
  have e : y.1 = ((y.1.toNat : Nat) : Int) := by omega
  have := hf y.1.toNat y.2 h1
  rw [← e] at this
  exact this
theorem fr_isz (q : Rat) : decide (fr q = ((0, 1) : Int × Int)) = decide (q = 0) := by
  rw [← fr_zero]
  exact decide_eq_decide.mpr ⟨fr_inj, fun h => by rw [h]⟩
theorem fr_isp (q : Rat) : decide ((fr q).1 > (0 : Int)) = decide (0 < q) := decide_eq_decide.mpr (by
  constructor
  · intro h
    have v := fr_val q
    have p : (0 : Rat) < ((fr q).1 : Rat) := Rat.intCast_pos.mpr h
    have d : (0 : Rat) < ((fr q).2 : Rat) := Rat.intCast_pos.mpr (den_posI q)
    rw [← v, Rat.div_def]
    exact Rat.mul_pos p (Rat.inv_pos.mpr d)
  · exact fun h => num_pos' h)
structure Pls (n : Nat) (pl : List (Int × Int)) (ps : List Rat) : Prop where
  rx : All2 (fun p x => Rx 7 x p) ps pl
  asc : ps.Pairwise (· < ·)
  len : ps.length ≤ n
  pos : 0 < ps.length
  pb : ∃ B, PB B 6 ps
theorem int_pls {n : Nat} (zs : List Int) (h : zs.Pairwise (· < ·)) (hb : ∀ z ∈ zs, z.natAbs ≤ 40) (hl : zs.length ≤ n) (h0 : 0 < zs.length) : Pls n (zs.map fun z => (z, (1 : Int))) (zs.map fun z => ((z : Int) : Rat)) := by
  have e6 : (2 : Nat) ^ 6 = 64 := by decide
  have e7 : (2 : Nat) ^ 7 = 128 := by decide
  refine ⟨?_, ?_, by rw [List.length_map]; exact hl, by rw [List.length_map]; exact h0, 1, by decide, by decide, fun p hp => ?_⟩
  · clear h hl h0
    induction zs with
    | nil => exact .nil
    | cons z zs ih => exact .cons (rx_int (by have := hb z (List.mem_cons_self ..); omega) (by decide)) (ih fun y hy => hb y (List.mem_cons_of_mem _ hy))
  · rw [List.pairwise_map]
    exact h.imp fun k => Rat.intCast_lt_intCast.mpr k
  · obtain ⟨z, hz, rfl⟩ := List.mem_map.mp hp
    refine ⟨z, ?_, by have := hb z hz; omega⟩
    push_cast
    grind
theorem mass_places (w : Wt) : w.1.map (fun x => (x.1, (1 : Int))) = (w.1.map (·.1)).map fun z => (z, (1 : Int)) := by rw [List.map_map]; rfl
/-! ### interpolation -/
theorem ev_map_mul (c x : Rat) : ∀ l : List Rat, ev (l.map (c * ·)) x = c * ev l x
  | [] => by
    show (0 : Rat) = c * 0
    grind
  | y :: l => by
    show c * y + x * ev (l.map (c * ·)) x = c * (y + x * ev l x)
    rw [ev_map_mul c x l]
    grind
theorem ev_zipWith (x : Rat) : ∀ l r : List Rat, l.length = r.length → ev (List.zipWith (· + ·) l r) x = ev l x + ev r x
  | [], [], _ => by
    show (0 : Rat) = 0 + 0
    grind
  | [], _ :: _, h => by cases h
  | _ :: _, [], h => by cases h
  | a :: l, b :: r, h => by
    show a + b + x * ev (List.zipWith (· + ·) l r) x = a + x * ev l x + (b + x * ev r x)
    rw [ev_zipWith x l r (by simpa using h)]
    grind
theorem ev_LB (ps : List Rat) (i : Nat) (x : Rat) : ev (LB ps i) x = prd x (oth ps i) / prd (ps.getD i 0) (oth ps i) := by
  unfold LB
  rw [map_divI, ev_map_mul, ev_WR]
  grind
where map_divI {c : Rat} {l : List Rat} : l.map (fun y => y / c) = l.map ((1 / c) * ·) := List.map_congr_left fun y _ => by grind
theorem mem_oth {ps : List Rat} {i j : Nat} (hj : j < ps.length) (h : j ≠ i) : ps[j] ∈ oth ps i := by
  unfold oth
  by_cases q : j < i
  · refine List.mem_append_left _ (List.mem_iff_getElem.mpr ⟨j, by rw [List.length_take]; omega, ?_⟩)
    rw [List.getElem_take]
  · refine List.mem_append_right _ (List.mem_iff_getElem.mpr ⟨j - (i + 1), by rw [List.length_drop]; omega, ?_⟩)
    rw [List.getElem_drop]
    congr 1
    omega
theorem ev_LB_self {ps : List Rat} (ha : ps.Pairwise (· < ·)) {i : Nat} (h : i < ps.length) : ev (LB ps i) ps[i] = 1 := by
  rw [ev_LB, getD_at h]
  have := prd_ne (oth_not ha h)
  grind
theorem ev_LB_other {ps : List Rat} {i j : Nat} (hj : j < ps.length) (h : j ≠ i) : ev (LB ps i) ps[j] = 0 := by
  rw [ev_LB, prd_zero (mem_oth hj h)]
  grind
/-- the polynomial through worths, as far as some indexes are done -/
def IPk (ps ys : List Rat) : Nat → List Rat
  | 0 => List.replicate ps.length 0
  | k + 1 => List.zipWith (· + ·) (IPk ps ys k) ((LB ps k).map (ys.getD k 0 * ·))
def IP (ps ys : List Rat) : List Rat := IPk ps ys ps.length
theorem IPk_len (ps ys : List Rat) : ∀ k, k ≤ ps.length → (IPk ps ys k).length = ps.length
  | 0, _ => by
    unfold IPk
    rw [List.length_replicate]
  | k + 1, h => by
    unfold IPk
    rw [List.length_zipWith, IPk_len ps ys k (by omega), List.length_map, LB_len (by omega), Nat.min_self]
theorem IP_len (ps ys : List Rat) : (IP ps ys).length = ps.length := IPk_len ps ys _ (Nat.le_refl _)
theorem ev_repl (x : Rat) : ∀ n : Nat, ev (List.replicate n 0) x = 0
  | 0 => rfl
  | n + 1 => by
    rw [List.replicate_succ]
    show 0 + x * ev (List.replicate n 0) x = 0
    rw [ev_repl x n]
    grind
theorem ev_IPk {ps ys : List Rat} (ha : ps.Pairwise (· < ·)) {j : Nat} (hj : j < ps.length) : ∀ k, k ≤ ps.length → ev (IPk ps ys k) ps[j] = if j < k then ys.getD j 0 else 0
  | 0, _ => by
    rw [if_neg (by omega)]
    exact ev_repl _ _
  | k + 1, h => by
    have ih := ev_IPk ha hj k (ys := ys) (by omega)
    show ev (List.zipWith (· + ·) (IPk ps ys k) ((LB ps k).map (ys.getD k 0 * ·))) ps[j] = _
    rw [ev_zipWith _ _ _ (by rw [IPk_len ps ys k (by omega), List.length_map, LB_len (by omega)]), ih, ev_map_mul]
    by_cases q : j = k
    · subst q
      rw [ev_LB_self ha hj, if_neg (by omega), if_pos (by omega)]
      grind
    · rw [ev_LB_other hj q]
      by_cases z : j < k
      · rw [if_pos z, if_pos (by omega)]
        grind
      · rw [if_neg z, if_neg (by omega)]
        grind
theorem ev_IP {ps ys : List Rat} (ha : ps.Pairwise (· < ·)) {j : Nat} (hj : j < ps.length) : ev (IP ps ys) ps[j] = ys.getD j 0 := by
  unfold IP
  rw [ev_IPk ha hj _ (Nat.le_refl _), if_pos hj]
theorem ev_IPf {ps : List Rat} (ha : ps.Pairwise (· < ·)) (f : Rat → Rat) : ∀ p ∈ ps, ev (IP ps (ps.map f)) p = f p := fun p hp => by
  obtain ⟨i, hi, rfl⟩ := List.getElem_of_mem hp
  rw [ev_IP ha hi, List.getD_eq_getElem?_getD, List.getElem?_map, List.getElem?_eq_getElem hi]
  rfl
/-! ### a polynomial is told by as many worths as it has coefficients -/
def sx (p : Rat) : List Rat → List Rat
  | [] => []
  | c :: l => ev (c :: l) p :: sx p l
theorem sx_len (p : Rat) : ∀ l, (sx p l).length = l.length
  | [] => rfl
  | c :: l => by
    unfold sx
    rw [List.length_cons, sx_len p l, List.length_cons]
theorem rp_sx (p : Rat) : ∀ (l : List Rat) (z c : Rat), z = c + ev l p * p → rp p z (sx p l) = c :: l
  | [], z, c, h => by
    show [z] = [c]
    congr 1
    rw [h]
    show c + 0 * p = c
    grind
  | d :: l, z, c, h => by
    show (z - ev (d :: l) p * p) :: rp p (ev (d :: l) p) (sx p l) = c :: d :: l
    rw [rp_sx p l (ev (d :: l) p) d (by show d + p * ev l p = d + ev l p * p; grind), h]
    congr 1
    grind
theorem factor {p : Rat} {c : Rat} {l : List Rat} (h : ev (c :: l) p = 0) : rp p 0 (sx p l) = c :: l := rp_sx p l 0 c (by
  have : c + p * ev l p = 0 := h
  grind)
theorem rp_zero (p : Rat) : ∀ (l : List Rat) (z : Rat), z = 0 → (∀ c ∈ l, c = 0) → ∀ c ∈ rp p z l, c = 0
  | [], z, hz, _, c, hc => by rw [List.mem_singleton.mp hc, hz]
  | x :: l, z, hz, h, c, hc => by
    have hx := h x (List.mem_cons_self ..)
    rcases List.mem_cons.mp hc with rfl | hc
    · rw [hz, hx]
      grind
    · exact rp_zero p l x hx (fun y hy => h y (List.mem_cons_of_mem _ hy)) c hc
theorem zero_of_roots : ∀ (ps l : List Rat), ps.Pairwise (· ≠ ·) → l.length ≤ ps.length → (∀ p ∈ ps, ev l p = 0) → ∀ c ∈ l, c = 0
  | _, [], _, _, _, c, hc => by cases hc
  | [], _ :: _, _, h, _, c, hc => by simp at h
  | p :: ps, c :: l, hn, hl, hr, d, hd => by
    obtain ⟨n1, n2⟩ := List.pairwise_cons.mp hn
    have f := factor (hr p (List.mem_cons_self ..))
    rw [List.length_cons, List.length_cons] at hl
    have z := zero_of_roots ps (sx p l) n2 (by rw [sx_len]; omega) fun q hq => by
      have e := hr q (List.mem_cons_of_mem _ hq)
      rw [← f, ev_rp] at e
      have : q - p ≠ 0 := fun z => n1 q hq (by grind)
      grind
    rw [← f] at hd
    exact rp_zero p _ 0 rfl z d hd
theorem asc_ne {ps : List Rat} (h : ps.Pairwise (· < ·)) : ps.Pairwise (· ≠ ·) := h.imp fun {a b} k e => by rw [e] at k; exact absurd k (by grind)
/-- two polynomials of so many coefficients that agree at as many places are one -/
theorem same_poly {ps : List Rat} (hn : ps.Pairwise (· ≠ ·)) {l r : List Rat} (h1 : l.length = r.length) (h2 : l.length ≤ ps.length) (h : ∀ p ∈ ps, ev l p = ev r p) : l = r := by
  have z := zero_of_roots ps (List.zipWith (· + ·) l (r.map ((-1) * ·))) hn (by rw [List.length_zipWith, List.length_map]; omega) fun p hp => by
    rw [ev_zipWith _ _ _ (by rw [List.length_map]; exact h1), ev_map_mul, h p hp]
    grind
  have k : ∀ l r : List Rat, l.length = r.length → (∀ c ∈ List.zipWith (· + ·) l (r.map ((-1) * ·)), c = 0) → l = r := fun l => by
    induction l with
    | nil =>
      intro r h _
      cases r with
      | nil => rfl
      | cons => cases h
    | cons a l ih =>
      intro r h k
      cases r with
      | nil => cases h
      | cons b r =>
        have e := k (a + -1 * b) (by simp)
        rw [ih r (by simpa using h) fun c hc => k c (by simp only [List.map_cons, List.zipWith_cons_cons]; exact List.mem_cons_of_mem _ hc)]
        congr 1
        grind
  exact k l r h1 z
/-! ### without the zeros at the end -/
def tl (l : List Rat) : Nat → Nat
  | 0 => 0
  | n + 1 => if l.getD n 0 = 0 then tl l n else n + 1
def trim (l : List Rat) : List Rat := l.take (tl l l.length)
theorem tl_le (l : List Rat) : ∀ n, tl l n ≤ n
  | 0 => Nat.le_refl _
  | n + 1 => by
    unfold tl
    split
    · have := tl_le l n
      omega
    · exact Nat.le_refl _
theorem tl_zero {l : List Rat} : ∀ {n k : Nat}, tl l n ≤ k → k < n → l.getD k 0 = 0
  | 0, k, _, h => absurd h (by omega)
  | n + 1, k, h, h2 => by
    unfold tl at h
    split at h
    · rename_i z
      by_cases q : k = n
      · rw [q]; exact z
      · exact tl_zero h (by omega)
    · omega
theorem tl_min {l : List Rat} {m : Nat} : ∀ {n : Nat}, (∀ k, m ≤ k → k < n → l.getD k 0 = 0) → tl l n ≤ m
  | 0, _ => Nat.zero_le _
  | n + 1, h => by
    unfold tl
    split
    · exact tl_min fun k h1 h2 => h k h1 (by omega)
    · rename_i z
      apply Classical.byContradiction
      intro q
      exact z (h n (by omega) (by omega))
theorem getD_beyond {l : List Rat} {k : Nat} (h : l.length ≤ k) : l.getD k 0 = 0 := by
  rw [List.getD_eq_getElem?_getD, List.getElem?_eq_none h]
  rfl
theorem ev_take (x : Rat) : ∀ (l : List Rat) (m : Nat), (∀ k, m ≤ k → l.getD k 0 = 0) → ev (l.take m) x = ev l x
  | [], m, _ => by rw [List.take_nil]
  | c :: l, 0, h => by
    have z : ∀ r : List Rat, (∀ k, r.getD k 0 = 0) → ev r x = 0 := fun r => by
      induction r with
      | nil => intro _; rfl
      | cons d r ih =>
        intro hr
        have h0 : d = 0 := hr 0
        show d + x * ev r x = 0
        rw [ih fun k => hr (k + 1), h0]
        grind
    rw [z (c :: l) fun k => h k (Nat.zero_le _)]
    rfl
  | c :: l, m + 1, h => by
    rw [List.take_succ_cons]
    show c + x * ev (l.take m) x = c + x * ev l x
    rw [ev_take x l m fun k hk => h (k + 1) (by omega)]
theorem trim_ev (l : List Rat) (x : Rat) : ev (trim l) x = ev l x := ev_take x l _ fun k hk => by
  by_cases q : k < l.length
  · exact tl_zero hk q
  · exact getD_beyond (by omega)
theorem trim_len (l : List Rat) : (trim l).length = tl l l.length := by
  unfold trim
  rw [List.length_take]
  have := tl_le l l.length
  omega
theorem trim_le {l : List Rat} {m : Nat} : (trim l).length ≤ m ↔ ∀ k, m ≤ k → l.getD k 0 = 0 := by
  rw [trim_len]
  constructor
  · intro h k hk
    by_cases q : k < l.length
    · exact tl_zero (by omega) q
    · exact getD_beyond (by omega)
  · exact fun h => tl_min fun k h1 _ => h k h1
theorem tl_congr {l r : List Rat} : ∀ {n : Nat}, (∀ k, k < n → l.getD k 0 = r.getD k 0) → tl l n = tl r n
  | 0, _ => rfl
  | n + 1, h => by
    unfold tl
    rw [h n (by omega), tl_congr fun k hk => h k (by omega)]
theorem getD_app_lt {l r : List Rat} {k : Nat} (h : k < l.length) : (l ++ r).getD k 0 = l.getD k 0 := by
  rw [List.getD_eq_getElem?_getD, List.getD_eq_getElem?_getD, List.getElem?_append_left h]
theorem getD_snoc (l : List Rat) (x : Rat) : (l ++ [x]).getD l.length 0 = x := by
  rw [List.getD_eq_getElem?_getD]
  simp
theorem trim_snoc0 (l : List Rat) : trim (l ++ [0]) = trim l := by
  unfold trim
  rw [List.length_append, List.length_singleton]
  have e : tl (l ++ [0]) (l.length + 1) = tl l l.length := by
    show (if (l ++ [0]).getD l.length 0 = 0 then tl (l ++ [0]) l.length else l.length + 1) = _
    rw [getD_snoc, if_pos rfl]
    exact tl_congr fun k hk => getD_app_lt hk
  rw [e, List.take_append_of_le_length (tl_le _ _)]
theorem trim_snoc {l : List Rat} {x : Rat} (h : x ≠ 0) : trim (l ++ [x]) = l ++ [x] := by
  unfold trim
  rw [List.length_append, List.length_singleton]
  have e : tl (l ++ [x]) (l.length + 1) = l.length + 1 := by
    show (if (l ++ [x]).getD l.length 0 = 0 then tl (l ++ [x]) l.length else l.length + 1) = _
    rw [getD_snoc, if_neg h]
  rw [e]
  exact List.take_of_length_le (by simp)
theorem trim_mem {l : List Rat} {c : Rat} (h : c ∈ trim l) : c ∈ l := List.mem_of_mem_take h
theorem trimmed_ok {l : List Rat} (hl : l.length ≤ 1000) : trimmed (l.map fr) = .ok ((trim l).map fr) := by
  have k : ∀ (N n : Nat), n < N → n ≤ l.length → foldW (fun (b5 : Int) => (cond (decide (b5 > (0 : Int))) ((getM (l.map fr) (b5 - (1 : Int))).bd fun i27 => Mm.ok (decide (i27 = ((0, 1) : (Int × Int))))) (Mm.ok false)).bd fun b23 => Mm.ok b23) (fun (b6 : Int) => Mm.ok (b6 - (1 : Int))) N (n : Int) = .ok ((tl l n : Nat) : Int) := fun N => by
    induction N with
    | zero => intro n h; omega
    | succ N ih =>
      intro n hn hl'
      unfold foldW
      cases n with
      | zero =>
        rw [cF (c := decide (((0 : Nat) : Int) > 0)) (by decide), bdo, bdo]
        rfl
      | succ n =>
        have at_ : l[n]? = some (l.getD n 0) := by
          rw [List.getD_eq_getElem?_getD, List.getElem?_eq_getElem (by omega)]
          rfl
        have e : ((n + 1 : Nat) : Int) - 1 = (n : Int) := by omega
        rw [cT (c := decide (((n + 1 : Nat) : Int) > 0)) (decide_eq_true (by omega)), e, getM_map at_, bdo, bdo, bdo, show decide (fr (l.getD n 0) = ((0, 1) : Int × Int)) = decide (l.getD n 0 = 0) from by
          rw [← fr_zero]
          exact decide_eq_decide.mpr ⟨fr_inj, fun h => by rw [h]⟩]
        by_cases z : l.getD n 0 = 0
        · have e2 : tl l (n + 1) = tl l n := if_pos z
          rw [decide_eq_true z, e2, ← ih n (by omega) (by omega)]
          rfl
        · have e2 : tl l (n + 1) = n + 1 := if_neg z
          rw [decide_eq_false z, e2]
  have q := k (l.length + 1) l.length (by omega) (Nat.le_refl _)
  unfold trimmed
  rw [List.length_map, Int.toNat_natCast]
  refine (congrArg (fun m => Mm.bd m _) q).trans ?_
  rw [bdo, cut_lo _ _ (by rw [List.length_map]; exact tl_le _ _)]
  unfold trim
  rw [List.map_take]
theorem trim_pop : ∀ (N : Nat) (l : List Rat), l.length < N → foldW (fun (b137 : (List (Int × Int))) => (cond (!(decide (b137 = []))) ((getM b137 (-(1 : Int))).bd fun i170 => Mm.ok (decide (i170 = ((0 : Int), (1 : Int))))) (Mm.ok false)).bd fun b166 => Mm.ok b166) (fun (b138 : (List (Int × Int))) => (popN b138).bd fun _ => Mm.ok (List.dropLast b138)) N (l.map fr) = .ok ((trim l).map fr) := fun N => by
  induction N with
  | zero => intro l h; omega
  | succ N ih =>
    intro l hl
    unfold foldW
    rcases List.eq_nil_or_concat l with q | ⟨r, x, q⟩
    · subst q
      rfl
    · rw [List.concat_eq_append] at q
      subst q
      rw [List.length_append, List.length_singleton] at hl
      have e1 : (r ++ [x]).map fr = r.map fr ++ [fr x] := by rw [List.map_append]; rfl
      rw [e1, cT (c := !decide (r.map fr ++ [fr x] = [])) (by rw [decide_eq_false (by simp)]; rfl), getM_last, bdo, bdo, bdo, show decide (fr x = ((0 : Int), (1 : Int))) = decide (x = 0) from by
        rw [← fr_zero]
        exact decide_eq_decide.mpr ⟨fr_inj, fun h => by rw [h]⟩]
      by_cases z : x = 0
      · have p1 : popN (r.map fr ++ [fr x]) = .ok (r.map fr ++ [fr x]).dropLast := by
          cases h : r.map fr with
          | nil => rfl
          | cons a b => rfl
        rw [decide_eq_true z, z, trim_snoc0, ← ih r (by omega)]
        rw [z] at p1
        show ((popN _).bd fun _ => Mm.ok _).bd _ = _
        rw [p1, bdo, bdo]
        congr 1
        simp
      · rw [decide_eq_false z, trim_snoc z, e1]
/-! ### fitting a degree -/
def Fit (ps ys : List Rat) (m : Nat) : Prop := ∃ r : List Rat, r.length ≤ m ∧ ∀ j, j < ps.length → ev r (ps.getD j 0) = ys.getD j 0
theorem ev_pad (x : Rat) (n : Nat) : ∀ l : List Rat, ev (l ++ List.replicate n 0) x = ev l x
  | [] => ev_repl x n
  | c :: l => by
    show c + x * ev (l ++ List.replicate n 0) x = c + x * ev l x
    rw [ev_pad x n l]
theorem ev_IPg {ps ys : List Rat} (ha : ps.Pairwise (· < ·)) {j : Nat} (hj : j < ps.length) : ev (IP ps ys) (ps.getD j 0) = ys.getD j 0 := by
  rw [getD_at hj]
  exact ev_IP ha hj
theorem fit_iff {ps ys : List Rat} {m : Nat} (ha : ps.Pairwise (· < ·)) : (trim (IP ps ys)).length ≤ m ↔ Fit ps ys m := by
  constructor
  · exact fun h => ⟨trim (IP ps ys), h, fun j hj => by rw [trim_ev, ev_IPg ha hj]⟩
  · rintro ⟨r, hr, h⟩
    have il := IP_len ps ys
    by_cases q : ps.length ≤ m
    · have := tl_le (IP ps ys) (IP ps ys).length
      rw [trim_len]
      omega
    · have e : IP ps ys = r ++ List.replicate (ps.length - r.length) 0 := same_poly (asc_ne ha) (by rw [List.length_append, List.length_replicate]; omega) (by omega) fun p hp => by
        obtain ⟨i, hi, rfl⟩ := List.getElem_of_mem hp
        rw [ev_IP ha hi, ev_pad, ← h i hi, getD_at hi]
      rw [trim_le]
      intro k hk
      rw [e, List.getD_eq_getElem?_getD]
      by_cases z : r.length ≤ k
      · rw [List.getElem?_append_right z]
        by_cases y : k - r.length < ps.length - r.length
        · rw [List.getElem?_replicate, if_pos y]
          rfl
        · rw [List.getElem?_eq_none (by rw [List.length_replicate]; omega)]
          rfl
      · omega
theorem pad_len (l : List Rat) {n : Nat} (h : l.length ≤ n) : (l ++ List.replicate (n - l.length) 0).length = n := by
  rw [List.length_append, List.length_replicate]
  omega
/-- two short polynomials that agree at enough places tell the same everywhere -/
theorem same_ev {ps l r : List Rat} {m : Nat} (hn : ps.Pairwise (· ≠ ·)) (hm : m ≤ ps.length) (h1 : l.length ≤ m) (h2 : r.length ≤ m) (h : ∀ p ∈ ps, ev l p = ev r p) (x : Rat) : ev l x = ev r x := by
  have := same_poly hn (l := l ++ List.replicate (m - l.length) 0) (r := r ++ List.replicate (m - r.length) 0) (by rw [pad_len l h1, pad_len r h2]) (by rw [pad_len l h1]; exact hm) fun p hp => by rw [ev_pad, ev_pad, h p hp]
  rw [← ev_pad x (m - l.length) l, this, ev_pad]
theorem take_asc {ps : List Rat} (h : ps.Pairwise (· < ·)) (m : Nat) : (ps.take m).Pairwise (· < ·) := h.sublist (List.take_sublist ..)
theorem getD_take {l : List Rat} {m j : Nat} (h : j < m) : (l.take m).getD j 0 = l.getD j 0 := by
  rw [List.getD_eq_getElem?_getD, List.getD_eq_getElem?_getD, List.getElem?_take_of_lt h]
/-- a polynomial by the first places goes through all just where one fits -/
theorem fit_first {ps ys : List Rat} {m : Nat} (ha : ps.Pairwise (· < ·)) : (∀ j, j < ps.length → ev (IP (ps.take m) (ys.take m)) (ps.getD j 0) = ys.getD j 0) ↔ Fit ps ys m := by
  have il := IP_len (ps.take m) (ys.take m)
  rw [List.length_take] at il
  have at_ : ∀ j, j < m → j < ps.length → ev (IP (ps.take m) (ys.take m)) (ps.getD j 0) = ys.getD j 0 := fun j h1 h2 => by
    have := ev_IPg (ys := ys.take m) (take_asc ha m) (j := j) (by rw [List.length_take]; omega)
    rw [getD_take h1, getD_take h1] at this
    exact this
  constructor
  · exact fun h => ⟨IP (ps.take m) (ys.take m), by omega, h⟩
  · rintro ⟨r, hr, h⟩ j hj
    by_cases q : ps.length ≤ m
    · exact at_ j (by omega) hj
    · rw [← h j hj]
      refine same_ev (ps := ps.take m) (m := m) (asc_ne (take_asc ha m)) (by rw [List.length_take]; omega) (by omega) hr (fun p hp => ?_) _
      obtain ⟨i, hi, rfl⟩ := List.getElem_of_mem hp
      rw [List.length_take] at hi
      rw [List.getElem_take]
      have e := getD_at (ps := ps) (i := i) (by omega)
      rw [← e, at_ i (by omega) (by omega), h i (by omega)]
/-! ### the polynomial through readings, as the program tells it -/
theorem LB_sq6 {B : Int} {e : Nat} {ps : List Rat} (hp : PB B e ps) (ha : ps.Pairwise (· < ·)) (hl : ps.length ≤ 6) (he : e ≤ 10) {i : Nat} (h : i < ps.length) : Sqs 112 (LB ps i) := by
  have m : (e + 1) * (ps.length - 1) ≤ 11 * 5 := Nat.mul_le_mul (by omega) (by omega)
  exact (LB_sq hp ha h).up (by omega)
theorem zw_sq {a b : Nat} : ∀ l r : List Rat, Sqs a l → Sqs b r → Sqs (a + b + 1) (List.zipWith (· + ·) l r)
  | [], _, _, _ => fun q hq => by cases hq
  | _ :: _, [], _, _ => fun q hq => by cases hq
  | x :: l, y :: r, h1, h2 => fun q hq => by
    rw [List.zipWith_cons_cons] at hq
    rcases List.mem_cons.mp hq with rfl | hq
    · exact sq_add (h1 x (List.mem_cons_self ..)) (h2 y (List.mem_cons_self ..)) (by omega)
    · exact zw_sq l r (fun z hz => h1 z (List.mem_cons_of_mem _ hz)) (fun z hz => h2 z (List.mem_cons_of_mem _ hz)) q hq
theorem getD_sq {ys : List Rat} {c : Nat} (hy : Sqs c ys) (h0 : 0 < c) (k : Nat) : Sq c (ys.getD k 0) := by
  by_cases q : k < ys.length
  · rw [getD_at q]
    exact hy _ (List.getElem_mem q)
  · rw [getD_beyond (by omega)]
    exact zero_sqn h0
theorem IPk_sq {B : Int} {e c : Nat} {ps ys : List Rat} (hp : PB B e ps) (ha : ps.Pairwise (· < ·)) (hl : ps.length ≤ 6) (he : e ≤ 10) (hy : Sqs c ys) (h0 : 0 < c) : ∀ k, k ≤ ps.length → Sqs (1 + (c + 113) * k) (IPk ps ys k)
  | 0, _ => fun q hq => by
    rw [List.eq_of_mem_replicate hq]
    exact zero_sqn (by omega)
  | k + 1, h => by
    have a := IPk_sq hp ha hl he hy h0 k (by omega)
    have b : Sqs (c + 112) ((LB ps k).map (ys.getD k 0 * ·)) := fun q hq => by
      obtain ⟨z, hz, rfl⟩ := List.mem_map.mp hq
      exact sq_mul (getD_sq hy h0 k) (LB_sq6 hp ha hl he (by omega) z hz) (Nat.le_refl _)
    exact (zw_sq _ _ a b).up (by rw [Nat.mul_succ]; omega)
theorem IP_sq {B : Int} {e c : Nat} {ps ys : List Rat} (hp : PB B e ps) (ha : ps.Pairwise (· < ·)) (hl : ps.length ≤ 6) (he : e ≤ 10) (hy : Sqs c ys) (h0 : 0 < c) : Sqs (1 + (c + 113) * 6) (IP ps ys) := by
  have m : (c + 113) * ps.length ≤ (c + 113) * 6 := Nat.mul_le_mul_left _ hl
  exact (IPk_sq hp ha hl he hy h0 _ (Nat.le_refl _)).up (by omega)
theorem zip_map_fr (l r : List Rat) : (l.map fr).zip (r.map fr) = (l.zip r).map fun x => (fr x.1, fr x.2) := by
  rw [List.zip_map]
  rfl
theorem zw_zip (l r : List Rat) : (l.zip r).map (fun x => x.1 + x.2) = List.zipWith (· + ·) l r := by
  rw [List.zip, List.map_zipWith]
theorem rep0 (n : Nat) (h : n ≤ 100000) : repM [((0, 1) : Int × Int)] (n : Int) = .ok ((List.replicate n (0 : Rat)).map fr) := by
  have k : ∀ n : Nat, (List.replicate n [((0, 1) : Int × Int)]).flatten = List.replicate n (0, 1) := fun n => by
    induction n with
    | zero => rfl
    | succ n ih =>
      rw [List.replicate_succ, List.flatten_cons, ih, List.replicate_succ]
      rfl
  unfold repM
  rw [if_pos ⟨by omega, by omega, by show 1 * _ ≤ _; omega⟩, Int.toNat_natCast, k, List.map_replicate, fr_zero]
theorem polynomial_through_ok {B : Int} {e c : Nat} {ps ys : List Rat} (hp : PB B e ps) (ha : ps.Pairwise (· < ·)) (hl : ps.length ≤ 6) (he : e ≤ 10) (hy : Sqs c ys) (h0 : 0 < c) (hc : c ≤ 1000) (hn : ys.length = ps.length) : polynomial_through (ps.map fr) (ys.map fr) = .ok ((trim (IP ps ys)).map fr) := by
  have loop : ∀ (r pre : List Rat), ys = pre ++ r → foldM (fun (b26 : (List (Int × Int))) (x27 : (Int × (Int × Int))) => (only_at (ps.map fr) (x27.1)).bd fun b58 => (guardM (b58.length ≤ 50000)).bd fun _ => (mapMm (fun (x71 : (Int × Int)) => (times (x27.2) (x71)).bd fun b90 => Mm.ok b90) b58).bd fun b70 => (guardM ((b26.zip b70).length ≤ 50000)).bd fun _ => (mapMm (fun (x108 : ((Int × Int) × (Int × Int))) => (plus (x108.1) (x108.2)).bd fun b133 => Mm.ok b133) (b26.zip b70)).bd fun b107 => Mm.ok b107) ((IPk ps ys pre.length).map fr) (numL (pre.length : Int) (r.map fr)) = .ok ((IPk ps ys (pre.length + r.length)).map fr) := fun r => by
    induction r with
    | nil => intro pre _; rfl
    | cons y r ih =>
      intro pre e1
      have lt : pre.length < ps.length := by rw [← hn, e1, List.length_append, List.length_cons]; omega
      have gy : ys.getD pre.length 0 = y := by
        rw [e1, List.getD_eq_getElem?_getD]
        simp
      have sy : Sq c y := hy y (by rw [e1]; simp)
      have sL := LB_sq6 hp ha hl he lt
      have ll := LB_len lt
      have il := IPk_len ps ys pre.length (by omega)
      have sI := IPk_sq hp ha hl he hy h0 pre.length (by omega)
      have m : (c + 113) * pre.length ≤ (c + 113) * 5 := Nat.mul_le_mul_left _ (by omega)
      rw [List.map_cons]
      unfold numL foldM
      have sz : ∀ x ∈ (IPk ps ys pre.length).zip ((LB ps pre.length).map (y * ·)), plus (fr x.1) (fr x.2) = .ok (fr (x.1 + x.2)) := fun x hx => by
        have q := List.of_mem_zip (a := x.1) (b := x.2) hx
        obtain ⟨z, hz, e2⟩ := List.mem_map.mp q.2
        exact plus_ok (sI _ q.1) (b := c + 112) (by rw [← e2]; exact sq_mul sy (sL z hz) (Nat.le_refl _)) (by omega)
      rw [only_at_ok hp ha hl (by omega) lt, bdo, guard_ok (by rw [List.length_map]; omega), bdo, mapMm_map, mapMm_eq (g := fun z => fr (y * z)) _ fun z hz => by rw [times_ok sy (sL z hz) (by omega), bdo], bdo]
      have e3 : (LB ps pre.length).map (fun z => fr (y * z)) = ((LB ps pre.length).map (y * ·)).map fr := by rw [List.map_map]; rfl
      rw [e3, zip_map_fr, guard_ok (by rw [List.length_map, List.length_zip]; omega), bdo, mapMm_map, mapMm_eq (g := fun x => fr (x.1 + x.2)) _ fun x hx => by rw [sz x hx, bdo], bdo, bdo]
      have e4 : ((IPk ps ys pre.length).zip ((LB ps pre.length).map (y * ·))).map (fun x => fr (x.1 + x.2)) = (IPk ps ys (pre.length + 1)).map fr := by
        have e5 : IPk ps ys (pre.length + 1) = List.zipWith (· + ·) (IPk ps ys pre.length) ((LB ps pre.length).map (ys.getD pre.length 0 * ·)) := rfl
        rw [e5, gy, ← zw_zip, List.map_map]
        rfl
      have := ih (pre ++ [y]) (by rw [e1]; simp)
      rw [List.length_append, List.length_singleton] at this
      have e6 : ((pre.length + 1 : Nat) : Int) = (pre.length : Int) + 1 := by omega
      rw [e6] at this
      rw [e4, List.length_cons, show pre.length + (r.length + 1) = pre.length + 1 + r.length by omega]
      exact this
  have L := loop ys [] rfl
  unfold polynomial_through
  rw [List.length_map, rep0 _ (by omega), bdo, enumL_eq]
  have s0 : IPk ps ys ([] : List Rat).length = List.replicate ps.length 0 := rfl
  rw [s0] at L
  refine (congrArg (fun m => Mm.bd m _) L).trans ?_
  rw [bdo, show ([] : List Rat).length + ys.length = ps.length by show 0 + _ = _; omega, show IPk ps ys ps.length = IP ps ys from rfl, trimmed_ok (by rw [IP_len]; omega), bdo]
theorem fits_ok {B : Int} {e c : Nat} {ps ys : List Rat} {d : Int} (hp : PB B e ps) (ha : ps.Pairwise (· < ·)) (hl : ps.length ≤ 6) (he : e ≤ 10) (hy : Sqs c ys) (h0 : 0 < c) (hc : c ≤ 1000) (hn : ys.length = ps.length) (hd : 0 ≤ d) : fits (ps.map fr) (ys.map fr) d = .ok (decide ((trim (IP ps ys)).length ≤ (d + 1).toNat)) := by
  unfold fits
  rw [polynomial_through_ok hp ha hl he hy h0 hc hn, bdo, List.length_map]
  congr 1
  exact decide_eq_decide.mpr (by omega)
theorem without_ok (l : List Rat) (i : Nat) (h : i < l.length) (hl : l.length ≤ 1000) : without (l.map fr) (i : Int) = .ok ((oth l i).map fr) := by
  unfold without
  rw [cut_lo _ _ (by rw [List.length_map]; omega), show ((i : Int) + 1) = ((i + 1 : Nat) : Int) by omega, cut_hi _ _ (by rw [List.length_map]; omega), guard_ok (by rw [List.length_take, List.length_drop, List.length_map]; omega), bdo]
  congr 1
  unfold oth
  rw [List.map_append, List.map_take, List.map_drop]
theorem oth_asc {ps : List Rat} (ha : ps.Pairwise (· < ·)) (i : Nat) : (oth ps i).Pairwise (· < ·) := by
  have s : (oth ps i).Sublist ps := by
    unfold oth
    conv => rhs; rw [← List.take_append_drop i ps]
    exact (List.Sublist.refl _).append (List.drop_sublist_drop_left _ (by omega))
  exact ha.sublist s
def alone (ps ys : List Rat) (m : Nat) (i : Nat) : Bool := decide ((trim (IP (oth ps i) (oth ys i))).length ≤ m)
def FA (ps ys : List Rat) (m : Nat) : List Int := (rangeL 0 ps.length).filterMap fun x => if alone ps ys m x.toNat then some x else none
theorem rng_nat {n : Nat} {x : Int} (h : x ∈ rangeL 0 n) : ∃ k : Nat, x = (k : Int) ∧ k < n := by
  obtain ⟨i, hi, rfl⟩ := List.mem_map.mp h
  have := List.mem_range.mp hi
  exact ⟨i, by omega, this⟩
theorem false_alone_ok {B : Int} {e c : Nat} {ps ys : List Rat} {d : Int} (hp : PB B e ps) (ha : ps.Pairwise (· < ·)) (hl : ps.length ≤ 6) (he : e ≤ 10) (hy : Sqs c ys) (h0 : 0 < c) (hc : c ≤ 1000) (hn : ys.length = ps.length) (hd : 0 ≤ d) : false_alone (ps.map fr) (ys.map fr) d = .ok (FA ps ys (d + 1).toNat) := by
  unfold false_alone
  rw [List.length_map, rangeM_ok (by omega), bdo, Int.toNat_natCast, guard_ok (by rw [rangeL_len]; omega), bdo, filMm_eq (fun x => if alone ps ys (d + 1).toNat x.toNat then some x else none) _ fun x hx => ?_, bdo]
  · rfl
  · obtain ⟨k, rfl, hk⟩ := rng_nat hx
    rw [without_ok ps k hk (by omega), bdo, without_ok ys k (by omega) (by omega), bdo, fits_ok (hp.sub fun p hp => oth_mem hp) (oth_asc ha k) (by rw [oth_len hk]; omega) he (fun q hq => hy q (oth_mem hq)) h0 hc (by rw [oth_len (by omega), oth_len hk]; omega) hd, bdo, Int.toNat_natCast]
    show cond (alone ps ys (d + 1).toNat k) _ _ = _
    cases alone ps ys (d + 1).toNat k <;> rfl
theorem readings_fold {f : Unit → Int × (Int × Int) → Mm Unit} (hf : ∀ s y, f s y = cond (decide (y.2.2 = (0 : Int))) (Mm.bad) (Mm.ok ())) : ∀ (l : List (Int × Int)) (k : Int), (∀ x ∈ l, x.2 ≠ 0) → foldM f () (numL k l) = .ok ()
  | [], k, _ => rfl
  | x :: l, k, hn => by
    unfold numL foldM
    rw [hf, cF (decide_eq_false (hn x (List.mem_cons_self ..))), bdo]
    exact readings_fold hf l (k + 1) fun y hy => hn y (List.mem_cons_of_mem _ hy)
theorem checked_readings_x {ys : List Rat} {yl : List (Int × Int)} {c : Nat} {n : Int} (hc : c < 9000) (h : All2 (fun p x => Rx c x p) ys yl) (hn : n = ys.length) (hl : ys.length ≤ 50000) : checked_readings yl n = .ok (ys.map fr) := by
  have l := h.len
  have nz := h.right (q := fun x => x.2 ≠ 0) fun _ _ r => r.nz
  unfold checked_readings
  rw [enumL_eq, readings_fold (fun _ _ => rfl) yl 0 nz, bdo, cF (c := !decide ((yl.length : Int) = n)) (by rw [decide_eq_true (by omega)]; rfl), guard_ok (by omega), bdo, h.map_eq (g := fr) fun x y _ r => by rw [lowest_x r hc, bdo], bdo]
structure FR (B : Int) (e c : Nat) (pl yl : List (Int × Int)) (ps ys : List Rat) : Prop where
  rp : All2 (fun p x => Rx 30 x p) ps pl
  ry : All2 (fun p x => Rx c x p) ys yl
  pb : PB B e ps
  asc : ps.Pairwise (· < ·)
  len : ps.length ≤ 6
  pos : 0 < ps.length
  eq : ys.length = ps.length
  e10 : e ≤ 10
  c0 : 0 < c
  c1 : c ≤ 180
theorem FR.sy {B : Int} {e c : Nat} {pl yl : List (Int × Int)} {ps ys : List Rat} (h : FR B e c pl yl ps ys) : Sqs c ys := h.ry.left fun _ _ r => r.sq
theorem false_ones_ok {B : Int} {e c : Nat} {pl yl : List (Int × Int)} {ps ys : List Rat} {d : Int} (h : FR B e c pl yl ps ys) (hd : 0 ≤ d) (hd4 : d ≤ 4) : false_ones pl yl d = .ok (FA ps ys (d + 1).toNat) := by
  have hl := h.len
  have e := h.eq
  unfold false_ones
  rw [checked_places_x (by decide) h.rp h.asc hl h.pos, bdo, List.length_map, checked_readings_x (by have := h.c1; omega) h.ry (by omega) (by omega), bdo, check_within_ok hd hd4, bdo, false_alone_ok h.pb h.asc hl h.e10 h.sy h.c0 (by have := h.c1; omega) e hd, bdo]
/-- the readings with that of an index as the others ask -/
def mend (ps ys : List Rat) (i : Nat) : List Rat := ys.take i ++ (ev (IP (oth ps i) (oth ys i)) (ps.getD i 0) :: ys.drop (i + 1))
def Rep (ps ys : List Rat) (m : Nat) : Option (List Rat) := if (trim (IP ps ys)).length ≤ m then some ys else match FA ps ys m with
  | [i] => some (mend ps ys i.toNat)
  | _ => none
theorem repaired_ok {B : Int} {e c : Nat} {pl yl : List (Int × Int)} {ps ys : List Rat} {d : Int} (h : FR B e c pl yl ps ys) (hd : 0 ≤ d) (hd4 : d ≤ 4) : repaired pl yl d = .ok ((Rep ps ys (d + 1).toNat).map (List.map fr)) := by
  have hl := h.len
  have e1 := h.eq
  have c1 := h.c1
  have e10 := h.e10
  unfold repaired
  rw [checked_places_x (by decide) h.rp h.asc hl h.pos, bdo, List.length_map, checked_readings_x (by omega) h.ry (by omega) (by omega), bdo, check_within_ok hd hd4, bdo, fits_ok h.pb h.asc hl e10 h.sy h.c0 (by omega) e1 hd, bdo]
  unfold Rep
  by_cases q : (trim (IP ps ys)).length ≤ (d + 1).toNat
  · rw [cT (decide_eq_true q), if_pos q]
    rfl
  · rw [cF (decide_eq_false q), if_neg q, false_alone_ok h.pb h.asc hl e10 h.sy h.c0 (by omega) e1 hd, bdo]
    have mem : ∀ x ∈ FA ps ys (d + 1).toNat, ∃ k : Nat, x = (k : Int) ∧ k < ps.length := fun x hx => by
      obtain ⟨y, hy, hz⟩ := List.mem_filterMap.mp hx
      split at hz
      · cases hz
        exact rng_nat hy
      · cases hz
    cases hF : FA ps ys (d + 1).toNat with
    | nil => rfl
    | cons x t =>
      cases t with
      | cons y t =>
        rw [cT (c := !decide (((x :: y :: t).length : Int) = 1)) (by rw [decide_eq_false (by simp only [List.length_cons]; omega)]; rfl)]
        rfl
      | nil =>
        obtain ⟨k, rfl, hk⟩ := mem x (by rw [hF]; simp)
        have so := h.sy
        have asc := oth_asc h.asc k
        have pbo : PB B e (oth ps k) := h.pb.sub fun p hp => oth_mem hp
        have syo : Sqs c (oth ys k) := fun q hq => so q (oth_mem hq)
        have ol := oth_len hk
        have ol2 := oth_len (ps := ys) (i := k) (by omega)
        have sI := IP_sq pbo asc (by omega) e10 syo h.c0
        have tlen := tl_le (IP (oth ps k) (oth ys k)) (IP (oth ps k) (oth ys k)).length
        rw [IP_len] at tlen
        have tl2 := trim_len (IP (oth ps k) (oth ys k))
        rw [IP_len] at tl2
        have mm : (e + (1 + (c + 113) * 6) + 1) * (trim (IP (oth ps k) (oth ys k))).length ≤ (e + (1 + (c + 113) * 6) + 1) * 5 := Nat.mul_le_mul_left _ (by omega)
        rw [cF (c := !decide ((([(k : Int)] : List Int).length : Int) = 1)) rfl, show getM [(k : Int)] (0 : Int) = .ok (k : Int) from rfl, bdo, without_ok ps k hk (by omega), bdo, without_ok ys k (by omega) (by omega), bdo, polynomial_through_ok pbo asc (by omega) e10 syo h.c0 (by omega) (by omega), bdo, getM_map (List.getElem?_eq_getElem hk), bdo]
        have st : Sqs (1 + (c + 113) * 6) (trim (IP (oth ps k) (oth ys k))) := fun q hq => sI q (trim_mem hq)
        rw [worth_ok (h.pb.sq _ (List.getElem_mem hk)) _ st (by omega), bdo, trim_ev, cut_lo _ _ (by rw [List.length_map]; omega), show ((k : Int) + 1) = ((k + 1 : Nat) : Int) by omega, cut_hi _ _ (by rw [List.length_map]; omega), guard_ok (by simp only [List.length_append, List.length_take, List.length_drop, List.length_map, List.length_cons, List.length_nil]; omega), bdo]
        show Mm.ok (some _) = Mm.ok (some ((mend ps ys ((k : Int)).toNat).map fr))
        rw [Int.toNat_natCast]
        unfold mend
        rw [getD_at hk, List.append_nil, List.map_append, List.map_cons, List.map_take, List.map_drop]
/-! ### the law's polynomial through readings -/
theorem appL {α γ : Type} {p : α → γ → Prop} {l l' : List α} {r r' : List γ} (h : All2 p l r) (h' : All2 p l' r') : All2 p (l ++ l') (r ++ r') := by
  induction h with
  | nil => exact h'
  | cons a _ ih => exact .cons a ih
theorem takeL {α γ : Type} {p : α → γ → Prop} {l : List α} {r : List γ} (h : All2 p l r) : ∀ n, All2 p (l.take n) (r.take n) := by
  induction h with
  | nil => intro n; rw [List.take_nil, List.take_nil]; exact .nil
  | cons a _ ih =>
    intro n
    cases n with
    | zero => exact .nil
    | succ n => exact .cons a (ih n)
theorem dropL {α γ : Type} {p : α → γ → Prop} {l : List α} {r : List γ} (h : All2 p l r) : ∀ n, All2 p (l.drop n) (r.drop n) := by
  induction h with
  | nil => intro n; rw [List.drop_nil, List.drop_nil]; exact .nil
  | cons a b ih =>
    intro n
    cases n with
    | zero => exact .cons a b
    | succ n => exact ih n
theorem cut_take {α : Type} (l : List α) (n : Nat) : cutL l none (some (n : Int)) = l.take n := by
  by_cases h : n ≤ l.length
  · exact cut_lo l n h
  · unfold cutL
    rw [HT.sIx_none, HT.sIx_nat, Nat.min_eq_right (by omega), List.take_of_length_le (l := l) (i := n) (by omega)]
    exact List.take_of_length_le (Nat.le_refl _)
theorem cut_drop {α : Type} (l : List α) (n : Nat) : cutL l (some (n : Int)) none = l.drop n := by
  by_cases h : n ≤ l.length
  · exact cut_hi l n h
  · unfold cutL
    rw [HT.sIx_none, HT.sIx_nat, Nat.min_eq_right (by omega), List.drop_eq_nil_of_le (as := l) (i := n) (by omega), List.drop_eq_nil_of_le (as := l) (i := l.length) (Nat.le_refl _), List.take_nil]
theorem hornerX {f : Int × Int → Int × Int → Mm (Int × Int)} {p : Rat} {b c : Nat} (hp : Sq b p) (N : Nat) (hf : ∀ y x, Rx c y x → ∀ q a, Sq a q → a + b + c + 1 ≤ N → f (fr q) y = .ok (fr (q * p + x))) : ∀ {l : List Rat} {r : List (Int × Int)}, All2 (fun q y => Rx c y q) l r → (b + c + 1) * l.length + 1 ≤ N → foldM f ((0, 1) : Int × Int) r.reverse = .ok (fr (ev l p)) := by
  intro l r h
  induction h with
  | nil =>
    intro _
    show Mm.ok _ = _
    rw [← fr_zero]
    rfl
  | cons a h ih =>
    rename_i x y l r
    intro hN
    have e : (b + c + 1) * (x :: l).length = (b + c + 1) * l.length + (b + c + 1) := by rw [List.length_cons, Nat.mul_succ]
    have hl : Sqs c l := h.left fun _ _ r => r.sq
    rw [List.reverse_cons, foldM_app, ih (by omega)]
    show (f _ y).bd _ = _
    rw [hf y x a _ _ (ev_sq hp l hl) (by omega)]
    show Mm.ok _ = _
    congr 2
    show _ = x + p * ev l p
    grind
theorem all_loop {α : Type} {f : Unit → α → Mm (Fl Bool Unit)} (P : α → Bool) : ∀ l : List α, (∀ x ∈ l, f () x = cond (!(P x)) (.ok (.ret false)) (.ok (.go ()))) → (foldL f () l).bd (fun o => o.el (fun _ => Mm.ok true) (fun r => Mm.ok r)) = .ok (l.all P)
  | [], _ => rfl
  | x :: l, h => by
    unfold foldL
    rw [h x (List.mem_cons_self ..), List.all_cons]
    cases hx : P x with
    | false => rfl
    | true =>
      rw [cF (c := !true) rfl, bdo]
      exact all_loop P l fun y hy => h y (List.mem_cons_of_mem _ hy)
/-! ### readings, set and found -/
theorem setL {α γ : Type} {p : α → γ → Prop} {l : List α} {r : List γ} {x : α} {y : γ} (h : All2 p l r) (hxy : p x y) : ∀ i : Nat, All2 p (l.set i x) (r.set i y) := by
  induction h with
  | nil => intro i; exact .nil
  | cons a b ih =>
    intro i
    cases i with
    | zero => exact .cons hxy b
    | succ i => exact .cons a (ih i)
theorem setM_ok {α : Type} {l : List α} {i : Int} (v : α) (h0 : 0 ≤ i) (h : i < l.length) : setM l i v = .ok (l.set i.toNat v) := by
  unfold setM ixN
  rw [if_pos h0, if_pos h]
theorem rx_list {c : Nat} {n : Int} {l : List (Int × Int)} {ps : List Rat} (h : All2 (fun p x => Rx c x p) ps l) : ∀ i : Nat, i < ps.length → All2 (fun p x => Rx c x p) (oth ps i) (l.take i ++ l.drop (i + 1)) := fun i _ => appL (takeL h i) (dropL h (i + 1))
theorem mend_set (ps ys : List Rat) {i : Nat} (h : i < ys.length) (v : Rat) : ys.take i ++ v :: ys.drop (i + 1) = ys.set i v := by
  rw [List.set_eq_take_append_cons_drop, if_pos h]
theorem FA_mem {ps ys : List Rat} {m : Nat} {x : Int} (h : x ∈ FA ps ys m) : ∃ k : Nat, x = (k : Int) ∧ k < ps.length ∧ alone ps ys m k = true := by
  obtain ⟨y, hy, hz⟩ := List.mem_filterMap.mp h
  obtain ⟨k, rfl, hk⟩ := rng_nat hy
  rw [Int.toNat_natCast] at hz
  split at hz
  · rename_i q
    cases hz
    exact ⟨k, rfl, hk, q⟩
  · cases hz
theorem mend_ev {ps ys : List Rat} {m i : Nat} (ha : ps.Pairwise (· < ·)) (hi : i < ps.length) (hn : m + 1 ≤ ps.length) (h : alone ps ys m i = true) (x : Rat) : ev (IP ((oth ps i).take m) ((oth ys i).take m)) x = ev (IP (oth ps i) (oth ys i)) x := by
  have ao := oth_asc ha i
  have ol := oth_len hi
  have f := of_decide_eq_true h
  have il := IP_len ((oth ps i).take m) ((oth ys i).take m)
  rw [List.length_take] at il
  rw [← trim_ev (IP (oth ps i) (oth ys i))]
  refine same_ev (ps := (oth ps i).take m) (m := m) (asc_ne (take_asc ao m)) (by rw [List.length_take]; omega) (by omega) f (fun p hp => ?_) x
  obtain ⟨j, hj, rfl⟩ := List.getElem_of_mem hp
  have hj' := hj
  rw [List.length_take] at hj'
  rw [trim_ev, ev_IP (take_asc ao m) hj, List.getElem_take, ev_IP ao (by omega), getD_take (by omega)]
theorem fold_append {R : Type} {f : (List Int × R) → Int → Mm (List Int × R)} {P : Nat → Bool} {r : R} {n : Nat} (hf : ∀ (acc : List Int) (k : Nat), k < n → acc.length ≤ k → f (acc, r) (k : Int) = .ok (acc ++ (if P k then [(k : Int)] else []), r)) : ∀ (m k : Nat) (acc : List Int), k + m = n → acc.length ≤ k → foldM f (acc, r) (rangeL (k : Int) m) = .ok (acc ++ (rangeL (k : Int) m).filterMap (fun x => if P x.toNat then some x else none), r)
  | 0, k, acc, _, _ => by
    show Mm.ok _ = Mm.ok (acc ++ [], r)
    rw [List.append_nil]
  | m + 1, k, acc, h, ha => by
    have e4 : (k : Int) + 1 = ((k + 1 : Nat) : Int) := by omega
    rw [rangeL_succ]
    unfold foldM
    rw [hf acc k (by omega) ha, bdo, e4, fold_append hf m (k + 1) _ (by omega) (by
      rw [List.length_append]
      have : (if P k then [(k : Int)] else []).length ≤ 1 := by split <;> simp
      omega), List.filterMap_cons, Int.toNat_natCast, List.append_assoc]
    cases P k <;> rfl
/-! ### the law's own fractions, its other family -/
theorem fdiv_flip {g a : Int} (h : 0 < g) (d : g ∣ a) : (0 : Int) - a.fdiv g = a.fdiv (-g) := by
  rw [fdiv_neg_dvd h d, Int.fdiv_eq_ediv_of_nonneg _ (by omega), Int.neg_ediv_of_dvd d]
  omega
theorem law_low_any {a b : Int} {n : Nat} (h : b ≠ 0) (hb : b.natAbs < 2 ^ n) (hn : n < 9000) : law_low a b = .ok (fr ((a : Rat) / (b : Rat))) := by
  unfold law_low
  by_cases z : a = 0
  · subst z
    have e : ((0 : Int) : Rat) / (b : Rat) = 0 := by
      push_cast
      grind
    rw [cT (decide_eq_true rfl), e, fr_zero]
  · have g1 := Nat.lt_of_le_of_lt (gcd_leZ (a := a) h) hb
    have g0 := gcd_posZ (a := a) h
    rw [cF (decide_eq_false z), euclid _ _ _ (abs_nn a) (abs_nn b) (by omega), abs_na, abs_na, bdo]
    by_cases q : b > 0
    · rw [cT (decide_eq_true q), div_any (by omega) g1 hn, bdo, div_any (by omega) g1 hn, bdo, bdo, fr_pos q]
    · rw [cF (decide_eq_false q), div_any (by omega) g1 hn, bdo, div_any (by omega) g1 hn, bdo, bdo, fr_neg (by omega), fdiv_flip g0 (Int.ofNat_dvd_left.mpr (Nat.gcd_dvd_left _ _)), fdiv_flip g0 (Int.ofNat_dvd_left.mpr (Nat.gcd_dvd_right _ _))]
theorem law_low_x {x : Int × Int} {q : Rat} {n : Nat} (h : Rx n x q) (hn : n < 9000) : law_low x.1 x.2 = .ok (fr q) := by rw [law_low_any h.nz h.b hn, h.v]
theorem law_add_x {x y : Int × Int} {p q : Rat} {a b : Nat} (hx : Rx a x p) (hy : Rx b y q) (h : a + b < 8999) : law_add x y = .ok (fr (p + q)) := by
  unfold law_add
  rw [mul_ok hx.t hy.b (by omega), bdo, mul_ok hy.t hx.b (by omega), bdo, mul_ok hx.b hy.b (by omega), bdo, law_low_any (mul_nz hx.nz hy.nz) (mul_lt hx.b hy.b (Nat.le_refl _)) (by omega), bdo, rx_add hx hy]
theorem law_mul_x {x y : Int × Int} {p q : Rat} {a b : Nat} (hx : Rx a x p) (hy : Rx b y q) (h : a + b < 8999) : law_mul x y = .ok (fr (p * q)) := by
  unfold law_mul
  rw [mul_ok hx.t hy.t (by omega), bdo, mul_ok hx.b hy.b (by omega), bdo, law_low_any (mul_nz hx.nz hy.nz) (mul_lt hx.b hy.b (Nat.le_refl _)) (by omega), bdo, rx_mul hx hy]
theorem law_over_x {x y : Int × Int} {p q : Rat} {a b : Nat} (hx : Rx a x p) (hy : Rx b y q) (hq : q ≠ 0) (h : a + b < 8999) : law_over x y = .ok (fr (p / q)) := by
  unfold law_over
  rw [mul_ok hx.t hy.b (by omega), bdo, mul_ok hx.b hy.t (by omega), bdo, law_low_any (mul_nz hx.nz (hy.top hq)) (mul_lt hx.b hy.t (Nat.le_refl _)) (by omega), bdo, rx_div hx hy hq]
theorem law_add_ok {p q : Rat} {a b : Nat} (ha : Sq a p) (hb : Sq b q) (h : a + b < 8999) : law_add (fr p) (fr q) = .ok (fr (p + q)) := law_add_x (rx_fr ha) (rx_fr hb) h
theorem law_mul_ok {p q : Rat} {a b : Nat} (ha : Sq a p) (hb : Sq b q) (h : a + b < 8999) : law_mul (fr p) (fr q) = .ok (fr (p * q)) := law_mul_x (rx_fr ha) (rx_fr hb) h
theorem law_over_ok {p q : Rat} {a b : Nat} (ha : Sq a p) (hb : Sq b q) (hq : q ≠ 0) (h : a + b < 8999) : law_over (fr p) (fr q) = .ok (fr (p / q)) := law_over_x (rx_fr ha) (rx_fr hb) hq h
theorem law_neg_ok (q : Rat) : law_neg (fr q) = .ok (fr (-q)) := by
  unfold law_neg
  rw [fr_negv]
theorem law_is_less_ok {p q : Rat} {a b : Nat} (ha : Sq a p) (hb : Sq b q) (h : a + b < 8999) : law_is_less (fr p) (fr q) = .ok (decide (p < q)) := by
  unfold law_is_less
  rw [mul_ok (i := (fr p).1) (j := (fr q).2) ha.1 hb.d (by omega), bdo, mul_ok (i := (fr q).1) (j := (fr p).2) hb.1 ha.d (by omega), bdo]
  congr 1
  exact decide_eq_decide.mpr (Rat.lt_iff p q).symm
theorem rev_rng {n : Nat} : (rangeL 0 n).reverse = (rangeL 0 n).map fun i => (n : Int) - 1 - i := by
  rw [← rangeDn_rev]
  unfold rangeDn rangeL
  rw [List.map_map]
  exact List.map_congr_left fun i _ => by show (n : Int) - 1 - i = (n : Int) - 1 - (0 + i); omega
theorem law_worth_rxA {p : Rat} {x : Int × Int} {b c : Nat} {l : List Rat} {r : List (Int × Int)} (hp : Rx b x p) (h : All2 (fun q y => Rx c y q) l r) (hN : (b + c + 1) * l.length + 1 ≤ 8990) (hl : l.length < 1000) : law_worth r x = .ok (fr (ev l p)) := by
  have ln := h.len
  have k := fold_ixR (f := fun (s : Int × Int) (i : Int) => (law_mul s x).bd fun b33 => (getM r i).bd fun i40 => (law_add b33 i40).bd fun b45 => Mm.ok b45) (h := fun (s : Int × Int) (v : Int × Int) => (law_mul s x).bd fun b33 => (law_add b33 v).bd fun b45 => Mm.ok b45) r (fun s i v hv => by
    show (law_mul s x).bd _ = _
    rw [getM_nat hv]
    rfl) ((0, 1) : Int × Int)
  rw [rev_rng, foldM_map] at k
  have k2 := hornerX (f := fun (s : Int × Int) (v : Int × Int) => (law_mul s x).bd fun b33 => (law_add b33 v).bd fun b45 => Mm.ok b45) hp.sq 8990 (fun y q hy s a ha hN => by rw [law_mul_x (rx_fr ha) hp (by omega), bdo, law_add_x (rx_fr (sq_mul ha hp.sq (Nat.le_refl _))) hy (by omega), bdo]) h hN
  unfold law_worth
  rw [rangeM_ok (by omega), bdo, Int.toNat_natCast]
  refine (congrArg (fun m => Mm.bd m _) (k.trans k2)).trans ?_
  rfl
theorem law_worth_okA {p : Rat} {x : Int × Int} {b c : Nat} (hp : Rx b x p) (l : List Rat) (h : Sqs c l) (hN : (b + c + 1) * l.length + 1 ≤ 8990) (hl : l.length < 1000) : law_worth (l.map fr) x = .ok (fr (ev l p)) := law_worth_rxA hp (All2.self (g := fr) l fun q hq => rx_fr (h q hq)) hN hl
/-! ### what the law draws -/
theorem pickA_ok {α : Type} {scr : List Int} {st : Rw} {l : List α} {N : Nat} (r : Rk N st) (h0 : 0 < l.length) (h1 : l.length < 1000) (hN : N < 999999) : Yes (pickM takenA scr st l) fun r => r.1 ∈ l ∧ Rk (N + 1) r.2 := by
  unfold pickM
  refine (takenA_ok r (by omega) (by omega) hN).bd fun b hb => ?_
  obtain ⟨⟨b0, b1⟩, rb⟩ := hb
  obtain ⟨x, hx, g⟩ := getM_ok (l := l) b0 b1
  exact .eq g (.ok ⟨hx, rb⟩)
theorem law_wide_okA {scr : List Int} {st : Rw} {c N : Nat} {ps : List Rat} {pl : List (Int × Int)} (r : Rk N st) (h : All2 (fun p x => Rx c x p) ps pl) (hl : ps.length ≤ 1000) (hc : c < 8000) (hN : N < 9000) : Yes (law_wide scr st pl) fun r => All2 (fun p x => Rx (c + 2) x p) ps r.1 ∧ Rk (N + ps.length) r.2 := by
  unfold law_wide
  refine (yes_fold (fun (s : List (Int × Int) × Rw) (l : List (Int × Int)) => ∃ (q1 q2 : List Rat), ps = q1 ++ q2 ∧ All2 (fun p x => Rx (c + 2) x p) q1 s.1 ∧ All2 (fun p x => Rx c x p) q2 l ∧ Rk (N + q1.length) s.2) _ _ ⟨[], ps, rfl, .nil, h, r⟩ fun s x l hs => ?_).bd fun z hz => ?_
  · obtain ⟨q1, q2, e, a1, a2, rk⟩ := hs
    cases a2 with
    | cons hx hr =>
      rename_i p q2
      have l1 := a1.len
      have le : q1.length ≤ ps.length := by rw [e, List.length_append]; omega
      refine (pickA_ok rk (by simp) (by simp) (by omega)).bd fun b hb => ?_
      have m := hb.1
      simp only [List.mem_cons, List.not_mem_nil, or_false] at m
      have e4 : (2 : Nat) ^ 2 = 4 := by decide
      have i4 : b.1.natAbs < 2 ^ 2 ∧ b.1 ≠ 0 := by omega
      refine .eq (mul_ok hx.t i4.1 (by omega)) (.eq (mul_ok hx.b i4.1 (by omega)) (.guard (by omega) (.ok ⟨q1 ++ [p], q2, by rw [e]; simp, a1.app ⟨mul_nz hx.nz i4.2, mul_lt hx.t i4.1 (Nat.le_refl _), mul_lt hx.b i4.1 (Nat.le_refl _), ?_⟩, hr, by rw [List.length_append, List.length_singleton]; exact hb.2⟩)))
      have n1 := intc_ne hx.nz
      have n2 := intc_ne i4.2
      rw [← hx.v]
      show ((x.1 * b.1 : Int) : Rat) / ((x.2 * b.1 : Int) : Rat) = _
      push_cast
      grind
  · obtain ⟨q1, q2, e, a1, a2, rk⟩ := hz
    cases a2
    rw [List.append_nil] at e
    subst e
    exact .ok ⟨a1, rk⟩
theorem hasM_iff {α : Type} [DecidableEq α] (l : List α) (a : α) : hasM l a = decide (a ∈ l) := by
  unfold hasM
  rw [Bool.eq_iff_iff, List.contains_iff_mem, decide_eq_true_eq]
theorem mem_fr {p : Rat} {l : List Rat} : hasM (l.map fr) (fr p) = decide (p ∈ l) := by
  rw [hasM_iff]
  refine decide_eq_decide.mpr ?_
  constructor
  · intro h
    obtain ⟨q, hq, e⟩ := List.mem_map.mp h
    rw [← fr_inj e]
    exact hq
  · intro h
    exact List.mem_map_of_mem h
theorem fil_less {p : Rat} (hp : Sq 10 p) : ∀ l : List Rat, Sqs 10 l → filMm (fun (x71 : (Int × Int)) => (law_is_less (x71) (fr p)).bd fun b90 => cond b90 (Mm.ok (some x71)) (Mm.ok none)) (l.map fr) = .ok ((l.filter fun q => decide (q < p)).map fr)
  | [], _ => rfl
  | q :: l, h => by
    rw [List.map_cons]
    unfold filMm
    rw [law_is_less_ok (h q (List.mem_cons_self ..)) hp (by decide), bdo, fil_less hp l fun x hx => h x (List.mem_cons_of_mem _ hx)]
    cases e : decide (q < p) with
    | true =>
      rw [List.filter_cons_of_pos (by simpa using e)]
      rfl
    | false =>
      rw [List.filter_cons_of_neg (by simpa using e)]
      rfl
theorem lt_tr {a b c : Rat} (h : a < b) (h' : b < c) : a < c := by grind
/-- where a place stands -/
theorem spot {p : Rat} : ∀ l : List Rat, l.Pairwise (· < ·) → p ∉ l → (l.take (l.filter fun q => decide (q < p)).length ++ [p] ++ l.drop (l.filter fun q => decide (q < p)).length).Pairwise (· < ·)
  | [], _, _ => by simp
  | q :: l, h, hn => by
    obtain ⟨h1, h2⟩ := List.pairwise_cons.mp h
    have hq : p ≠ q := fun e => hn (by rw [e]; exact List.mem_cons_self ..)
    have hl : p ∉ l := fun e => hn (List.mem_cons_of_mem _ e)
    by_cases c : q < p
    · rw [List.filter_cons_of_pos (by simpa using c), List.length_cons, List.take_succ_cons, List.drop_succ_cons]
      have ih := spot l h2 hl
      rw [List.cons_append, List.cons_append]
      refine List.pairwise_cons.mpr ⟨fun x hx => ?_, ih⟩
      rw [List.append_assoc, List.mem_append, List.mem_append, List.mem_singleton] at hx
      rcases hx with hx | hx | hx
      · exact h1 x (List.mem_of_mem_take hx)
      · rw [hx]; exact c
      · exact h1 x (List.mem_of_mem_drop hx)
    · have lt : p < q := by
        have := Rat.not_lt.mp c
        exact Rat.lt_of_le_of_ne this hq
      have e : (q :: l).filter (fun q => decide (q < p)) = [] := by
        rw [List.filter_eq_nil_iff]
        intro x hx
        rcases List.mem_cons.mp hx with rfl | hx
        · simpa using c
        · have := h1 x hx
          simp only [decide_eq_true_eq]
          intro z
          exact c (lt_tr this z)
      rw [e]
      show (p :: q :: l).Pairwise (· < ·)
      refine List.pairwise_cons.mpr ⟨fun x hx => ?_, h⟩
      rcases List.mem_cons.mp hx with rfl | hx
      · exact lt
      · exact lt_tr lt (h1 x hx)
theorem law_places_okA {scr : List Int} {st : Rw} {most : Int} {N : Nat} (r : Rk N st) (h0 : 1 ≤ most) (h1 : most ≤ 12) (hN : N < 9000) : Yes (law_places scr st most) fun r => (∃ ps : List Rat, r.1 = ps.map fr ∧ ps.Pairwise (· < ·) ∧ PB 30 10 ps ∧ Sqs 5 ps ∧ 0 < ps.length ∧ (ps.length : Int) ≤ most) ∧ Rk (N + 25) r.2 := by
  unfold law_places
  refine (takenA_ok r (by omega) (by omega) (by omega)).bd fun b hb => ?_
  obtain ⟨⟨b0, b1⟩, rb⟩ := hb
  rw [range_ok (by omega) (by omega), bdo]
  have e : (1 + b.1).toNat = b.1.toNat + 1 := by omega
  have e10 : (2 : Nat) ^ 10 = 1024 := by decide
  have e5 : (2 : Nat) ^ 5 = 32 := by decide
  refine (yes_fold (fun (s : (List (Int × Int)) × Rw) (l : List Int) => ∃ (qs : List Rat) (k : Nat), s.1 = qs.map fr ∧ qs.Pairwise (· < ·) ∧ PB 30 10 qs ∧ Sqs 5 qs ∧ ((qs.length : Int) + l.length ≤ most ∧ (0 < qs.length ∨ 0 < l.length)) ∧ Rk k s.2 ∧ k + 2 * l.length ≤ N + 25) _ _ ⟨[], N + 1, rfl, .nil, ⟨by decide, by decide, fun q h => by cases h⟩, (fun q h => by cases h), ⟨by rw [rangeL_len]; show ((0 : Nat) : Int) + _ ≤ most; omega, .inr (by rw [rangeL_len]; omega)⟩, rb, by rw [rangeL_len]; omega⟩ fun s x l hs => ?_).bd fun z hz => ?_
  · obtain ⟨qs, k, h1, h2, h3, hs5, ⟨h4, h5⟩, h6, h7⟩ := hs
    rw [List.length_cons] at h4 h7
    obtain ⟨s1, s2⟩ := s
    subst h1
    refine (takenA_ok h6 (by decide) (by decide) (by omega)).bd fun d hd => ?_
    refine (pickA_ok hd.2 (by decide) (by decide) (by omega)).bd fun g hg => ?_
    have d1 := hd.1
    have m := hg.1
    simp only [List.mem_cons, List.not_mem_nil, or_false] at m
    have g0 : 0 < g.1 := by omega
    have sb : g.1.natAbs < 2 ^ 10 := by omega
    have dv : Dv 30 10 (((d.1 - 20 : Int) : Rat) / (g.1 : Rat)) := by
      have ne := intc_ne (n := g.1) (by omega)
      refine ⟨(d.1 - 20) * (30 / g.1), ?_, ?_⟩
      · rcases m with q | q | q | q | q <;> (rw [q]; push_cast; grind)
      · rcases m with q | q | q | q | q <;> (rw [q]; show ((d.1 - 20) * _).natAbs < _; omega)
    have sp : Sq 10 (((d.1 - 20 : Int) : Rat) / (g.1 : Rat)) := dv.sq (by decide) (by decide)
    have sp5 : Sq 5 (((d.1 - 20 : Int) : Rat) / (g.1 : Rat)) := sq_div g0 (by omega) (by omega)
    have low : law_low (d.1 - 20) g.1 = .ok (fr (((d.1 - 20 : Int) : Rat) / (g.1 : Rat))) := law_low_any (by omega) sb (by decide)
    generalize hp : (((d.1 - 20 : Int) : Rat) / (g.1 : Rat)) = p at sp low dv sp5
    refine .eq low ?_
    by_cases mm : p ∈ qs
    · rw [cF (c := !(hasM (qs.map fr, s2).1 (fr p))) (by show (!(hasM (qs.map fr) (fr p))) = false; rw [mem_fr, decide_eq_true mm]; rfl)]
      refine .ok ⟨qs, k + 2, rfl, h2, h3, hs5, ⟨by omega, .inl ?_⟩, hg.2, by omega⟩
      cases qs with
      | nil => cases mm
      | cons _ _ => simp
    · have fl := List.length_filter_le (fun q => decide (q < p)) qs
      have ql : qs.length ≤ 12 := by omega
      rw [cT (c := !(hasM (qs.map fr, s2).1 (fr p))) (by show (!(hasM (qs.map fr) (fr p))) = true; rw [mem_fr, decide_eq_false mm]; rfl)]
      refine .guard (by rw [List.length_map]; omega) (.eq (fil_less sp qs h3.sq) ?_)
      rw [List.length_map]
      show Yes ((guardM ((cutL (qs.map fr) none _).length + _ ≤ 100000)).bd _) _
      rw [cut_lo _ _ (by rw [List.length_map]; exact fl), cut_hi _ _ (by rw [List.length_map]; exact fl)]
      refine .guard (by simp only [List.length_take, List.length_map, List.length_singleton]; omega) (.guard (by simp only [List.length_append, List.length_take, List.length_drop, List.length_map, List.length_singleton]; omega) (.ok ⟨qs.take (qs.filter fun q => decide (q < p)).length ++ [p] ++ qs.drop (qs.filter fun q => decide (q < p)).length, k + 2, ?_, spot qs h2 mm, ⟨by decide, by decide, ?_⟩, ?_, ⟨?_, ?_⟩, hg.2, by omega⟩))
      · rw [List.map_append, List.map_append, List.map_take, List.map_drop]
        rfl
      · intro q hq
        rw [List.append_assoc, List.mem_append, List.mem_append, List.mem_singleton] at hq
        rcases hq with hq | hq | hq
        · exact h3.each q (List.mem_of_mem_take hq)
        · rw [hq]; exact dv
        · exact h3.each q (List.mem_of_mem_drop hq)
      · intro q hq
        rw [List.append_assoc, List.mem_append, List.mem_append, List.mem_singleton] at hq
        rcases hq with hq | hq | hq
        · exact hs5 q (List.mem_of_mem_take hq)
        · rw [hq]; exact sp5
        · exact hs5 q (List.mem_of_mem_drop hq)
      · simp only [List.length_append, List.length_take, List.length_drop, List.length_singleton]
        omega
      · simp only [List.length_append, List.length_singleton]
        omega
  · obtain ⟨qs, k, h1, h2, h3, hs5, ⟨h4, h5⟩, h6, h7⟩ := hz
    rw [List.length_nil] at h4 h5 h7
    exact .ok ⟨⟨qs, h1, h2, h3, hs5, by omega, by omega⟩, h6.up (by omega)⟩
/-! ### the law's polynomial through readings, its other family -/
theorem setM_mid {α : Type} (l r : List α) (x v : α) : setM (l ++ x :: r) (l.length : Int) v = .ok (l ++ v :: r) := by
  unfold setM ixN
  rw [if_pos (by omega), if_pos (by simp; omega)]
  show Mm.ok ((l ++ x :: r).set ((l.length : Int).toNat) v) = _
  rw [Int.toNat_natCast]
  congr 1
  simp
def rpF (x16 : Int × Int) (b15 : List (Int × Int)) : List (Int × Int) → Int → Mm (List (Int × Int)) := fun (b65 : (List (Int × Int))) (x66 : Int) => (getM b65 x66).bd fun i87 => (getM b15 x66).bd fun i92 => (law_mul (x16) (i92)).bd fun b97 => (law_neg (b97)).bd fun b104 => (law_add (i87) (b104)).bd fun b111 => (setM b65 x66 b111).bd fun m118 => Mm.ok m118
theorem rpF_fold {p : Rat} {a b : Nat} (hp : Sq b p) (ha : 0 < a) (h : 2 * a + b < 8990) (P : List Rat) (hP : Sqs a P) : ∀ (l pre done : List Rat) (z : Rat), done.length = pre.length → P = pre ++ l → Sq a z → foldM (rpF (fr p) (P.map fr)) ((done ++ z :: l).map fr) (rangeL (pre.length : Int) l.length) = .ok ((done ++ rp p z l).map fr)
  | [], pre, done, z, _, _, _ => rfl
  | x :: l, pre, done, z, e, eP, hz => by
    have hx : Sq a x := hP x (by rw [eP]; simp)
    have e1 : ((done ++ z :: x :: l).map fr) = done.map fr ++ fr z :: (x :: l).map fr := by simp
    have e2 : P.map fr = pre.map fr ++ fr x :: l.map fr := by rw [eP]; simp
    have l1 : ((pre.length : Nat) : Int) = ((done.map fr).length : Int) := by rw [List.length_map, e]
    have l2 : ((pre.length : Nat) : Int) = ((pre.map fr).length : Int) := by rw [List.length_map]
    rw [List.length_cons, rangeL_succ]
    unfold foldM
    rw [e1]
    have g1 : getM (done.map fr ++ fr z :: (x :: l).map fr) (pre.length : Int) = .ok (fr z) := by rw [l1]; exact getM_mid _ _ _
    have g2 : getM (P.map fr) (pre.length : Int) = .ok (fr x) := by rw [l2, e2]; exact getM_mid _ _ _
    have g3 : setM (done.map fr ++ fr z :: (x :: l).map fr) (pre.length : Int) (fr (z + -(p * x))) = .ok (done.map fr ++ fr (z + -(p * x)) :: (x :: l).map fr) := by rw [l1]; exact setM_mid _ _ _ _
    have e3 : z + -(p * x) = z - x * p := by grind
    have e4 : done.map fr ++ fr (z + -(p * x)) :: (x :: l).map fr = ((done ++ [z - x * p]) ++ x :: l).map fr := by rw [e3]; simp
    have ih := rpF_fold hp ha h P hP l (pre ++ [x]) (done ++ [z - x * p]) x (by simp [e]) (by rw [eP]; simp) hx
    have e5 : ((pre ++ [x]).length : Int) = (pre.length : Int) + 1 := by simp
    rw [e5] at ih
    have st : rpF (fr p) (P.map fr) (done.map fr ++ fr z :: (x :: l).map fr) (pre.length : Int) = .ok (done.map fr ++ fr (z + -(p * x)) :: (x :: l).map fr) := by
      unfold rpF
      rw [g1, bdo, g2, bdo, law_mul_ok hp hx (by omega), bdo, law_neg_ok, bdo, law_add_ok hz (sq_negB (sq_mul hp hx (Nat.le_refl _))) (by omega), bdo, g3, bdo]
    rw [st, bdo, e4, ih, show rp p z (x :: l) = (z - x * p) :: rp p x l from rfl]
    simp
def rpG : List (Int × Int) → (Int × Int) → Mm (List (Int × Int)) := fun (b15 : (List (Int × Int))) (x16 : (Int × Int)) => (guardM ([((0 : Int), (1 : Int))].length + b15.length ≤ 100000)).bd fun _ => (rangeM (b15.length : Int)).bd fun l64 => (foldM (rpF x16 b15) ([((0 : Int), (1 : Int))] ++ b15) (rangeL 0 (b15.length : Int).toNat)).bd fun b82 => Mm.ok b82
theorem rpG_ok {p : Rat} {l : List Rat} {a b : Nat} (hp : Sq b p) (hl : Sqs a l) (ha : 0 < a) (h : 2 * a + b < 8990) (hn : l.length < 40000) : rpG (l.map fr) (fr p) = .ok ((rp p 0 l).map fr) := by
  have f := rpF_fold hp ha h l hl l [] [] 0 rfl rfl (zero_sqn ha)
  unfold rpG
  have e1 : [((0 : Int), (1 : Int))] ++ l.map fr = ([] ++ 0 :: l).map fr := by rw [List.nil_append, List.map_cons, fr_zero]; rfl
  rw [guard_ok (by simp only [List.length_map, List.length_cons, List.length_nil]; omega), bdo, List.length_map, rangeM_ok (by omega), bdo, Int.toNat_natCast, e1]
  refine (congrArg (fun m => Mm.bd m _) f).trans ?_
  rfl
theorem root_product_fold {B : Int} {e : Nat} (hB : 0 < B) (hBe : B.natAbs < 2 ^ e) : ∀ (ps l : List Rat) (D : Int) (a : Nat), 0 < D → D.natAbs < 2 ^ a → 0 < a → (∀ p ∈ ps, Dv B e p) → (∀ x ∈ l, Dv D a x) → 2 * (a + (e + 1) * ps.length) + e < 8990 → l.length + ps.length < 1000 → foldM rpG (l.map fr) (ps.map fr) = .ok ((WRf ps l).map fr)
  | [], l, D, a, _, _, _, _, _, _, _ => rfl
  | p :: ps, l, D, a, hD, hDa, ha, hp, hl, hN, hn => by
    have e2 : (e + 1) * (p :: ps).length = (e + 1) * ps.length + (e + 1) := by rw [List.length_cons, Nat.mul_succ]
    rw [List.length_cons] at hn
    have sp := (hp p (List.mem_cons_self ..)).sq hB hBe
    have sl : Sqs a l := fun x hx => (hl x hx).sq hD hDa
    rw [List.map_cons]
    unfold foldM
    rw [rpG_ok sp sl ha (by omega) (by omega), bdo]
    exact root_product_fold hB hBe ps (rp p 0 l) (D * B) (a + e + 1) (Int.mul_pos hD hB) (mul_lt hDa hBe (by omega)) (by omega) (fun q hq => hp q (List.mem_cons_of_mem _ hq)) (rp_dv hD hB (hp p (List.mem_cons_self ..)) hBe l 0 dv_zero hl) (by omega) (by rw [rp_len]; omega)
theorem law_root_product_ok {B : Int} {e : Nat} {ps : List Rat} (h : PB B e ps) (hl : ps.length ≤ 12) (he : e ≤ 100) : law_root_product (ps.map fr) = .ok ((WR ps).map fr) := by
  have m : (e + 1) * ps.length ≤ 101 * 12 := Nat.mul_le_mul (by omega) hl
  have := root_product_fold h.b0 h.be ps [1] 1 1 (by decide) (by decide) (by decide) h.each (fun x hx => by rw [List.mem_singleton.mp hx]; exact dv_one) (by omega) (by show 1 + ps.length < 1000; omega)
  rw [List.map_cons, fr_one] at this
  unfold law_root_product
  show (foldM rpG [((1 : Int), (1 : Int))] (ps.map fr)).bd _ = _
  rw [show ([((1 : Int), (1 : Int))] : List (Int × Int)) = (1, 1) :: List.map fr [] from rfl, this, bdo]
  rfl
/-- a product of distances, told one by one -/
theorem prd_fold {B : Int} {e : Nat} {x : Rat} {f : Int × Int → Int × Int → Mm (Int × Int)} (hB : 0 < B) (hBe : B.natAbs < 2 ^ e) (hx : Dv B e x) (hf : ∀ (a : Rat) (n : Nat) (p : Rat), Sq n a → Dv B e p → n + e < 8000 → f (fr a) (fr p) = .ok (fr (a * (x - p)))) : ∀ (ps : List Rat) (a : Rat) (n : Nat), Sq n a → (∀ p ∈ ps, Dv B e p) → n + (e + 2) * ps.length + e < 8000 → foldM f (fr a) (ps.map fr) = .ok (fr (a * prd x ps))
  | [], a, n, _, _, _ => by
    show Mm.ok _ = Mm.ok (fr (a * 1))
    congr 2
    grind
  | p :: ps, a, n, ha, hp, hN => by
    have e2 : (e + 2) * (p :: ps).length = (e + 2) * ps.length + (e + 2) := by rw [List.length_cons, Nat.mul_succ]
    have hp0 := hp p (List.mem_cons_self ..)
    have d := prd_sq (ps := [p]) hB hBe hx fun q hq => by rw [List.mem_singleton.mp hq]; exact hp0
    rw [List.map_cons]
    unfold foldM
    have e3 : prd x [p] = x - p := by
      rw [prd_cons]
      show (x - p) * 1 = _
      grind
    rw [e3] at d
    rw [hf a n p ha hp0 (by omega), bdo, prd_fold hB hBe hx hf ps _ (n + (e + 2)) (sq_mul ha d (by simp; omega)) (fun q hq => hp q (List.mem_cons_of_mem _ hq)) (by omega), prd_cons]
    congr 2
    grind
def poF : List (Int × Int) → Int → Mm (List (Int × Int)) := fun (b275 : (List (Int × Int))) (x276 : Int) => (cond (!(decide (b275 = []))) ((getM b275 (-(1 : Int))).bd fun i312 => Mm.ok (decide (i312.1 = (0 : Int)))) (Mm.ok false)).bd fun b308 => cond b308 ((popN b275).bd fun _ => Mm.ok (List.dropLast b275)) (Mm.ok b275)
theorem num_isz (q : Rat) : decide ((fr q).1 = (0 : Int)) = decide (q = 0) := by
  refine decide_eq_decide.mpr ⟨fun h => ?_, fun h => by rw [h]; rfl⟩
  exact Rat.num_eq_zero.mp h
theorem poF_snoc (r : List Rat) (x : Rat) (k : Int) : poF ((r ++ [x]).map fr) k = .ok (if x = 0 then r.map fr else (r ++ [x]).map fr) := by
  have e1 : (r ++ [x]).map fr = r.map fr ++ [fr x] := by rw [List.map_append]; rfl
  unfold poF
  rw [e1, cT (c := !decide (r.map fr ++ [fr x] = [])) (by rw [decide_eq_false (by simp)]; rfl), getM_last, bdo, bdo, num_isz]
  by_cases z : x = 0
  · have p1 : popN (r.map fr ++ [fr x]) = .ok (r.map fr ++ [fr x]).dropLast := by
      cases h : r.map fr with
      | nil => rfl
      | cons a b => rfl
    rw [cT (decide_eq_true z), p1, bdo, if_pos z]
    congr 1
    simp
  · rw [cF (decide_eq_false z), if_neg z]
theorem po_stay {r : List Rat} {x : Rat} (h : x ≠ 0) : ∀ (m : Nat) (k : Int), foldM poF ((r ++ [x]).map fr) (rangeL k m) = .ok ((r ++ [x]).map fr)
  | 0, k => rfl
  | m + 1, k => by
    rw [rangeL_succ]
    unfold foldM
    rw [poF_snoc, if_neg h, bdo, po_stay h m]
theorem po_trim : ∀ (m : Nat) (k : Int) (l : List Rat), l.length ≤ m → foldM poF (l.map fr) (rangeL k m) = .ok ((trim l).map fr)
  | 0, k, l, h => by
    rw [List.eq_nil_of_length_eq_zero (by omega : l.length = 0)]
    rfl
  | m + 1, k, l, h => by
    rw [rangeL_succ]
    unfold foldM
    rcases List.eq_nil_or_concat l with q | ⟨r, x, q⟩
    · subst q
      show (Mm.ok ([] : List (Int × Int))).bd _ = _
      rw [bdo]
      exact po_trim m (k + 1) [] (by simp)
    · rw [List.concat_eq_append] at q
      subst q
      rw [List.length_append, List.length_singleton] at h
      rw [poF_snoc, bdo]
      by_cases z : x = 0
      · rw [if_pos z, z, trim_snoc0]
        exact po_trim m (k + 1) r (by omega)
      · rw [if_neg z, trim_snoc z]
        exact po_stay z m _
def thF (pl yl : List (Int × Int)) : List (Int × Int) → Int → Mm (List (Int × Int)) := fun (b30 : (List (Int × Int))) (x31 : Int) => (guardM ((cutL pl none (some x31)).length + (cutL pl (some (x31 + (1 : Int))) none).length ≤ 100000)).bd fun _ => (law_root_product (((cutL pl none (some x31)) ++ (cutL pl (some (x31 + (1 : Int))) none)))).bd fun b84 => (guardM ((cutL pl none (some x31)).length + (cutL pl (some (x31 + (1 : Int))) none).length ≤ 100000)).bd fun _ => (foldM (fun (b130 : (Int × Int)) (x131 : (Int × Int)) => (getM pl x31).bd fun i154 => (law_neg (x131)).bd fun b159 => (law_add (i154) (b159)).bd fun b166 => (law_mul (b130) (b166)).bd fun b173 => Mm.ok b173) ((1 : Int), (1 : Int)) ((cutL pl none (some x31)) ++ (cutL pl (some (x31 + (1 : Int))) none))).bd fun b147 => (getM yl x31).bd fun i191 => (law_over (i191) (b147)).bd fun b196 => (rangeM (b30.length : Int)).bd fun l204 => (guardM ((rangeL 0 (b30.length : Int).toNat).length ≤ 50000)).bd fun _ => (mapMm (fun (x207 : Int) => (getM b30 x207).bd fun i226 => (getM b84 x207).bd fun i235 => (law_mul (b196) (i235)).bd fun b240 => (law_add (i226) (b240)).bd fun b247 => Mm.ok b247) (rangeL 0 (b30.length : Int).toNat)).bd fun b206 => Mm.ok b206
theorem thF_ok {B : Int} {e c k : Nat} {ps ys : List Rat} (hp : PB B e ps) (ha : ps.Pairwise (· < ·)) (hl : ps.length ≤ 6) (he : e ≤ 10) (hy : Sqs c ys) (h0 : 0 < c) (hc : c ≤ 1000) (hn : ys.length = ps.length) (lt : k < ps.length) : thF (ps.map fr) (ys.map fr) ((IPk ps ys k).map fr) (k : Int) = .ok ((IPk ps ys (k + 1)).map fr) := by
  have ho : PB B e (oth ps k) := hp.sub fun p hp => oth_mem hp
  have ol := oth_len lt
  have e1 : (ps.map fr).take k ++ (ps.map fr).drop (k + 1) = (oth ps k).map fr := by
    unfold oth
    rw [List.map_append, List.map_take, List.map_drop]
  have gy : ys[k]? = some (ys.getD k 0) := by
    rw [List.getD_eq_getElem?_getD, List.getElem?_eq_getElem (by omega)]
    rfl
  have sy : Sq c (ys.getD k 0) := getD_sq hy h0 k
  have dk := hp.each ps[k] (List.getElem_mem lt)
  have m : (e + 1) * (oth ps k).length ≤ 11 * 5 := Nat.mul_le_mul (by omega) (by omega)
  have m2 : (e + 2) * (oth ps k).length ≤ 12 * 5 := Nat.mul_le_mul (by omega) (by omega)
  have s2 := (prd_sq (ps := oth ps k) hp.b0 hp.be dk ho.each).up (n := 56) (by omega)
  have ne := prd_ne (oth_not ha lt)
  have sW := (WR_sq ho).up (b := 56) (by omega)
  have wl := WR_len (oth ps k)
  have il := IPk_len ps ys k (by omega)
  have sI := IPk_sq hp ha hl he hy h0 k (by omega)
  have mm : (c + 113) * k ≤ (c + 113) * 5 := Nat.mul_le_mul_left _ (by omega)
  have PF := prd_fold (f := fun (b130 : (Int × Int)) (x131 : (Int × Int)) => (Mm.ok (fr ps[k])).bd fun i154 => (law_neg (x131)).bd fun b159 => (law_add (i154) (b159)).bd fun b166 => (law_mul (b130) (b166)).bd fun b173 => Mm.ok b173) hp.b0 hp.be dk (fun a n p hn hd hN => by
    have sp := hd.sq hp.b0 hp.be
    have d := prd_sq (ps := [p]) hp.b0 hp.be dk fun q hq => by rw [List.mem_singleton.mp hq]; exact hd
    have e3 : prd ps[k] [p] = ps[k] + -p := by
      rw [prd_cons]
      show (ps[k] - p) * 1 = _
      grind
    rw [e3] at d
    show (Mm.ok _).bd _ = _
    rw [bdo, law_neg_ok, bdo, law_add_ok (dk.sq hp.b0 hp.be) (sq_negB sp) (by omega), bdo, law_mul_ok hn d (by simp; omega), bdo]
    congr 2
    grind) (oth ps k) 1 1 one_sq ho.each (by omega)
  rw [fr_one, show (1 : Rat) * prd ps[k] (oth ps k) = prd ps[k] (oth ps k) by grind] at PF
  have sp := sq_divB sy s2 ne (Nat.le_refl _)
  have e6 : (k : Int) + 1 = ((k + 1 : Nat) : Int) := by omega
  have zl : ((IPk ps ys k).zip (WR (oth ps k))).length = ps.length := by rw [List.length_zip]; omega
  have M : mapMm (fun (x207 : Int) => (getM ((IPk ps ys k).map fr) x207).bd fun i226 => (getM ((WR (oth ps k)).map fr) x207).bd fun i235 => (law_mul (fr (ys.getD k 0 / prd ps[k] (oth ps k))) (i235)).bd fun b240 => (law_add (i226) (b240)).bd fun b247 => Mm.ok b247) (rangeL 0 ps.length) = .ok ((IPk ps ys (k + 1)).map fr) := by
    rw [← zl, map_ix (h := fun (v : Rat × Rat) => .ok (fr (v.1 + (ys.getD k 0 / prd ps[k] (oth ps k)) * v.2))) ((IPk ps ys k).zip (WR (oth ps k))) fun i v hv => ?_, mapMm_eq (g := fun (v : Rat × Rat) => fr (v.1 + (ys.getD k 0 / prd ps[k] (oth ps k)) * v.2)) _ fun v _ => rfl]
    · congr 1
      have e5 : IPk ps ys (k + 1) = List.zipWith (· + ·) (IPk ps ys k) ((LB ps k).map (ys.getD k 0 * ·)) := rfl
      have z : ∀ (d : Rat) (l r : List Rat), (l.zip r).map (fun v => fr (v.1 + (ys.getD k 0 / d) * v.2)) = (List.zipWith (· + ·) l ((r.map fun c => c / d).map (ys.getD k 0 * ·))).map fr := fun d l => by
        induction l with
        | nil => intro r; rfl
        | cons a l ih =>
          intro r
          cases r with
          | nil => rfl
          | cons b r =>
            simp only [List.zip_cons_cons, List.map_cons, List.zipWith_cons_cons]
            rw [ih r]
            congr 2
            grind
      rw [e5, z]
      unfold LB
      rw [getD_at lt]
    · obtain ⟨z1, z2⟩ := zip_at hv
      have i1 := sI v.1 (List.mem_of_getElem? z1)
      have i2 := sW v.2 (List.mem_of_getElem? z2)
      rw [getM_map z1, bdo, getM_map z2, bdo, law_mul_ok sp i2 (by omega), bdo, law_add_ok i1 (sq_mul sp i2 (Nat.le_refl _)) (by omega), bdo]
  unfold thF
  rw [e6, cut_take, cut_drop, guard_ok (by rw [List.length_take, List.length_drop, List.length_map]; omega), bdo, e1, law_root_product_ok ho (by omega) (by omega), bdo, bdo, getM_map (List.getElem?_eq_getElem lt)]
  refine (congrArg (fun m => Mm.bd m _) PF).trans ?_
  rw [bdo, getM_map gy, bdo, law_over_ok sy s2 ne (by omega), bdo, List.length_map, il, rangeM_ok (by omega), bdo, Int.toNat_natCast, guard_ok (by rw [rangeL_len]; omega), bdo, M, bdo]
theorem law_through_ok {B : Int} {e c : Nat} {ps ys : List Rat} (hp : PB B e ps) (ha : ps.Pairwise (· < ·)) (hl : ps.length ≤ 6) (he : e ≤ 10) (hy : Sqs c ys) (h0 : 0 < c) (hc : c ≤ 1000) (hn : ys.length = ps.length) : law_through (ps.map fr) (ys.map fr) = .ok ((trim (IP ps ys)).map fr) := by
  have loop : ∀ m k : Nat, k + m = ps.length → foldM (thF (ps.map fr) (ys.map fr)) ((IPk ps ys k).map fr) (rangeL (k : Int) m) = .ok ((IP ps ys).map fr) := fun m => by
    induction m with
    | zero =>
      intro k hk
      have : k = ps.length := by omega
      subst this
      rfl
    | succ m ih =>
      intro k hk
      rw [rangeL_succ]
      unfold foldM
      rw [thF_ok hp ha hl he hy h0 hc hn (by omega), bdo]
      have := ih (k + 1) (by omega)
      have e4 : ((k + 1 : Nat) : Int) = (k : Int) + 1 := by omega
      rw [e4] at this
      exact this
  have L := loop ps.length 0 (by omega)
  have P := po_trim ps.length 0 (IP ps ys) (by rw [IP_len]; exact Nat.le_refl _)
  unfold law_through
  rw [List.length_map, rep0 _ (by omega), bdo, rangeM_ok (by omega), bdo, Int.toNat_natCast]
  refine (congrArg (fun m => Mm.bd m _) L).trans ?_
  rw [bdo, bdo]
  refine (congrArg (fun m => Mm.bd m _) P).trans ?_
  rfl
/-! ### readings that are mended, as the law's other family tells them -/
theorem polynomial_by_x {B : Int} {e c : Nat} {pl yl : List (Int × Int)} {ps ys : List Rat} (hr : All2 (fun p x => Rx 30 x p) ps pl) (hy : All2 (fun p x => Rx c x p) ys yl) (pb : PB B e ps) (ha : ps.Pairwise (· < ·)) (hl : ps.length ≤ 6) (h1 : 0 < ps.length) (hn : ys.length = ps.length) (he : e ≤ 10) (h0 : 0 < c) (hc : c ≤ 1000) : polynomial_by pl yl = .ok ((trim (IP ps ys)).map fr) := by
  have sy : Sqs c ys := hy.left fun _ _ r => r.sq
  unfold polynomial_by
  rw [checked_places_x (by decide) hr ha hl h1, bdo, List.length_map, checked_readings_x (by omega) hy (by omega) (by omega), bdo, polynomial_through_ok pb ha hl he sy h0 hc hn, bdo]
theorem repaired_fits {B : Int} {e c : Nat} {pl yl : List (Int × Int)} {ps ys : List Rat} {d : Int} (hr : All2 (fun p x => Rx 30 x p) ps pl) (hy : All2 (fun p x => Rx c x p) ys yl) (pb : PB B e ps) (ha : ps.Pairwise (· < ·)) (hl : ps.length ≤ 6) (h1 : 0 < ps.length) (hn : ys.length = ps.length) (he : e ≤ 10) (h0 : 0 < c) (hc : c ≤ 1000) (hd : 0 ≤ d) (hd4 : d ≤ 4) (q : (trim (IP ps ys)).length ≤ (d + 1).toNat) : repaired pl yl d = .ok (some (ys.map fr)) := by
  have sy : Sqs c ys := hy.left fun _ _ r => r.sq
  unfold repaired
  rw [checked_places_x (by decide) hr ha hl h1, bdo, List.length_map, checked_readings_x (by omega) hy (by omega) (by omega), bdo, check_within_ok hd hd4, bdo, fits_ok pb ha hl he sy h0 hc hn hd, bdo, cT (decide_eq_true q)]
theorem ev_IPk_sq {B : Int} {e c : Nat} {ps ys : List Rat} {x : Rat} (hp : PB B e ps) (hx : Dv B e x) (ha : ps.Pairwise (· < ·)) (hl : ps.length ≤ 6) (he : e ≤ 10) (hy : Sqs c ys) (h0 : 0 < c) : ∀ k, k ≤ ps.length → Sq (1 + (c + 113) * k) (ev (IPk ps ys k) x)
  | 0, _ => by
    show Sq _ (ev (List.replicate ps.length 0) x)
    rw [ev_repl]
    exact zero_sqn (by omega)
  | k + 1, h => by
    have ih := ev_IPk_sq hp hx ha hl he hy h0 k (by omega)
    have lt : k < ps.length := by omega
    have ho : PB B e (oth ps k) := hp.sub fun p hp => oth_mem hp
    have ol := oth_len lt
    have m : (e + 1) * (oth ps k).length ≤ 11 * 5 := Nat.mul_le_mul (by omega) (by omega)
    have s1 := (prd_sq (ps := oth ps k) hp.b0 hp.be hx ho.each).up (n := 56) (by omega)
    have s2 := (prd_sq (ps := oth ps k) hp.b0 hp.be (hp.each ps[k] (List.getElem_mem lt)) ho.each).up (n := 56) (by omega)
    have s3 := sq_divB s1 s2 (prd_ne (oth_not ha lt)) (Nat.le_refl _)
    show Sq _ (ev (List.zipWith (· + ·) (IPk ps ys k) ((LB ps k).map (ys.getD k 0 * ·))) x)
    rw [ev_zipWith _ _ _ (by rw [IPk_len ps ys k (by omega), List.length_map, LB_len (by omega)]), ev_map_mul, ev_LB, getD_at lt]
    exact sq_add ih (sq_mul (getD_sq hy h0 k) s3 (Nat.le_refl _)) (by rw [Nat.mul_succ]; omega)
theorem oth_get {l : List Rat} {i j : Nat} (hi : i < l.length) (h : j ≠ i) : (oth l i).getD (if j < i then j else j - 1) 0 = l.getD j 0 := by
  unfold oth
  rw [List.getD_eq_getElem?_getD, List.getD_eq_getElem?_getD]
  by_cases q : j < i
  · rw [if_pos q, List.getElem?_append_left (by rw [List.length_take]; omega), List.getElem?_take_of_lt q]
  · rw [if_neg q, List.getElem?_append_right (by rw [List.length_take]; omega), List.length_take, List.getElem?_drop, Nat.min_eq_left (by omega)]
    congr 2
    omega
theorem set_getD {l : List Rat} {i j : Nat} {v : Rat} (hi : i < l.length) : (l.set i v).getD j 0 = if j = i then v else l.getD j 0 := by
  rw [List.getD_eq_getElem?_getD, List.getD_eq_getElem?_getD, List.getElem?_set]
  by_cases q : i = j
  · subst q
    rw [if_pos rfl, if_pos hi, if_pos rfl]
    rfl
  · rw [if_neg q, if_neg fun e => q e.symm]
theorem mend_fits {ps ys : List Rat} {m i : Nat} (ha : ps.Pairwise (· < ·)) (hi : i < ps.length) (hn : ys.length = ps.length) (h : alone ps ys m i = true) : (trim (IP ps (mend ps ys i))).length ≤ m := by
  refine (fit_iff ha).mpr ⟨trim (IP (oth ps i) (oth ys i)), of_decide_eq_true h, fun j hj => ?_⟩
  unfold mend
  rw [trim_ev, mend_set ps ys (by omega), set_getD (by omega)]
  by_cases q : j = i
  · rw [if_pos q, q]
  · have ol := oth_len hi
    have e1 := oth_get (l := ps) hi q
    have e2 := oth_get (l := ys) (by omega) q
    rw [if_neg q, ← e2, ← e1]
    exact ev_IPg (oth_asc ha i) (by split <;> omega)
theorem Rep_some {B : Int} {e c : Nat} {ps ys zs : List Rat} {m : Nat} (pb : PB B e ps) (ha : ps.Pairwise (· < ·)) (hl : ps.length ≤ 6) (he : e ≤ 10) (hn : ys.length = ps.length) (hy : Sqs c ys) (h0 : 0 < c) (hc : c ≤ 80) (h : Rep ps ys m = some zs) : (trim (IP ps zs)).length ≤ m ∧ zs.length = ps.length ∧ Sqs 1000 zs := by
  unfold Rep at h
  split at h
  · rename_i q
    cases h
    exact ⟨q, hn, hy.up (by omega)⟩
  · cases hF : FA ps ys m with
    | nil => rw [hF] at h; cases h
    | cons x t =>
      cases t with
      | cons y t => rw [hF] at h; cases h
      | nil =>
        rw [hF] at h
        cases h
        obtain ⟨k, rfl, hk, al⟩ := FA_mem (show x ∈ FA ps ys m by rw [hF]; simp)
        rw [Int.toNat_natCast]
        have ol := oth_len hk
        have mm : (c + 113) * (oth ps k).length ≤ (c + 113) * 5 := Nat.mul_le_mul_left _ (by omega)
        refine ⟨mend_fits ha hk hn al, ?_, ?_⟩
        · unfold mend
          rw [mend_set ps ys (by omega), List.length_set, hn]
        · unfold mend
          rw [mend_set ps ys (by omega)]
          intro q hq
          rcases List.mem_or_eq_of_mem_set hq with hq | rfl
          · exact (hy q hq).up (by omega)
          · rw [getD_at hk]
            exact (ev_IPk_sq (pb.sub fun p hp => oth_mem hp) (pb.each _ (List.getElem_mem hk)) (oth_asc ha k) (by omega) he (fun q hq => hy q (oth_mem hq)) h0 _ (Nat.le_refl _)).up (by omega)
theorem law_repaired_ok {B : Int} {e c : Nat} {ps ys : List Rat} {d : Int} (pb : PB B e ps) (ha : ps.Pairwise (· < ·)) (hl : ps.length ≤ 6) (he : e ≤ 10) (hn : ys.length = ps.length) (hy : Sqs c ys) (h0 : 0 < c) (hc : c ≤ 80) (hd : 0 ≤ d) : law_repaired (ps.map fr) (ys.map fr) d (FA ps ys (d + 1).toNat) = .ok ((Rep ps ys (d + 1).toNat).map (List.map fr)) := by
  unfold law_repaired Rep
  rw [law_through_ok pb ha hl he hy h0 (by omega) hn, bdo, List.length_map]
  by_cases q : (trim (IP ps ys)).length ≤ (d + 1).toNat
  · rw [cT (decide_eq_true (by omega)), if_pos q]
    rfl
  · have big : (d + 1).toNat + 1 ≤ ps.length := by
      have := tl_le (IP ps ys) (IP ps ys).length
      rw [trim_len] at q
      rw [IP_len] at this q
      omega
    rw [cF (decide_eq_false (by omega)), if_neg q]
    cases hF : FA ps ys (d + 1).toNat with
    | nil => rfl
    | cons x t =>
      cases t with
      | cons y t =>
        rw [cT (c := !decide (((x :: y :: t).length : Int) = 1)) (by rw [decide_eq_false (by simp only [List.length_cons]; omega)]; rfl), bdo, cT rfl]
        rfl
      | nil =>
        obtain ⟨k, rfl, hk, al⟩ := FA_mem (show x ∈ FA ps ys (d + 1).toNat by rw [hF]; simp)
        have e1 : (k : Int) + 1 = ((k + 1 : Nat) : Int) := by omega
        have ol := oth_len hk
        have ol2 := oth_len (ps := ys) (i := k) (by omega)
        have pbo : PB B e (oth ps k) := pb.sub fun p hp => oth_mem hp
        have syo : Sqs c (oth ys k) := fun q hq => hy q (oth_mem hq)
        have asc := oth_asc ha k
        have oe : ∀ l : List Rat, (l.map fr).take k ++ (l.map fr).drop (k + 1) = (oth l k).map fr := fun l => by
          unfold oth
          rw [List.map_append, List.map_take, List.map_drop]
        have sI := IP_sq pbo asc (by omega) he syo h0
        have st : Sqs (1 + (c + 113) * 6) (trim (IP (oth ps k) (oth ys k))) := fun q hq => sI q (trim_mem hq)
        have tlen := tl_le (IP (oth ps k) (oth ys k)) (IP (oth ps k) (oth ys k)).length
        rw [← trim_len, IP_len] at tlen
        have mm : (e + (1 + (c + 113) * 6) + 1) * (trim (IP (oth ps k) (oth ys k))).length ≤ (e + (1 + (c + 113) * 6) + 1) * 5 := Nat.mul_le_mul_left _ (by omega)
        rw [cF (c := !decide ((([(k : Int)] : List Int).length : Int) = 1)) rfl, bdo, List.length_map, cF (decide_eq_false (by omega)), show getM [(k : Int)] (0 : Int) = .ok (k : Int) from rfl, bdo, e1, cut_take, cut_drop, cut_take, cut_drop, guard_ok (by rw [List.length_take, List.length_drop, List.length_map]; omega), bdo, guard_ok (by rw [List.length_take, List.length_drop, List.length_map]; omega), bdo, oe, oe, law_through_ok pbo asc (by omega) he syo h0 (by omega) (by omega), bdo, getM_map (List.getElem?_eq_getElem hk), bdo, law_worth_okA (rx_fr (pb.sq _ (List.getElem_mem hk))) _ st (by omega) (by omega), bdo, trim_ev, guard_ok (by rw [List.length_take, List.length_map, List.length_singleton]; omega), bdo, guard_ok (by rw [List.length_append, List.length_take, List.length_drop, List.length_map, List.length_singleton]; omega), bdo]
        show Mm.ok (some _) = Mm.ok (some ((mend ps ys ((k : Int)).toNat).map fr))
        rw [Int.toNat_natCast]
        unfold mend
        rw [getD_at hk, List.append_assoc, List.map_append, List.map_cons, List.map_take, List.map_drop]
        rfl
/-! ### the law of false readings by trying -/
theorem all2_of {c : Nat} : ∀ l : List (Int × Int), (∀ y ∈ l, Rx c y (rv y)) → All2 (fun q x => Rx c x q) (l.map rv) l
  | [], _ => .nil
  | y :: l, h => .cons (h y (List.mem_cons_self ..)) (all2_of l fun z hz => h z (List.mem_cons_of_mem _ hz))
theorem law_true (scr : List Int) (hl : scr.length ≤ 63) : law scr = .ok true := by
  suffices h : Yes (law scr) fun b => b = true by
    obtain ⟨b, e, rfl⟩ := h
    exact e
  unfold law
  refine (law_places_okA (N := 0) ⟨by decide, by decide, by decide, by decide⟩ (by decide) (by decide) (by decide)).bd fun d hd => ?_
  obtain ⟨⟨ps0, hd1, asc0, pb0, s50, pos0, len0⟩, rd⟩ := hd
  have hc : cutL d.1 none (some (6 : Int)) = (ps0.take 6).map fr := by
    rw [hd1, show (6 : Int) = ((6 : Nat) : Int) from rfl, cut_take, List.map_take]
  have pb : PB 30 10 (ps0.take 6) := pb0.sub fun p hp => List.mem_of_mem_take hp
  have asc := take_asc asc0 6
  have s5 : Sqs 5 (ps0.take 6) := fun p hp => s50 p (List.mem_of_mem_take hp)
  have pos : 0 < (ps0.take 6).length := by rw [List.length_take]; omega
  have l6 : (ps0.take 6).length ≤ 6 := by rw [List.length_take]; omega
  generalize ps0.take 6 = ps at hc pb asc s5 pos l6
  clear hd1 asc0 pb0 s50 pos0 len0
  refine (takenA_ok rd (by omega) (by omega) (by omega)).bd fun g hg => ?_
  have g1 := hg.1
  refine (takenA_ok hg.2 (by omega) (by omega) (by omega)).bd fun n hn => ?_
  have n1 := hn.1
  rw [range_ok (by omega) (by omega), bdo]
  refine .guard (by rw [rangeL_len]; omega) ?_
  refine (yes_draws 2 (fun x : Int × Int => Rx 4 x (rv x)) _ _ _ hn.2 (by rw [rangeL_len]; omega) fun s x M hx rk hM => ?_).bd fun t ht => ?_
  · refine (takenA_ok rk (by omega) (by omega) (by omega)).bd fun a ha => ?_
    refine (takenA_ok ha.2 (by omega) (by omega) (by omega)).bd fun b hb => ?_
    have a1 := ha.1
    have b1 := hb.1
    have e4 : (2 : Nat) ^ 4 = 16 := by decide
    exact .ok ⟨⟨by show 1 + b.1 ≠ 0; omega, by show (a.1 - 5).natAbs < _; omega, by show (1 + b.1).natAbs < _; omega, rfl⟩, hb.2⟩
  · obtain ⟨⟨t1, t2⟩, rt⟩ := ht
    rw [rangeL_len] at t1 rt
    have hq := all2_of t.1 t2
    have ql : (t.1.map rv).length ≤ 5 := by rw [List.length_map]; omega
    generalize t.1.map rv = qs at hq ql
    rw [hc]
    refine .guard (by rw [List.length_map]; omega) ?_
    have R0 : mapMm (fun (x80 : (Int × Int)) => (law_worth (t.1) (x80)).bd fun b99 => Mm.ok b99) (ps.map fr) = .ok ((ps.map fun p => ev qs p).map fr) := by
      rw [mapMm_map, mapMm_eq (g := fun p => fr (ev qs p)) _ fun p hp => by rw [law_worth_rxA (rx_fr (s5 p hp)) hq (by omega) (by omega), bdo], List.map_map]
      rfl
    have S0 : Sqs 51 (ps.map fun p => ev qs p) := fun q hq' => by
      obtain ⟨p, hp', rfl⟩ := List.mem_map.mp hq'
      exact (ev_sq (s5 p hp') qs (hq.left fun _ _ r => r.sq)).up (by omega)
    refine .eq R0 ?_
    refine (takenA_ok rt (by omega) (by omega) (by omega)).bd fun u hu => ?_
    have u1 := hu.1
    rw [range_ok (by omega) (by omega), bdo]
    refine (yes_fold (fun (s : List (Int × Int) × Rw) (l : List Int) => (∃ ys : List Rat, s.1 = ys.map fr ∧ Sqs (59 - 4 * l.length) ys ∧ ys.length = ps.length) ∧ l.length ≤ 2 ∧ ∃ K, Rk K s.2 ∧ K + 2 * l.length ≤ 200) _ _ ⟨⟨ps.map fun p => ev qs p, rfl, S0.up (by rw [rangeL_len]; omega), by rw [List.length_map]⟩, by rw [rangeL_len]; omega, _, hu.2, by rw [rangeL_len]; omega⟩ fun s x l hs => ?_).bd fun z hz => ?_
    · obtain ⟨⟨ys, y1, y2, y3⟩, hl2, K, rK, hK⟩ := hs
      rw [List.length_cons] at y2 hl2 hK
      obtain ⟨s1, s2⟩ := s
      subst y1
      refine (takenA_ok rK (by rw [List.length_map]; omega) (by rw [List.length_map]; omega) (by omega)).bd fun v hv => ?_
      have v1 := hv.1
      rw [List.length_map] at v1
      have ve : v.1 = ((v.1.toNat : Nat) : Int) := by omega
      have gi := getM_map (f := fr) (List.getElem?_eq_getElem (l := ys) (i := v.1.toNat) (by omega))
      rw [← ve] at gi
      refine .eq gi ?_
      refine (takenA_ok hv.2 (by omega) (by omega) (by omega)).bd fun o ho => ?_
      have o1 := ho.1
      have e3 : (2 : Nat) ^ 3 = 8 := by decide
      have sy := y2 _ (List.getElem_mem (l := ys) (n := v.1.toNat) (by omega))
      have ii : Rx 3 (1 + o.1, (1 : Int)) ((1 + o.1 : Int) : Rat) := rx_int (by omega) (by decide)
      refine .eq (law_add_x (rx_fr sy) ii (by omega)) (.eq (setM_ok _ (by omega) (by rw [List.length_map]; omega)) (.ok ⟨⟨ys.set v.1.toNat (ys[v.1.toNat]'(by omega) + ((1 + o.1 : Int) : Rat)), by rw [List.map_set], ?_, by rw [List.length_set]; exact y3⟩, by omega, K + 2, ho.2, by omega⟩))
      intro q hq
      rcases List.mem_or_eq_of_mem_set hq with hq | rfl
      · exact (y2 q hq).up (by omega)
      · exact sq_add sy ii.sq (by omega)
    · obtain ⟨⟨ys, y1, y2, y3⟩, hl2, K, rK, hK⟩ := hz
      rw [List.length_nil] at y2 hK
      obtain ⟨z1, z2⟩ := z
      subst y1
      refine (law_wide_okA rK (All2.self (g := fr) ps fun q hq => rx_fr (s5 q hq)) (by omega) (by decide) (by omega)).bd fun w hw => ?_
      refine (law_wide_okA hw.2 (All2.self (g := fr) ys fun q hq => rx_fr (y2 q hq)) (by omega) (by decide) (by omega)).bd fun w2 hw2 => ?_
      have rp : All2 (fun p x => Rx 30 x p) ps w.1 := hw.1.mono fun p x r => r.up (by decide)
      have ry : All2 (fun p x => Rx 61 x p) ys w2.1 := hw2.1
      have fr0 : FR 30 10 61 w.1 w2.1 ps ys := ⟨rp, ry, pb, asc, l6, pos, y3, by decide, by decide, by decide⟩
      have dd0 : (0 : Int) ≤ g.1 := g1.1
      have dd4 : g.1 ≤ 4 := by omega
      have sy : Sqs 59 ys := y2
      refine .eq (polynomial_by_x rp ry pb asc l6 pos y3 (by decide) (by decide) (by decide)) ?_
      refine .eq (law_through_ok pb asc l6 (by decide) sy (by decide) (by decide) y3) ?_
      rw [cF (c := !decide ((trim (IP ps ys)).map fr = (trim (IP ps ys)).map fr)) (by rw [decide_eq_true rfl]; rfl), List.length_map, rangeM_ok (by omega), bdo, Int.toNat_natCast]
      have F := fold_append (f := fun (b254 : ((List Int) × Rw)) (x255 : Int) => (guardM ((cutL (ps.map fr) none (some x255)).length + (cutL (ps.map fr) (some (x255 + (1 : Int))) none).length ≤ 100000)).bd fun _ => (guardM ((cutL (ys.map fr) none (some x255)).length + (cutL (ys.map fr) (some (x255 + (1 : Int))) none).length ≤ 100000)).bd fun _ => (law_through (((cutL (ps.map fr) none (some x255)) ++ (cutL (ps.map fr) (some (x255 + (1 : Int))) none))) (((cutL (ys.map fr) none (some x255)) ++ (cutL (ys.map fr) (some (x255 + (1 : Int))) none)))).bd fun b331 => cond (decide ((b331.length : Int) ≤ (g.1 + (1 : Int)))) ((guardM (b254.1.length < 100000)).bd fun _ => Mm.ok ((b254.1 ++ [x255]), b254.2)) (Mm.ok (b254.1, b254.2))) (P := alone ps ys (g.1 + 1).toNat) (r := w2.2) (n := ps.length) (fun acc k hk hacc => by
        have e1 : (k : Int) + 1 = ((k + 1 : Nat) : Int) := by omega
        have oe : ∀ l : List Rat, (l.map fr).take k ++ (l.map fr).drop (k + 1) = (oth l k).map fr := fun l => by
          unfold oth
          rw [List.map_append, List.map_take, List.map_drop]
        have ol := oth_len hk
        have ol2 := oth_len (ps := ys) (i := k) (by omega)
        have LT := law_through_ok (ys := oth ys k) (pb.sub fun p hp => oth_mem hp) (oth_asc asc k) (by omega) (by decide) (fun q hq => sy q (oth_mem hq)) (by decide) (by decide) (by omega)
        show (guardM _).bd _ = _
        rw [e1, cut_take, cut_drop, cut_take, cut_drop, guard_ok (by rw [List.length_take, List.length_drop, List.length_map]; omega), bdo, guard_ok (by rw [List.length_take, List.length_drop, List.length_map]; omega), bdo, oe, oe, LT, bdo, List.length_map]
        have ea : decide (((trim (IP (oth ps k) (oth ys k))).length : Int) ≤ g.1 + 1) = alone ps ys (g.1 + 1).toNat k := decide_eq_decide.mpr (by omega)
        rw [ea]
        cases alone ps ys (g.1 + 1).toNat k with
        | true =>
          rw [cT rfl]
          show (guardM (acc.length < 100000)).bd _ = _
          rw [guard_ok (by omega), bdo]
          rfl
        | false =>
          rw [cF rfl]
          show Mm.ok (acc, w2.2) = Mm.ok (acc ++ [], w2.2)
          rw [List.append_nil]) ps.length 0 [] (by omega) (by simp)
      rw [List.nil_append, show (((0 : Nat) : Nat) : Int) = 0 from rfl, show ((rangeL 0 ps.length).filterMap fun x => if alone ps ys (g.1 + 1).toNat x.toNat then some x else none) = FA ps ys (g.1 + 1).toNat from rfl] at F
      refine .eq F ?_
      refine .eq (false_ones_ok fr0 dd0 dd4) ?_
      rw [cF (c := !decide (FA ps ys (g.1 + 1).toNat = FA ps ys (g.1 + 1).toNat)) (by rw [decide_eq_true rfl]; rfl)]
      refine .eq (repaired_ok fr0 dd0 dd4) ?_
      refine .eq (law_repaired_ok pb asc l6 (by decide) y3 sy (by decide) (by decide) dd0) ?_
      rw [cF (c := !decide ((Rep ps ys (g.1 + 1).toNat).map (List.map fr) = (Rep ps ys (g.1 + 1).toNat).map (List.map fr))) (by rw [decide_eq_true rfl]; rfl)]
      cases hR : Rep ps ys (g.1 + 1).toNat with
      | none => exact .ok rfl
      | some zs =>
        obtain ⟨r1, r2, r3⟩ := Rep_some pb asc l6 (by decide) y3 sy (by decide) (by decide) hR
        have rpp : All2 (fun p x => Rx 30 x p) ps (ps.map fr) := All2.self (g := fr) ps fun q hq => (rx_fr (s5 q hq)).up (by decide)
        have rzz : All2 (fun p x => Rx 1000 x p) zs (zs.map fr) := All2.self (g := fr) zs fun q hq => rx_fr (r3 q hq)
        rw [cF (c := (Option.map (List.map fr) (some zs)).isNone) rfl]
        refine .eq (show getO (Option.map (List.map fr) (some zs)) = .ok (zs.map fr) from rfl) ?_
        refine .eq (polynomial_by_x rpp rzz pb asc l6 pos r2 (by decide) (by decide) (by decide)) ?_
        rw [List.length_map, cT (decide_eq_true (by omega))]
        refine .eq (repaired_fits rpp rzz pb asc l6 pos r2 (by decide) (by decide) (by decide) dd0 dd4 r1) ?_
        exact .ok (decide_eq_true rfl)
end L

theorem PySem.Challenge.cw_fewreadings_k72_whole_false_readings_by_holds : PySem.Challenge.rw_fewreadings_k72_whole_false_readings_by.Holds := by
  exact L.of_law L.law_true
