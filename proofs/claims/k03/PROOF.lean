import PyProof.Rows.All
import Wide.All
import OpenK.AllK
import Wide.FinOn
import HandS.ForMost
import HandS.ForExc
import HandS.Walk
import HandS.Wide
import HandS.Evl
import HandS.Deep
import HandS.Gcd
import HandS.TupAny
import HandS.Strs
import HandS.Defaults
import KE.GoesMore
import HandS.IsInst
import HandS.Property
import HandS.SetFor
import HandS.Head0
import HandS.Head1
import HandS.Head2
import HandS.HeadEnd
import HandS.HeadHook1
import HandS.HeadHook2
import HandS.HeadNt
import HandS.Ends
import HandS.Head3
import HandS.Star
import HandS.Style
import HandS.Iter
import HandS.List
import PySem.Challenge.RW_fewreadings_k03_whole_sums_by_own_adding
set_option Elab.async false
set_option linter.all false
set_option maxRecDepth 100000
set_option maxHeartbeats 4000000
namespace Wk
open PySem L2 Evl

/-! ### outcomes -/
structure Er where
  c : Nat
  fs : List Int
inductive Mm (α : Type) where
  | ok (a : α)
  | ex (e : Er)
  | bad
def Mm.bd {α β : Type} (m : Mm α) (f : α → Mm β) : Mm β := match m with
  | .ok a => f a
  | .ex e => .ex e
  | .bad => .bad
def Out {α : Type} (m : Mm α) (p : α → Prop) (q : Er → Prop) : Prop := match m with
  | .ok a => p a
  | .ex e => q e
  | .bad => False
/-- what holds of an outcome -/
structure Post {α : Type} (m : Mm α) (p : α → Prop) (q : Er → Prop) : Prop where
  h : Out m p q
section
variable {α β : Type} {m : Mm α} {f : α → Mm β} {p : α → Prop} {r : β → Prop} {q : Er → Prop}
theorem post_bd (h : Post (m.bd f) r q) : Post m (fun a => Post (f a) r q) q := by
  cases m with
  | ok a => exact ⟨⟨h.h⟩⟩
  | ex e => exact ⟨h.h⟩
  | bad => exact ⟨h.h⟩
theorem Post.mono {p' : α → Prop} {q' : Er → Prop} (h : Post m p q) (hp : ∀ a, p a → p' a) (hq : ∀ e, q e → q' e) : Post m p' q' := by
  cases m with
  | ok a => exact ⟨hp a h.h⟩
  | ex e => exact ⟨hq e h.h⟩
  | bad => exact ⟨h.h⟩
theorem Post.of_ok {a : α} (e : m = .ok a) (h : p a) : Post m p q := by
  rw [e]; exact ⟨h⟩
theorem Post.elim {C : Prop} (h : Post (Mm.bad : Mm α) p q) : C := h.h.elim
theorem post_ok {a : α} (h : Post (.ok a) p q) : p a := h.h
end
@[simp] theorem bd_ok {α β : Type} (a : α) (f : α → Mm β) : (Mm.ok a).bd f = f a := rfl
@[simp] theorem bd_ex {α β : Type} (e : Er) (f : α → Mm β) : (Mm.ex e : Mm α).bd f = .ex e := rfl
@[simp] theorem bd_bad {α β : Type} (f : α → Mm β) : (Mm.bad : Mm α).bd f = .bad := rfl
def guardM (c : Prop) [Decidable c] : Mm Unit := if c then .ok () else .bad
instance {i j : Int} : Decidable (CMulW i j) := by unfold CMulW; exact inferInstance
instance {i j : Int} : Decidable (CDivW i j) := by unfold CDivW; exact inferInstance
def CDv (_ j : Int) : Prop := j ≠ 0 ∧ j.natAbs.log2 < 9000
instance {i j : Int} : Decidable (CDv i j) := by unfold CDv; exact inferInstance
def mulM (i j : Int) : Mm Int := if CMulW i j then .ok (i * j) else .bad
def divM (i j : Int) : Mm Int := if CDv i j then .ok (i.fdiv j) else .bad
def modM (i j : Int) : Mm Int := if j ≠ 0 then .ok (i.fmod j) else .bad
def getM {α : Type} (xs : List α) (i : Int) : Mm α := match atI xs i with
  | some a => .ok a
  | none => .bad
section
variable {β : Type} {f : Int → Mm β} {r : β → Prop} {q : Er → Prop} {i j : Int}
theorem post_mul (h : Post ((mulM i j).bd f) r q) : ∃ m, CMulW i j ∧ i * j = m ∧ Post (f m) r q := by
  unfold mulM at h
  split at h
  · exact ⟨_, ‹_›, rfl, ⟨h.h⟩⟩
  · exact h.h.elim
theorem post_div (h : Post ((divM i j).bd f) r q) : ∃ m, CDv i j ∧ i.fdiv j = m ∧ Post (f m) r q := by
  unfold divM at h
  split at h
  · exact ⟨_, ‹_›, rfl, ⟨h.h⟩⟩
  · exact h.h.elim
theorem post_mod (h : Post ((modM i j).bd f) r q) : ∃ m, j ≠ 0 ∧ i.fmod j = m ∧ Post (f m) r q := by
  unfold modM at h
  split at h
  · exact ⟨_, ‹_›, rfl, ⟨h.h⟩⟩
  · exact h.h.elim
theorem post_get {α : Type} {xs : List α} {f : α → Mm β} (h : Post ((getM xs i).bd f) r q) : ∃ a, atI xs i = some a ∧ Post (f a) r q := by
  unfold getM at h
  split at h
  · exact ⟨_, ‹_›, ⟨h.h⟩⟩
  · exact h.h.elim
theorem post_guard {c : Prop} [Decidable c] {f : Unit → Mm β} (h : Post ((guardM c).bd f) r q) : c ∧ Post (f ()) r q := by
  unfold guardM at h
  split at h
  · exact ⟨‹_›, ⟨h.h⟩⟩
  · exact h.h.elim
end
section
variable {X : Cx}
theorem op_divM : OpR X (binaryOp .FloorDiv) (fun x y H Q => ∃ i j m, x = .int i ∧ y = .int j ∧ CDv i j ∧ i.fdiv j = m ∧ Q (.int m) H) := by
  intro pins s σ H x y v u Q I rx ry h
  obtain ⟨i, j, m, rfl, rfl, c, rfl, q⟩ := h
  exact (opI (C := CDv) (g := fun i j => i.fdiv j) fun i j _ _ _ _ _ hc q => PyProof.Rows.floordiv_int hc.1 q (.inl (PyProof.noPylong_of_log2 hc.2))) pins s σ H _ _ v u Q I rx ry ⟨i, j, rfl, rfl, c, q⟩
theorem op_mulM : OpR X (binaryOp .Mult) (fun x y H Q => ∃ i j m, x = .int i ∧ y = .int j ∧ CMulW i j ∧ i * j = m ∧ Q (.int m) H) := by
  intro pins s σ H x y v u Q I rx ry h
  obtain ⟨i, j, m, rfl, rfl, c, rfl, q⟩ := h
  exact op_mulW pins s σ H _ _ v u Q I rx ry ⟨i, j, rfl, rfl, c, q⟩
theorem op_modM : OpR X (binaryOp .Mod) (fun x y H Q => ∃ i j m, x = .int i ∧ y = .int j ∧ j ≠ 0 ∧ i.fmod j = m ∧ Q (.int m) H) := by
  intro pins s σ H x y v u Q I rx ry h
  obtain ⟨i, j, m, rfl, rfl, c, rfl, q⟩ := h
  exact op_modN pins s σ H _ _ v u Q I rx ry ⟨i, j, rfl, rfl, c, q⟩
theorem pe_gint {x : Str} {i : Int} {pos : Pos} (h : ∃ t, X.mg x = some (.int i t)) (hg : Gl X x := by rfl) (hd : (x == ("__debug__" : Str)) = false := by decide) : PE X (.Name x pos) (tC (.int i)) := by
  obtain ⟨t, h⟩ := h
  exact pe_glob hg h ⟨t, rfl⟩ hd
theorem pe_gref {x : Str} {a : Addr} {pos : Pos} (h : X.mg x = some (.ref a)) (hg : Gl X x := by rfl) (hd : (x == ("__debug__" : Str)) = false := by decide) : PE X (.Name x pos) (tC (.ref a)) := pe_glob hg h rfl hd
end

/-! ### heaps: F what is fixed, H all -/
structure Gm (M : List Addr) (F H F' H' : Hp) : Prop where
  f : Ex F F'
  s : Ex F' H'
  h : ∀ a o, a ∉ M → H a = some o → H' a = some o
  n : ∀ a o, H a = some o → F a = none → F' a = none
  m : ∀ a o, H a = some o → ∃ o', H' a = some o'
section
variable {M : List Addr} {F H F1 H1 F2 H2 : Hp}
theorem Gm.refl (e : Ex F H) : Gm M F H F H := ⟨Ex.refl _, e, fun _ _ _ h => h, fun _ _ _ h => h, fun _ o h => ⟨o, h⟩⟩
theorem Gm.trans (a : Gm M F H F1 H1) (b : Gm M F1 H1 F2 H2) : Gm M F H F2 H2 :=
  ⟨a.f.trans b.f, b.s, fun x o hx h => b.h x o hx (a.h x o hx h), fun x o h hf => by
    obtain ⟨o', h'⟩ := a.m x o h
    exact b.n x o' h' (a.n x o h hf), fun x o h => by
    obtain ⟨o', h'⟩ := a.m x o h
    exact b.m x o' h'⟩
theorem Gm.up (a : Gm [] F H F1 H1) : Gm M F H F1 H1 := ⟨a.f, a.s, fun x o _ h => a.h x o (by simp) h, a.n, a.m⟩
/-- an owned object of the caller's that the callee leaves -/
theorem Gm.own (a : Gm M F H F1 H1) {p : Addr} {o : HO} (hp : p ∉ M) (h : H p = some o) (f : F p = none) : H1 p = some o ∧ F1 p = none := ⟨a.h p o hp h, a.n p o h f⟩
theorem Gm.fresh (a : Gm M F H F1 H1) {p : Addr} (h : H1 p = none) : H p = none := by
  cases e : H p with
  | none => rfl
  | some o =>
    obtain ⟨o', h'⟩ := a.m p o e
    rw [h] at h'
    cases h'
/-- a new fixed object -/
theorem Gm.new (e : Ex F H) {p : Addr} {o : HO} (h : H p = none) : Gm M F H (upd F p o) (upd H p o) := by
  have hf : F p = none := by
    cases q : F p with
    | none => rfl
    | some u => rw [e p u q] at h; cases h
  refine ⟨Ex.new hf, fun a u ha => ?_, fun a u _ ha => ?_, fun a u ha hn => ?_, fun a u ha => ?_⟩
  · by_cases q : a = p
    · subst q; rw [upd_same] at ha ⊢; exact ha
    · rw [upd_ne q] at ha ⊢; exact e a u ha
  · rw [upd_ne (ne_of_none ha h)]; exact ha
  · rw [upd_ne (ne_of_none ha h)]; exact hn
  · exact ⟨u, by rw [upd_ne (ne_of_none ha h)]; exact ha⟩
/-- a new object that may change -/
theorem Gm.newM (e : Ex F H) {p : Addr} {o : HO} (h : H p = none) : Gm M F H F (upd H p o) := by
  refine ⟨Ex.refl _, fun a u ha => ?_, fun a u _ ha => ?_, fun a u ha hn => hn, fun a u ha => ?_⟩
  · rw [upd_ne (ne_of_none (e a u ha) h)]; exact e a u ha
  · rw [upd_ne (ne_of_none ha h)]; exact ha
  · exact ⟨u, by rw [upd_ne (ne_of_none ha h)]; exact ha⟩
/-- an own object changes -/
theorem Gm.put (e : Ex F H) {p : Addr} {o u : HO} (h : H p = some u) (hf : F p = none) : Gm (p :: M) F H F (upd H p o) := by
  refine ⟨Ex.refl _, fun a u ha => ?_, fun a u hM ha => ?_, fun a u ha hn => hn, fun a u ha => ?_⟩
  · have q : a ≠ p := fun q => by rw [q, hf] at ha; cases ha
    rw [upd_ne q]; exact e a u ha
  · have q : a ≠ p := fun q => hM (by rw [q]; simp)
    rw [upd_ne q]; exact ha
  · by_cases q : a = p
    · subst q; exact ⟨o, upd_same⟩
    · exact ⟨u, by rw [upd_ne q]; exact ha⟩
/-- a change of an object that is younger than F0 H0 -/
theorem Gm.putYoung {F0 H0 : Hp} (g : Gm M F0 H0 F H) {p : Addr} {o u : HO} (h : H p = some u) (hf : F p = none) (h0 : H0 p = none) : Gm M F0 H0 F (upd H p o) := by
  refine ⟨g.f, fun a u ha => ?_, fun a u hM ha => ?_, g.n, fun a u ha => ?_⟩
  · have q : a ≠ p := fun q => by rw [q, hf] at ha; cases ha
    rw [upd_ne q]; exact g.s a u ha
  · have q : a ≠ p := fun q => by rw [q, h0] at ha; cases ha
    rw [upd_ne q]; exact g.h a u hM ha
  · by_cases q : a = p
    · subst q; exact ⟨o, upd_same⟩
    · obtain ⟨o', h'⟩ := g.m a u ha
      exact ⟨o', by rw [upd_ne q]; exact h'⟩
/-- an own young object is fixed -/
theorem Gm.fix {F0 H0 : Hp} (g : Gm M F0 H0 F H) {p : Addr} {o : HO} (h : H p = some o) (hf : F p = none) (h0 : H0 p = none) : Gm M F0 H0 (upd F p o) H := by
  refine ⟨fun a u ha => ?_, fun a u ha => ?_, g.h, fun a u ha hn => ?_, g.m⟩
  · have q : a ≠ p := fun q => by
      have z := g.f a u ha
      rw [q, hf] at z; cases z
    rw [upd_ne q]; exact g.f a u ha
  · by_cases q : a = p
    · subst q; rw [upd_same] at ha; rw [h]; exact ha
    · rw [upd_ne q] at ha; exact g.s a u ha
  · have q : a ≠ p := fun q => by rw [q, h0] at ha; cases ha
    rw [upd_ne q]; exact g.n a u ha hn
end

/-- what follows an answer -/
def Ret (M : List Addr) (F H : Hp) (S : Hp → Hp → V → Prop) (Q : VK) : Prop := ∀ v F' H', Gm M F H F' H' → S F' H' v → Q v H'
theorem Ret.then_ {M : List Addr} {F H F1 H1 : Hp} {S : Hp → Hp → V → Prop} {Q : VK} (k : Ret M F H S Q) (g : Gm M F H F1 H1) : Ret M F1 H1 S Q := fun v F' H' g' s => k v F' H' (g.trans g') s

/-! ### data -/
mutual
inductive Dq (K : PySem.W.Frag) (H : Hp) : V → PyData → Prop
  | non : Dq K H .non .none
  | bl (b : Bool) : Dq K H (.bl b) (.bool b)
  | int (i : Int) : Dq K H (.int i) (.int i)
  | str (x : Str) : Dq K H (.str x) (.str x)
  | lst {a : Addr} {xs : List V} {ds : List PyData} : H a = some (.lst xs) → DqAll K H xs ds → Dq K H (.ref a) (.list ds)
  | tup {a : Addr} {xs : List V} {ds : List PyData} : SqT K H a xs → DqAll K H xs ds → Dq K H (.ref a) (.tuple ds)
inductive DqAll (K : PySem.W.Frag) (H : Hp) : List V → List PyData → Prop
  | nil : DqAll K H [] []
  | cons {v : V} {vs : List V} {d : PyData} {ds : List PyData} : Dq K H v d → DqAll K H vs ds → DqAll K H (v :: vs) (d :: ds)
end
section
variable {K : PySem.W.Frag} {F F' H H' : Hp}
mutual
theorem dp_mono (e : Ex F F') : ∀ (d : PyData) (v : V), Dq K F v d → Dq K F' v d
  | .none, _, .non => .non
  | .bool _, _, .bl b => .bl b
  | .int _, _, .int i => .int i
  | .str _, _, .str x => .str x
  | .list ds, _, .lst h a => .lst (e _ _ h) (dpAll_mono e ds _ a)
  | .tuple ds, _, .tup h a => .tup (ex_t e h) (dpAll_mono e ds _ a)
  | .dict _, _, h => by cases h
theorem dpAll_mono (e : Ex F F') : ∀ (ds : List PyData) (vs : List V), DqAll K F vs ds → DqAll K F' vs ds
  | [], _, .nil => .nil
  | d :: ds, _, .cons h a => .cons (dp_mono e d _ h) (dpAll_mono e ds _ a)
end
mutual
theorem dq_dp : ∀ (d : PyData) (v : V), Dq K F v d → Dp K F v d
  | .none, _, .non => .non
  | .bool _, _, .bl b => .bl b
  | .int _, _, .int i => .int i
  | .str _, _, .str x => .str x
  | .list ds, _, .lst h a => .lst (sq_of h) (dqAll_dp ds _ a)
  | .tuple ds, _, .tup h a => .tup h (dqAll_dp ds _ a)
  | .dict _, _, h => by cases h
theorem dqAll_dp : ∀ (ds : List PyData) (vs : List V), DqAll K F vs ds → DpAll K F vs ds
  | [], _, .nil => .nil
  | d :: ds, _, .cons h a => .cons (dq_dp d _ h) (dqAll_dp ds _ a)
end
theorem _root_.Wk.Dq.dp {v : V} {d : PyData} (h : Dq K F v d) (e : Ex F F') : Dp K F' v d := dq_dp d v (dp_mono e d v h)
theorem _root_.Wk.Dq.up {v : V} {d : PyData} (h : Dq K F v d) (e : Ex F F') : Dq K F' v d := dp_mono e d v h
theorem _root_.Wk.DqAll.up {v : List V} {d : List PyData} (h : DqAll K F v d) (e : Ex F F') : DqAll K F' v d := dpAll_mono e d v h
theorem _root_.Wk.DqAll.len {vs : List V} {ds : List PyData} (h : DqAll K F vs ds) : vs.length = ds.length := by
  induction ds generalizing vs with
  | nil => cases h; rfl
  | cons d ds ih => cases h with | cons h a => simp [ih a]
theorem _root_.Wk.DqAll.get {vs : List V} {ds : List PyData} (h : DqAll K F vs ds) : ∀ {i : Nat} {d : PyData}, ds[i]? = some d → ∃ v, vs[i]? = some v ∧ Dq K F v d := by
  induction ds generalizing vs with
  | nil => intro i d e; simp at e
  | cons d ds ih =>
    cases h with
    | cons h a =>
      intro i x e
      cases i with
      | zero => simp at e; subst e; exact ⟨_, rfl, h⟩
      | succ i => simpa using ih a (by simpa using e)
theorem _root_.Wk.DqAll.getV {vs : List V} {ds : List PyData} (h : DqAll K F vs ds) : ∀ {i : Nat} {v : V}, vs[i]? = some v → ∃ d, ds[i]? = some d ∧ Dq K F v d := by
  induction ds generalizing vs with
  | nil => cases h; intro i d e; simp at e
  | cons d ds ih =>
    cases h with
    | cons h a =>
      intro i x e
      cases i with
      | zero => simp at e; subst e; exact ⟨_, rfl, h⟩
      | succ i => simpa using ih a (by simpa using e)
theorem _root_.Wk.DqAll.app {vs ws : List V} {ds es : List PyData} (h : DqAll K F vs ds) (h2 : DqAll K F ws es) : DqAll K F (vs ++ ws) (ds ++ es) := by
  induction ds generalizing vs with
  | nil => cases h; exact h2
  | cons d ds ih => cases h with | cons h a => exact .cons h (ih a)
theorem _root_.Wk.DqAll.take {vs : List V} {ds : List PyData} (h : DqAll K F vs ds) : ∀ n, DqAll K F (vs.take n) (ds.take n) := by
  induction ds generalizing vs with
  | nil => cases h; intro n; simp; exact .nil
  | cons d ds ih =>
    cases h with
    | cons h a =>
      intro n
      cases n with
      | zero => exact .nil
      | succ n => exact .cons h (ih a n)
theorem _root_.Wk.DqAll.drop {vs : List V} {ds : List PyData} (h : DqAll K F vs ds) : ∀ n, DqAll K F (vs.drop n) (ds.drop n) := by
  induction ds generalizing vs with
  | nil => cases h; intro n; simp; exact .nil
  | cons d ds ih =>
    cases h with
    | cons h a =>
      intro n
      cases n with
      | zero => exact .cons h a
      | succ n => exact ih a n
theorem dp_int {v : V} {i : Int} (h : Dq K F v (.int i)) : v = .int i := by cases h; rfl
theorem dp_bl {v : V} {b : Bool} (h : Dq K F v (.bool b)) : v = .bl b := by cases h; rfl
theorem dp_non {v : V} (h : Dq K F v .none) : v = .non := by cases h; rfl
theorem dp_str {v : V} {x : Str} (h : Dq K F v (.str x)) : v = .str x := by cases h; rfl
theorem dp_lst {v : V} {ds : List PyData} (h : Dq K F v (.list ds)) : ∃ p xs, v = .ref p ∧ F p = some (.lst xs) ∧ DqAll K F xs ds := by
  cases h with | lst h a => exact ⟨_, _, rfl, h, a⟩
theorem dp_tup {v : V} {ds : List PyData} (h : Dq K F v (.tuple ds)) : ∃ p xs, v = .ref p ∧ SqT K F p xs ∧ DqAll K F xs ds := by
  cases h with | tup h a => exact ⟨_, _, rfl, h, a⟩
theorem dp_tup2 {v : V} {d e : PyData} (h : Dq K F v (.tuple [d, e])) : ∃ p x y, v = .ref p ∧ SqT K F p [x, y] ∧ Dq K F x d ∧ Dq K F y e := by
  obtain ⟨p, xs, rfl, hs, a⟩ := dp_tup h
  cases a with | cons h1 a => cases a with | cons h2 a => cases a; exact ⟨p, _, _, rfl, hs, h1, h2⟩
theorem dp_tup3 {v : V} {d e f : PyData} (h : Dq K F v (.tuple [d, e, f])) : ∃ p x y z, v = .ref p ∧ SqT K F p [x, y, z] ∧ Dq K F x d ∧ Dq K F y e ∧ Dq K F z f := by
  obtain ⟨p, xs, rfl, hs, a⟩ := dp_tup h
  cases a with | cons h1 a => cases a with | cons h2 a => cases a with | cons h3 a => cases a; exact ⟨p, _, _, _, rfl, hs, h1, h2, h3⟩
end

/-! ### new tuples, new lists -/
section
variable {K : PySem.W.Frag} {M : List Addr} {F H : Hp} {Q : VK} {xs : List V} {ds : List PyData}
theorem new_tup (e : Ex F H) (a : DqAll K F xs ds) (hl : xs.length ≤ 100000) (k : Ret M F H (fun F' _ v => Dq K F' v (.tuple ds)) Q) : xs.length ≤ sizeLine ∧ ∀ p, H p = none → Q (.ref p) (upd H p (.tup xs)) :=
  ⟨sz_of hl, fun p hp => by
    have g : Gm M F H (upd F p (.tup xs)) (upd H p (.tup xs)) := Gm.new e hp
    exact k _ _ _ g (.tup (st_of upd_same) (a.up g.f))⟩
theorem new_lst (e : Ex F H) (a : DqAll K F xs ds) (hl : xs.length ≤ 100000) (k : Ret M F H (fun F' _ v => Dq K F' v (.list ds)) Q) : xs.length ≤ sizeLine ∧ ∀ p, H p = none → Q (.ref p) (upd H p (.lst xs)) :=
  ⟨sz_of hl, fun p hp => by
    have g : Gm M F H (upd F p (.lst xs)) (upd H p (.lst xs)) := Gm.new e hp
    exact k _ _ _ g (.lst upd_same (a.up g.f))⟩
end

/-! ### encoders -/
def eN (_ : Unit) : PyData := .none
def e2 {α β : Type} (f : α → PyData) (g : β → PyData) (p : α × β) : PyData := .tuple [f p.1, g p.2]
def e1 {α : Type} (f : α → PyData) (p : α) : PyData := .tuple [f p]
def e3 {α β γ : Type} (f : α → PyData) (g : β → PyData) (h : γ → PyData) (p : α × β × γ) : PyData := .tuple [f p.1, g p.2.1, h p.2.2]
def eL {α : Type} (f : α → PyData) (l : List α) : PyData := .list (l.map f)
def eV {α : Type} (f : α → PyData) (l : List α) : PyData := .tuple (l.map f)
def eO {α : Type} (f : α → PyData) (o : Option α) : PyData := match o with
  | none => .none
  | some a => f a
/-- data of a depth at most n whose equality is that of the values -/
structure Sh {α : Type} [DecidableEq α] (f : α → PyData) (n : Nat) : Prop where
  lay : ∀ a, (f a).canLay0 = true
  dep : ∀ a, (f a).depth ≤ n
  eq : ∀ a b, PyData.eqv (f a) (f b) = decide (a = b)
section
variable {α β γ : Type} [DecidableEq α] [DecidableEq β] [DecidableEq γ] {f : α → PyData} {g : β → PyData} {h : γ → PyData} {n m k : Nat}
theorem Sh.shaped (s : Sh f n) (hn : n ≤ 64 := by decide) (a : α) : SeqAt.shaped (f a) = true := by
  unfold SeqAt.shaped
  rw [s.lay a, Bool.true_and]
  exact decide_eq_true (Nat.le_trans (s.dep a) hn)
theorem sh_int : Sh PyData.int 0 := ⟨fun _ => by simp [PyData.canLay0], fun _ => by simp [PyData.depth], fun a b => by simp only [PyData.eqv]; exact Bool.eq_iff_iff.mpr (by simp)⟩
theorem sh_bool : Sh PyData.bool 0 := ⟨fun _ => by simp [PyData.canLay0], fun _ => by simp [PyData.depth], fun a b => by simp only [PyData.eqv]; exact Bool.eq_iff_iff.mpr (by simp)⟩
theorem sh_n : Sh eN 0 := ⟨fun _ => by simp [eN, PyData.canLay0], fun _ => by simp [eN, PyData.depth], fun a b => by simp [eN, PyData.eqv]⟩
theorem sh_e2 (a : Sh f n) (b : Sh g m) : Sh (e2 f g) (max n m + 1) := ⟨fun x => by simp [e2, PyData.canLay0, PyData.canLayAll0, a.lay, b.lay], fun x => by
    have := a.dep x.1
    have := b.dep x.2
    simp [e2, PyData.depth, PyData.depthAll]
    omega, fun x y => by
    obtain ⟨x1, x2⟩ := x
    obtain ⟨y1, y2⟩ := y
    simp only [e2, PyData.eqv, PyData.eqvAll, a.eq, b.eq]
    exact Bool.eq_iff_iff.mpr (by simp)⟩
theorem sh_e3 (a : Sh f n) (b : Sh g m) (c : Sh h k) : Sh (e3 f g h) (max (max n m) k + 1) := ⟨fun x => by simp [e3, PyData.canLay0, PyData.canLayAll0, a.lay, b.lay, c.lay], fun x => by
    have := a.dep x.1
    have := b.dep x.2.1
    have := c.dep x.2.2
    simp [e3, PyData.depth, PyData.depthAll]
    omega, fun x y => by
    obtain ⟨x1, x2, x3⟩ := x
    obtain ⟨y1, y2, y3⟩ := y
    simp only [e3, PyData.eqv, PyData.eqvAll, a.eq, b.eq, c.eq]
    exact Bool.eq_iff_iff.mpr (by simp)⟩
theorem lay_map (a : Sh f n) : ∀ l : List α, PyData.canLayAll0 (l.map f) = true
  | [] => by simp [PyData.canLayAll0]
  | x :: l => by simp [PyData.canLayAll0, a.lay, lay_map a l]
theorem dep_map (a : Sh f n) : ∀ l : List α, PyData.depthAll (l.map f) ≤ n
  | [] => by simp [PyData.depthAll]
  | x :: l => by
    have := a.dep x
    have := dep_map a l
    simp [PyData.depthAll]
    omega
theorem eqv_map (a : Sh f n) : ∀ l r : List α, PyData.eqvAll (l.map f) (r.map f) = decide (l = r)
  | [], [] => by simp [PyData.eqvAll]
  | [], _ :: _ => by simp [PyData.eqvAll]
  | _ :: _, [] => by simp [PyData.eqvAll]
  | x :: l, y :: r => by
    simp only [List.map_cons, PyData.eqvAll, a.eq, eqv_map a l r]
    exact Bool.eq_iff_iff.mpr (by simp)
theorem sh_eL (a : Sh f n) : Sh (eL f) (n + 1) := ⟨fun l => by simp [eL, PyData.canLay0, lay_map a l], fun l => by
    have := dep_map a l
    simp [eL, PyData.depth]
    omega, fun l r => by simp only [eL, PyData.eqv]; exact eqv_map a l r⟩
theorem sh_eV (a : Sh f n) : Sh (eV f) (n + 1) := ⟨fun l => by simp [eV, PyData.canLay0, lay_map a l], fun l => by
    have := dep_map a l
    simp [eV, PyData.depth]
    omega, fun l r => by simp only [eV, PyData.eqv]; exact eqv_map a l r⟩
end
/-! == and != of such data -/
section
variable {X : Cx} {α : Type} [DecidableEq α] {f : α → PyData} {n : Nat}
def rEqM (K : PySem.W.Frag) (f : α → PyData) : R2 := fun x y H Q => ∃ a b : α, Dp K H x (f a) ∧ Dp K H y (f b) ∧ Q (.bl (decide (a = b))) H
def rNeM (K : PySem.W.Frag) (f : α → PyData) : R2 := fun x y H Q => ∃ a b : α, Dp K H x (f a) ∧ Dp K H y (f b) ∧ Q (.bl (!decide (a = b))) H
theorem op_eqM (s : Sh f n) (hu : X.A.units + 64 < cLine) (hn : n ≤ 64 := by decide) : OpR X (compareOp .Eq) (rEqM X.K f) := by
  intro pins st σ H x y v u Q I rx ry h
  obtain ⟨a, b, ha, hb, q⟩ := h
  exact op_eqD hu pins st σ H x y v u Q I rx ry ⟨f a, f b, ha, hb, s.shaped hn a, s.shaped hn b, by rw [s.eq]; exact q⟩
theorem op_neM (s : Sh f n) (hu : X.A.units + 64 < cLine) (hn : n ≤ 64 := by decide) : OpR X (compareOp .NotEq) (rNeM X.K f) := by
  intro pins st σ H x y v u Q I rx ry h
  obtain ⟨a, b, ha, hb, q⟩ := h
  exact op_neD hu pins st σ H x y v u Q I rx ry ⟨f a, f b, ha, hb, s.shaped hn a, s.shaped hn b, by rw [s.eq]; exact q⟩
end
end Wk

set_option Elab.async false
set_option linter.all false
set_option maxRecDepth 100000
set_option maxHeartbeats 4000000
namespace Wk
open PySem L2 Evl

/-! ### defs that are known -/
structure Kn (P : Program) (w : World) (K : PySem.W.Frag) (mg : Str → Option Value) (base : Heap) (x : Str) (k : Nat) (ps : List Str) (sp : Sp) : Prop where
  ex : ∃ f fd, FnOk P w K mg base CX0 k f fd ps sp ∧ mg x = some (.ref f) ∧ PySem.W.keepIn K (.ref f) = true ∧ Binds K fd ps []
section
variable {X : Cx} {x : Str} {k : Nat} {ps : List Str} {sp : Sp} {p pos : Pos} {e : Expr} {es : List Expr} {t : TA}
theorem pe_kn (G : Kn X.prog X.w X.K X.mg X.base x k ps sp) (hr : Room k X.A) (ha : PA X (e :: es) t) (hg : Gl X x := by rfl) (hdb : (x == ("__debug__" : Str)) = false := by decide)
    (he : starEach (e :: es) X.env = (false, eval e X.env) :: starEach es X.env := by rfl) (hpl : (backTo pos (starEach es X.env)).any (·.1) = false := by rfl) : PE X (.Call (.Name x p) (e :: es) [] pos) (tCall sp [] E0 t) := by
  obtain ⟨f, fd, F, hm, hk, hb⟩ := G.ex
  exact pe_call F hr hg hm hk hb .nil pass0 ha hdb he hpl
theorem pe_kn0 (G : Kn X.prog X.w X.K X.mg X.base x k ps sp) (hr : Room k X.A) (hg : Gl X x := by rfl) (hdb : (x == ("__debug__" : Str)) = false := by decide) : PE X (.Call (.Name x p) [] [] pos) (tCall sp [] E0 tNil) := by
  obtain ⟨f, fd, F, hm, hk, hb⟩ := G.ex
  exact pe_call0 F hr hg hm hk hb .nil pass0 hdb
end

/-! ### the row of draws -/
structure Rw where
  pos : Int
  seed : Int
  left : Int
/-- the row at ra: the script at sc, ints n -/
def RowAt (K : PySem.W.Frag) (sc ra : Addr) (scr : List Int) (F H : Hp) (st : Rw) : Prop :=
  H ra = some (.lst [.ref sc, .int st.pos, .int st.seed, .int st.left]) ∧ F ra = none ∧ SqL K F sc (scr.map V.int)
theorem RowAt.keep {K : PySem.W.Frag} {sc ra : Addr} {scr : List Int} {F H F' H' : Hp} {st : Rw} (w : RowAt K sc ra scr F H st) (g : Gm [] F H F' H') : RowAt K sc ra scr F' H' st :=
  ⟨(g.own (by simp) w.1 w.2.1).1, (g.own (by simp) w.1 w.2.1).2, ex_l g.f w.2.2⟩

/-! ### loops -/
inductive Fl (R S : Type) where
  | go (s : S)
  | brk (s : S)
  | ret (r : R)
def foldM {α S : Type} (f : S → α → Mm S) : S → List α → Mm S
  | s, [] => .ok s
  | s, x :: xs => (f s x).bd fun s' => foldM f s' xs
/-- a loop that may be left -/
def foldL {α R S : Type} (f : S → α → Mm (Fl R S)) : S → List α → Mm (Fl R S)
  | s, [] => .ok (.go s)
  | s, x :: xs => (f s x).bd fun o => match o with
    | .go s' => foldL f s' xs
    | .brk s' => .ok (.go s')
    | .ret r => .ok (.ret r)
def Fl.el {R S β : Type} (o : Fl R S) (go : S → Mm β) (ret : R → Mm β) : Mm β := match o with
  | .go s => go s
  | .brk s => go s
  | .ret r => ret r
def foldW {S : Type} (c : S → Mm Bool) (f : S → Mm S) : Nat → S → Mm S
  | 0, _ => .bad
  | n + 1, s => (c s).bd fun b => match b with
    | true => (f s).bd fun s' => foldW c f n s'
    | false => .ok s
theorem post_assoc {α β γ : Type} {m : Mm α} {f : α → Mm β} {g : β → Mm γ} {p : γ → Prop} {q : Er → Prop} (h : Post ((m.bd f).bd g) p q) : Post (m.bd fun a => (f a).bd g) p q := by
  cases m <;> exact ⟨h.h⟩
section
variable {K : PySem.W.Frag} {M : List Addr} {F H : Hp} {σ : L2.St} {D : Ends} {g : TG} {tb : TS} {α β S : Type} {xs : List V} {l : List α} {step : S → α → Mm S} {rest : S → Mm β} {ok : β → Prop} {ex : Er → Prop} {s0 : S} {J : It} {n : Nat} {G : Hp → Prop} {Y : Nat → Hp → V → Hp → Prop}
/-- a for over anything that walks, no way out but by its end; Z: what a turn finds of the i-th item -/
theorem for_mir (w : Walk J n G Y) (I : S → Hp → Hp → L2.St → Prop) (k : Post ((foldM step s0 l).bd rest) ok ex) (e : Ex F H) (h0 : I s0 F H σ) (hn : l.length = n) (hG : ∀ F' H', Gm M F H F' H' → G H')
    (hb : ∀ i s x v σ' F' H' H'' , Gm M F H F' H' → I s F' H' σ' → l[i]? = some x → Y i H' v H'' → ∀ nx : L2.St → Hp → Prop,
      Post (step s x) (fun s' => ∀ σ2 F2 H2, Gm M F H F2 H2 → I s' F2 H2 σ2 → nx σ2 H2) ex → g v σ' H'' fun σ2 H2 => tb { D with nx := nx, ct := nx, bk := D.nx } σ2 H2)
    (kk : ∀ s σ' F' H', Gm M F H F' H' → I s F' H' σ' → Post (rest s) ok ex → D.nx σ' H') :
    ∃ W : Nat → Nat → L2.St → Hp → Prop, (∃ m, W 0 m σ H) ∧ ∀ i m σ H, W i m σ H →
      (J.stop i H ∧ D.nx σ H) ∨ (J.go i H ∧ ∃ N : L2.St → Hp → Prop, (∀ σ' H', N σ' H' → ∃ m', m' < m ∧ W (i + 1) m' σ' H') ∧ ∀ x H', J.yld i H x H' → g x σ H' fun σ2 H2 => tb { D with nx := N, ct := N, bk := D.nx } σ2 H2) := by
  refine for_it w (fun i σ' H' => ∃ s F', Gm M F H F' H' ∧ I s F' H' σ' ∧ Post ((foldM step s (l.drop i)).bd rest) ok ex) ⟨s0, F, Gm.refl e, h0, k⟩ (fun i σ' H' _ ⟨s, F', g', _, _⟩ => hG F' H' g') ?_ ?_
  · rintro i v σ' H' H'' hi ⟨s, F', g', i', k'⟩ y
    have hl : i < l.length := by omega
    have e1 : l.drop i = l[i] :: l.drop (i + 1) := List.drop_eq_getElem_cons hl
    rw [e1] at k'
    have k2 := post_bd (post_assoc k')
    exact hb i s l[i] v σ' F' H' H'' g' i' (List.getElem?_eq_getElem hl) y _ (k2.mono (fun s' q σ2 F2 H2 g2 i2 => ⟨s', F2, g2, i2, q⟩) fun _ z => z)
  · rintro σ' H' ⟨s, F', g', i', k'⟩
    rw [← hn, List.drop_length] at k'
    exact kk s σ' F' H' g' i' ⟨k'.h⟩
/-- the same with ways out: brk, ret -/
theorem for_mirL {R : Type} {stepL : S → α → Mm (Fl R S)} {rest : S → Mm β} {ret : R → Mm β} (w : Walk J n G Y) (I : S → Hp → Hp → L2.St → Prop) (k : Post ((foldL stepL s0 l).bd fun o => o.el rest ret) ok ex) (e : Ex F H) (h0 : I s0 F H σ) (hn : l.length = n) (hG : ∀ F' H', Gm M F H F' H' → G H')
    (hb : ∀ i s x v σ' F' H' H'' , Gm M F H F' H' → I s F' H' σ' → l[i]? = some x → Y i H' v H'' → ∀ nx : L2.St → Hp → Prop,
      Post (stepL s x) (fun o => match o with
        | .go s' => ∀ σ2 F2 H2, Gm M F H F2 H2 → I s' F2 H2 σ2 → nx σ2 H2
        | .brk s' => ∀ σ2 F2 H2, Gm M F H F2 H2 → I s' F2 H2 σ2 → D.nx σ2 H2
        | .ret r => Post (ret r) ok ex) ex → g v σ' H'' fun σ2 H2 => tb { D with nx := nx, ct := nx, bk := D.nx } σ2 H2)
    (kk : ∀ s σ' F' H', Gm M F H F' H' → I s F' H' σ' → Post (rest s) ok ex → D.nx σ' H') :
    ∃ W : Nat → Nat → L2.St → Hp → Prop, (∃ m, W 0 m σ H) ∧ ∀ i m σ H, W i m σ H →
      (J.stop i H ∧ D.nx σ H) ∨ (J.go i H ∧ ∃ N : L2.St → Hp → Prop, (∀ σ' H', N σ' H' → ∃ m', m' < m ∧ W (i + 1) m' σ' H') ∧ ∀ x H', J.yld i H x H' → g x σ H' fun σ2 H2 => tb { D with nx := N, ct := N, bk := D.nx } σ2 H2) := by
  refine for_it w (fun i σ' H' => ∃ s F', Gm M F H F' H' ∧ I s F' H' σ' ∧ Post ((foldL stepL s (l.drop i)).bd fun o => o.el rest ret) ok ex) ⟨s0, F, Gm.refl e, h0, k⟩ (fun i σ' H' _ ⟨s, F', g', _, _⟩ => hG F' H' g') ?_ ?_
  · rintro i v σ' H' H'' hi ⟨s, F', g', i', k'⟩ y
    have hl : i < l.length := by omega
    have e1 : l.drop i = l[i] :: l.drop (i + 1) := List.drop_eq_getElem_cons hl
    rw [e1] at k'
    have k2 := post_bd (post_assoc k')
    refine hb i s l[i] v σ' F' H' H'' g' i' (List.getElem?_eq_getElem hl) y _ (k2.mono (fun o q => ?_) fun _ z => z)
    cases o with
    | go s' => exact fun σ2 F2 H2 g2 i2 => ⟨s', F2, g2, i2, ⟨q.h⟩⟩
    | brk s' => exact fun σ2 F2 H2 g2 i2 => kk s' σ2 F2 H2 g2 i2 ⟨q.h⟩
    | ret r => exact ⟨q.h⟩
  · rintro σ' H' ⟨s, F', g', i', k'⟩
    rw [← hn, List.drop_length] at k'
    exact kk s σ' F' H' g' i' ⟨k'.h⟩
/-- a while -/
theorem while_mir {c : TT} {cM : S → Mm Bool} {bM : S → Mm S} {N : Nat} (I : S → Hp → Hp → L2.St → Prop) (k : Post ((foldW cM bM N s0).bd rest) ok ex) (e : Ex F H) (h0 : I s0 F H σ)
    (hc : ∀ s σ' F' H', Gm M F H F' H' → I s F' H' σ' → ∀ Q : Bool → Hp → Prop, Post (cM s) (fun b => ∀ F2 H2, Gm M F H F2 H2 → I s F2 H2 σ' → Q b H2) ex → c σ' H' Q)
    (hb : ∀ s σ' F' H', Gm M F H F' H' → I s F' H' σ' → ∀ nx : L2.St → Hp → Prop, Post (bM s) (fun s' => ∀ σ2 F2 H2, Gm M F H F2 H2 → I s' F2 H2 σ2 → nx σ2 H2) ex → tb { D with nx := nx, ct := nx, bk := D.nx } σ' H')
    (kk : ∀ s σ' F' H', Gm M F H F' H' → I s F' H' σ' → Post (rest s) ok ex → D.nx σ' H') : tWhile c tb D σ H := by
  refine ⟨fun m σ' H' => ∃ s F', Gm M F H F' H' ∧ I s F' H' σ' ∧ Post ((foldW cM bM m s).bd rest) ok ex, ⟨N, s0, F, Gm.refl e, h0, k⟩, ?_⟩
  rintro m σ' H' ⟨s, F', g', i', k'⟩
  cases m with
  | zero => exact k'.h.elim
  | succ m =>
    refine hc s σ' F' H' g' i' _ ((post_bd (post_assoc k')).mono (fun b q F2 H2 g2 i2 => ?_) fun _ z => z)
    cases b with
    | false => exact kk s σ' F2 H2 g2 i2 ⟨q.h⟩
    | true =>
      refine ⟨fun σ2 H2 => ∃ s F', Gm M F H F' H2 ∧ I s F' H2 σ2 ∧ Post ((foldW cM bM m s).bd rest) ok ex, fun σ2 H2 ⟨s', F3, z⟩ => ⟨m, Nat.lt_succ_self _, s', F3, z⟩, ?_⟩
      exact hb s σ' F2 H2 g2 i2 _ ((post_bd (post_assoc (Post.mk q.h))).mono (fun s' q' σ2 F3 H3 g3 i3 => ⟨s', F3, g3, i3, q'⟩) fun _ z => z)
end

/-! ### comprehensions -/
def noEx {α : Type} (m : Mm α) : Mm α := match m with
  | .ex _ => .bad
  | .ok a => .ok a
  | .bad => .bad
theorem post_noEx {α : Type} {m : Mm α} {p : α → Prop} {q q' : Er → Prop} (h : Post (noEx m) p q) : Post m p q' := by
  cases m with
  | ok a => exact ⟨h.h⟩
  | ex e => exact h.h.elim
  | bad => exact h.h.elim
/-- the elements in turn; a state goes through; none: left out -/
def compM {α γ S : Type} (f : S → α → Mm (Option γ × S)) : S → List α → Mm (List γ × S)
  | s, [] => .ok ([], s)
  | s, x :: xs => (f s x).bd fun o => (compM f o.2 xs).bd fun r => .ok (o.1.toList ++ r.1, r.2)
section
variable {K : PySem.W.Frag} {M : List Addr} {F H : Hp} {σ : L2.St} {g : TG} {tt : TT} {te : TE} {vs : List Nat} {α β γ S : Type} {l : List α} {f : S → α → Mm (Option γ × S)} {rest : List γ × S → Mm β} {ok : β → Prop} {ex : Er → Prop} {s0 : S} {J : It} {n : Nat} {G : Hp → Prop} {Y : Nat → Hp → V → Hp → Prop} {Q : VK}
theorem comp_post {acc : List γ} {s : S} {l : List α} {rest : List γ × S → Mm β} : ∀ {ok : β → Prop} {ex : Er → Prop} {f : S → α → Mm (Option γ × S)} {x : α},
    Post (((compM f s (x :: l)).bd fun r => rest (acc ++ r.1, r.2))) ok ex → Post (f s x) (fun o => Post ((compM f o.2 l).bd fun r => rest ((acc ++ o.1.toList) ++ r.1, r.2)) ok ex) ex := by
  intro ok ex f x h
  have h1 := post_bd (post_assoc h)
  refine h1.mono (fun o q => ?_) fun _ z => z
  have h2 := post_assoc q
  simpa only [bd_ok, List.append_assoc] using h2
/-- what a comprehension's state asks of its word: a younger object may change, may be fixed -/
structure Stab (I : S → Hp → Hp → Prop) (H : Hp) : Prop where
  put : ∀ s F' H' D xs, I s F' H' → H D = none → I s F' (upd H' D (.lst xs))
  fix : ∀ s F' H' D xs, I s F' H' → H D = none → F' D = none → I s (upd F' D (.lst xs)) H'
/-- a comprehension: enc: how an element is told -/
theorem lc_mir (w : Walk J n G Y) (en : γ → PyData) (I : S → Hp → Hp → Prop) (k : Post ((compM f s0 l).bd rest) ok ex) (e : Ex F H) (h0 : I s0 F H) (st : Stab I H) (hn : l.length = n) (hz : l.length ≤ 50000) (hG : ∀ F' H', Gm M F H F' H' → G H')
    (hM : ∀ D, H D = none → D ∉ M)
    (hb : ∀ i s x v F' H' H'', Gm M F H F' H' → I s F' H' → l[i]? = some x → Y i H' v H'' → ∀ Q : Option V → Hp → Prop,
      Post (f s x) (fun o => ∀ F2 H2 v, Gm M F' H' F2 H2 → I o.2 F2 H2 → (match o.1 with
        | some y => ∃ u, v = some u ∧ Dq K F2 u (en y)
        | none => v = none) → Q v H2) (fun _ => False) →
      g v (wipe σ vs) H'' fun σ2 H2 => wipe σ2 vs = wipe σ vs ∧ tt σ2 H2 fun b H3 => if b = true then te σ2 H3 fun y H4 => Q (some y) H4 else Q none H3)
    (hx : ∀ e, ¬ ex e)
    (kk : ∀ (r : List γ × S) v F' H', Gm M F H F' H' → I r.2 F' H' → Dq K F' v (.list (r.1.map en)) → Post (rest r) ok ex → Q v H') :
    ∀ D, H D = none → ∃ W : Nat → Nat → Hp → Prop, (∃ m, W 0 m (upd H D (.lst []))) ∧ ∀ i m H, W i m H →
      (J.stop i H ∧ Q (.ref D) H) ∨ (J.go i H ∧ ∃ Nx : Hp → Prop, (∀ H', Nx H' → ∃ m', m' < m ∧ W (i + 1) m' H') ∧ ∀ x H', J.yld i H x H' → g x (wipe σ vs) H' fun σ2 H2 => wipe σ2 vs = wipe σ vs ∧ tt σ2 H2 fun b H3 =>
        if b = true then te σ2 H3 fun y H4 => ∃ acc, H4 D = some (.lst acc) ∧ acc.length < sizeLine ∧ Nx (upd H4 D (.lst (acc ++ [y]))) else Nx H3) := by
  intro D hD
  have k0 : Post ((compM f s0 (l.drop 0)).bd fun r => rest ([] ++ r.1, r.2)) ok ex := by simpa using k
  refine lc_it w (fun i H' => ∃ (s : S) (acc : List γ) (xs : List V) (F' : Hp), Gm M F H F' H' ∧ I s F' H' ∧ H' D = some (.lst xs) ∧ F' D = none ∧ DqAll K F' xs (acc.map en) ∧ xs.length ≤ i ∧ Post ((compM f s (l.drop i)).bd fun r => rest (acc ++ r.1, r.2)) ok ex)
    ⟨s0, [], [], F, Gm.newM e hD, st.put s0 F H D _ h0 hD, upd_same, ?_, .nil, Nat.le_refl _, k0⟩ (fun i H' _ ⟨s, acc, xs, F', g', _⟩ => hG F' H' g') ?_ ?_
  · cases q : F D with
    | none => rfl
    | some u => rw [e D u q] at hD; cases hD
  · rintro i v H' H'' hi ⟨s, acc, xs, F', g', i', hL, fL, ha, hlen, k'⟩ y
    have hl : i < l.length := by omega
    have e1 : l.drop i = l[i] :: l.drop (i + 1) := List.drop_eq_getElem_cons hl
    rw [e1] at k'
    have k2 := comp_post k'
    have hDM : D ∉ M := hM D hD
    have z := hb i s l[i] v F' H' H'' g' i' (List.getElem?_eq_getElem hl) y (fun o H4 => match o with
      | some y => ∃ acc', H4 D = some (.lst acc') ∧ acc'.length < sizeLine ∧ ∃ (s : S) (acc : List γ) (xs : List V) (F' : Hp), Gm M F H F' (upd H4 D (.lst (acc' ++ [y]))) ∧ I s F' (upd H4 D (.lst (acc' ++ [y]))) ∧ (upd H4 D (.lst (acc' ++ [y]))) D = some (.lst xs) ∧ F' D = none ∧ DqAll K F' xs (acc.map en) ∧ xs.length ≤ i + 1 ∧ Post ((compM f s (l.drop (i + 1))).bd fun r => rest (acc ++ r.1, r.2)) ok ex
      | none => ∃ (s : S) (acc : List γ) (xs : List V) (F' : Hp), Gm M F H F' H4 ∧ I s F' H4 ∧ H4 D = some (.lst xs) ∧ F' D = none ∧ DqAll K F' xs (acc.map en) ∧ xs.length ≤ i + 1 ∧ Post ((compM f s (l.drop (i + 1))).bd fun r => rest (acc ++ r.1, r.2)) ok ex)
      (k2.mono (fun o q F2 H2 v2 g2 i2 hv => ?_) fun e z => (hx e z).elim)
    · exact z
    · obtain ⟨h2L, f2L⟩ := g2.own hDM hL fL
      obtain ⟨o1, o2⟩ := o
      cases o1 with
      | some y =>
        obtain ⟨u, rfl, hu⟩ := hv
        refine ⟨xs, h2L, sz_lt (by omega), o2, acc ++ [y], xs ++ [u], F2, ?_, st.put _ _ _ _ _ i2 hD, upd_same, f2L, ?_, ?_, ?_⟩
        · exact (g'.trans g2).putYoung h2L f2L hD
        · rw [List.map_append]; exact (ha.up g2.f).app (.cons hu .nil)
        · rw [List.length_append, List.length_singleton]; omega
        · simpa using q
      | none =>
        subst hv
        refine ⟨o2, acc, xs, F2, g'.trans g2, i2, h2L, f2L, ha.up g2.f, by omega, ?_⟩
        simpa using q
  · rintro H' ⟨s, acc, xs, F', g', i', hL, fL, ha, hlen, k'⟩
    rw [← hn, List.drop_length] at k'
    have up : Ex F' (upd F' D (.lst xs)) := Ex.new fL
    exact kk (acc, s) _ (upd F' D (.lst xs)) H' (g'.fix hL fL hD) (st.fix _ _ _ _ _ i' hD fL) (.lst upd_same (ha.up up)) (by simpa [compM] using k')
theorem stab_row {K : PySem.W.Frag} {sc ra : Addr} {scr : List Int} {F H : Hp} {st : Rw} (w : RowAt K sc ra scr F H st) : Stab (fun s F H => RowAt K sc ra scr F H s) H := by
  have ne : ∀ D, H D = none → ra ≠ D := fun D hD q => by
    have z := w.1
    rw [q, hD] at z
    cases z
  refine ⟨fun s F' H' D xs i hD => ⟨?_, i.2.1, i.2.2⟩, fun s F' H' D xs i hD hf => ⟨i.1, ?_, ex_l (Ex.new hf) i.2.2⟩⟩
  · rw [upd_ne (ne D hD)]; exact i.1
  · rw [upd_ne (ne D hD)]; exact i.2.1
theorem stab_t {H : Hp} : Stab (fun (_ : Unit) _ _ => True) H := ⟨fun _ _ _ _ _ _ _ => trivial, fun _ _ _ _ _ _ _ _ => trivial⟩
theorem row_notM {K : PySem.W.Frag} {sc ra : Addr} {scr : List Int} {F H : Hp} {st : Rw} (w : RowAt K sc ra scr F H st) : ∀ D, H D = none → D ∉ [ra] := fun D hD q => by
  have z := w.1
  have e : D = ra := by simpa using q
  rw [← e, hD] at z
  cases z
end
end Wk

set_option Elab.async false
set_option linter.all false
set_option maxRecDepth 100000
set_option maxHeartbeats 4000000
namespace Wk
open PySem L2 Evl
/-! ### what follows, under a name -/
def QK (Q : VK) : VK := fun v H => Q v H
def tQ (te : TE) : TE := fun σ H Q => te σ H (QK Q)
section
variable {X : Cx} {x : Expr} {te : TE} {st : Stmt} {g : TG}
theorem pe_q (h : PE X x te) : PE X x (tQ te) := ⟨fun pins s σ H Q I q => h.run pins s σ H (QK Q) I q⟩
theorem ps_q (h : PS X st (tAsg te g)) : PS X st (tAsg (tQ te) g) := ⟨fun pins s σ H D I q => h.run pins s σ H D I q⟩
end
/-! ### joins -/
section
variable {M : List Addr} {F H : Hp} {σ : L2.St} {D : Ends} {α β : Type} {c a b : Bool} {A B : Prop} {X Y : Mm β} {rest : β → Mm α} {ok : α → Prop} {ex : Er → Prop} {Q : VK} {ta tb : TE} {tu tw : TS}
theorem cs {X Y : Mm α} (k : Post (cond c X Y) ok ex) (h1 : c = true → Post X ok ex → A) (h2 : c = false → Post Y ok ex → B) : if c = true then A else B := by
  cases c with
  | true => rw [if_pos rfl]; exact h1 rfl ⟨k.h⟩
  | false => rw [if_neg Bool.false_ne_true]; exact h2 rfl ⟨k.h⟩
theorem or_j {Q : Bool → Hp → Prop} {u : TT} (hu : a = false → ∀ Q' : Bool → Hp → Prop, Q' b H → u σ H Q') (k : Q (a || b) H) : if a = true then Q true H else u σ H Q := by
  cases a with
  | true => rw [if_pos rfl]; exact k
  | false => rw [if_neg Bool.false_ne_true]; exact hu rfl Q k
theorem and_j {Q : Bool → Hp → Prop} {u : TT} (hu : a = true → ∀ Q' : Bool → Hp → Prop, Q' b H → u σ H Q') (k : Q (a && b) H) : if a = true then u σ H Q else Q false H := by
  cases a with
  | true => rw [if_pos rfl]; exact hu rfl Q k
  | false => rw [if_neg Bool.false_ne_true]; exact k
theorem orV_j {u : TE} (hu : a = false → ∀ Q' : VK, Q' (.bl b) H → u σ H Q') (k : Q (.bl (a || b)) H) : if a = true then Q (.bl true) H else u σ H Q := by
  cases a with
  | true => rw [if_pos rfl]; exact k
  | false => rw [if_neg Bool.false_ne_true]; exact hu rfl Q k
theorem andV_j {u : TE} (hu : a = true → ∀ Q' : VK, Q' (.bl b) H → u σ H Q') (k : Q (.bl (a && b)) H) : if a = true then u σ H Q else Q (.bl false) H := by
  cases a with
  | true => rw [if_pos rfl]; exact hu rfl Q k
  | false => rw [if_neg Bool.false_ne_true]; exact k
/-- the second operand wants outcomes of its own -/
theorem or_jM {Q : Bool → Hp → Prop} {u : TT} {Y : Mm Bool} {rest : Bool → Mm α} (e : Ex F H) (k : Post ((cond a (.ok true) Y).bd rest) ok ex) (hu : a = false → ∀ Q' : Bool → Hp → Prop, Post Y (fun b => ∀ F' H', Gm M F H F' H' → Q' b H') ex → u σ H Q')
    (kk : ∀ b F' H', Gm M F H F' H' → Post (rest b) ok ex → Q b H') : if a = true then Q true H else u σ H Q := by
  cases a with
  | true => rw [if_pos rfl]; exact kk true F H (Gm.refl e) ⟨k.h⟩
  | false => rw [if_neg Bool.false_ne_true]; exact hu rfl Q ((post_bd k).mono (fun b q F' H' g => kk b F' H' g q) fun _ z => z)
theorem and_jM {Q : Bool → Hp → Prop} {u : TT} {Y : Mm Bool} {rest : Bool → Mm α} (e : Ex F H) (k : Post ((cond a Y (.ok false)).bd rest) ok ex) (hu : a = true → ∀ Q' : Bool → Hp → Prop, Post Y (fun b => ∀ F' H', Gm M F H F' H' → Q' b H') ex → u σ H Q')
    (kk : ∀ b F' H', Gm M F H F' H' → Post (rest b) ok ex → Q b H') : if a = true then u σ H Q else Q false H := by
  cases a with
  | false => rw [if_neg Bool.false_ne_true]; exact kk false F H (Gm.refl e) ⟨k.h⟩
  | true => rw [if_pos rfl]; exact hu rfl Q ((post_bd k).mono (fun b q F' H' g => kk b F' H' g q) fun _ z => z)
/-- a value by a condition -/
theorem if_jM (S : β → Hp → Hp → V → Prop) (k : Post ((cond c X Y).bd rest) ok ex)
    (ha : c = true → ∀ Q' : VK, Post X (fun b => Ret M F H (S b) Q') ex → ta σ H Q') (hb : c = false → ∀ Q' : VK, Post Y (fun b => Ret M F H (S b) Q') ex → tb σ H Q')
    (kk : ∀ b v F' H', Gm M F H F' H' → S b F' H' v → Post (rest b) ok ex → Q v H') : if c = true then ta σ H Q else tb σ H Q := by
  cases c with
  | true => rw [if_pos rfl]; exact ha rfl Q ((post_bd k).mono (fun b q v F' H' g s => kk b v F' H' g s q) fun _ z => z)
  | false => rw [if_neg Bool.false_ne_true]; exact hb rfl Q ((post_bd k).mono (fun b q v F' H' g s => kk b v F' H' g s q) fun _ z => z)
/-- an if whose ways go on -/
theorem ifs_jM (I : β → Hp → Hp → L2.St → Prop) (k : Post ((cond c X Y).bd rest) ok ex)
    (ha : c = true → ∀ nx : L2.St → Hp → Prop, Post X (fun b => ∀ σ' F' H', Gm M F H F' H' → I b F' H' σ' → nx σ' H') ex → tu { D with nx := nx } σ H)
    (hb : c = false → ∀ nx : L2.St → Hp → Prop, Post Y (fun b => ∀ σ' F' H', Gm M F H F' H' → I b F' H' σ' → nx σ' H') ex → tw { D with nx := nx } σ H)
    (kk : ∀ b σ' F' H', Gm M F H F' H' → I b F' H' σ' → Post (rest b) ok ex → D.nx σ' H') : if c = true then tu D σ H else tw D σ H := by
  cases c with
  | true => rw [if_pos rfl]; exact ha rfl D.nx ((post_bd k).mono (fun b q σ' F' H' g s => kk b σ' F' H' g s q) fun _ z => z)
  | false => rw [if_neg Bool.false_ne_true]; exact hb rfl D.nx ((post_bd k).mono (fun b q σ' F' H' g s => kk b σ' F' H' g s q) fun _ z => z)
end
/-! ### items of data -/
section
variable {K : PySem.W.Frag} {F : Hp} {α : Type} {f : α → PyData} {l : List α} {vs : List V} {a : α} {i : Int}
theorem atI_at {α : Type} {xs : List α} {i : Int} {a : α} (h : atI xs i = some a) : ∃ j, ixN xs.length i = some j ∧ xs[j]? = some a := by
  unfold atI at h
  cases e : ixN xs.length i with
  | none => rw [e] at h; cases h
  | some j => rw [e] at h; exact ⟨j, rfl, h⟩
theorem dq_at (ha : DqAll K F vs (l.map f)) (h : atI l i = some a) : ∃ v, atI vs i = some v ∧ Dq K F v (f a) := by
  obtain ⟨j, hj, hg⟩ := atI_at h
  have hl : vs.length = l.length := by rw [ha.len, List.length_map]
  obtain ⟨v, hv, hd⟩ := ha.get (i := j) (d := f a) (by rw [List.getElem?_map, hg]; rfl)
  refine ⟨v, ?_, hd⟩
  unfold atI
  rw [hl, hj]
  exact hv
theorem atI_ints {l : List Int} (h : atI l i = some a') : atI (l.map V.int) i = some (V.int a') := by
  obtain ⟨j, hj, hg⟩ := atI_at h
  unfold atI
  rw [List.length_map, hj]
  show (l.map V.int)[j]? = _
  rw [List.getElem?_map, hg]
  rfl
end
/-! ### heaps, more -/
section
variable {M : List Addr} {F H F1 H1 F0 H0 : Hp}
/-- behind a loop that may change the younger object at p -/
theorem Gm.young {p : Addr} (g : Gm M F0 H0 F H) (h0 : H0 p = none) (g2 : Gm (p :: M) F H F1 H1) : Gm M F0 H0 F1 H1 :=
  ⟨g.f.trans g2.f, g2.s, fun a o hM h => g2.h a o (fun q => by
      rcases List.mem_cons.mp q with q | q
      · rw [q, h0] at h; cases h
      · exact hM q) (g.h a o hM h), fun a o h hn => by
    obtain ⟨o', h'⟩ := g.m a o h
    exact g2.n a o' h' (g.n a o h hn), fun a o h => by
    obtain ⟨o', h'⟩ := g.m a o h
    exact g2.m a o' h'⟩
theorem Gm.putIn (g : Gm M F0 H0 F H) {p : Addr} {o u : HO} (hp : p ∈ M) (h : H p = some u) (hf : F p = none) : Gm M F0 H0 F (upd H p o) := by
  refine ⟨g.f, fun a u ha => ?_, fun a u hM ha => ?_, g.n, fun a u ha => ?_⟩
  · have q : a ≠ p := fun q => by rw [q, hf] at ha; cases ha
    rw [upd_ne q]; exact g.s a u ha
  · have q : a ≠ p := fun q => hM (by rw [q]; exact hp)
    rw [upd_ne q]; exact g.h a u hM ha
  · by_cases q : a = p
    · subst q; exact ⟨o, upd_same⟩
    · obtain ⟨o', h'⟩ := g.m a u ha
      exact ⟨o', by rw [upd_ne q]; exact h'⟩
end
/-! ### built-ins by name -/
structure Bi (mg : Str → Option Value) : Prop where
  len : mg "len" = none
  int : mg "int" = none
  bool : mg "bool" = none
  str : mg "str" = none
  abs : mg "abs" = none
  sum : mg "sum" = none
  min : mg "min" = none
  max : mg "max" = none
  list : mg "list" = none
  tuple : mg "tuple" = none
  set : mg "set" = none
  dict : mg "dict" = none
  sorted : mg "sorted" = none
  range : mg "range" = none
  enumerate : mg "enumerate" = none
  zip : mg "zip" = none
  reversed : mg "reversed" = none
  isinstance : mg "isinstance" = none
end Wk

set_option Elab.async false
set_option linter.all false
set_option maxRecDepth 100000
set_option maxHeartbeats 4000000
namespace Wk
open PySem L2 Evl
theorem Gm.weak {M M' : List Addr} {F H F' H' : Hp} (g : Gm M F H F' H') (h : ∀ a, a ∈ M → a ∈ M') : Gm M' F H F' H' := ⟨g.f, g.s, fun a o hM e => g.h a o (fun q => hM (h a q)) e, g.n, g.m⟩
/-! ### ranges -/
def rangeL (lo : Int) (n : Nat) : List Int := (List.range n).map fun (i : Nat) => lo + (i : Int)
def rangeM (j : Int) : Mm (List Int) := if -(2 ^ 62) ≤ j ∧ j < 2 ^ 62 then .ok (rangeL 0 j.toNat) else .bad
def rangeM2 (i j : Int) : Mm (List Int) := if -(2 ^ 62) ≤ i ∧ i < 2 ^ 62 ∧ -(2 ^ 62) ≤ j ∧ j < 2 ^ 62 then .ok (rangeL i (j - i).toNat) else .bad
section
variable {β : Type} {r : β → Prop} {q : Er → Prop} {i j : Int} {f : List Int → Mm β}
theorem post_range (h : Post ((rangeM j).bd f) r q) : (-(2 ^ 62) ≤ j ∧ j < 2 ^ 62) ∧ Post (f (rangeL 0 j.toNat)) r q := by
  unfold rangeM at h
  split at h
  · exact ⟨‹_›, ⟨h.h⟩⟩
  · exact h.h.elim
theorem post_range2 (h : Post ((rangeM2 i j).bd f) r q) : (-(2 ^ 62) ≤ i ∧ i < 2 ^ 62 ∧ -(2 ^ 62) ≤ j ∧ j < 2 ^ 62) ∧ Post (f (rangeL i (j - i).toNat)) r q := by
  unfold rangeM2 at h
  split at h
  · exact ⟨‹_›, ⟨h.h⟩⟩
  · exact h.h.elim
end
/-! ### fors over data, one form -/
/-- what a for or a comprehension walks over, as a list of data; R: what stands of an item -/
structure Wlk (M : List Addr) (F H : Hp) (J : It) {α : Type} (l : List α) (R : Hp → V → α → Prop) : Prop where
  ex : ∃ (n : Nat) (G : Hp → Prop) (Y : Nat → Hp → V → Hp → Prop), Walk J n G Y ∧ l.length = n ∧ (∀ F' H', Gm M F H F' H' → G H') ∧
    ∀ i x v F' H' H'', Gm M F H F' H' → l[i]? = some x → Y i H' v H'' → ∃ F'', Gm [] F' H' F'' H'' ∧ R F'' v x
section
variable {K : PySem.W.Frag} {M : List Addr} {F H : Hp} {σ : L2.St} {D : Ends} {g : TG} {tb : TS} {α β S : Type} {xs ys : List V} {l : List α} {step : S → α → Mm S} {rest : S → Mm β} {ok : β → Prop} {ex : Er → Prop} {s0 : S} {J : It} {R : Hp → V → α → Prop} {en : α → PyData} {a b : Addr}
theorem wlk_list (e : Ex F H) (h : F a = some (.lst xs)) (da : DqAll K F xs (l.map en)) : Wlk M F H (Itl K a) l (fun F v x => Dq K F v (en x)) := by
  refine ⟨_, _, _, walk_list (K := K) (a := a) (xs := xs), by rw [da.len, List.length_map], fun F' H' g' => sq_of (g'.s _ _ (g'.f _ _ h)), fun i x v F' H' H'' g' hx y => ?_⟩
  obtain ⟨rfl, hv⟩ := y
  obtain ⟨d, hd, hq⟩ := (da.up g'.f).getV hv
  rw [List.getElem?_map, hx] at hd
  cases hd
  exact ⟨F', Gm.refl g'.s, hq⟩
theorem wlk_tup (e : Ex F H) (h : SqT K F a xs) (da : DqAll K F xs (l.map en)) : Wlk M F H (Itt K a) l (fun F v x => Dq K F v (en x)) := by
  refine ⟨_, _, _, walk_tup (K := K) (a := a) (xs := xs), by rw [da.len, List.length_map], fun F' H' g' => ex_t g'.s (ex_t g'.f h), fun i x v F' H' H'' g' hx y => ?_⟩
  obtain ⟨rfl, hv⟩ := y
  obtain ⟨d, hd, hq⟩ := (da.up g'.f).getV hv
  rw [List.getElem?_map, hx] at hd
  cases hd
  exact ⟨F', Gm.refl g'.s, hq⟩
theorem rangeL_at {lo : Int} {n i : Nat} {x : Int} (h : (rangeL lo n)[i]? = some x) : x = lo + i := by
  unfold rangeL at h
  rw [List.getElem?_map] at h
  cases e : (List.range n)[i]? with
  | none => rw [e] at h; cases h
  | some j =>
    rw [e] at h
    obtain ⟨h1, h2⟩ := List.getElem?_eq_some_iff.mp e
    rw [List.getElem_range] at h2
    subst h2
    exact (Option.some.inj h).symm
theorem wlk_range {lo : Int} {n : Nat} : Wlk M F H (Itr lo n) (rangeL lo n) (fun _ v x => v = V.int x) := by
  refine ⟨_, _, _, walk_range (lo := lo) (n := n), by simp [rangeL], fun _ _ _ => trivial, fun i x v F' H' H'' g' hx y => ?_⟩
  obtain ⟨rfl, hv⟩ := y
  rw [rangeL_at hx]
  exact ⟨F', Gm.refl g'.s, hv⟩
theorem wlk_rev (e : Ex F H) (h : F a = some (.lst xs)) (da : DqAll K F xs (l.map en)) : Wlk M F H (Itv K a xs.length) l.reverse (fun F v x => Dq K F v (en x)) := by
  have hl : xs.length = l.length := by rw [da.len, List.length_map]
  refine ⟨_, _, _, walk_rev (K := K) (a := a) (xs := xs), by rw [List.length_reverse, hl], fun F' H' g' => sq_of (g'.s _ _ (g'.f _ _ h)), fun i x v F' H' H'' g' hx y => ?_⟩
  obtain ⟨rfl, hv⟩ := y
  obtain ⟨d, hd, hq⟩ := (da.up g'.f).getV hv
  have hi : i < l.reverse.length := (List.getElem?_eq_some_iff.mp hx).1
  rw [List.length_reverse] at hi
  rw [List.getElem?_reverse hi] at hx
  rw [List.getElem?_map, hl, hx] at hd
  cases hd
  exact ⟨F', Gm.refl g'.s, hq⟩
/-- enumerate: the items (i, x) -/
def enumL {α : Type} (l : List α) : List (Int × α) := (rangeL 0 l.length).zip l
theorem wlk_enum (e : Ex F H) (h : F a = some (.lst xs)) (da : DqAll K F xs (l.map en)) : Wlk M F H (Ite K a) (enumL l) (fun F v x => Dq K F v (e2 PyData.int en x)) := by
  have hl : xs.length = l.length := by rw [da.len, List.length_map]
  refine ⟨_, _, _, walk_enum (K := K) (a := a) (xs := xs), by simp [enumL, rangeL, hl], fun F' H' g' => sq_of (g'.s _ _ (g'.f _ _ h)), fun i x v F' H' H'' g' hx y => ?_⟩
  obtain ⟨T, u, w, rfl, hT, rfl, h1, h2⟩ := y
  obtain ⟨d, hd, hq⟩ := (da.up g'.f).getV h2
  obtain ⟨x1, x2⟩ := x
  unfold enumL at hx
  rw [List.getElem?_zip_eq_some] at hx
  obtain ⟨hx1, hx2⟩ := hx
  have e1 := rangeL_at hx1
  simp only at e1 hx2
  rw [List.getElem?_map, hx2] at hd
  cases hd
  cases h1
  have g2 : Gm [] F' H' (upd F' T (.tup [V.int (i : Nat), w])) (upd H' T (.tup [V.int (i : Nat), w])) := Gm.new g'.s hT
  refine ⟨_, g2, .tup (st_of upd_same) (.cons ?_ (.cons (hq.up g2.f) .nil))⟩
  rw [e1, Int.zero_add]
  exact .int _
theorem wlk_zip {α' : Type} {l' : List α'} {en' : α' → PyData} (e : Ex F H) (h : F a = some (.lst xs)) (da : DqAll K F xs (l.map en)) (h' : F b = some (.lst ys)) (da' : DqAll K F ys (l'.map en')) : Wlk M F H (Itz K a b) (l.zip l') (fun F v x => Dq K F v (e2 en en' x)) := by
  have hl : xs.length = l.length := by rw [da.len, List.length_map]
  have hl' : ys.length = l'.length := by rw [da'.len, List.length_map]
  refine ⟨_, _, _, walk_zip (K := K) (a := a) (b := b) (xs := xs) (ys := ys) rfl, by simp [hl, hl'], fun F' H' g' => ⟨sq_of (g'.s _ _ (g'.f _ _ h)), sq_of (g'.s _ _ (g'.f _ _ h'))⟩, fun i x v F' H' H'' g' hx y => ?_⟩
  obtain ⟨T, u, w, rfl, hT, rfl, h1, h2⟩ := y
  obtain ⟨d, hd, hq⟩ := (da.up g'.f).getV h1
  obtain ⟨d', hd', hq'⟩ := (da'.up g'.f).getV h2
  obtain ⟨x1, x2⟩ := x
  rw [List.getElem?_zip_eq_some] at hx
  obtain ⟨hx1, hx2⟩ := hx
  simp only at hx1 hx2
  rw [List.getElem?_map, hx1] at hd
  rw [List.getElem?_map, hx2] at hd'
  cases hd
  cases hd'
  have g2 : Gm [] F' H' (upd F' T (.tup [u, w])) (upd H' T (.tup [u, w])) := Gm.new g'.s hT
  exact ⟨_, g2, .tup (st_of upd_same) (.cons (hq.up g2.f) (.cons (hq'.up g2.f) .nil))⟩
/-- a for with no way out but its end -/
theorem for_m (w : Wlk M F H J l R) (I : S → Hp → Hp → L2.St → Prop) (k : Post ((foldM step s0 l).bd rest) ok ex) (e : Ex F H) (h0 : I s0 F H σ)
    (hb : ∀ s x v σ' F1 H1 F2 H2, Gm M F H F1 H1 → I s F1 H1 σ' → Gm [] F1 H1 F2 H2 → R F2 v x → ∀ nx : L2.St → Hp → Prop,
      Post (step s x) (fun s' => ∀ σ2 F3 H3, Gm M F H F3 H3 → I s' F3 H3 σ2 → nx σ2 H3) ex → g v σ' H2 fun σ2 H3 => tb { D with nx := nx, ct := nx, bk := D.nx } σ2 H3)
    (kk : ∀ s σ' F' H', Gm M F H F' H' → I s F' H' σ' → Post (rest s) ok ex → D.nx σ' H') :
    ∃ W : Nat → Nat → L2.St → Hp → Prop, (∃ m, W 0 m σ H) ∧ ∀ i m σ H, W i m σ H →
      (J.stop i H ∧ D.nx σ H) ∨ (J.go i H ∧ ∃ N : L2.St → Hp → Prop, (∀ σ' H', N σ' H' → ∃ m', m' < m ∧ W (i + 1) m' σ' H') ∧ ∀ x H', J.yld i H x H' → g x σ H' fun σ2 H2 => tb { D with nx := N, ct := N, bk := D.nx } σ2 H2) := by
  obtain ⟨n, G, Y, w, hn, hG, hY⟩ := w.ex
  refine for_mir w I k e h0 hn hG (fun i s x v σ' F' H' H'' g' i' hx y nx k' => ?_) kk
  obtain ⟨F'', g2, r⟩ := hY i x v F' H' H'' g' hx y
  exact hb s x v σ' F' H' F'' H'' g' i' g2 r nx k'
theorem for_mL {R' : Type} {stepL : S → α → Mm (Fl R' S)} {ret : R' → Mm β} (w : Wlk M F H J l R) (I : S → Hp → Hp → L2.St → Prop) (k : Post ((foldL stepL s0 l).bd fun o => o.el rest ret) ok ex) (e : Ex F H) (h0 : I s0 F H σ)
    (hb : ∀ s x v σ' F1 H1 F2 H2, Gm M F H F1 H1 → I s F1 H1 σ' → Gm [] F1 H1 F2 H2 → R F2 v x → ∀ nx : L2.St → Hp → Prop,
      Post (stepL s x) (fun o => match o with
        | .go s' => ∀ σ2 F3 H3, Gm M F H F3 H3 → I s' F3 H3 σ2 → nx σ2 H3
        | .brk s' => ∀ σ2 F3 H3, Gm M F H F3 H3 → I s' F3 H3 σ2 → D.nx σ2 H3
        | .ret r => Post (ret r) ok ex) ex → g v σ' H2 fun σ2 H3 => tb { D with nx := nx, ct := nx, bk := D.nx } σ2 H3)
    (kk : ∀ s σ' F' H', Gm M F H F' H' → I s F' H' σ' → Post (rest s) ok ex → D.nx σ' H') :
    ∃ W : Nat → Nat → L2.St → Hp → Prop, (∃ m, W 0 m σ H) ∧ ∀ i m σ H, W i m σ H →
      (J.stop i H ∧ D.nx σ H) ∨ (J.go i H ∧ ∃ N : L2.St → Hp → Prop, (∀ σ' H', N σ' H' → ∃ m', m' < m ∧ W (i + 1) m' σ' H') ∧ ∀ x H', J.yld i H x H' → g x σ H' fun σ2 H2 => tb { D with nx := N, ct := N, bk := D.nx } σ2 H2) := by
  obtain ⟨n, G, Y, w, hn, hG, hY⟩ := w.ex
  refine for_mirL w I k e h0 hn hG (fun i s x v σ' F' H' H'' g' i' hx y nx k' => ?_) kk
  obtain ⟨F'', g2, r⟩ := hY i x v F' H' H'' g' hx y
  exact hb s x v σ' F' H' F'' H'' g' i' g2 r nx k'
end
/-! ### comprehensions, three forms -/
theorem tYes_of {σ : L2.St} {H : Hp} {Q : Bool → Hp → Prop} (h : Q true H) : tYes σ H Q := h
def GMon (g : TG) : Prop := ∀ (v : V) (σ1 : L2.St) (H1 : Hp) (Q Q' : L2.St → Hp → Prop), (∀ s h, Q s h → Q' s h) → g v σ1 H1 Q → g v σ1 H1 Q'
def GsMon (g : TGs) : Prop := ∀ (v : List V) (σ1 : L2.St) (H1 : Hp) (Q Q' : L2.St → Hp → Prop), (∀ s h, Q s h → Q' s h) → g v σ1 H1 Q → g v σ1 H1 Q'
theorem gm_name {i : Nat} : GMon (gName i) := fun _ _ _ _ _ h q => h _ _ q
theorem gms_nil : GsMon gNil := fun _ _ _ _ _ h q => ⟨q.1, h _ _ q.2⟩
theorem gms_cons {t : TG} {u : TGs} (a : GMon t) (b : GsMon u) : GsMon (gCons t u) := fun _ _ _ _ _ h q => by
  obtain ⟨v, r, e, z⟩ := q
  exact ⟨v, r, e, a _ _ _ _ _ (fun s h' z' => b _ _ _ _ _ h z') z⟩
theorem gm_tup {K : PySem.W.Frag} {n : Nat} {t : TGs} (a : GsMon t) : GMon (gTup K n t) := fun _ _ _ _ _ h q => by
  obtain ⟨p, xs, e1, e2, e3, z⟩ := q
  exact ⟨p, xs, e1, e2, e3, a _ _ _ _ _ h z⟩

def mapMm {α γ : Type} (f : α → Mm γ) : List α → Mm (List γ)
  | [] => .ok []
  | x :: xs => (f x).bd fun y => (mapMm f xs).bd fun ys => .ok (y :: ys)
def filMm {α γ : Type} (f : α → Mm (Option γ)) : List α → Mm (List γ)
  | [] => .ok []
  | x :: xs => (f x).bd fun y => (filMm f xs).bd fun ys => .ok (y.toList ++ ys)
def mapSt {α γ S : Type} (f : S → α → Mm (γ × S)) : S → List α → Mm (List γ × S)
  | s, [] => .ok ([], s)
  | s, x :: xs => (f s x).bd fun y => (mapSt f y.2 xs).bd fun ys => .ok (y.1 :: ys.1, ys.2)
theorem bd_assoc {α β γ : Type} (m : Mm α) (f : α → Mm β) (g : β → Mm γ) : (m.bd f).bd g = m.bd fun a => (f a).bd g := by cases m <;> rfl
theorem bd_id {α : Type} (m : Mm α) : m.bd Mm.ok = m := by cases m <;> rfl
theorem filMm_comp {α γ : Type} (f : α → Mm (Option γ)) : ∀ l : List α, filMm f l = (compM (fun (_ : Unit) x => (f x).bd fun o => .ok (o, ())) () l).bd fun r => .ok r.1
  | [] => rfl
  | x :: xs => by
    simp only [filMm, compM, filMm_comp f xs, bd_assoc, bd_ok]
theorem mapMm_comp {α γ : Type} (f : α → Mm γ) : ∀ l : List α, mapMm f l = (compM (fun (_ : Unit) x => (f x).bd fun o => .ok (some o, ())) () l).bd fun r => .ok r.1
  | [] => rfl
  | x :: xs => by
    simp only [mapMm, compM, mapMm_comp f xs, bd_assoc, bd_ok, Option.toList, List.cons_append, List.nil_append]
theorem mapSt_comp {α γ S : Type} (f : S → α → Mm (γ × S)) : ∀ (s : S) (l : List α), mapSt f s l = compM (fun s x => (f s x).bd fun o => .ok (some o.1, o.2)) s l
  | _, [] => rfl
  | s, x :: xs => by
    simp only [mapSt, compM, bd_assoc, bd_ok, Option.toList, List.cons_append, List.nil_append]
    congr 1
    funext o
    rw [mapSt_comp f o.2 xs]
section
variable {K : PySem.W.Frag} {M : List Addr} {F H : Hp} {σ : L2.St} {g : TG} {tt : TT} {te : TE} {vs : List Nat} {α β γ S : Type} {l : List α} {ok : β → Prop} {ex : Er → Prop} {s0 : S} {J : It} {R : Hp → V → α → Prop} {Q : VK}
theorem lc_map {f : α → Mm γ} {rest : List γ → Mm β} (w : Wlk M F H J l R) (en : γ → PyData) (k : Post ((mapMm f l).bd rest) ok ex) (e : Ex F H) (hz : l.length ≤ 50000) (hM : ∀ D, H D = none → D ∉ M)
    (hb : ∀ x v F1 H1 F2 H2, Gm M F H F1 H1 → Gm [] F1 H1 F2 H2 → R F2 v x → ∀ Q : VK, Post (f x) (fun y => Ret M F1 H1 (fun F3 _ u => Dq K F3 u (en y)) Q) (fun _ => False) →
      g v (wipe σ vs) H2 fun σ2 H3 => wipe σ2 vs = wipe σ vs ∧ te σ2 H3 Q)
    (hx : ∀ e, ¬ ex e) (kk : ∀ (r : List γ) v F' H', Gm M F H F' H' → Dq K F' v (eL en r) → Post (rest r) ok ex → Q v H') (mono : GMon g) :
    ∀ D, H D = none → ∃ W : Nat → Nat → Hp → Prop, (∃ m, W 0 m (upd H D (.lst []))) ∧ ∀ i m H, W i m H →
      (J.stop i H ∧ Q (.ref D) H) ∨ (J.go i H ∧ ∃ Nx : Hp → Prop, (∀ H', Nx H' → ∃ m', m' < m ∧ W (i + 1) m' H') ∧ ∀ x H', J.yld i H x H' → g x (wipe σ vs) H' fun σ2 H2 => wipe σ2 vs = wipe σ vs ∧ tYes σ2 H2 fun b H3 =>
        if b = true then te σ2 H3 fun y H4 => ∃ acc, H4 D = some (.lst acc) ∧ acc.length < sizeLine ∧ Nx (upd H4 D (.lst (acc ++ [y]))) else Nx H3) := by
  obtain ⟨n, G, Y, w, hn, hG, hY⟩ := w.ex
  rw [mapMm_comp, bd_assoc] at k
  refine lc_mir w en (fun _ _ _ => True) k e trivial stab_t hn hz hG hM (fun i s x v F' H' H'' g' _ hx y Q' k' => ?_) hx (fun r v F' H' g' _ d k' => kk r.1 v F' H' g' d k')
  obtain ⟨F'', g2, r⟩ := hY i x v F' H' H'' g' hx y
  refine mono _ _ _ _ _ (fun σ2 H3 z => ⟨z.1, ?_⟩) (hb x v F' H' F'' H'' g' g2 r (fun u H4 => Q' (some u) H4) ((post_bd k').mono (fun y q u F3 H3 g3 d => q.h F3 H3 _ g3 trivial ⟨u, rfl, d⟩) fun _ z => z))
  exact tYes_of (iteT z.2)
theorem lc_st {f : Rw → α → Mm (γ × Rw)} {s0 : Rw} {rest : List γ × Rw → Mm β} {sc ra : Addr} {scr : List Int} (w : Wlk [ra] F H J l R) (en : γ → PyData) (k : Post ((mapSt f s0 l).bd rest) ok ex) (e : Ex F H) (hz : l.length ≤ 50000) (h0 : RowAt K sc ra scr F H s0)
    (hb : ∀ s x v F1 H1 F2 H2, Gm [ra] F H F1 H1 → RowAt K sc ra scr F1 H1 s → Gm [] F1 H1 F2 H2 → R F2 v x → ∀ Q : VK, Post (f s x) (fun y => Ret [ra] F1 H1 (fun F3 H3 u => Dq K F3 u (en y.1) ∧ RowAt K sc ra scr F3 H3 y.2) Q) (fun _ => False) →
      g v (wipe σ vs) H2 fun σ2 H3 => wipe σ2 vs = wipe σ vs ∧ te σ2 H3 Q)
    (hx : ∀ e, ¬ ex e) (kk : ∀ (r : List γ × Rw) v F' H', Gm [ra] F H F' H' → Dq K F' v (eL en r.1) ∧ RowAt K sc ra scr F' H' r.2 → Post (rest r) ok ex → Q v H') (mono : GMon g) :
    ∀ D, H D = none → ∃ W : Nat → Nat → Hp → Prop, (∃ m, W 0 m (upd H D (.lst []))) ∧ ∀ i m H, W i m H →
      (J.stop i H ∧ Q (.ref D) H) ∨ (J.go i H ∧ ∃ Nx : Hp → Prop, (∀ H', Nx H' → ∃ m', m' < m ∧ W (i + 1) m' H') ∧ ∀ x H', J.yld i H x H' → g x (wipe σ vs) H' fun σ2 H2 => wipe σ2 vs = wipe σ vs ∧ tYes σ2 H2 fun b H3 =>
        if b = true then te σ2 H3 fun y H4 => ∃ acc, H4 D = some (.lst acc) ∧ acc.length < sizeLine ∧ Nx (upd H4 D (.lst (acc ++ [y]))) else Nx H3) := by
  obtain ⟨n, G, Y, w, hn, hG, hY⟩ := w.ex
  rw [mapSt_comp] at k
  refine lc_mir w en (fun s F H => RowAt K sc ra scr F H s) k e h0 (stab_row h0) hn hz hG (row_notM h0) (fun i s x v F' H' H'' g' i' hx y Q' k' => ?_) hx (fun r v F' H' g' i' d k' => kk r v F' H' g' ⟨d, i'⟩ k')
  obtain ⟨F'', g2, r⟩ := hY i x v F' H' H'' g' hx y
  refine mono _ _ _ _ _ (fun σ2 H3 z => ⟨z.1, ?_⟩) (hb s x v F' H' F'' H'' g' i' g2 r (fun u H4 => Q' (some u) H4) ((post_bd k').mono (fun y q u F3 H3 g3 d => q.h F3 H3 _ g3 d.2 ⟨u, rfl, d.1⟩) fun _ z => z))
  exact tYes_of (iteT z.2)
end
end Wk

set_option Elab.async false
set_option linter.all false
set_option maxRecDepth 100000
set_option maxHeartbeats 4000000
namespace Wk
open PySem L2 Evl
theorem units_of {k : Nat} {A : Around} (r : Room k A) : A.units + 64 < cLine := r.units
theorem units_of2 {k : Nat} {A : Around} (r : Room k A) : A.units + 65 < cLine := by have := r.un; omega
def absI (i : Int) : Int := if i < 0 then -i else i
def maxI (i j : Int) : Int := if j > i then j else i
def minI (i j : Int) : Int := if j < i then j else i
theorem decV_int {i j : Int} : decide (V.int i = V.int j) = decide (i = j) := Bool.eq_iff_iff.mpr (by simp)
theorem decV_bl {i j : Bool} : decide (V.bl i = V.bl j) = decide (i = j) := Bool.eq_iff_iff.mpr (by simp)
theorem decV_str {i j : Str} : decide (V.str i = V.str j) = decide (i = j) := Bool.eq_iff_iff.mpr (by simp)
section
variable {K : PySem.W.Frag} {M : List Addr} {F F' H H' : Hp} {Q : VK} {α : Type} {en : α → PyData} {l l' : List α} {xs ys : List V} {a b p : Addr} {v : V} {ds : List PyData}
theorem none_O {o : Option α} (h : Dq K F v (eO en o)) (hn : ∀ a, en a ≠ .none := by intro a; exact fun h => nomatch h) : decide (v = .non) = o.isNone := by
  cases o with
  | none => cases h; rfl
  | some a =>
    refine decide_eq_false fun q => ?_
    subst q
    have h2 : Dq K F V.non (en a) := h
    have := hn a
    cases e : en a with
    | none => exact this e
    | _ => rw [e] at h2; cases h2
theorem chain_j {a b : Bool} {Q : VK} {σ : L2.St} {u : TE} {g : V → Hp → VK → Prop} (hu : a = true → ∀ Q' : VK, Q' (.bl b) H → u σ H fun w H' => g w H' Q') (k : Q (.bl (a && b)) H) :
    if a = true then u σ H (fun w H' => g w H' Q) else Q (.bl false) H := by
  cases a with
  | true => rw [if_pos rfl]; exact hu rfl Q k
  | false => rw [if_neg Bool.false_ne_true]; exact k
theorem len_all (h : DqAll K F xs (l.map en)) : (xs.length : Int) = (l.length : Int) := by rw [h.len, List.length_map]
theorem all_ints {l : List Int} (h : DqAll K F xs (l.map PyData.int)) : xs = l.map V.int := by
  induction l generalizing xs with
  | nil => cases h; rfl
  | cons i l ih => cases h with | cons h1 h2 => cases h1; rw [ih h2]; rfl
theorem ints_all : ∀ l : List Int, DqAll K F (l.map V.int) (l.map PyData.int)
  | [] => .nil
  | i :: l => .cons (.int i) (ints_all l)
theorem cat_len {l l' : List α} (h : DqAll K F xs (l.map en)) (h' : DqAll K F ys (l'.map en)) (hl : l.length + l'.length ≤ 100000) : xs.length + ys.length ≤ sizeLine := sz_of (by
  have := h.len
  have := h'.len
  rw [List.length_map] at *
  omega)
theorem new_lstC {l l' : List α} (e : Ex F H) (h : DqAll K F xs (l.map en)) (h' : DqAll K F ys (l'.map en)) (k : Ret M F H (fun F' _ v => Dq K F' v (eL en (l ++ l'))) Q) : ∀ p, H p = none → Q (.ref p) (upd H p (.lst (xs ++ ys))) := fun p hp => by
  have g : Gm M F H (upd F p (.lst (xs ++ ys))) (upd H p (.lst (xs ++ ys))) := Gm.new e hp
  refine k _ _ _ g (.lst upd_same ?_)
  rw [List.map_append]
  exact (h.app h').up g.f
/-- tuple + tuple -/
def rCatM (K : PySem.W.Frag) : R2 := rCatA K
theorem op_catM {X : Cx} : OpR X (binaryOp .Add) (rCatM X.K) := op_catA
theorem cat_tup {l l' : List α} (e : Ex F H) (s : SqT K F a xs) (h : DqAll K F xs (l.map en)) (s' : SqT K F b ys) (h' : DqAll K F ys (l'.map en)) (hl : l.length + l'.length ≤ 100000) (k : Ret M F H (fun F' _ v => Dq K F' v (eV en (l ++ l'))) Q) : rCatM K (.ref a) (.ref b) H Q := by
  refine ⟨a, b, xs, ys, rfl, rfl, ex_t e s, ex_t e s', cat_len h h' hl, fun q => ?_, fun _ q => ?_, fun _ _ p hp => ?_⟩
  · have hl0 : l = [] := by
      have := h.len
      rw [q, List.length_map] at this
      exact List.length_eq_zero_iff.mp this.symm
    exact k _ _ _ (Gm.refl e) (by rw [hl0]; exact .tup s' h')
  · have hl0 : l' = [] := by
      have := h'.len
      rw [q, List.length_map] at this
      exact List.length_eq_zero_iff.mp this.symm
    exact k _ _ _ (Gm.refl e) (by rw [hl0, List.append_nil]; exact .tup s h)
  · have g : Gm M F H (upd F p (.tup (xs ++ ys))) (upd H p (.tup (xs ++ ys))) := Gm.new e hp
    refine k _ _ _ g (.tup (st_of upd_same) ?_)
    rw [List.map_append]
    exact (h.app h').up g.f
/-- slices -/
def cutL {α : Type} (l : List α) (lo hi : Option Int) : List α := (l.drop (HT.sIx l.length 0 lo)).take (HT.sIx l.length l.length hi - HT.sIx l.length 0 lo)
theorem cut_all {lo hi : Option Int} (h : DqAll K F xs (l.map en)) : DqAll K F (cutV xs lo hi) ((cutL l lo hi).map en) := by
  have hl : xs.length = l.length := by rw [h.len, List.length_map]
  unfold cutV cutL
  rw [hl, List.map_take, List.map_drop]
  exact (h.drop _).take _
theorem cut_lst {lo hi : Option Int} (e : Ex F H) (s : F a = some (.lst xs)) (h : DqAll K F xs (l.map en)) (k : Ret M F H (fun F' _ v => Dq K F' v (eL en (cutL l lo hi))) Q) : rSlL K (.ref a) lo hi H Q :=
  ⟨a, xs, rfl, sq_of (e _ _ s), fun p hp => by
    have g : Gm M F H (upd F p (.lst (cutV xs lo hi))) (upd H p (.lst (cutV xs lo hi))) := Gm.new e hp
    exact k _ _ _ g (.lst upd_same ((cut_all h).up g.f))⟩
theorem sl_tupM {X : Cx} : SlR X (rSlA X.K) := sl_tupA
theorem cut_whole {α : Type} {l : List α} {lo hi : Option Int} (h : HT.sIx l.length 0 lo = 0 ∧ HT.sIx l.length l.length hi = l.length) : cutL l lo hi = l := by
  unfold cutL
  rw [h.1, h.2, List.drop_zero, Nat.sub_zero, List.take_length]
theorem cut_tup {lo hi : Option Int} (e : Ex F H) (s : SqT K F a xs) (h : DqAll K F xs (l.map en)) (k : Ret M F H (fun F' _ v => Dq K F' v (eV en (cutL l lo hi))) Q) : rSlA K (.ref a) lo hi H Q := by
  have hl : xs.length = l.length := by rw [h.len, List.length_map]
  refine ⟨a, xs, rfl, ex_t e s, fun q => ?_, fun _ p hp => ?_⟩
  · rw [hl] at q
    refine k _ _ _ (Gm.refl e) ?_
    rw [cut_whole q]
    exact .tup s h
  · have g : Gm M F H (upd F p (.tup (cutV xs lo hi))) (upd H p (.tup (cutV xs lo hi))) := Gm.new e hp
    exact k _ _ _ g (.tup (st_of upd_same) ((cut_all h).up g.f))
/-- list(x), tuple(x) -/
theorem to_LL (e : Ex F H) (s : F a = some (.lst xs)) (h : DqAll K F xs (l.map en)) (k : Ret M F H (fun F' _ v => Dq K F' v (eL en l)) Q) : ∃ p ys, [V.ref a] = [.ref p] ∧ (SqL K H p ys ∨ SqT K H p ys) ∧ ∀ l, H l = none → Q (.ref l) (upd H l (.lst ys)) :=
  ⟨a, xs, rfl, .inl (sq_of (e _ _ s)), fun p hp => by
    have g : Gm M F H (upd F p (.lst xs)) (upd H p (.lst xs)) := Gm.new e hp
    exact k _ _ _ g (.lst upd_same (h.up g.f))⟩
theorem to_LV (e : Ex F H) (s : SqT K F a xs) (h : DqAll K F xs (l.map en)) (k : Ret M F H (fun F' _ v => Dq K F' v (eL en l)) Q) : ∃ p ys, [V.ref a] = [.ref p] ∧ (SqL K H p ys ∨ SqT K H p ys) ∧ ∀ l, H l = none → Q (.ref l) (upd H l (.lst ys)) :=
  ⟨a, xs, rfl, .inr (ex_t e s), fun p hp => by
    have g : Gm M F H (upd F p (.lst xs)) (upd H p (.lst xs)) := Gm.new e hp
    exact k _ _ _ g (.lst upd_same (h.up g.f))⟩
theorem to_VL (e : Ex F H) (s : F a = some (.lst xs)) (h : DqAll K F xs (l.map en)) (k : Ret M F H (fun F' _ v => Dq K F' v (eV en l)) Q) :
    ∃ p ys, [V.ref a] = [.ref p] ∧ ((SqL K H p ys ∧ ∀ l, H l = none → Q (.ref l) (upd H l (.tup ys))) ∨ (SqT K H p ys ∧ Q (.ref p) H)) :=
  ⟨a, xs, rfl, .inl ⟨sq_of (e _ _ s), fun p hp => by
    have g : Gm M F H (upd F p (.tup xs)) (upd H p (.tup xs)) := Gm.new e hp
    exact k _ _ _ g (.tup (st_of upd_same) (h.up g.f))⟩⟩
theorem to_VV (e : Ex F H) (s : SqT K F a xs) (h : DqAll K F xs (l.map en)) (k : Ret M F H (fun F' _ v => Dq K F' v (eV en l)) Q) :
    ∃ p ys, [V.ref a] = [.ref p] ∧ ((SqL K H p ys ∧ ∀ l, H l = none → Q (.ref l) (upd H l (.tup ys))) ∨ (SqT K H p ys ∧ Q (.ref p) H)) :=
  ⟨a, xs, rfl, .inr ⟨ex_t e s, k _ _ _ (Gm.refl e) (.tup s h)⟩⟩
/-- of an own list -/
theorem to_VO (e : Ex F H) (o : H a = some (.lst xs)) (h : DqAll K F xs (l.map en)) (k : Ret M F H (fun F' _ v => Dq K F' v (eV en l)) Q) :
    ∃ p ys, [V.ref a] = [.ref p] ∧ ((SqL K H p ys ∧ ∀ l, H l = none → Q (.ref l) (upd H l (.tup ys))) ∨ (SqT K H p ys ∧ Q (.ref p) H)) :=
  ⟨a, xs, rfl, .inl ⟨sq_of o, fun p hp => by
    have g : Gm M F H (upd F p (.tup xs)) (upd H p (.tup xs)) := Gm.new e hp
    exact k _ _ _ g (.tup (st_of upd_same) (h.up g.f))⟩⟩
/-- a new own list -/
theorem new_own (e : Ex F H) (h : DqAll K F xs ds) (hl : xs.length ≤ 100000) (k : ∀ p H', Gm [] F H F H' → H p = none → (H' p = some (.lst xs) ∧ F p = none) → Q (.ref p) H') : xs.length ≤ sizeLine ∧ ∀ p, H p = none → Q (.ref p) (upd H p (.lst xs)) :=
  ⟨sz_of hl, fun p hp => k p _ (Gm.newM e hp) hp ⟨upd_same, by
    cases q : F p with
    | none => rfl
    | some u => rw [e p u q] at hp; cases hp⟩⟩
theorem own_sz (h : DqAll K F xs (l.map en)) (hl : l.length < 100000) : xs.length < sizeLine := sz_lt (by rw [h.len, List.length_map]; exact hl)
theorem RowAt.put {sc ra : Addr} {scr : List Int} {st : Rw} {o : HO} (w : RowAt K sc ra scr F H st) (h : ra ≠ p) : RowAt K sc ra scr F (upd H p o) st := ⟨by rw [upd_ne h]; exact w.1, w.2.1, w.2.2⟩
theorem RowAt.fix {sc ra : Addr} {scr : List Int} {st : Rw} {o : HO} (w : RowAt K sc ra scr F H st) (h : ra ≠ p) (u : Ex F (upd F p o)) : RowAt K sc ra scr (upd F p o) H st := ⟨w.1, by rw [upd_ne h]; exact w.2.1, ex_l u w.2.2⟩
end
section
variable {X : Cx}
theorem call_lenM : CallR X (.builtin "len") (fun xs H Q => ∃ p ys n, xs = [.ref p] ∧ (SqL X.K H p ys ∨ SqT X.K H p ys) ∧ (ys.length : Int) = n ∧ Q (.int n) H) := by
  intro pins s σ H vs us Q I r h
  obtain ⟨p, ys, n, rfl, hq, rfl, q⟩ := h
  exact call_len_seq pins s σ H _ us Q I r ⟨p, ys, rfl, hq, q⟩
theorem call_intM : CallR X (.type "int") (fun xs H Q => ∃ i, xs = [.int i] ∧ Q (.int i) H) := by
  intro pins s σ H vs us Q I r h
  exact call_int1 pins s σ H vs us Q I r (.inl h)
section
variable {α : Type} [DecidableEq α] {f : α → PyData} {n : Nat}
def hasM {α : Type} [DecidableEq α] (l : List α) (a : α) : Bool := l.contains a
def rInM (K : PySem.W.Frag) (f : α → PyData) : R2 := fun x y H Q => ∃ (a : α) (l : List α), Dp K H x (f a) ∧ Dp K H y (eL f l) ∧ Q (.bl (hasM l a)) H
def rNotInM (K : PySem.W.Frag) (f : α → PyData) : R2 := fun x y H Q => ∃ (a : α) (l : List α), Dp K H x (f a) ∧ Dp K H y (eL f l) ∧ Q (.bl (!hasM l a)) H
theorem any_eqv (s : Sh f n) (a : α) (l : List α) : (l.map f).any (fun z => PyData.eqv z (f a)) = l.contains a := by
  induction l with
  | nil => rfl
  | cons b l ih =>
    rw [List.map_cons, List.any_cons, ih, List.contains_cons, s.eq]
    congr 1
    exact Bool.eq_iff_iff.mpr (by simp only [decide_eq_true_eq, beq_iff_eq]; exact ⟨Eq.symm, Eq.symm⟩)
theorem op_inM (s : Sh f n) (hu : X.A.units + 65 < cLine) (hn : n + 1 ≤ 64 := by decide) : OpR X (compareOp .In) (rInM X.K f) := by
  intro pins st σ H x y v u Q I rx ry h
  obtain ⟨a, l, ha, hl, q⟩ := h
  refine op_inD hu pins st σ H x y v u Q I rx ry ⟨f a, l.map f, ha, hl, s.shaped (by omega) a, (sh_eL s).shaped hn l, ?_⟩
  rw [any_eqv s]
  exact q
theorem op_notInM (s : Sh f n) (hu : X.A.units + 65 < cLine) (hn : n + 1 ≤ 64 := by decide) : OpR X (compareOp .NotIn) (rNotInM X.K f) := by
  intro pins st σ H x y v u Q I rx ry h
  obtain ⟨a, l, ha, hl, q⟩ := h
  refine op_notInD hu pins st σ H x y v u Q I rx ry ⟨f a, l.map f, ha, hl, s.shaped (by omega) a, (sh_eL s).shaped hn l, ?_⟩
  rw [any_eqv s]
  exact q
end
end
end Wk

set_option Elab.async false
set_option linter.all false
set_option maxRecDepth 100000
set_option maxHeartbeats 4000000
namespace Wk
open PySem L2 Evl PySem.Spec PyProof.Rows
/-! ### enumerate of a tuple -/
theorem meets_enT (a : Addr) (its : Array Value) :
    Meets (Builtin.«enumerate.__new__» ⟨[.type "enumerate", .ref a], []⟩) (fun _ R z => z.heap.IsTuple a its ∧
      R (.ok (.ret (.ref (z.heap.push { cls := .type "tuple_iterator", data := .fields #[.ref a, .int 0 0] }).objs.size)))
        { z with heap := (z.heap.push { cls := .type "tuple_iterator", data := .fields #[.ref a, .int 0 0] }).push { cls := .type "enumerate", data := .fields #[.none, .bool false, .ref z.heap.objs.size, rawInt 0, .none, .none] } }) :=
  .of_wp fun prog w A R z h => by
    obtain ⟨hp, ge, dr, tk, os⟩ := z
    obtain ⟨ht, h⟩ := h
    have sub := sub_enumerate
    have ht' : Heap.IsTuple (Shared.heap ⟨hp, ge, dr, tk, os⟩) a its := ht
    obtain ⟨⟨c, dd, dt, sl⟩, hl, hc, n, hd⟩ := ht
    replace hc : c = .type "tuple" := hc
    replace hd : dt = .seq its n := hd
    subst hc hd
    wp_walk using AutoSeq1.wpAny_loadPart' hl
    refine wpAny_stack_any fun st => wpAny_pure ?_
    split
    · rename_i c _ _ _ _ _
      cases (c == Value.type "enumerate")
      all_goals
        wp_walk using AutoSeq1.wpAny_loadPart' hl, wpAny_pyIter_tuple ht'
        exact ⟨_, rfl, h⟩
    · wp_walk using AutoSeq1.wpAny_loadPart' hl, wpAny_pyIter_tuple ht'
      exact ⟨_, rfl, h⟩
section
variable {prog : Program} {w : World} {A : Around} {E : Value → Shared → Prop} {z : Shared}
theorem call_enT {a : Addr} {its : Array Value} {Q : Value → Shared → Prop} (ht : z.heap.IsTuple a its)
    (h : ∀ h', IsEnum h' (z.heap.objs.size + 1) z.heap.objs.size 0 .none → h'.IsTupleIter z.heap.objs.size a 0 → h'.objs.size = z.heap.objs.size + 2 →
      (∀ c o, z.heap.get? c = some o → h'.get? c = some o) → Q (.ref (z.heap.objs.size + 1)) { z with heap := h' }) :
    wpAny (model prog w) A (call (.type "enumerate") [.ref a]) Q E z := by
  refine callType_new F.called_enumerate (by decide) (F.typeCall_enumerate_1 _) (F.newCall_enumerate_1 _) (fun ob => F.args_object_init_2 ob _) F.entry_enumerate_new (meets_enT a its) ⟨ht, ?_⟩
  have sz : (z.heap.push { cls := .type "tuple_iterator", data := .fields #[.ref a, .int 0 0] }).objs.size = z.heap.objs.size + 1 := Heap.size_push ..
  show _ ∧ _
  rw [sz]
  have en : IsEnum ((z.heap.push { cls := .type "tuple_iterator", data := .fields #[.ref a, .int 0 0] }).push
      { cls := .type "enumerate", data := .fields #[.none, .bool false, .ref z.heap.objs.size, rawInt 0, .none, .none] }) (z.heap.objs.size + 1) z.heap.objs.size 0 .none := by
    have q := Heap.get?_push_size (z.heap.push { cls := .type "tuple_iterator", data := .fields #[.ref a, .int 0 0] })
      (o := { cls := .type "enumerate", data := .fields #[.none, .bool false, .ref z.heap.objs.size, rawInt 0, .none, .none] }) rfl
    rw [sz] at q
    exact q
  exact ⟨⟨_, en, rfl⟩, h _ en ⟨_, Heap.get?_push_of_some _ (Heap.get?_push_size _ rfl), rfl, rfl⟩ (by rw [Heap.size_push, sz]) fun c o x => Heap.get?_push_of_some _ (Heap.get?_push_of_some _ x)⟩
end
theorem end_enT {prog : Program} {w : World} {A : Around} {E : Value → Shared → Prop} {z : Shared} {e it a : Addr} {i : Nat} {its : Array Value} {old : Value} {Q : Option Value → Shared → Prop} (hh : A.handled = none)
    (he : IsEnum z.heap e it i old) (hit : z.heap.IsTupleIter it a i) (ht : z.heap.IsTuple a its) (hx : its[i]? = none)
    (hQ : ∀ h', Heap.ExtBut it z.heap h' → Q none { z with heap := h' }) : wpAny (model prog w) A (pyNext (.ref e)) Q E z := by
  have ty : z.TypeIs (.ref e) "enumerate" := ⟨_, he, rfl⟩
  unfold pyNext
  refine wpAny_bind (wpAny_attempt (wpAny_callSpecial?_slot (name := Str.ofString "__next__") ty F.slot_enumerate_next (wpAny_call_entry F.slot_enumerate_next ty F.entry_enumerate_next ?_ (F.args_enumerate_next_1 _))))
  show wpAny _ _ (field (.ref e) 2 >>= _) _ _ _
  refine wpAny_bind (wpAny_field he rfl (x := .ref it) rfl ?_)
  refine wpAny_bind (wpAny_nextOf_tuple_end hh hit ht hx fun h' x he' hx' => ?_)
  obtain ⟨o, ho, hc⟩ := hx'
  exact wpAny_bind (wpAny_isInstance (T := "StopIteration") (b := true) ⟨o, ho, hc⟩ isSubtype_stop (wpAny_pure (hQ _ he')))
/-- the tuple at a, each item in a new pair -/
def IteT (K : PySem.W.Frag) (a : Addr) : It :=
  ⟨fun i H => ∃ (xs : List V) (x : V), SqT K H a xs ∧ xs[i]? = some x, fun i H v H' => ∃ T x, v = .ref T ∧ H T = none ∧ H' = upd H T (.tup [.int (i : Nat), x]) ∧ ∀ xs, SqT K H a xs → xs[i]? = some x, fun i H => ∃ xs : List V, SqT K H a xs ∧ xs.length ≤ i⟩
theorem turn_enT {P : Program} {w : World} {K : PySem.W.Frag} {es : List Expr} {kk : Nat} {tp : Pos} (a e it : Addr) (hai : a ≠ it) :
    Turn P w K (.Tuple es kk tp) (IteT K a) [e, it] e (fun i h => (∃ old, IsEnum h e it ((i : Nat) : Int) old) ∧ h.IsTupleIter it a i ∧ e ≠ it) where
  mem := by simp
  obj := fun i h st b hb => by
    obtain ⟨⟨old, he⟩, ⟨o, ho, hc, hd⟩, _⟩ := st
    rcases (show b = e ∨ b = it by simpa using hb) with q | q
    · rw [q]
      exact ⟨_, he, fun v q => nomatch q⟩
    · rw [q]
      exact ⟨o, ho, fun v q => by rw [hd] at q; cases q⟩
  keep := fun i h h' st k => by
    obtain ⟨⟨old, he⟩, hi, hne⟩ := st
    exact ⟨⟨old, k e (by simp) _ he⟩, hi.at fun o q => k it (by simp) o q, hne⟩
  item := by
    intro X hP hw hK hc i pins s σ H E I hf st hg
    subst hP hw hK
    obtain ⟨⟨old, he⟩, hit, hne⟩ := st
    obtain ⟨xs, x, hq, hx⟩ := hg
    obtain ⟨its, rv, p, hz⟩ := I.tuple hq
    obtain ⟨u, hu, ru⟩ := rv.get hx
    have le : e < s.heap.objs.size := Heap.lt_size he
    have li : it < s.heap.objs.size := by
      obtain ⟨_, q, _⟩ := hit
      exact Heap.lt_size q
    have pT : s.heap.IsTuple a its.toArray := p
    have D := (Draws.tuple (prog := X.prog) (w := X.w) (A := X.A.in1) (show X.A.in1.handled = none from I.ok.hd hc) it a hai its.toArray)
    have hi : i < its.toArray.size := by
      have := (List.getElem?_eq_some_iff.mp hu).1
      simpa using this
    have hnm : e ∉ [it, a] := fun hm => by
      rcases (show e = it ∨ e = a by simpa using hm) with q | q
      · exact hne q
      · obtain ⟨o1, q1, c1, _⟩ := pT
        rw [← q, he] at q1
        cases q1
        exact nomatch (show Value.type "enumerate" = Value.type "tuple" from c1) 
    refine wpAny_pyNext_enum_itemD D he ⟨hit, pT⟩ hi hne hnm fun y h' tk hy ho ht' hT hsz hk => ?_
    · have ey : u = y := by
        have hu' : its.toArray[i]? = some u := by simpa using hu
        rw [hy] at hu'
        exact (Option.some.inj hu').symm
      subst ey
      obtain ⟨hit', _⟩ := ht'
      refine ⟨_, rfl, wpAny_letOwnedTupleGo_enum (s := { s with heap := h', toks := tk + 1 }) ho fun h'' he' sb => ?_⟩
      have hT2 : h''.get? s.heap.objs.size = some { cls := .type "tuple", data := .seq #[.int i tk, u] } := (sb.2 _ (Nat.ne_of_gt le)).trans hT
      have new : ObjOk X.prog X.w (upd H s.heap.objs.size (.tup [.int (i : Nat), x])) h'' s.heap.objs.size (.tup [.int (i : Nat), x]) :=
        ⟨by show 2 ≤ sizeLine; decide, [.int i tk, u], .cons ⟨_, rfl⟩ (.cons ru .nil), ⟨_, hT2, rfl, _, rfl⟩⟩
      have J : Inv X pins σ (upd H s.heap.objs.size (.tup [.int (i : Nat), x])) { s with heap := h'', toks := tk + 1 } :=
        I.turnedNew (ch := [e, it]) (fun b ob hb q => (sb.2 b (fun q2 => hb (by simp [q2]))).trans (hk b ob (fun q2 => hb (by simp [q2])) (fun q2 => hb (by simp [q2])) q)) hf (Nat.le_refl _) new
      refine ⟨.ref s.heap.objs.size, _, J, rfl, ⟨_, x, rfl, I.hok.fresh (Nat.le_refl _), rfl, fun ys hy => by rw [I.tuple_inj hy hq]; exact hx⟩, ⟨⟨u, ?_⟩, hit'.at fun o q => (sb.2 it (Ne.symm hne)).trans q, hne⟩, fun b hb => ?_⟩
      · have e1 : ((i + 1 : Nat) : Int) = (i : Int) + 1 := by omega
        rw [e1]
        exact he'
      · have lb : b < s.heap.objs.size := by
          rcases (show b = e ∨ b = it by simpa using hb) with q | q
          · rw [q]; exact le
          · rw [q]; exact li
        rw [upd_ne (Nat.ne_of_lt lb)]
        exact (hf b hb).1
  done := by
    intro X hP hw hK hc i pins s σ H E I hf st hg
    subst hP hw hK
    obtain ⟨⟨old, he⟩, hit, hne⟩ := st
    obtain ⟨xs, hq, hx⟩ := hg
    obtain ⟨its, rv, p, hz⟩ := I.tuple hq
    obtain ⟨f0, f1, f2, f3, f4, f5⟩ := hf it (by simp)
    have hl := rv.length
    have pT : s.heap.IsTuple a its.toArray := p
    refine end_enT (I.ok.hd hc) he hit pT (by simp; omega) fun h' eb => ⟨rfl, I.turned (t' := s.toks) (fun b o hb q => eb b o hb q) f0 f1 f3 f4 f5⟩
  self := fun A i s Q E st h => by
    obtain ⟨⟨_, he⟩, _⟩ := st
    exact wpAny_pyIter_enum he h
def iEnT (K : PySem.W.Frag) (ta : TA) : TI := fun σ H R => ta σ H fun vs H1 => ∃ a xs, vs = [.ref a] ∧ SqT K H1 a xs ∧ R (IteT K a) H1
theorem pi_enumT {X : Cx} {e : Expr} {ta : TA} {p pos tp : Pos} {es : List Expr} {kk : Nat} (hg : Gl X "enumerate") (hm : X.mg "enumerate" = none) (ha : PA X [e] ta) (hs : starEach [e] X.env = [(false, eval e X.env)] := by rfl) :
    PI X (.Tuple es kk tp) (.Call (.Name "enumerate" p) [e] [] pos) (iEnT X.K ta) := by
  refine ⟨fun pins s σ H R I h => ?_⟩
  refine Call_ (ld_blt I hg hm boot_enumerate (PyProof.Rows.callWith_type1 (thn (ha.run pos pins s σ H _ I h) fun us s1 hh => ?_) hs rfl))
  obtain ⟨vs, H1, I1, r1, a, xs, ex, hq, q⟩ := hh
  subst ex
  cases r1 with
  | cons r rr =>
    cases rr
    cases r
    obtain ⟨its, rv, p', hz⟩ := I1.tuple hq
    have pT : s1.heap.IsTuple a its.toArray := p'
    have la : a < s1.heap.objs.size := by
      obtain ⟨o, q, _⟩ := pT
      exact Heap.lt_size q
    refine call_enT pT fun h' he hit hsz hk => wpAny_pyIter_enum he ?_
    have I2 : Inv X pins σ H1 { s1 with heap := h' } := I1.kept (t' := s1.toks) hk
    refine ⟨s1.heap.objs.size + 1, [s1.heap.objs.size + 1, s1.heap.objs.size], _, _, H1, rfl, I2, turn_enT a (s1.heap.objs.size + 1) s1.heap.objs.size (Nat.ne_of_lt la), ⟨⟨.none, he⟩, hit, Nat.succ_ne_self _⟩, fun b hb => ?_, q⟩
    have hle : s1.heap.objs.size ≤ b := by
      rcases (show b = s1.heap.objs.size + 1 ∨ b = s1.heap.objs.size by simpa using hb) with z | z
      · rw [z]; exact Nat.le_succ _
      · rw [z]; exact Nat.le_refl _
    exact I1.fpOk hle (I1.hok.fresh hle)
section
variable {K : PySem.W.Frag} {M : List Addr} {F H : Hp} {α : Type} {xs : List V} {l : List α} {en : α → PyData} {a : Addr}
theorem wlk_enumT (e : Ex F H) (h : SqT K F a xs) (da : DqAll K F xs (l.map en)) : Wlk M F H (IteT K a) (enumL l) (fun F v x => Dq K F v (e2 PyData.int en x)) := by
  have hl : xs.length = l.length := by rw [da.len, List.length_map]
  refine ⟨xs.length, fun H => SqT K H a xs, YPair (fun i => some (.int (i : Nat))) (fun i => xs[i]?), ⟨fun i _ hi q => ⟨xs, xs[i], q, by simp [hi]⟩, fun _ q => ⟨xs, q, Nat.le_refl _⟩, fun i H v H' _ q y => ?_⟩, by simp [enumL, rangeL, hl], fun F' H' g' => ex_t g'.s (ex_t g'.f h), fun i x v F' H' H'' g' hx y => ?_⟩
  · obtain ⟨T, x, h1, h2, h3, h4⟩ := y
    exact ⟨T, .int (i : Nat), x, h1, h2, h3, rfl, h4 xs q⟩
  · obtain ⟨T, u, w, rfl, hT, rfl, h1, h2⟩ := y
    obtain ⟨d, hd, hq⟩ := (da.up g'.f).getV h2
    obtain ⟨x1, x2⟩ := x
    unfold enumL at hx
    rw [List.getElem?_zip_eq_some] at hx
    obtain ⟨hx1, hx2⟩ := hx
    have e1 := rangeL_at hx1
    simp only at e1 hx2
    rw [List.getElem?_map, hx2] at hd
    cases hd
    cases h1
    have g2 : Gm [] F' H' (upd F' T (.tup [V.int (i : Nat), w])) (upd H' T (.tup [V.int (i : Nat), w])) := Gm.new g'.s hT
    refine ⟨_, g2, .tup (st_of upd_same) (.cons ?_ (.cons (hq.up g2.f) .nil))⟩
    rw [e1, Int.zero_add]
    exact .int _
end
end Wk

set_option Elab.async false
set_option linter.all false
set_option maxRecDepth 100000
set_option maxHeartbeats 4000000
namespace Wk
open PySem L2 Evl PySem.Spec PyProof.Rows
/-! ### set(a list of ints), sorted -/
abbrev emS (w : World) : Obj := { cls := .type "set", dict := none, data := .set #[] 0 (.fresh 0 0 (!w.params.followText "set-order")) }
section
variable {P : Program} {w : World} {A : Around} {E : Value → Shared → Prop} {z : Shared}
theorem call_set_li {u : Addr} {its : Array Value} (ks : List Int) {Q : Value → Shared → Prop} (hh : A.handled = none) (hl : z.heap.IsList u its) (hit : IntsAre its.toList ks) (hb : ks.length + 1 < scanBound)
    (h : ∀ (h' : Heap) (tk c : Nat), SetR w h' z.heap.objs.size (fun j => decide (j ∈ ks)) c → c ≤ ks.length → (∀ b o, z.heap.get? b = some o → h'.get? b = some o) → Q (.ref z.heap.objs.size) { z with heap := h', toks := tk }) :
    wpAny (model P w) A (call (.type "set") [.ref u]) Q E z := by
  have sz : its.size = ks.length := by
    have q := IntsAre.length hit
    rwa [Array.length_toList] at q
  obtain ⟨c, tl, hmro⟩ := F.called_set.mro
  have made := F.called_set.made
  have sub := F.called_set.sub
  refine wpAny_call (codeAny_of_tree ?_); (show wpAny _ _ (callAny (.type "set") _) _ _ _)
  refine wpAny_pure ⟨Code.quiet_builtin _ (by decide +kernel), codeAny_builtin F.entry_type_call ?_⟩; rw [Around.under_plain (weight_type_call_type "set" [.ref u] []) rfl]
  have n1 := F.called_set.notType
  have n2 := F.called_set.canCreate
  have n3 := F.typeCall_set_1 (.ref u)
  repeat (any_goals (first | assumption | wp_step))
  refine codeAny_mono (code_set_led1 (.ref u) (E := E) (Q₁ := fun ob z1 => ob = .ref z.heap.objs.size ∧ z1 = { z with heap := z.heap.push (emS w) }) ⟨rfl, rfl⟩) fun r z1 hr => ?_
  cases r with
  | error e => exact hr
  | ok fl =>
    cases fl with
    | ret ob =>
      obtain ⟨rfl, rfl⟩ := hr
      have atS : (z.heap.push (emS w)).get? z.heap.objs.size = some (emS w) := Heap.get?_push_size _ rfl
      have tyS : Shared.TypeIs { z with heap := z.heap.push (emS w) } (.ref z.heap.objs.size) "set" := ⟨_, atS, rfl⟩
      have i1 := F.called_set.init.lookup
      have i2 := F.called_set.init.bind (.ref z.heap.objs.size)
      repeat (any_goals (first | assumption | wp_step))
      refine codeAny_mono (codeAny_call_builtin (R := wants (fun r z2 => r = .none ∧ ∃ h' tk c, z2 = { z with heap := h', toks := tk } ∧ SetR w h' z.heap.objs.size (fun j => decide (j ∈ ks)) c ∧ c ≤ ks.length ∧
          (∀ b o, z.heap.get? b = some o → h'.get? b = some o)) E) F.called_set.init.plain F.entry_set_init (check_set_init_1 tyS ?_)) fun r2 z2 hr2 => ?_
      · obtain ⟨ol, hol, hcl, nl, hdl⟩ := hl
        obtain ⟨oc, od, dt, sl⟩ := ol
        simp only at hcl hdl
        subst hcl
        subst hdl
        have atU : (z.heap.push (emS w)).get? u = some { cls := .type "list", dict := od, data := .seq its nl, slots := sl } := Heap.get?_push_of_some _ hol
        have no1 := F.sub_list_set
        have no2 := F.sub_list_frozenset
        have no3 : (Value.type "list" == Value.type "dict") = false := by decide
        have isl : (z.heap.push (emS w)).IsList u its := ⟨_, atU, rfl, nl, rfl⟩
        unfold Builtin.«set.__init__» noKeywords Builtin.Frozenset.updateFrom
        generalize hPI : pyIter = pI
        wp_walk
        subst hPI
        refine wpAny_pyIter_list isl ?_
        refine wpAny_bind (wpAny_runValue ?_)
        have lu : u < z.heap.objs.size := Heap.lt_size hol
        have h3 : A.in1.in1.in1.handled = none := by simp [hh]
        have ux : u ≠ (z.heap.push (emS w)).objs.size := by rw [Heap.size_push]; exact Nat.ne_of_lt (Nat.lt_succ_of_lt lu)
        have nf : z.heap.objs.size ∉ [(z.heap.push (emS w)).objs.size, u] := by
          rw [Heap.size_push]
          simp only [List.mem_cons, List.mem_singleton, List.not_mem_nil, or_false, not_or]
          exact ⟨Nat.ne_of_lt (Nat.lt_succ_self _), Nat.ne_of_gt lu⟩
        have val : ∀ (i : Nat) (v : Value), its[i]? = some v → ∃ k t, ks[i]? = some k ∧ v = .int k t := fun i v hv => by
          have hi : i < ks.length := by rw [← sz]; exact (Array.getElem?_eq_some_iff.mp hv).1
          obtain ⟨t, e⟩ := PyProof.Rows.IntsAre.int_at hit i v (by rw [Array.getElem?_toList]; exact hv)
          refine ⟨ks[i], t, List.getElem?_eq_getElem hi, ?_⟩
          rw [e, List.getD_eq_getElem?_getD, List.getElem?_eq_getElem hi]
          all_goals rfl
        refine set_update_ints ((Walks.list h3 _ u ux its).toS) z.heap.objs.size nf ks sz hb val (its.size - 0) 0 _ (by omega) (Nat.zero_le _) ⟨⟨_, Heap.get?_push_size _ rfl, rfl, rfl⟩, (isl.push _)⟩ ?a0 ?a1
        case a0 =>
          have q : ((z.heap.push (emS w)).push { cls := .type "list_iterator", data := .fields #[.ref u, .int 0 0] }).get? z.heap.objs.size = some (emS w) := Heap.get?_push_of_some _ atS
          exact ⟨0, Nat.le_refl 0, setR_new_at q⟩
        case a1 =>
          intro z3 c' hm hc' hS'
          obtain ⟨h', g2, d', tk', os'⟩ := z3
          have eg : g2 = z.gens := hm.gens
          have ed : d' = z.drawn := hm.drawn
          have eo : os' = z.os := hm.os
          subst eg; subst ed; subst eo
          (show wpAny _ _ _ _ _ _); refine wpAny_pure ?_
          show wpAny _ _ (ret Value.none) _ _ _
          rw [sz] at hc'
          refine wpAny_pure ⟨rfl, h', tk', c', rfl, hS', hc', fun b o e => ?_⟩
          have b0 : b < z.heap.objs.size := Heap.lt_size e
          have b2 : b ≠ (z.heap.push (emS w)).objs.size := by rw [Heap.size_push]; exact Nat.ne_of_lt (Nat.lt_succ_of_lt b0)
          exact hm.heap b o (by simp only [List.mem_cons, List.mem_singleton, List.not_mem_nil, or_false, not_or]; exact ⟨Nat.ne_of_lt b0, b2⟩) (Heap.get?_push_of_some _ (Heap.get?_push_of_some _ e))
      · cases r2 with
        | error e => exact hr2
        | ok f2 => cases f2 with
          | ret r =>
            obtain ⟨rfl, h', tk, c', rfl, hS', hc', hk'⟩ := hr2
            repeat (any_goals (first | assumption | wp_step))
            exact h h' tk c' hS' hc' hk'
          | _ => exact False.elim hr2
    | _ => exact False.elim hr
end
end Wk

set_option Elab.async false
set_option linter.all false
set_option maxRecDepth 100000
set_option maxHeartbeats 4000000
namespace Wk
open PySem L2 Evl PySem.Spec PyProof.Rows
section
variable {X : Cx}
/-- set(a list of ints) -/
def rSetM (w : World) (K : PySem.W.Frag) : List V → Hp → VK → Prop := fun vs H Q => ∃ (a : Addr) (ns : List Int), vs = [.ref a] ∧ SqL K H a (ns.map V.int) ∧ ns.length < 64 ∧
  ∀ p c, H p = none → c ≤ ns.length → Q (.ref p) (upd H p (SetO w p (fun j => decide (j ∈ ns)) c))
theorem cr_setM (hcalm : X.calm = true) : CallR X (.type "set") (rSetM X.w X.K) := by
  intro pins s σ H vs us Q I r h
  obtain ⟨a, ns, rfl, hq, h64, q⟩ := h
  cases r with
  | cons r rr =>
    cases rr
    cases r
    obtain ⟨its, rv, pl, hz⟩ := I.list hq
    refine call_set_li ns (I.ok.hd hcalm) pl.isList (by simpa using rv.ints) (by unfold scanBound; omega) fun h' tk c hS hc hk => ?_
    have J : Inv X pins σ (upd H s.heap.objs.size (SetO X.w s.heap.objs.size (fun j => decide (j ∈ ns)) c)) { s with heap := h', toks := tk } := I.laid hk (Nat.le_refl _) (setO_new hS)
    exact ⟨.ref s.heap.objs.size, _, J, rfl, q _ c (I.hok.fresh (Nat.le_refl _)) hc⟩
end
/-! ### a sorted set -/
def insU (x : Int) : List Int → List Int
  | [] => [x]
  | y :: l => if x < y then x :: y :: l else if x = y then y :: l else y :: insU x l
def sortedSet (l : List Int) : List Int := l.foldr insU []
theorem mem_insU (x k : Int) : ∀ l, k ∈ insU x l ↔ k = x ∨ k ∈ l
  | [] => by simp [insU]
  | y :: l => by
    unfold insU
    split
    · simp
    · split
      · rename_i h
        subst h
        simp
      · simp only [List.mem_cons, mem_insU x k l]
        constructor
        · rintro (h | h | h)
          · exact .inr (.inl h)
          · exact .inl h
          · exact .inr (.inr h)
        · rintro (h | h | h)
          · exact .inr (.inl h)
          · exact .inl h
          · exact .inr (.inr h)
theorem asc_insU (x : Int) : ∀ l : List Int, l.Pairwise (· < ·) → (insU x l).Pairwise (· < ·)
  | [], _ => by simp [insU]
  | y :: l, h => by
    obtain ⟨h1, h2⟩ := List.pairwise_cons.mp h
    unfold insU
    split
    · rename_i q
      refine List.pairwise_cons.mpr ⟨fun a ha => ?_, h⟩
      rcases List.mem_cons.mp ha with e | e
      · rw [e]; exact q
      · exact Int.lt_trans q (h1 a e)
    · split
      · exact h
      · refine List.pairwise_cons.mpr ⟨fun a ha => ?_, asc_insU x l h2⟩
        rcases (mem_insU x a l).mp ha with e | e
        · rw [e]; omega
        · exact h1 a e
theorem mem_sortedSet (k : Int) : ∀ l : List Int, k ∈ sortedSet l ↔ k ∈ l
  | [] => by simp [sortedSet]
  | x :: l => by
    show k ∈ insU x (sortedSet l) ↔ _
    rw [mem_insU, mem_sortedSet k l, List.mem_cons]
theorem asc_sortedSet : ∀ l : List Int, (sortedSet l).Pairwise (· < ·)
  | [] => List.Pairwise.nil
  | x :: l => asc_insU x _ (asc_sortedSet l)
/-- two ascending lists of the same members are one -/
theorem asc_unique : ∀ l r : List Int, l.Pairwise (· < ·) → r.Pairwise (· < ·) → (∀ k, k ∈ l ↔ k ∈ r) → l = r
  | [], [], _, _, _ => rfl
  | [], y :: r, _, _, h => absurd ((h y).mpr (List.mem_cons_self ..)) (by simp)
  | x :: l, [], _, _, h => absurd ((h x).mp (List.mem_cons_self ..)) (by simp)
  | x :: l, y :: r, hl, hr, h => by
    obtain ⟨l1, l2⟩ := List.pairwise_cons.mp hl
    obtain ⟨r1, r2⟩ := List.pairwise_cons.mp hr
    have e : x = y := by
      have hx : x = y ∨ x ∈ r := List.mem_cons.mp ((h x).mp (List.mem_cons_self ..))
      have hy : y = x ∨ y ∈ l := List.mem_cons.mp ((h y).mpr (List.mem_cons_self ..))
      rcases hx with q | q
      · exact q
      · rcases hy with q' | q'
        · exact q'.symm
        · have := r1 x q
          have := l1 y q'
          omega
    subst e
    rw [asc_unique l r l2 r2 fun k => ?_]
    constructor
    · intro hk
      rcases List.mem_cons.mp ((h k).mp (List.mem_cons_of_mem _ hk)) with q | q
      · have := l1 k hk
        omega
      · exact q
    · intro hk
      rcases List.mem_cons.mp ((h k).mpr (List.mem_cons_of_mem _ hk)) with q | q
      · have := r1 k hk
        omega
      · exact q
section
variable {K : PySem.W.Frag} {M : List Addr} {F H : Hp} {Q : VK} {w : World} {a : Addr} {l : List Int}
theorem sorted_set (e : Ex F H) (s : F a = some (.lst (l.map V.int))) (hl : l.length < 64) (k : Ret M F H (fun F' _ v => Dq K F' v (eL PyData.int (sortedSet l))) Q) :
    ∃ (a' : Addr) (ns : List Int), [V.ref a] = [.ref a'] ∧ SqL K H a' (ns.map V.int) ∧ ns.length < 64 ∧ ∀ p c, H p = none → c ≤ ns.length → rSortedSet w [.ref p] (upd H p (SetO w p (fun j => decide (j ∈ ns)) c)) Q := by
  refine ⟨a, l, rfl, sq_of (e _ _ s), hl, fun p c hp hc => ⟨p, _, c, rfl, upd_same, by omega, fun ns q asc mem _ hq => ?_⟩⟩
  have g1 : Gm M F H (upd F p (SetO w p (fun j => decide (j ∈ l)) c)) (upd H p (SetO w p (fun j => decide (j ∈ l)) c)) := Gm.new e hp
  have g2 : Gm M (upd F p (SetO w p (fun j => decide (j ∈ l)) c)) (upd H p (SetO w p (fun j => decide (j ∈ l)) c)) _ _ := Gm.new (o := .lst (ns.map V.int)) g1.s hq
  have en : ns = sortedSet l := asc_unique ns _ asc (asc_sortedSet l) fun j => by
    rw [mem, mem_sortedSet]
    simp
  refine k _ _ _ (g1.trans g2) ?_
  rw [← en]
  exact .lst upd_same (ints_all ns)
end
end Wk

set_option Elab.async false
set_option linter.all false
set_option maxRecDepth 100000
set_option maxHeartbeats 1000000
namespace Wk
open PySem L2 Evl
theorem Gm.youngs {F0 H0 : Hp} {M : List Addr} {F H F1 H1 : Hp} (ps : List Addr) (g : Gm M F0 H0 F H) (h0 : ∀ p ∈ ps, H0 p = none) (g2 : Gm (ps ++ M) F H F1 H1) : Gm M F0 H0 F1 H1 :=
  ⟨g.f.trans g2.f, g2.s, fun a o hM h => g2.h a o (fun q => by
      rcases List.mem_append.mp q with q | q
      · rw [h0 a q] at h; cases h
      · exact hM q) (g.h a o hM h), fun a o h hn => by
    obtain ⟨o', h'⟩ := g.m a o h
    exact g2.n a o' h' (g.n a o h hn), fun a o h => by
    obtain ⟨o', h'⟩ := g.m a o h
    exact g2.m a o' h'⟩
/-! ### a draw -/
def seedN (s c : Int) : Int := (s * 48271 + c + 11) % 2147483647
def takenA (scr : List Int) (st : Rw) (many : Int) : Mm (Int × Rw) :=
  if 0 < many ∧ many < 1073741824 ∧ 0 ≤ st.seed ∧ st.seed < 2147483647 ∧ 0 ≤ st.pos ∧ st.pos < 1000000 then
    if st.left > 0 then .ok (st.left % many, ⟨st.pos, st.seed, st.left / many⟩)
    else match scr[st.pos.toNat]? with
      | none => .ok ((seedN st.seed 0 / 7) % many, ⟨st.pos + 1, seedN st.seed 0, st.left⟩)
      | some c => .ok (c % many, ⟨st.pos + 1, seedN st.seed c, if c ≥ 10 ^ 18 then c / many else 0⟩)
  else .bad
def takenB (scr : List Int) (st : Rw) (many : Int) : Mm (Int × Rw) :=
  if 0 < many ∧ many < 1073741824 ∧ 0 ≤ st.seed ∧ st.seed < 2147483647 ∧ 0 ≤ st.pos ∧ st.pos < 1000000 then
    if st.left > 0 then .ok (st.left % many, ⟨st.pos, st.seed, st.left / many⟩)
    else match scr[st.pos.toNat]? with
      | none => .ok ((seedN st.seed 0 / 7) % many, ⟨st.pos + 1, seedN st.seed 0, st.left⟩)
      | some c => .ok (c % many, ⟨st.pos + 1, seedN st.seed c, if c ≥ 10 ^ 18 then c / many else st.left⟩)
  else .bad
def spTaken (tk : List Int → Rw → Int → Mm (Int × Rw)) (K : PySem.W.Frag) : Sp := fun vs H Q _ => ∃ (F : Hp) (sc ra : Addr) (scr : List Int) (st : Rw) (many : Int), vs = [.ref ra, .int many] ∧ Ex F H ∧ RowAt K sc ra scr F H st ∧
  Post (tk scr st many) (fun r => Ret [ra] F H (fun F' H' v => v = .int r.1 ∧ RowAt K sc ra scr F' H' r.2) Q) (fun _ => False)
theorem iteP {c : Bool} {A B : Prop} (h : c = true) (a : A) : if c = true then A else B := by rw [if_pos h]; exact a
theorem iteN {c : Bool} {A B : Prop} (h : c = false) (b : B) : if c = true then A else B := by rw [h, if_neg Bool.false_ne_true]; exact b
theorem cmul_small {i j : Int} (h : i.natAbs < 2 ^ 62) (h' : j.natAbs < 2 ^ 62) : CMulW i j := wide_mul h h' (by decide) (by decide) (by decide)
theorem fmod_pos {i j : Int} (h : 0 < j) : i.fmod j = i % j := Int.fmod_eq_emod_of_nonneg _ (Int.le_of_lt h)
theorem fdiv_pos {i j : Int} (h : 0 < j) : i.fdiv j = i / j := Int.fdiv_eq_ediv_of_nonneg _ (Int.le_of_lt h)
/-- pick one of a list -/
def pickM {α : Type} (tk : List Int → Rw → Int → Mm (Int × Rw)) (scr : List Int) (st : Rw) (l : List α) : Mm (α × Rw) := (tk scr st (l.length : Int)).bd fun b => (getM l b.1).bd fun a => .ok (a, b.2)
def spPick (tk : List Int → Rw → Int → Mm (Int × Rw)) (K : PySem.W.Frag) : Sp := fun vs H Q _ => ∃ (F : Hp) (sc ra : Addr) (scr : List Int) (st : Rw) (α : Type) (en : α → PyData) (v : V) (l : List α), vs = [.ref ra, v] ∧ Ex F H ∧ RowAt K sc ra scr F H st ∧ Dq K F v (eL en l) ∧
  Post (pickM tk scr st l) (fun r => Ret [ra] F H (fun F' H' v => Dq K F' v (en r.1) ∧ RowAt K sc ra scr F' H' r.2) Q) (fun _ => False)
end Wk

set_option Elab.async false
set_option linter.all false
set_option maxRecDepth 100000
set_option maxHeartbeats 1000000
namespace Wk
open PySem L2 Evl
theorem notM_nil {H : Hp} : ∀ D, H D = none → D ∉ ([] : List Addr) := fun _ _ => by simp
theorem notM_cons {H : Hp} {p : Addr} {o : HO} {M : List Addr} (h : H p = some o) (k : ∀ D, H D = none → D ∉ M) : ∀ D, H D = none → D ∉ p :: M := fun D hD q => by
  rcases List.mem_cons.mp q with q | q
  · rw [q, h] at hD; cases hD
  · exact k D hD q
/-! ### own lists whose place is open -/
section
variable {M ps : List Addr} {F0 H0 F H F1 H1 : Hp} {p : Addr} {o u : HO}
theorem Gm.putOr (g : Gm M F0 H0 F H) (y : p ∈ M ∨ H0 p = none) (h : H p = some u) (hf : F p = none) : Gm M F0 H0 F (upd H p o) := by
  rcases y with y | y
  · exact g.putIn y h hf
  · exact g.putYoung h hf y
theorem Gm.outs (ps : List Addr) (hy : ∀ p ∈ ps, p ∈ M ∨ H0 p = none) (g : Gm M F0 H0 F H) (g2 : Gm (ps ++ M) F H F1 H1) : Gm M F0 H0 F1 H1 :=
  ⟨g.f.trans g2.f, g2.s, fun a o hM h => g2.h a o (fun q => by
      rcases List.mem_append.mp q with q | q
      · rcases hy a q with z | z
        · exact hM z
        · rw [z] at h; cases h
      · exact hM q) (g.h a o hM h), fun a o h hn => by
    obtain ⟨o', h'⟩ := g.m a o h
    exact g2.n a o' h' (g.n a o h hn), fun a o h => by
    obtain ⟨o', h'⟩ := g.m a o h
    exact g2.m a o' h'⟩
theorem out_y (hy : ∀ p ∈ ps, p ∈ M ∨ H0 p = none) (g : Gm M F0 H0 F H) (y : p ∈ ps ++ M ∨ H p = none) : p ∈ M ∨ H0 p = none := by
  rcases y with y | y
  · rcases List.mem_append.mp y with q | q
    · exact hy p q
    · exact .inl q
  · exact .inr (g.fresh y)
theorem y_ra {ra : Addr} (y : p ∈ [ra] ∨ H0 p = none) (n : ra ≠ p) : H0 p = none := by
  rcases y with y | y
  · exact absurd (List.mem_singleton.mp y).symm n
  · exact y
theorem y_no (y : p ∈ ([] : List Addr) ∨ H0 p = none) : H0 p = none := by
  rcases y with y | y
  · cases y
  · exact y
end
section
variable {K : PySem.W.Frag} {F H : Hp} {Q : VK} {xs ys : List V} {α : Type} {en : α → PyData} {l l' : List α} {a b : Addr}
theorem own_of (e : Ex F H) (k : ∀ p H', Gm [] F H F H' → H p = none → (H' p = some (.lst xs) ∧ F p = none) → Q (.ref p) H') : ∀ p, H p = none → Q (.ref p) (upd H p (.lst xs)) := fun p hp => k p _ (Gm.newM e hp) hp ⟨upd_same, by
    cases q : F p with
    | none => rfl
    | some u => rw [e p u q] at hp; cases hp⟩
/-- list(x) that may change -/
theorem to_own (e : Ex F H) (s : SqL K H a xs ∨ SqT K H a xs) (k : ∀ p H', Gm [] F H F H' → H p = none → (H' p = some (.lst xs) ∧ F p = none) → Q (.ref p) H') : ∃ p ys, [V.ref a] = [.ref p] ∧ (SqL K H p ys ∨ SqT K H p ys) ∧ ∀ l, H l = none → Q (.ref l) (upd H l (.lst ys)) :=
  ⟨a, xs, rfl, s, own_of e k⟩
end
/-! ### isinstance of an int -/
section
variable {X : Cx}
theorem call_isiI : CallR X (.builtin "isinstance") (fun xs H Q => ∃ (i : Int) (n : String) (b : Bool), xs = [.int i, .ty n] ∧ ((n = "int" ∧ b = true) ∨ (n = "bool" ∧ b = false)) ∧ Q (.bl b) H) := by
  intro pins s σ H vs us Q I r h
  obtain ⟨i, n, b, rfl, hn, q⟩ := h
  rcases hn with ⟨rfl, rfl⟩ | ⟨rfl, rfl⟩
  · exact call_isi pins s σ H _ us Q I r ⟨_, _, _, _, true, rfl, .ty _, .base (.int i), kit_ty (by decide +kernel), q⟩
  · exact call_isi pins s σ H _ us Q I r ⟨_, _, _, _, false, rfl, .ty _, .base (.int i), kit_ty (by decide +kernel), q⟩
end
/-! ### tuples of unlike items, empty or not -/
section
variable {K : PySem.W.Frag} {M : List Addr} {F H : Hp} {Q : VK} {α β : Type} {en : α → PyData} {en' : β → PyData} {l : List α} {l' : List β} {xs ys : List V} {a b : Addr}
theorem cat_tupD (e : Ex F H) (s : SqT K F a xs) (h : DqAll K F xs (l.map en)) (s' : SqT K F b ys) (h' : DqAll K F ys (l'.map en')) (hl : l.length + l'.length ≤ 100000) (k : Ret M F H (fun F' _ v => Dq K F' v (.tuple (l.map en ++ l'.map en'))) Q) : rCatM K (.ref a) (.ref b) H Q := by
  have n1 : xs.length = l.length := by rw [h.len, List.length_map]
  have n2 : ys.length = l'.length := by rw [h'.len, List.length_map]
  refine ⟨a, b, xs, ys, rfl, rfl, ex_t e s, ex_t e s', sz_of (by omega), fun q => ?_, fun _ q => ?_, fun _ _ p hp => ?_⟩
  · subst q
    have hl0 : l = [] := List.length_eq_zero_iff.mp n1.symm
    exact k _ _ _ (Gm.refl e) (by rw [hl0]; exact .tup s' h')
  · subst q
    have hl0 : l' = [] := List.length_eq_zero_iff.mp n2.symm
    exact k _ _ _ (Gm.refl e) (by rw [hl0, List.map_nil, List.append_nil]; exact .tup s h)
  · have g : Gm M F H (upd F p (.tup (xs ++ ys))) (upd H p (.tup (xs ++ ys))) := Gm.new e hp
    exact k _ _ _ g (.tup (st_of upd_same) ((h.app h').up g.f))
end
section
variable {X : Cx} {α β : Type} [DecidableEq α] [DecidableEq β] {f : α → PyData} {g : β → PyData} {n m : Nat}
theorem lay_app : ∀ (l r : List PyData), PyData.canLayAll0 l = true → PyData.canLayAll0 r = true → PyData.canLayAll0 (l ++ r) = true
  | [], r, _, h => h
  | x :: l, r, h, h' => by
    simp only [PyData.canLayAll0, Bool.and_eq_true] at h
    simp only [List.cons_append, PyData.canLayAll0, Bool.and_eq_true]
    exact ⟨h.1, lay_app l r h.2 h'⟩
theorem dep_app : ∀ (l r : List PyData) (k : Nat), PyData.depthAll l ≤ k → PyData.depthAll r ≤ k → PyData.depthAll (l ++ r) ≤ k
  | [], r, _, _, h => h
  | x :: l, r, k, h, h' => by
    simp only [PyData.depthAll] at h
    simp only [List.cons_append, PyData.depthAll]
    have := dep_app l r k (by omega) h'
    omega
theorem shaped_cat (s : Sh f n) (s' : Sh g m) (l : List α) (r : List β) (h : max n m + 1 ≤ 64 := by decide) : SeqAt.shaped (.tuple (l.map f ++ r.map g)) = true := by
  unfold SeqAt.shaped
  have d := dep_app (l.map f) (r.map g) (max n m) (Nat.le_trans (dep_map s l) (Nat.le_max_left ..)) (Nat.le_trans (dep_map s' r) (Nat.le_max_right ..))
  simp only [PyData.canLay0, lay_app _ _ (lay_map s l) (lay_map s' r), PyData.depth, Bool.true_and]
  exact decide_eq_true (by omega)
/-- t != (), t == () -/
def rNilM (K : PySem.W.Frag) (neg : Bool) : R2 := fun x y H Q => ∃ (ds : List PyData) (b : Bool), Dp K H x (.tuple ds) ∧ Dp K H y (.tuple []) ∧ SeqAt.shaped (.tuple ds) = true ∧ ds.isEmpty = b ∧ Q (.bl (if neg = true then !b else b)) H
theorem eqv_nil (ds : List PyData) : PyData.eqv (.tuple ds) (.tuple []) = ds.isEmpty := by
  cases ds <;> rfl
theorem op_neNil (hu : X.A.units + 64 < cLine) : OpR X (compareOp .NotEq) (rNilM X.K true) := by
  intro pins st σ H x y v u Q I rx ry h
  obtain ⟨ds, b, hd, he, sd, rfl, q⟩ := h
  exact op_neD hu pins st σ H x y v u Q I rx ry ⟨.tuple ds, .tuple [], hd, he, sd, by decide, by rw [eqv_nil]; exact q⟩
theorem op_eqNil (hu : X.A.units + 64 < cLine) : OpR X (compareOp .Eq) (rNilM X.K false) := by
  intro pins st σ H x y v u Q I rx ry h
  obtain ⟨ds, b, hd, he, sd, rfl, q⟩ := h
  exact op_eqD hu pins st σ H x y v u Q I rx ry ⟨.tuple ds, .tuple [], hd, he, sd, by decide, by rw [eqv_nil]; exact q⟩
theorem isEmpty_cat (l : List α) (r : List β) : (l.map f ++ r.map g).isEmpty = (l.isEmpty && r.isEmpty) := by
  cases l <;> cases r <;> rfl
end
/-! ### weightings -/
abbrev Ms := List (Int × Int)
abbrev Ss := List (Int × Int × Int)
abbrev Wt := Ms × Ss
abbrev eM : Ms → PyData := eV (e2 PyData.int PyData.int)
abbrev eS : Ss → PyData := eV (e3 PyData.int PyData.int PyData.int)
def wf (m s : V) : List (Str × V) := putF "_stretches" s (putF "_masses" m [])
theorem wf_eq (m s : V) : wf m s = ([("_masses", m), ("_stretches", s)] : List (Str × V)) := by
  have n : ¬ (("_masses" : Str) = "_stretches") := by decide +kernel
  show (if ("_masses" : Str) = "_stretches" then [(("_masses" : Str), s)] else (("_masses" : Str), m) :: putF "_stretches" s []) = ([("_masses", m), ("_stretches", s)] : List (Str × V))
  rw [if_neg n]
  rfl
theorem wf_m (m s : V) : (wf m s).lookup ("_masses" : Str) = some m := by
  unfold wf
  rw [lookup_putF, if_neg (by decide +kernel), lookup_putF, if_pos rfl]
theorem wf_s (m s : V) : (wf m s).lookup ("_stretches" : Str) = some s := by
  unfold wf
  rw [lookup_putF, if_pos rfl]
/-- v is a weighting that stands fixed -/
structure IsW (K : PySem.W.Frag) (C : Addr) (F : Hp) (v : V) (w : Wt) : Prop where
  ex : ∃ a dx m s, v = .ref a ∧ F a = some (.ins C dx (wf m s)) ∧ Dq K F m (eM w.1) ∧ Dq K F s (eS w.2)
theorem IsW.up {K : PySem.W.Frag} {C : Addr} {F F' : Hp} {v : V} {w : Wt} (h : IsW K C F v w) (e : Ex F F') : IsW K C F' v w := by
  obtain ⟨a, dx, m, s, rfl, h1, h2, h3⟩ := h.ex
  exact ⟨a, dx, m, s, rfl, e _ _ h1, h2.up e, h3.up e⟩
/-- a property of a class, by its name and its field -/
structure KnP (P : Program) (w : World) (K : PySem.W.Frag) (mg : Str → Option Value) (base : Heap) (C : Addr) (f fld : Str) : Prop where
  ex : ∃ p g fd, PropOf K C f p g ∧ FnOk P w K mg base CX0 1 g fd ["self"] (getSp C fld) ∧ Binds K fd ["self"] []
  cl : Cls K C
section
variable {X : Cx} {C : Addr} {f fld : Str} {e : Expr} {ta : TE} {pos : Pos}
theorem pe_propK (G : KnP X.prog X.w X.K X.mg X.base C f fld) (hr : Room 2 X.A) (he : PE X e ta) (hab : attributeBase e f X.env (eval e X.env) = eval e X.env := by rfl) : PE X (.Attribute e f pos) (tProp C (getSp C fld) [] E0 ta) := by
  obtain ⟨p, g, fd, hp, F, hb⟩ := G.ex
  exact pe_prop he G.cl hp F hr hb .nil pass0 hab
end
/-- a class that is called: by the name x its __init__ with the promise sp -/
structure KnC (P : Program) (w : World) (K : PySem.W.Frag) (mg : Str → Option Value) (base : Heap) (CX : CXT) (x : Str) (C : Addr) (k : Nat) (ps : List Str) (sp : Sp) : Prop where
  ex : ∃ f fd, Mk K C f ∧ FnOk P w K mg base CX k f fd ps sp ∧ Binds K fd ps []
  mg : mg x = some (.ref C)
section
variable {X : Cx} {C : Addr} {x : Str} {k : Nat} {ps : List Str} {sp : Sp} {e : Expr} {es : List Expr} {t : TA} {p pos : Pos} {CX : CXT} {E : XK}
theorem pe_knC (G : KnC X.prog X.w X.K X.mg X.base CX x C k ps sp) (hr : Room (k + 1) X.A) (hx : Passes CX X E) (ha : PA X (e :: es) t) (hg : Gl X x := by rfl) (hdb : (x == ("__debug__" : Str)) = false := by decide)
    (he : starEach (e :: es) X.env = (false, eval e X.env) :: starEach es X.env := by rfl) (hpl : (backTo pos (starEach es X.env)).any (·.1) = false := by rfl) : PE X (.Call (.Name x p) (e :: es) [] pos) (tMake C sp [] E t) := by
  obtain ⟨f, fd, M, F, hb⟩ := G.ex
  exact pe_make M F hr hg G.mg hb .nil hx ha hdb he hpl
end
/-- Weighting.__init__: chk tells whether the parts may be so -/
def spW0 (chk : Ms → Ss → Mm Wt) (K : PySem.W.Frag) (C : Addr) : Sp := fun vs H Q _ => ∃ (F : Hp) (x dx : Addr) (vm vs' : V) (m : Ms) (s : Ss), vs = [.ref x, vm, vs'] ∧ Ex F H ∧ H x = some (.ins C dx []) ∧ F x = none ∧
  Dq K F vm (eM m) ∧ Dq K F vs' (eS s) ∧ Post (chk m s) (fun w => ∀ F' H' a b, Gm [x] F H F' H' → H' x = some (.ins C dx (wf a b)) → F' x = none → Dq K F' a (eM w.1) → Dq K F' b (eS w.2) → Q .non H') (fun _ => False)
theorem make_W {chk : Ms → Ss → Mm Wt} {K : PySem.W.Frag} {C : Addr} {F H : Hp} {vm vs : V} {m : Ms} {s : Ss} {Q : VK} {E : XK} (e : Ex F H) (hm : Dq K F vm (eM m)) (hs : Dq K F vs (eS s))
    (k : Post (chk m s) (fun w => Ret [] F H (fun F' _ v => IsW K C F' v w) Q) (fun _ => False)) :
    ∀ x dx, H x = none → H dx = none → dx ≠ x → spW0 chk K C (.ref x :: ([vm, vs] ++ [])) (upd (upd H dx (.own x)) x (.ins C dx [])) (fun v H2 => v = .non ∧ Q (.ref x) H2) E := by
  intro x dx hx hdx hne
  have g1 : Gm [] F H (upd F dx (.own x)) (upd H dx (.own x)) := Gm.new e hdx
  have hx1 : (upd H dx (.own x)) x = none := by rw [upd_ne hne.symm]; exact hx
  have g2 : Gm [] (upd F dx (.own x)) (upd H dx (.own x)) (upd F dx (.own x)) (upd (upd H dx (.own x)) x (.ins C dx [])) := Gm.newM g1.s hx1
  have fx : (upd F dx (.own x)) x = none := by
    cases q : (upd F dx (.own x)) x with
    | none => rfl
    | some u => rw [g1.s _ _ q] at hx1; cases hx1
  refine ⟨upd F dx (.own x), x, dx, vm, vs, m, s, rfl, g2.s, upd_same, fx, hm.up g1.f, hs.up g1.f, k.mono (fun w k F' H' a b g h1 h2 ha hb => ⟨rfl, ?_⟩) fun _ z => z⟩
  have gg : Gm [] F H F' H' := by
    refine Gm.young (g1.trans g2) hx g
  have g3 := gg.fix h1 h2 hx
  have up : Ex F' (upd F' x (.ins C dx (wf a b))) := Ex.new h2
  exact k _ _ _ g3 ⟨x, dx, a, b, rfl, upd_same, ha.up up, hb.up up⟩
end Wk

set_option Elab.async false
set_option linter.all false
namespace Wk
open PySem L2 Evl
theorem new_row {K : PySem.W.Frag} {H : Hp} {sc : Addr} {scr : List Int} {Q : VK} (hs : SqL K H sc (scr.map V.int)) (k : ∀ ra H', Ex H H' → RowAt K sc ra scr H H' ⟨0, 0, 0⟩ → Q (.ref ra) H') : [V.ref sc, V.int 0, V.int 0, V.int 0].length ≤ sizeLine ∧ ∀ p, H p = none → Q (.ref p) (upd H p (.lst [V.ref sc, V.int 0, V.int 0, V.int 0])) :=
  ⟨sz_of (by show 4 ≤ 100000; decide), fun p hp => k p _ (Ex.new hp) ⟨upd_same, hp, hs⟩⟩
end Wk

set_option Elab.async false
set_option linter.all false
set_option maxRecDepth 100000
set_option maxHeartbeats 2000000
namespace Wk
open PySem PySem.W L2 He
/-! ### properties by their names -/
def propG (x f : Str) (K : Frag) : Addr := match recIn K (ma K (ga K x) f) "property" with
  | some (.ref g :: _) => g
  | _ => 0
def propB (x f : Str) (K : Frag) : Bool := eqO (findIn K (.ref (ga K x)) f) (some (some (.ref (ma K (ga K x) f)))) && (eqO (specialIn K (.ref (ma K (ga K x) f)) "__get__") (some (some (.builtin "property.__get__"))) &&
  (decide (takesIn K (.ref (ma K (ga K x) f)) = some true) && (match recIn K (ma K (ga K x) f) "property" with
    | some (.ref _ :: _) => true
    | _ => false)))
theorem propB_ok {K : Frag} {x f : Str} (h : propB x f K = true) : PropOf K (ga K x) f (ma K (ga K x) f) (propG x f K) := by
  obtain ⟨h1, h⟩ := ba h
  obtain ⟨h2, h⟩ := ba h
  obtain ⟨h3, h4⟩ := ba h
  refine ⟨eqO_ok h1, eqO_ok h2, of_decide_eq_true h3, ?_⟩
  unfold propG
  split at h4
  · rename_i g r e
    exact ⟨r, by rw [e]⟩
  · cases h4
/-- a def of a class -/
def initAt (x m : Str) (K : Frag) : Addr := ma K (ga K x) m
/-- a name that is a built-in function -/
def bltB (x : Str) (id : String) (K : Frag) : Bool := eqO (nsIn K mainGlobals x) (some (some (.builtin id)))
theorem bltB_ok {K : Frag} {h : Heap} {mg : Str → Option Value} (X : K.In h) (G : h.Ns mainGlobals mg) {x : Str} {id : String} (c : bltB x id K = true) : mg x = some (.builtin id) := mg_of X G (eqO_ok c)
/-! ### the Hook: facts, defs, what else a Bool tells -/
def obsX (fa : List Fa) (fn : List He5.DefA) (ex : Frag → Bool) (K : Frag) : He.AlD := ((fa.all fun f => f.ok K) && ((fn.all fun d => d.ok K) && ex K), fn.map fun d => He5.fnA K (d.at_ K))
def valX (fn : List He5.DefA) : He.AlD := (true, fn.map He5.DefA.val)
def SaysX (fa : List Fa) (fn : List He5.DefA) (ex : Frag → Bool) (K : Frag) : Prop := obsX fa fn ex K = valX fn
def obsXG (n : Nat) (fa : List Fa) (fn : List He5.DefA) (ex : Frag → Bool) (g : Addr → Option Obj) : He.AlD := obsX fa fn ex (frG g (He5.asA g n))
def hookX (n : Nat) (fa : List Fa) (fn : List He5.DefA) (ex : Frag → Bool) : PySem.W.Hook where
  α := He.AlD
  obs := fun s => obsXG n fa fn ex s.heap.get?
  val := fun _ => valX fn
  says := fun _ h => ∃ K : Frag, K.In h ∧ SaysX fa fn ex K
  of := fun _ _ e => ⟨_, frG_in, e⟩
  keeps := fun _ _ _ ⟨K, hK, c⟩ k => ⟨K, Frag.In.keeps hK k, c⟩
theorem obsXG_eq {n : Nat} {fa : List Fa} {fn : List He5.DefA} {ex : Frag → Bool} {g : Addr → Option Obj} {s : Shared} (h : ∀ a, g a = s.heap.get? a) : obsXG n fa fn ex g = (hookX n fa fn ex).obs s := by
  have e : g = s.heap.get? := funext h
  rw [e] <;> rfl
section
variable {fa : List Fa} {fn : List He5.DefA} {ex : Frag → Bool} {K : Frag}
theorem SaysX.bool (c : SaysX fa fn ex K) : (((fa.all fun f => f.ok K) && ((fn.all fun d => d.ok K) && ex K)) : Bool) = true := congrArg (fun z : He.AlD => z.1) c
theorem SaysX.fact (c : SaysX fa fn ex K) (i : Nat) {f : Fa} (h : fa[i]? = some f := by rfl) : f.ok K = true :=
  List.all_eq_true.mp (ba c.bool).1 f (List.mem_of_getElem? h)
theorem SaysX.ext (c : SaysX fa fn ex K) : ex K = true := (ba (ba c.bool).2).2
theorem SaysX.def_ (c : SaysX fa fn ex K) (i : Nat) {d : He5.DefA} (h : fn[i]? = some d := by rfl) : ∃ fd, L2.FunD K d.name d.qual d.params d.body d.scope (d.dvs K) (d.kws K) (d.at_ K) fd := by
  have c2 := (ba (ba c.bool).2).1
  have e : fn.map (fun d => He5.fnA K (d.at_ K)) = fn.map He5.DefA.val := congrArg (fun z : He.AlD => z.2) c
  have e2 : (fn.map fun d => He5.fnA K (d.at_ K))[i]? = (fn.map He5.DefA.val)[i]? := by rw [e]
  rw [List.getElem?_map, List.getElem?_map, h] at e2
  exact He5.DefA.funD (Option.some.inj e2) (List.all_eq_true.mp c2 d (List.mem_of_getElem? h))
end
/-- a global's def -/
def gAt (x : Str) (K : Frag) : Addr := ga K x
theorem knP_of {P : Program} {w : World} {K : Frag} {mg : Str → Option Value} {base : Heap} {x f fld qual : Str} {params : Arguments} {body : List Stmt} {scope : Scope} {fd : FuncData} {p1 p2 p3 : Pos} (hp : propB x f K = true) (cl : Cls K (ga K x)) (n : NoAttr K (ga K x) fld)
    (F : FunD K f qual params body scope [] [] (propG x f K) fd) (S : FnScope ["self"] ["self"] scope) (hb : body = [.Return (some (.Attribute (.Name "self" p1) fld p2)) p3])
    (bi : ∀ (kV doc pm : Value) (an : Option Addr) (cdv ct : Value) (us : List Value), us.length = 1 → bindArgs (PySem.W.fnOf f qual params body scope .none kV doc pm an cdv ct) ⟨us, []⟩ = pure ([("self" : Str)].zip us)) : KnP P w K mg base (ga K x) f fld := by
  have b := F.bindsN (ps := ["self"]) bi
  obtain ⟨oc, od, dV, kV, doc, pm, an, cdv, ct, osl, rfl, lk, hcd, _, _⟩ := F.ex
  exact ⟨⟨_, _, _, propB_ok hp, fn_getter lk hcd S rfl hb cl n, b⟩, cl⟩
end Wk

set_option Elab.async false
set_option linter.all false
set_option maxRecDepth 100000
namespace Wk
open PySem L2
/-! ### outcomes that are values -/
def Yes {α : Type} (m : Mm α) (p : α → Prop) : Prop := ∃ a, m = .ok a ∧ p a
section
variable {α β γ S : Type} {m : Mm α} {f : α → Mm β} {p : α → Prop} {q : β → Prop}
theorem Yes.ok {a : α} (h : p a) : Yes (.ok a) p := ⟨a, rfl, h⟩
theorem Yes.bd (h : Yes m p) (k : ∀ a, p a → Yes (f a) q) : Yes (m.bd f) q := by
  obtain ⟨a, rfl, h⟩ := h
  exact k a h
theorem Yes.eq {a : α} (h : m = .ok a) (k : Yes (f a) q) : Yes (m.bd f) q := by
  subst h
  exact k
theorem Yes.mono {p' : α → Prop} (h : Yes m p) (k : ∀ a, p a → p' a) : Yes m p' := by
  obtain ⟨a, e, h⟩ := h
  exact ⟨a, e, k a h⟩
theorem Yes.guard {c : Prop} [Decidable c] {f : Unit → Mm β} (h : c) (k : Yes (f ()) q) : Yes ((guardM c).bd f) q := by
  unfold guardM
  rw [if_pos h]
  exact k
theorem bd_eq {a : α} (h : m = .ok a) : m.bd f = f a := by subst h; rfl
theorem bd_guard {c : Prop} [Decidable c] {f : Unit → Mm β} (h : c) : (guardM c).bd f = f () := by unfold guardM; rw [if_pos h]; rfl
theorem mapMm_eq {f : α → Mm γ} {g : α → γ} : ∀ l : List α, (∀ x ∈ l, f x = .ok (g x)) → mapMm f l = .ok (l.map g)
  | [], _ => rfl
  | x :: l, h => by
    unfold mapMm
    rw [h x (List.mem_cons_self ..), mapMm_eq l fun y hy => h y (List.mem_cons_of_mem _ hy)]
    rfl
theorem foldM_eq {f : S → α → Mm S} {g : S → α → S} (I : S → List α → Prop) : ∀ (l : List α) (s : S), I s l → (∀ s x l, I s (x :: l) → f s x = .ok (g s x) ∧ I (g s x) l) → foldM f s l = .ok (l.foldl g s)
  | [], s, _, _ => rfl
  | x :: l, s, h, k => by
    obtain ⟨e, h2⟩ := k s x l h
    unfold foldM
    rw [e]
    exact foldM_eq I l _ h2 k
theorem yes_fold {f : S → α → Mm S} (I : S → List α → Prop) : ∀ (l : List α) (s : S), I s l → (∀ s x l, I s (x :: l) → Yes (f s x) fun s' => I s' l) → Yes (foldM f s l) fun s' => I s' []
  | [], s, h, _ => ⟨s, rfl, h⟩
  | x :: l, s, h, k => by
    obtain ⟨s', e, h2⟩ := k s x l h
    unfold foldM
    rw [e]
    exact yes_fold I l s' h2 k
inductive All2 {α γ : Type} (p : α → γ → Prop) : List α → List γ → Prop
  | nil : All2 p [] []
  | cons {x : α} {y : γ} {l : List α} {r : List γ} : p x y → All2 p l r → All2 p (x :: l) (y :: r)
theorem All2.len {p : α → γ → Prop} {l : List α} {r : List γ} (h : All2 p l r) : r.length = l.length := by
  induction h with
  | nil => rfl
  | cons _ _ ih => simp [ih]
theorem All2.right {p : α → γ → Prop} {q : γ → Prop} {l : List α} {r : List γ} (h : All2 p l r) (k : ∀ x y, p x y → q y) : ∀ y ∈ r, q y := by
  induction h with
  | nil => simp
  | cons a _ ih =>
    intro y hy
    rcases List.mem_cons.mp hy with rfl | hy
    · exact k _ _ a
    · exact ih y hy
theorem All2.fst {g : γ → α} {p : α → γ → Prop} {l : List α} {r : List γ} (h : All2 p l r) (k : ∀ x y, p x y → g y = x) : r.map g = l := by
  induction h with
  | nil => rfl
  | cons a _ ih => rw [List.map_cons, k _ _ a, ih]
theorem yes_mapSt {f : S → α → Mm (γ × S)} (I : S → Prop) (p : α → γ → Prop) : ∀ (l : List α) (s : S), I s → (∀ s x, x ∈ l → I s → Yes (f s x) fun y => p x y.1 ∧ I y.2) → Yes (mapSt f s l) fun r => All2 p l r.1 ∧ I r.2
  | [], s, h, _ => ⟨_, rfl, .nil, h⟩
  | x :: l, s, h, k => by
    obtain ⟨y, e, h1, h2⟩ := k s x (List.mem_cons_self ..) h
    obtain ⟨r, e2, h3, h4⟩ := yes_mapSt I p l y.2 h2 fun s z hz => k s z (List.mem_cons_of_mem _ hz)
    unfold mapSt
    rw [e]
    show Yes ((mapSt f y.2 l).bd _) _
    rw [e2]
    exact ⟨_, rfl, .cons h1 h3, h4⟩
end
theorem range_ok {j : Int} (h : -(2 ^ 62) ≤ j) (h2 : j < 2 ^ 62) : rangeM j = .ok (rangeL 0 j.toNat) := by unfold rangeM; rw [if_pos ⟨h, h2⟩]
theorem mul_ok {i j : Int} {a b : Nat} (ha : i.natAbs < 2 ^ a) (hb : j.natAbs < 2 ^ b) (h : a + b ≤ 900000) : mulM i j = .ok (i * j) := by
  unfold mulM
  refine if_pos (wide_mul (a := a + 1) (b := b + 1) ?_ ?_ (by omega) (by omega) (by omega))
  · rw [Nat.pow_succ]; omega
  · rw [Nat.pow_succ]; omega
theorem div_any {i j : Int} {b : Nat} (h : j ≠ 0) (hb : j.natAbs < 2 ^ b) (h2 : b < 9000) : divM i j = .ok (i.fdiv j) := by
  unfold divM
  have hb' : j.natAbs < 2 ^ (b + 1) := by rw [Nat.pow_succ]; omega
  exact if_pos ⟨h, Nat.lt_of_lt_of_le (PySem.Flt.log2_lt_of (by omega) hb') (by omega)⟩
theorem div_ok {i j : Int} {b : Nat} (h : 0 < j) (hb : j.natAbs < 2 ^ b) (h2 : b < 9000) : divM i j = .ok (i / j) := by
  rw [div_any (by omega) hb h2, Int.fdiv_eq_ediv_of_nonneg _ (Int.le_of_lt h)]
theorem mod_ok {i j : Int} (h : 0 < j) : modM i j = .ok (i % j) := by
  unfold modM
  rw [if_pos (by omega), Int.fmod_eq_emod_of_nonneg _ (Int.le_of_lt h)]
theorem mod_ne {i j : Int} (h : j ≠ 0) : modM i j = .ok (i.fmod j) := by
  unfold modM
  rw [if_pos h]
/-! ### fractions -/
def fr (q : Rat) : Int × Int := (q.num, (q.den : Int))
def Sq (n : Nat) (q : Rat) : Prop := q.num.natAbs < 2 ^ n ∧ q.den < 2 ^ n
theorem fr_nat (a : Int) {d : Nat} (h : d ≠ 0) : fr ((a : Rat) / (d : Rat)) = (a / ((Nat.gcd a.natAbs d : Nat) : Int), ((d / Nat.gcd a.natAbs d : Nat) : Int)) := by
  unfold fr
  rw [← Rat.mkRat_eq_div, Rat.num_mkRat, Rat.den_mkRat, if_neg h, if_neg h, Nat.gcd_comm]
theorem fr_int (a : Int) {b : Int} (h : 0 < b) : fr ((a : Rat) / (b : Rat)) = (a / ((Nat.gcd a.natAbs b.natAbs : Nat) : Int), b / ((Nat.gcd a.natAbs b.natAbs : Nat) : Int)) := by
  obtain ⟨d, rfl⟩ := Int.eq_ofNat_of_zero_le (Int.le_of_lt h)
  have hd : d ≠ 0 := by omega
  have := fr_nat a hd
  rw [Int.natAbs_natCast, ← Int.natCast_ediv]
  exact this
theorem gcd_pos_int {a b : Int} (h : 0 < b) : 0 < ((Nat.gcd a.natAbs b.natAbs : Nat) : Int) := by
  have : 0 < Nat.gcd a.natAbs b.natAbs := Nat.gcd_pos_of_pos_right _ (by omega)
  omega
theorem gcd_le_int {a b : Int} (h : 0 < b) : ((Nat.gcd a.natAbs b.natAbs : Nat) : Int).natAbs ≤ b.natAbs := by
  rw [Int.natAbs_natCast]
  exact Nat.gcd_le_right _ (by omega)
theorem den_posI (q : Rat) : 0 < (q.den : Int) := by
  have := q.den_nz
  omega
theorem fr_val (q : Rat) : ((fr q).1 : Rat) / ((fr q).2 : Rat) = q := by
  have h := Rat.mkRat_eq_div q.num q.den
  rw [Rat.mkRat_self] at h
  unfold fr
  rw [show (((q.den : Nat) : Int) : Rat) = ((q.den : Nat) : Rat) from rfl]
  exact h.symm
theorem sq_div {n : Nat} {a b : Int} (h : 0 < b) (ha : a.natAbs < 2 ^ n) (hb : b.natAbs < 2 ^ n) : Sq n ((a : Rat) / (b : Rat)) := by
  have e := fr_int a h
  unfold fr at e
  simp only [Prod.mk.injEq] at e
  obtain ⟨e1, e2⟩ := e
  unfold Sq
  have g0 := gcd_pos_int (a := a) h
  constructor
  · rw [e1]
    exact Nat.lt_of_le_of_lt (Int.natAbs_ediv_le_natAbs _ _) ha
  · have : ((a : Rat) / (b : Rat)).den = (((a : Rat) / (b : Rat)).den : Int).natAbs := by omega
    rw [this, e2]
    exact Nat.lt_of_le_of_lt (Int.natAbs_ediv_le_natAbs _ _) hb
theorem two_le (n : Nat) : 1 ≤ 2 ^ n := Nat.one_le_two_pow
theorem add_lt {x y : Int} {a b n : Nat} (ha : x.natAbs < 2 ^ a) (hb : y.natAbs < 2 ^ b) (h : a < n) (h' : b < n) : (x + y).natAbs < 2 ^ n := by
  have e1 : 2 ^ a ≤ 2 ^ (n - 1) := Nat.pow_le_pow_right (by decide) (by omega)
  have e2 : 2 ^ b ≤ 2 ^ (n - 1) := Nat.pow_le_pow_right (by decide) (by omega)
  have e3 : 2 ^ n = 2 * 2 ^ (n - 1) := by
    rw [← Nat.pow_succ']
    congr 1
    omega
  omega
theorem sub_lt {x y : Int} {a b n : Nat} (ha : x.natAbs < 2 ^ a) (hb : y.natAbs < 2 ^ b) (h : a < n) (h' : b < n) : (x - y).natAbs < 2 ^ n := by
  have := add_lt (x := x) (y := -y) ha (by omega) h h'
  rwa [Int.sub_eq_add_neg]
theorem mul_lt {x y : Int} {a b n : Nat} (ha : x.natAbs < 2 ^ a) (hb : y.natAbs < 2 ^ b) (h : a + b ≤ n) : (x * y).natAbs < 2 ^ n :=
  Nat.lt_of_lt_of_le (wide_lt ha hb) (Nat.pow_le_pow_right (by decide) h)
theorem up_lt {x : Int} {a n : Nat} (ha : x.natAbs < 2 ^ a) (h : a ≤ n) : x.natAbs < 2 ^ n := Nat.lt_of_lt_of_le ha (Nat.pow_le_pow_right (by decide) h)
theorem Sq.up {q : Rat} {a n : Nat} (h : Sq a q) (l : a ≤ n) : Sq n q := ⟨up_lt h.1 l, Nat.lt_of_lt_of_le h.2 (Nat.pow_le_pow_right (by decide) l)⟩
theorem Sq.d {q : Rat} {a : Nat} (h : Sq a q) : ((q.den : Nat) : Int).natAbs < 2 ^ a := by rw [Int.natAbs_natCast]; exact h.2
theorem rat_add (p q : Rat) : p + q = ((p.num * (q.den : Int) + q.num * (p.den : Int) : Int) : Rat) / (((p.den : Int) * (q.den : Int) : Int) : Rat) := by
  have a := fr_val p
  have b := fr_val q
  unfold fr at a b
  have x : ((p.den : Int) : Rat) ≠ 0 := by
    have := den_posI p
    intro z
    have := Rat.intCast_inj.mp (show ((p.den : Int) : Rat) = ((0 : Int) : Rat) from z)
    omega
  have y : ((q.den : Int) : Rat) ≠ 0 := by
    have := den_posI q
    intro z
    have := Rat.intCast_inj.mp (show ((q.den : Int) : Rat) = ((0 : Int) : Rat) from z)
    omega
  push_cast
  push_cast at a b x y
  grind
theorem rat_mul (p q : Rat) : p * q = ((p.num * q.num : Int) : Rat) / (((p.den : Int) * (q.den : Int) : Int) : Rat) := by
  have a := fr_val p
  have b := fr_val q
  unfold fr at a b
  push_cast
  push_cast at a b
  grind
theorem rat_div (p q : Rat) : p / q = ((p.num * (q.den : Int) : Int) : Rat) / (((p.den : Int) * q.num : Int) : Rat) := by
  have a := fr_val p
  have b := fr_val q
  unfold fr at a b
  push_cast
  push_cast at a b
  grind
theorem sq_add {p q : Rat} {a b n : Nat} (ha : Sq a p) (hb : Sq b q) (h : a + b < n) : Sq n (p + q) := by
  rw [rat_add]
  refine sq_div (Int.mul_pos (den_posI p) (den_posI q)) ?_ (mul_lt ha.d hb.d (by omega))
  exact add_lt (mul_lt ha.1 hb.d (Nat.le_refl _)) (mul_lt hb.1 ha.d (Nat.le_refl _)) (by omega) (by omega)
theorem sq_mul {p q : Rat} {a b n : Nat} (ha : Sq a p) (hb : Sq b q) (h : a + b ≤ n) : Sq n (p * q) := by
  rw [rat_mul]
  exact sq_div (Int.mul_pos (den_posI p) (den_posI q)) (mul_lt ha.1 hb.1 h) (mul_lt ha.d hb.d h)
theorem num_pos' {q : Rat} (h : 0 < q) : 0 < q.num := by
  have := Rat.num_nonneg (q := q)
  have h1 : 0 ≤ q.num := this.mpr (Rat.le_of_lt h)
  have h2 : q.num ≠ 0 := fun z => by
    have : q = 0 := Rat.num_eq_zero.mp z
    rw [this] at h
    exact absurd h (by decide)
  omega
theorem sq_quo {p q : Rat} {a b n : Nat} (ha : Sq a p) (hb : Sq b q) (hq : 0 < q) (h : a + b ≤ n) : Sq n (p / q) := by
  rw [rat_div]
  exact sq_div (Int.mul_pos (den_posI p) (num_pos' hq)) (mul_lt ha.1 hb.d h) (mul_lt ha.d hb.1 h)
theorem fr_inj {p q : Rat} (h : fr p = fr q) : p = q := by
  have a := fr_val p
  rw [h, fr_val] at a
  exact a.symm
end Wk

set_option Elab.async false
set_option linter.all false
set_option maxRecDepth 100000
namespace Wk
open PySem L2 Evl
section
variable {K : PySem.W.Frag} {M : List Addr} {F F' H H' : Hp} {Q : VK} {α : Type} {en : α → PyData} {l l' : List α} {xs ys : List V} {a b p : Addr} {v : V} {ds : List PyData}
/-! ### None or a value -/
theorem sh_eO [DecidableEq α] {f : α → PyData} {n : Nat} (s : Sh f n) (h1 : ∀ a, PyData.eqv .none (f a) = false := by intro a; rfl) (h2 : ∀ a, PyData.eqv (f a) .none = false := by intro a; rfl) : Sh (eO f) (n + 1) :=
  ⟨fun o => by cases o with
    | none => rfl
    | some a => exact s.lay a, fun o => by cases o with
    | none => simp [eO, PyData.depth]
    | some a => exact Nat.le_succ_of_le (s.dep a), fun o o' => by
      cases o with
      | none => cases o' with
        | none => simp [eO, PyData.eqv]
        | some b => rw [show eO f none = .none from rfl, show eO f (some b) = f b from rfl, h1]; simp
      | some a => cases o' with
        | none => rw [show eO f none = .none from rfl, show eO f (some a) = f a from rfl, h2]; simp
        | some b => rw [show eO f (some a) = f a from rfl, show eO f (some b) = f b from rfl, s.eq]; simp⟩
theorem isN_go {o : Option α} {Q : VK} (h : Dq K F v (eO en o)) (q : Q (.bl o.isNone) H) (hn : ∀ a, en a ≠ .none := by intro a; exact fun h => nomatch h) : (fun (x : V) (H1 : Hp) => Q (.bl (decide (x = V.non))) H1) v H := by
  show Q (.bl (decide (v = V.non))) H
  rw [none_O h hn]
  exact q
def getO {α : Type} (o : Option α) : Mm α := match o with
  | some a => .ok a
  | none => .bad
theorem post_getO {β : Type} {f : α → Mm β} {r : β → Prop} {q : Er → Prop} {o : Option α} (h : Post ((getO o).bd f) r q) : ∃ a, o = some a ∧ Post (f a) r q := by
  cases o with
  | none => exact h.h.elim
  | some a => exact ⟨a, rfl, ⟨h.h⟩⟩
theorem dq_some {o : Option α} {x : α} (d : Dq K F v (eO en o)) (h : o = some x) : Dq K F v (en x) := by
  subst h
  exact d
/-! ### a list display with a list in it -/
theorem new_star {pre : List V} {pm : List α} (e : Ex F H) (a : DqAll K F pre (pm.map en)) (b : DqAll K F xs (l.map en)) (hl : pm.length + l.length ≤ 100000) (k : Ret M F H (fun F' _ v => Dq K F' v (eL en (pm ++ l))) Q) :
    (pre ++ (xs ++ [])).length ≤ sizeLine ∧ ∀ p, H p = none → Q (.ref p) (upd H p (.lst (pre ++ (xs ++ [])))) := by
  rw [List.append_nil]
  refine new_lst e (ds := (pm ++ l).map en) ?_ ?_ k
  · rw [List.map_append]
    exact a.app b
  · rw [List.length_append, a.len, b.len, List.length_map, List.length_map]
    exact hl
/-- a tuple of any values -/
theorem new_tupR (e : Ex F H) (hl : xs.length ≤ 100000) (k : ∀ p F' H', Gm M F H F' H' → SqT K F' p xs → Q (.ref p) H') : xs.length ≤ sizeLine ∧ ∀ p, H p = none → Q (.ref p) (upd H p (.tup xs)) :=
  ⟨sz_of hl, fun p hp => k p _ _ (Gm.new e hp) (st_of upd_same)⟩
/-! ### an item is set -/
def setM {α : Type} (l : List α) (i : Int) (v : α) : Mm (List α) := match ixN l.length i with
  | some j => .ok (l.set j v)
  | none => .bad
theorem post_set {β : Type} {f : List α → Mm β} {r : β → Prop} {q : Er → Prop} {i : Int} {x : α} (h : Post ((setM l i x).bd f) r q) : ∃ m j, ixN l.length i = some j ∧ l.set j x = m ∧ Post (f m) r q := by
  unfold setM at h
  cases e : ixN l.length i with
  | none =>
    rw [e] at h
    exact h.h.elim
  | some j =>
    rw [e] at h
    exact ⟨_, j, rfl, rfl, ⟨h.h⟩⟩
theorem all_ix {i : Int} {j : Nat} (a : DqAll K F xs (l.map en)) (h : ixN l.length i = some j) : ixN xs.length i = some j := by
  rw [a.len, List.length_map]
  exact h
theorem dqAll_set {v : V} {d : PyData} : ∀ {xs : List V} {ds : List PyData} (j : Nat), DqAll K F xs ds → Dq K F v d → DqAll K F (xs.set j v) (ds.set j d)
  | _, _, j, .nil, _ => .nil
  | _, _, 0, .cons _ b, h => .cons h b
  | _, _, j + 1, .cons a b, h => .cons a (dqAll_set j b h)
theorem all_set {j : Nat} {x : α} {m : List α} (a : DqAll K F xs (l.map en)) (h : Dq K F v (en x)) (e : l.set j x = m) : DqAll K F (xs.set j v) (m.map en) := by
  subst e
  rw [List.map_set]
  exact dqAll_set j a h
end
section
variable {K : PySem.W.Frag} {M : List Addr} {F H : Hp} {σ : L2.St} {g : TG} {tt : TT} {te : TE} {vs : List Nat} {α β γ : Type} {l : List α} {ok : β → Prop} {ex : Er → Prop} {J : It} {R : Hp → V → α → Prop} {Q : VK}
theorem lc_fil {f : α → Mm (Option γ)} {rest : List γ → Mm β} (w : Wlk M F H J l R) (en : γ → PyData) (k : Post ((filMm f l).bd rest) ok ex) (e : Ex F H) (hz : l.length ≤ 50000) (hM : ∀ D, H D = none → D ∉ M)
    (hb : ∀ x v F1 H1 F2 H2, Gm M F H F1 H1 → Gm [] F1 H1 F2 H2 → R F2 v x → ∀ Q' : Option V → Hp → Prop, Post (f x) (fun o => ∀ F3 H3 v, Gm M F1 H1 F3 H3 → (match o with
        | some y => ∃ u, v = some u ∧ Dq K F3 u (en y)
        | none => v = none) → Q' v H3) (fun _ => False) →
      g v (wipe σ vs) H2 fun σ2 H3 => wipe σ2 vs = wipe σ vs ∧ tt σ2 H3 fun b H4 => if b = true then te σ2 H4 fun y H5 => Q' (some y) H5 else Q' none H4)
    (hx : ∀ e, ¬ ex e) (kk : ∀ (r : List γ) v F' H', Gm M F H F' H' → Dq K F' v (eL en r) → Post (rest r) ok ex → Q v H') (mono : GMon g) :
    ∀ D, H D = none → ∃ W : Nat → Nat → Hp → Prop, (∃ m, W 0 m (upd H D (.lst []))) ∧ ∀ i m H, W i m H →
      (J.stop i H ∧ Q (.ref D) H) ∨ (J.go i H ∧ ∃ Nx : Hp → Prop, (∀ H', Nx H' → ∃ m', m' < m ∧ W (i + 1) m' H') ∧ ∀ x H', J.yld i H x H' → g x (wipe σ vs) H' fun σ2 H2 => wipe σ2 vs = wipe σ vs ∧ tt σ2 H2 fun b H3 =>
        if b = true then te σ2 H3 fun y H4 => ∃ acc, H4 D = some (.lst acc) ∧ acc.length < sizeLine ∧ Nx (upd H4 D (.lst (acc ++ [y]))) else Nx H3) := by
  obtain ⟨n, G, Y, w, hn, hG, hY⟩ := w.ex
  rw [filMm_comp, bd_assoc] at k
  refine lc_mir w en (fun _ _ _ => True) k e trivial stab_t hn hz hG hM (fun i s x v F' H' H'' g' _ hx y Q' k' => ?_) hx (fun r v F' H' g' _ d k' => kk r.1 v F' H' g' d k')
  obtain ⟨F'', g2, r⟩ := hY i x v F' H' H'' g' hx y
  exact hb x v F' H' F'' H'' g' g2 r Q' ((post_bd k').mono (fun o q F3 H3 v g3 d => q.h F3 H3 v g3 trivial (by cases o <;> exact d)) fun _ z => z)
end
end Wk

set_option Elab.async false
set_option linter.all false
set_option maxRecDepth 100000
set_option maxHeartbeats 2000000
namespace Wk
open PySem L2 Evl
theorem cdv_small {i j : Int} (h : j ≠ 0 ∧ j.natAbs < 1073741824) : CDv i j := by
  have e : j.natAbs < 2 ^ 30 := by have : (2 : Nat) ^ 30 = 1073741824 := by decide
                                   omega
  exact ⟨h.1, Nat.lt_of_lt_of_le (PySem.Flt.log2_lt_of (by decide) e) (by decide)⟩
/-! ### and, or: the second operand draws -/
section
variable {M : List Addr} {F H : Hp} {σ : L2.St} {α S : Type} {a : Bool} {Y : Mm (Bool × S)} {rest : Bool × S → Mm α} {st : S} {ok : α → Prop} {ex : Er → Prop} {Q : Bool → Hp → Prop} {u : TT} {QV : VK} {uE : TE}
theorem and_jS (W : S → Hp → Hp → Prop) (e : Ex F H) (h0 : W st F H) (k : Post ((cond a Y (.ok (false, st))).bd rest) ok ex)
    (hu : a = true → ∀ Q' : Bool → Hp → Prop, Post Y (fun b => ∀ F' H', Gm M F H F' H' → W b.2 F' H' → Q' b.1 H') ex → u σ H Q')
    (kk : ∀ b F' H', Gm M F H F' H' → W b.2 F' H' → Post (rest b) ok ex → Q b.1 H') : if a = true then u σ H Q else Q false H := by
  cases a with
  | false => rw [if_neg Bool.false_ne_true]; exact kk (false, st) F H (Gm.refl e) h0 ⟨k.h⟩
  | true => rw [if_pos rfl]; exact hu rfl Q ((post_bd k).mono (fun b q F' H' g s => kk b F' H' g s q) fun _ z => z)
theorem or_jS (W : S → Hp → Hp → Prop) (e : Ex F H) (h0 : W st F H) (k : Post ((cond a (.ok (true, st)) Y).bd rest) ok ex)
    (hu : a = false → ∀ Q' : Bool → Hp → Prop, Post Y (fun b => ∀ F' H', Gm M F H F' H' → W b.2 F' H' → Q' b.1 H') ex → u σ H Q')
    (kk : ∀ b F' H', Gm M F H F' H' → W b.2 F' H' → Post (rest b) ok ex → Q b.1 H') : if a = true then Q true H else u σ H Q := by
  cases a with
  | true => rw [if_pos rfl]; exact kk (true, st) F H (Gm.refl e) h0 ⟨k.h⟩
  | false => rw [if_neg Bool.false_ne_true]; exact hu rfl Q ((post_bd k).mono (fun b q F' H' g s => kk b F' H' g s q) fun _ z => z)
/-- as values -/
theorem andV_jS (W : S → Hp → Hp → Prop) (e : Ex F H) (h0 : W st F H) (k : Post ((cond a Y (.ok (false, st))).bd rest) ok ex)
    (hu : a = true → ∀ Q' : VK, Post Y (fun b => ∀ F' H', Gm M F H F' H' → W b.2 F' H' → Q' (.bl b.1) H') ex → uE σ H Q')
    (kk : ∀ b F' H', Gm M F H F' H' → W b.2 F' H' → Post (rest b) ok ex → QV (.bl b.1) H') : if a = true then uE σ H QV else QV (.bl false) H := by
  cases a with
  | false => rw [if_neg Bool.false_ne_true]; exact kk (false, st) F H (Gm.refl e) h0 ⟨k.h⟩
  | true => rw [if_pos rfl]; exact hu rfl QV ((post_bd k).mono (fun b q F' H' g s => kk b F' H' g s q) fun _ z => z)
theorem orV_jS (W : S → Hp → Hp → Prop) (e : Ex F H) (h0 : W st F H) (k : Post ((cond a (.ok (true, st)) Y).bd rest) ok ex)
    (hu : a = false → ∀ Q' : VK, Post Y (fun b => ∀ F' H', Gm M F H F' H' → W b.2 F' H' → Q' (.bl b.1) H') ex → uE σ H Q')
    (kk : ∀ b F' H', Gm M F H F' H' → W b.2 F' H' → Post (rest b) ok ex → QV (.bl b.1) H') : if a = true then QV (.bl true) H else uE σ H QV := by
  cases a with
  | true => rw [if_pos rfl]; exact kk (true, st) F H (Gm.refl e) h0 ⟨k.h⟩
  | false => rw [if_neg Bool.false_ne_true]; exact hu rfl QV ((post_bd k).mono (fun b q F' H' g s => kk b F' H' g s q) fun _ z => z)
end
/-! ### own lists: as data, repeated, popped -/
section
variable {K : PySem.W.Frag} {M : List Addr} {F F' H H' : Hp} {Q : VK} {α : Type} {en : α → PyData} {l m : List α} {xs ys : List V} {a p : Addr} {v : V} {j : Int}
theorem own_dp (h : H p = some (.lst xs)) (a : DqAll K F xs (l.map en)) (e : Ex F H) : Dp K H (.ref p) (eL en l) := .lst (sq_of h) (dqAll_dp _ _ (a.up e))
def repM {α : Type} (l : List α) (k : Int) : Mm (List α) := if -(2 ^ 63) ≤ k ∧ k < 2 ^ 63 ∧ l.length * k.toNat ≤ 100000 then .ok (List.replicate k.toNat l).flatten else .bad
theorem post_rep {β : Type} {f : List α → Mm β} {r : β → Prop} {q : Er → Prop} (h : Post ((repM l j).bd f) r q) : ∃ m, (-(2 ^ 63) ≤ j ∧ j < 2 ^ 63 ∧ l.length * j.toNat ≤ 100000) ∧ (List.replicate j.toNat l).flatten = m ∧ Post (f m) r q := by
  unfold repM at h
  split at h
  · exact ⟨_, ‹_›, rfl, ⟨h.h⟩⟩
  · exact h.h.elim
theorem all_rep (d : DqAll K F xs (l.map en)) : ∀ n : Nat, DqAll K F (List.replicate n xs).flatten ((List.replicate n l).flatten.map en)
  | 0 => .nil
  | n + 1 => by
    rw [List.replicate_succ, List.replicate_succ, List.flatten_cons, List.flatten_cons, List.map_append]
    exact d.app (all_rep d n)
theorem rep_sz (d : DqAll K F xs (l.map en)) {n : Nat} (h : l.length * n ≤ 100000) : xs.length * n ≤ sizeLine := sz_of (by rw [d.len, List.length_map]; exact h)
theorem rep_lst (e : Ex F H) (s : H a = some (.lst xs)) (d : DqAll K F xs (l.map en)) (h : -(2 ^ 63) ≤ j ∧ j < 2 ^ 63 ∧ l.length * j.toNat ≤ 100000) (hm : (List.replicate j.toNat l).flatten = m) (k : Ret M F H (fun F' _ v => Dq K F' v (eL en m)) Q) : rRep (.ref a) (.int j) H Q := by
  subst hm
  refine ⟨a, j, xs, rfl, rfl, s, h.1, h.2.1, rep_sz d h.2.2, fun p hp => ?_⟩
  have g : Gm M F H (upd F p (.lst (List.replicate j.toNat xs).flatten)) (upd H p (.lst (List.replicate j.toNat xs).flatten)) := Gm.new e hp
  exact k _ _ _ g (.lst upd_same ((all_rep d _).up g.f))
theorem rep_own (e : Ex F H) (s : H a = some (.lst xs)) (d : DqAll K F xs (l.map en)) (h : -(2 ^ 63) ≤ j ∧ j < 2 ^ 63 ∧ l.length * j.toNat ≤ 100000) (k : ∀ p H', Gm [] F H F H' → H p = none → (H' p = some (.lst (List.replicate j.toNat xs).flatten) ∧ F p = none) → Q (.ref p) H') : rRep (.ref a) (.int j) H Q :=
  ⟨a, j, xs, rfl, rfl, s, h.1, h.2.1, rep_sz d h.2.2, own_of e k⟩
theorem all_repM (d : DqAll K F xs (l.map en)) (hm : (List.replicate j.toNat l).flatten = m) : DqAll K F (List.replicate j.toNat xs).flatten (m.map en) := by
  subst hm
  exact all_rep d _
def popN {α : Type} (l : List α) : Mm (List α) := match l with
  | [] => .bad
  | x :: r => .ok (x :: r).dropLast
theorem post_pop {β : Type} {f : List α → Mm β} {r : β → Prop} {q : Er → Prop} (h : Post ((popN l).bd f) r q) : l ≠ [] ∧ Post (f l.dropLast) r q := by
  cases l with
  | nil => exact h.h.elim
  | cons x l => exact ⟨by simp, ⟨h.h⟩⟩
theorem all_pop (d : DqAll K F xs (l.map en)) : DqAll K F xs.dropLast (l.dropLast.map en) := by
  have e1 : xs.dropLast = xs.take (xs.length - 1) := List.dropLast_eq_take
  have e2 : l.dropLast.map en = (l.map en).take (xs.length - 1) := by
    rw [List.dropLast_eq_take, List.map_take, d.len, List.length_map]
  rw [e1, e2]
  exact d.take _
theorem pop_at (d : DqAll K F xs (l.map en)) (h : l ≠ []) : ∃ y, xs[xs.length - 1]? = some y := by
  have n : xs.length = l.length := by rw [d.len, List.length_map]
  have : 0 < l.length := List.length_pos_iff.mpr h
  exact ⟨_, List.getElem?_eq_getElem (by omega)⟩
end
/-! ### range that goes down -/
def rangeDn (lo : Int) (n : Nat) : List Int := (List.range n).map fun (i : Nat) => lo - (i : Int)
def rangeM3 (i j : Int) : Mm (List Int) := if -(2 ^ 62) ≤ i ∧ i < 2 ^ 62 ∧ -(2 ^ 62) ≤ j ∧ j < 2 ^ 62 then .ok (rangeDn i (i - j).toNat) else .bad
section
variable {β : Type} {r : β → Prop} {q : Er → Prop} {i j : Int} {f : List Int → Mm β}
theorem post_range3 (h : Post ((rangeM3 i j).bd f) r q) : RgC i j (-1) (i - j).toNat ∧ Post (f (rangeDn i (i - j).toNat)) r q := by
  unfold rangeM3 at h
  split at h
  · rename_i c
    exact ⟨RgC.neg c.1 c.2.1 c.2.2.1 c.2.2.2, ⟨h.h⟩⟩
  · exact h.h.elim
theorem rangeDn_at {lo : Int} {n i : Nat} {x : Int} (h : (rangeDn lo n)[i]? = some x) : x = lo - i := by
  unfold rangeDn at h
  rw [List.getElem?_map] at h
  cases e : (List.range n)[i]? with
  | none => rw [e] at h; cases h
  | some j =>
    rw [e] at h
    obtain ⟨h1, h2⟩ := List.getElem?_eq_some_iff.mp e
    rw [List.getElem_range] at h2
    subst h2
    exact (Option.some.inj h).symm
theorem wlk_rangeDn {M : List Addr} {F H : Hp} {lo : Int} {n : Nat} : Wlk M F H (Itc lo (-1) n) (rangeDn lo n) (fun _ v x => v = V.int x) := by
  refine ⟨_, _, _, walk_rangeC (lo := lo) (c := -1) (n := n), by simp [rangeDn], fun _ _ _ => trivial, fun i x v F' H' H'' g' hx y => ?_⟩
  obtain ⟨rfl, hv⟩ := y
  rw [rangeDn_at hx]
  have e2 : lo + (i : Int) * (-1) = lo - (i : Int) := by omega
  rw [← e2]
  exact ⟨F', Gm.refl g'.s, hv⟩
end
/-! ### comprehensions whose list may change -/
section
variable {K : PySem.W.Frag} {M : List Addr} {F H : Hp} {σ : L2.St} {g : TG} {tt : TT} {te : TE} {vs : List Nat} {α β γ S : Type} {l : List α} {f : S → α → Mm (Option γ × S)} {rest : List γ × S → Mm β} {ok : β → Prop} {ex : Er → Prop} {s0 : S} {J : It} {n : Nat} {G : Hp → Prop} {Y : Nat → Hp → V → Hp → Prop} {Q : VK}
theorem lc_mirO (w : Walk J n G Y) (en : γ → PyData) (I : S → Hp → Hp → Prop) (k : Post ((compM f s0 l).bd rest) ok ex) (e : Ex F H) (h0 : I s0 F H) (st : Stab I H) (hn : l.length = n) (hz : l.length ≤ 50000) (hG : ∀ F' H', Gm M F H F' H' → G H')
    (hM : ∀ D, H D = none → D ∉ M)
    (hb : ∀ i s x v F' H' H'', Gm M F H F' H' → I s F' H' → l[i]? = some x → Y i H' v H'' → ∀ Q : Option V → Hp → Prop,
      Post (f s x) (fun o => ∀ F2 H2 v, Gm M F' H' F2 H2 → I o.2 F2 H2 → (match o.1 with
        | some y => ∃ u, v = some u ∧ Dq K F2 u (en y)
        | none => v = none) → Q v H2) (fun _ => False) →
      g v (wipe σ vs) H'' fun σ2 H2 => wipe σ2 vs = wipe σ vs ∧ tt σ2 H2 fun b H3 => if b = true then te σ2 H3 fun y H4 => Q (some y) H4 else Q none H3)
    (hx : ∀ e, ¬ ex e)
    (kk : ∀ (r : List γ × S) D xs F' H', Gm M F H F' H' → I r.2 F' H' → H D = none → (H' D = some (.lst xs) ∧ F' D = none) → DqAll K F' xs (r.1.map en) → Post (rest r) ok ex → Q (.ref D) H') :
    ∀ D, H D = none → ∃ W : Nat → Nat → Hp → Prop, (∃ m, W 0 m (upd H D (.lst []))) ∧ ∀ i m H, W i m H →
      (J.stop i H ∧ Q (.ref D) H) ∨ (J.go i H ∧ ∃ Nx : Hp → Prop, (∀ H', Nx H' → ∃ m', m' < m ∧ W (i + 1) m' H') ∧ ∀ x H', J.yld i H x H' → g x (wipe σ vs) H' fun σ2 H2 => wipe σ2 vs = wipe σ vs ∧ tt σ2 H2 fun b H3 =>
        if b = true then te σ2 H3 fun y H4 => ∃ acc, H4 D = some (.lst acc) ∧ acc.length < sizeLine ∧ Nx (upd H4 D (.lst (acc ++ [y]))) else Nx H3) := by
  intro D hD
  have k0 : Post ((compM f s0 (l.drop 0)).bd fun r => rest ([] ++ r.1, r.2)) ok ex := by simpa using k
  refine lc_it w (fun i H' => ∃ (s : S) (acc : List γ) (xs : List V) (F' : Hp), Gm M F H F' H' ∧ I s F' H' ∧ H' D = some (.lst xs) ∧ F' D = none ∧ DqAll K F' xs (acc.map en) ∧ xs.length ≤ i ∧ Post ((compM f s (l.drop i)).bd fun r => rest (acc ++ r.1, r.2)) ok ex)
    ⟨s0, [], [], F, Gm.newM e hD, st.put s0 F H D _ h0 hD, upd_same, ?_, .nil, Nat.le_refl _, k0⟩ (fun i H' _ ⟨s, acc, xs, F', g', _⟩ => hG F' H' g') ?_ ?_
  · cases q : F D with
    | none => rfl
    | some u => rw [e D u q] at hD; cases hD
  · rintro i v H' H'' hi ⟨s, acc, xs, F', g', i', hL, fL, ha, hlen, k'⟩ y
    have hl : i < l.length := by omega
    have e1 : l.drop i = l[i] :: l.drop (i + 1) := List.drop_eq_getElem_cons hl
    rw [e1] at k'
    have k2 := comp_post k'
    have hDM : D ∉ M := hM D hD
    have z := hb i s l[i] v F' H' H'' g' i' (List.getElem?_eq_getElem hl) y (fun o H4 => match o with
      | some y => ∃ acc', H4 D = some (.lst acc') ∧ acc'.length < sizeLine ∧ ∃ (s : S) (acc : List γ) (xs : List V) (F' : Hp), Gm M F H F' (upd H4 D (.lst (acc' ++ [y]))) ∧ I s F' (upd H4 D (.lst (acc' ++ [y]))) ∧ (upd H4 D (.lst (acc' ++ [y]))) D = some (.lst xs) ∧ F' D = none ∧ DqAll K F' xs (acc.map en) ∧ xs.length ≤ i + 1 ∧ Post ((compM f s (l.drop (i + 1))).bd fun r => rest (acc ++ r.1, r.2)) ok ex
      | none => ∃ (s : S) (acc : List γ) (xs : List V) (F' : Hp), Gm M F H F' H4 ∧ I s F' H4 ∧ H4 D = some (.lst xs) ∧ F' D = none ∧ DqAll K F' xs (acc.map en) ∧ xs.length ≤ i + 1 ∧ Post ((compM f s (l.drop (i + 1))).bd fun r => rest (acc ++ r.1, r.2)) ok ex)
      (k2.mono (fun o q F2 H2 v2 g2 i2 hv => ?_) fun e z => (hx e z).elim)
    · exact z
    · obtain ⟨h2L, f2L⟩ := g2.own hDM hL fL
      obtain ⟨o1, o2⟩ := o
      cases o1 with
      | some y =>
        obtain ⟨u, rfl, hu⟩ := hv
        refine ⟨xs, h2L, sz_lt (by omega), o2, acc ++ [y], xs ++ [u], F2, ?_, st.put _ _ _ _ _ i2 hD, upd_same, f2L, ?_, ?_, ?_⟩
        · exact (g'.trans g2).putYoung h2L f2L hD
        · rw [List.map_append]; exact (ha.up g2.f).app (.cons hu .nil)
        · rw [List.length_append, List.length_singleton]; omega
        · simpa using q
      | none =>
        subst hv
        refine ⟨o2, acc, xs, F2, g'.trans g2, i2, h2L, f2L, ha.up g2.f, by omega, ?_⟩
        simpa using q
  · rintro H' ⟨s, acc, xs, F', g', i', hL, fL, ha, hlen, k'⟩
    rw [← hn, List.drop_length] at k'
    exact kk (acc, s) D xs F' H' g' i' hD ⟨hL, fL⟩ ha (by simpa [compM] using k')
end
section
variable {K : PySem.W.Frag} {M : List Addr} {F H : Hp} {σ : L2.St} {g : TG} {tt : TT} {te : TE} {vs : List Nat} {α β γ S : Type} {l : List α} {ok : β → Prop} {ex : Er → Prop} {s0 : S} {J : It} {R : Hp → V → α → Prop} {Q : VK}
theorem lc_mapO {f : α → Mm γ} {rest : List γ → Mm β} (w : Wlk M F H J l R) (en : γ → PyData) (k : Post ((mapMm f l).bd rest) ok ex) (e : Ex F H) (hz : l.length ≤ 50000) (hM : ∀ D, H D = none → D ∉ M)
    (hb : ∀ x v F1 H1 F2 H2, Gm M F H F1 H1 → Gm [] F1 H1 F2 H2 → R F2 v x → ∀ Q : VK, Post (f x) (fun y => Ret M F1 H1 (fun F3 _ u => Dq K F3 u (en y)) Q) (fun _ => False) →
      g v (wipe σ vs) H2 fun σ2 H3 => wipe σ2 vs = wipe σ vs ∧ te σ2 H3 Q)
    (hx : ∀ e, ¬ ex e) (kk : ∀ (r : List γ) D xs F' H', Gm M F H F' H' → H D = none → (H' D = some (.lst xs) ∧ F' D = none) → DqAll K F' xs (r.map en) → Post (rest r) ok ex → Q (.ref D) H') (mono : GMon g) :
    ∀ D, H D = none → ∃ W : Nat → Nat → Hp → Prop, (∃ m, W 0 m (upd H D (.lst []))) ∧ ∀ i m H, W i m H →
      (J.stop i H ∧ Q (.ref D) H) ∨ (J.go i H ∧ ∃ Nx : Hp → Prop, (∀ H', Nx H' → ∃ m', m' < m ∧ W (i + 1) m' H') ∧ ∀ x H', J.yld i H x H' → g x (wipe σ vs) H' fun σ2 H2 => wipe σ2 vs = wipe σ vs ∧ tYes σ2 H2 fun b H3 =>
        if b = true then te σ2 H3 fun y H4 => ∃ acc, H4 D = some (.lst acc) ∧ acc.length < sizeLine ∧ Nx (upd H4 D (.lst (acc ++ [y]))) else Nx H3) := by
  obtain ⟨n, G, Y, w, hn, hG, hY⟩ := w.ex
  rw [mapMm_comp, bd_assoc] at k
  refine lc_mirO w en (fun _ _ _ => True) k e trivial stab_t hn hz hG hM (fun i s x v F' H' H'' g' _ hx y Q' k' => ?_) hx (fun r D xs F' H' g' _ hD o d k' => kk r.1 D xs F' H' g' hD o d k')
  obtain ⟨F'', g2, r⟩ := hY i x v F' H' H'' g' hx y
  refine mono _ _ _ _ _ (fun σ2 H3 z => ⟨z.1, ?_⟩) (hb x v F' H' F'' H'' g' g2 r (fun u H4 => Q' (some u) H4) ((post_bd k').mono (fun y q u F3 H3 g3 d => q.h F3 H3 _ g3 trivial ⟨u, rfl, d⟩) fun _ z => z))
  exact tYes_of (iteT z.2)
theorem lc_stO {f : Rw → α → Mm (γ × Rw)} {s0 : Rw} {rest : List γ × Rw → Mm β} {sc ra : Addr} {scr : List Int} (w : Wlk [ra] F H J l R) (en : γ → PyData) (k : Post ((mapSt f s0 l).bd rest) ok ex) (e : Ex F H) (hz : l.length ≤ 50000) (h0 : RowAt K sc ra scr F H s0)
    (hb : ∀ s x v F1 H1 F2 H2, Gm [ra] F H F1 H1 → RowAt K sc ra scr F1 H1 s → Gm [] F1 H1 F2 H2 → R F2 v x → ∀ Q : VK, Post (f s x) (fun y => Ret [ra] F1 H1 (fun F3 H3 u => Dq K F3 u (en y.1) ∧ RowAt K sc ra scr F3 H3 y.2) Q) (fun _ => False) →
      g v (wipe σ vs) H2 fun σ2 H3 => wipe σ2 vs = wipe σ vs ∧ te σ2 H3 Q)
    (hx : ∀ e, ¬ ex e) (kk : ∀ (r : List γ × Rw) D xs F' H', Gm [ra] F H F' H' → H D = none → (H' D = some (.lst xs) ∧ F' D = none) → DqAll K F' xs (r.1.map en) → RowAt K sc ra scr F' H' r.2 → Post (rest r) ok ex → Q (.ref D) H') (mono : GMon g) :
    ∀ D, H D = none → ∃ W : Nat → Nat → Hp → Prop, (∃ m, W 0 m (upd H D (.lst []))) ∧ ∀ i m H, W i m H →
      (J.stop i H ∧ Q (.ref D) H) ∨ (J.go i H ∧ ∃ Nx : Hp → Prop, (∀ H', Nx H' → ∃ m', m' < m ∧ W (i + 1) m' H') ∧ ∀ x H', J.yld i H x H' → g x (wipe σ vs) H' fun σ2 H2 => wipe σ2 vs = wipe σ vs ∧ tYes σ2 H2 fun b H3 =>
        if b = true then te σ2 H3 fun y H4 => ∃ acc, H4 D = some (.lst acc) ∧ acc.length < sizeLine ∧ Nx (upd H4 D (.lst (acc ++ [y]))) else Nx H3) := by
  obtain ⟨n, G, Y, w, hn, hG, hY⟩ := w.ex
  rw [mapSt_comp] at k
  refine lc_mirO w en (fun s F H => RowAt K sc ra scr F H s) k e h0 (stab_row h0) hn hz hG (row_notM h0) (fun i s x v F' H' H'' g' i' hx y Q' k' => ?_) hx (fun r D xs F' H' g' i' hD o d k' => kk r D xs F' H' g' hD o d i' k')
  obtain ⟨F'', g2, r⟩ := hY i x v F' H' H'' g' hx y
  refine mono _ _ _ _ _ (fun σ2 H3 z => ⟨z.1, ?_⟩) (hb s x v F' H' F'' H'' g' i' g2 r (fun u H4 => Q' (some u) H4) ((post_bd k').mono (fun y q u F3 H3 g3 d => q.h F3 H3 _ g3 d.2 ⟨u, rfl, d.1⟩) fun _ z => z))
  exact tYes_of (iteT z.2)
end
end Wk

set_option Elab.async false
set_option linter.all false
set_option maxRecDepth 100000
set_option maxHeartbeats 4000000
namespace L
open PySem L2 Evl Wk StX
def top (i : Nat) : Stmt := PySem.Challenge.pw_fewreadings_k03_whole_sums_by_own_adding.main.body.getD i (.Pass ⟨0, 0, 0, 0⟩)
/-! ### whole_within -/
abbrev s_whole_within : Stmt := top 8
theorem sc_whole_within : FnScope ["number", "low", "high"] ["number", "low", "high"] (defScope s_whole_within) := ⟨rfl, rfl, rfl, by decide +kernel, rfl, by decide +kernel, by decide +kernel⟩
def whole_within (number : Int) (low : Int) (high : Int) : Mm Bool := Mm.ok (true && ((!false) && ((decide (low ≤ number)) && (decide (number ≤ high)))))
def sp_whole_within (K : PySem.W.Frag) : Sp := fun vs H Q _ => ∃ (F : Hp) (number : Int) (low : Int) (high : Int), vs = [(V.int number), (V.int low), (V.int high)] ∧ Ex F H ∧ Post (whole_within number low high) (fun r => Ret [] F H (fun F' _ v => v = V.bl r) Q) (fun _ => False)
theorem ok_whole_within {P : Program} {w : World} {K : PySem.W.Frag} {mg : Str → Option Value} {base : Heap} {C f : Addr} {fd : FuncData} (B : Bi mg) (FF : FunD K "whole_within" "whole_within" (defArgs s_whole_within) (defBody s_whole_within) (defScope s_whole_within) [] [] f fd) : FnOk P w K mg base CX0 1 f fd ["number", "low", "high"] (sp_whole_within K) := by
  refine FF.ok sc_whole_within (fun vs H Q E h => ?_) (fun cdv A outer s H vs Q E hr h => ?_)
  · obtain ⟨F, number, low, high, rfl, _⟩ := h; rfl
  · obtain ⟨F, number, low, high, rfl, e, k⟩ := h
    unfold whole_within at k
    have g_ := Gm.refl (M := []) e
    refine ⟨_, PSs.nox (pss_one (ps_ret (pe_and (pe_callB call_isiI (by rfl) B.isinstance (by decide +kernel) (pa_cons (pv 0) (pa_cons (pe_bltn (v := .ty "int") (u := .type "int") (by rfl) B.int (by decide +kernel) rfl) pa_nil))) (pe_and (pe_not (pe_callB call_isiI (by rfl) B.isinstance (by decide +kernel) (pa_cons (pv 0) (pa_cons (pe_bltn (v := .ty "bool") (u := .type "bool") (by rfl) B.bool (by decide +kernel) rfl) pa_nil)))) (pe_one (pe_chain op_le op_le (pv 1) (pv 0) (pv 2))))))), ?_⟩
    refine ⟨_, rfl, _, _, true, rfl, .inl ⟨rfl, rfl⟩, _, rfl, ?_⟩
    refine andV_j (b := ((!false) && ((decide (low ≤ number)) && (decide (number ≤ high))))) (fun _ Q' q => ?_) ?_
    · refine ⟨_, rfl, _, _, false, rfl, .inr ⟨rfl, rfl⟩, _, rfl, _, rfl, ?_⟩
      refine andV_j (b := ((decide (low ≤ number)) && (decide (number ≤ high)))) (fun _ Q' q => ?_) ?_
      · refine ⟨_, rfl, _, rfl, _, _, rfl, rfl, _, rfl, ?_⟩
        refine chain_j (b := (decide (number ≤ high))) (fun _ Q' q => ?_) ?_
        · refine ⟨_, rfl, _, _, rfl, rfl, ?_⟩
          exact q
        exact q
      exact q
    exact k.h _ _ _ g_ rfl
/-! ### check_within -/
abbrev s_check_within : Stmt := top 9
theorem sc_check_within : FnScope ["number", "low", "high"] ["number", "low", "high"] (defScope s_check_within) := ⟨rfl, rfl, rfl, by decide +kernel, rfl, by decide +kernel, by decide +kernel⟩
def check_within (number : Int) (low : Int) (high : Int) : Mm Unit := (whole_within (number) (low) (high)).bd fun b1 => cond (!b1) (Mm.bad) (Mm.ok ())
def sp_check_within (K : PySem.W.Frag) : Sp := fun vs H Q _ => ∃ (F : Hp) (number : Int) (low : Int) (high : Int), vs = [(V.int number), (V.int low), (V.int high)] ∧ Ex F H ∧ Post (check_within number low high) (fun r => Ret [] F H (fun F' _ v => v = V.non) Q) (fun _ => False)
theorem ok_check_within {P : Program} {w : World} {K : PySem.W.Frag} {mg : Str → Option Value} {base : Heap} {C f : Addr} {fd : FuncData} (B : Bi mg) (FF : FunD K "check_within" "check_within" (defArgs s_check_within) (defBody s_check_within) (defScope s_check_within) [] [] f fd) (G_whole_within : Kn P w K mg base "whole_within" 1 ["number", "low", "high"] (sp_whole_within K)) : FnOk P w K mg base CX0 2 f fd ["number", "low", "high"] (sp_check_within K) := by
  refine FF.ok sc_check_within (fun vs H Q E h => ?_) (fun cdv A outer s H vs Q E hr h => ?_)
  · obtain ⟨F, number, low, high, rfl, _⟩ := h; rfl
  · obtain ⟨F, number, low, high, rfl, e, k⟩ := h
    unfold check_within at k
    have g_ := Gm.refl (M := []) e
    refine ⟨_, PSs.nox (pss_one (ps_if (pt_not (pt_val (pe_kn G_whole_within (hr.mono (by decide)) (pa_cons (pv 0) (pa_cons (pv 1) (pa_cons (pv 2) (pa_nil))))))) (pss_one ps_never) pss_nil)), ?_⟩
    refine ⟨_, rfl, _, rfl, _, rfl, ?_⟩
    refine ⟨F, number, low, high, rfl, e, (post_bd k).mono (fun b1 k v6 F2 H3 g4 r5 => ?_) (fun _ z => z)⟩
    have eF2 := g4.s
    have gF2 := g_.trans (g4.weak (by simp))
    subst r5
    refine ⟨_, rfl, ?_⟩
    refine cs k (fun _ k => ?_) (fun _ k => ?_)
    · exact k.elim
    · exact k.h _ _ _ gF2 rfl
/-! ### power_of -/
abbrev s_power_of : Stmt := top 10
theorem sc_power_of : FnScope ["base", "power", "result", "_"] ["base", "power"] (defScope s_power_of) := ⟨rfl, rfl, rfl, by decide +kernel, rfl, by decide +kernel, by decide +kernel⟩
def power_of (base : Int) (power : Int) : Mm Int := (rangeM power).bd fun l2 => (foldM (fun (b3 : Int) (x4 : Int) => (mulM b3 base).bd fun m22 => Mm.ok m22) (1 : Int) (rangeL 0 power.toNat)).bd fun b20 => Mm.ok b20
def sp_power_of (K : PySem.W.Frag) : Sp := fun vs H Q _ => ∃ (F : Hp) (base : Int) (power : Int), vs = [(V.int base), (V.int power)] ∧ Ex F H ∧ Post (power_of base power) (fun r => Ret [] F H (fun F' _ v => v = V.int r) Q) (fun _ => False)
theorem ok_power_of {P : Program} {w : World} {K : PySem.W.Frag} {mg : Str → Option Value} {base : Heap} {C f : Addr} {fd : FuncData} (B : Bi mg) (FF : FunD K "power_of" "power_of" (defArgs s_power_of) (defBody s_power_of) (defScope s_power_of) [] [] f fd) : FnOk P w K mg base CX0 1 f fd ["base", "power"] (sp_power_of K) := by
  refine FF.ok sc_power_of (fun vs H Q E h => ?_) (fun cdv A outer s H vs Q E hr h => ?_)
  · obtain ⟨F, base, power, rfl, _⟩ := h; rfl
  · obtain ⟨F, base, power, rfl, e, k⟩ := h
    unfold power_of at k
    have g_ := Gm.refl (M := []) e
    refine ⟨_, PSs.nox (pss_cons (ps_set (i := 2) sc_power_of.nd rfl (Or.inl rfl) (pe_int)) (pss_cons (ps_for PassesOwn.never rfl (pi_range1 rfl B.range (pa_cons (pv 1) (pa_nil))) (pg_name (i := 3) sc_power_of.nd rfl (Or.inl rfl)) (pss_one (ps_set (i := 2) sc_power_of.nd rfl (Or.inl rfl) (pe_op op_mulM (pv 2) (pv 0))))) (pss_one (ps_ret (pv 2))))), ?_⟩
    refine ⟨_, rfl, ?_⟩
    obtain ⟨h1, k⟩ := post_range k
    refine ⟨_, rfl, h1.1, h1.2, ?_⟩
    refine for_m (M := []) (F := F) wlk_range (fun b3 F' H' σ' => ∃ (u3 : Option V), σ' = [some (V.int base), some (V.int power), some (V.int b3), u3]) k e ⟨_, rfl⟩ (fun b3 x4 v12 σ14 F5 H6 F7 H8 g9 i13 g10 r11 nx kfb3 => ?_) (fun b20 σ19 F15 H16 g17 i18 k => ?_)
    · obtain ⟨u21, rfl⟩ := i13
      have eF7 := g10.s
      have gF7 := g9.trans (g10.weak (by simp))
      subst r11
      refine ⟨_, rfl, _, rfl, ?_⟩
      obtain ⟨m22, c23, q24, kfb3⟩ := post_mul kfb3
      refine ⟨_, _, _, rfl, rfl, c23, q24, ?_⟩
      exact kfb3.h _ _ _ gF7 ⟨_, rfl⟩
    have g25 := g_.trans (g17.weak (by simp))
    have eF15 := g17.s
    obtain ⟨u26, rfl⟩ := i18
    refine ⟨_, rfl, ?_⟩
    exact k.h _ _ _ g25 rfl
/-! ### lowest -/
abbrev s_lowest : Stmt := top 11
theorem sc_lowest : FnScope ["top", "bottom", "shared"] ["top", "bottom"] (defScope s_lowest) := ⟨rfl, rfl, rfl, by decide +kernel, rfl, by decide +kernel, by decide +kernel⟩
def lowest (top : Int) (bottom : Int) : Mm (Int × Int) := (cond (decide (bottom < (0 : Int))) (Mm.ok (-((Nat.gcd top.natAbs bottom.natAbs : Nat) : Int))) (Mm.ok ((Nat.gcd top.natAbs bottom.natAbs : Nat) : Int))).bd fun b1 => (divM top b1).bd fun m8 => (divM bottom b1).bd fun m11 => Mm.ok (m8, m11)
def sp_lowest (K : PySem.W.Frag) : Sp := fun vs H Q _ => ∃ (F : Hp) (top : Int) (bottom : Int), vs = [(V.int top), (V.int bottom)] ∧ Ex F H ∧ Post (lowest top bottom) (fun r => Ret [] F H (fun F' _ v => Dq K F' v ((e2 PyData.int PyData.int) r)) Q) (fun _ => False)
theorem ok_lowest {P : Program} {w : World} {K : PySem.W.Frag} {mg : Str → Option Value} {base : Heap} {C f : Addr} {fd : FuncData} (B : Bi mg) (FF : FunD K "lowest" "lowest" (defArgs s_lowest) (defBody s_lowest) (defScope s_lowest) [] [] f fd) (c_gcd : mg "gcd" = some (.builtin "math.gcd")) : FnOk P w K mg base CX0 1 f fd ["top", "bottom"] (sp_lowest K) := by
  refine FF.ok sc_lowest (fun vs H Q E h => ?_) (fun cdv A outer s H vs Q E hr h => ?_)
  · obtain ⟨F, top, bottom, rfl, _⟩ := h; rfl
  · obtain ⟨F, top, bottom, rfl, e, k⟩ := h
    unfold lowest at k
    have g_ := Gm.refl (M := []) e
    refine ⟨_, PSs.nox (pss_cons (ps_set (i := 2) sc_lowest.nd rfl (Or.inl rfl) (pe_callBfun cr_gcd (by rfl) c_gcd (pa_cons (pv 0) (pa_cons (pv 1) (pa_nil))))) (pss_cons (ps_if (pt_cmpR op_lt (pv 1) (pe_int) (nomark _)) (pss_one (ps_set (i := 2) sc_lowest.nd rfl (Or.inl rfl) (pe_un un_neg (pv 2)))) (pss_nil)) (pss_one (ps_ret (pe_q (pe_tup (pa_cons (pe_op op_divM (pv 0) (pv 2)) (pa_cons (pe_op op_divM (pv 1) (pv 2)) (pa_nil))))))))), ?_⟩
    refine ⟨_, rfl, _, rfl, _, _, rfl, ?_⟩
    refine ⟨_, rfl, _, _, rfl, rfl, _, rfl, ?_⟩
    refine ifs_jM (M := []) (F := F) (fun b1 F' H' σ' => σ' = [some (V.int top), some (V.int bottom), some (V.int b1)]) k (fun _ nx kjb1 => ?_) (fun _ nx kjb1 => ?_) (fun b1 σ5 F2 H3 g4 i6 k => ?_)
    · have gF_ := Gm.refl (M := []) e
      refine ⟨_, rfl, _, rfl, ?_⟩
      exact kjb1.h _ _ _ gF_ rfl
    · have gF_ := Gm.refl (M := []) e
      exact kjb1.h _ _ _ gF_ rfl
    have g7 := g_.trans (g4.weak (by simp))
    have eF2 := g4.s
    obtain rfl := i6
    refine ⟨_, rfl, _, rfl, ?_⟩
    obtain ⟨m8, c9, q10, k⟩ := post_div k
    refine ⟨_, _, _, rfl, rfl, c9, q10, _, rfl, _, rfl, ?_⟩
    obtain ⟨m11, c12, q13, k⟩ := post_div k
    refine ⟨_, _, _, rfl, rfl, c12, q13, ?_⟩
    show _ ∧ _
    refine new_tup (K := K) (M := []) eF2 (.cons (Dq.int m8) (.cons (Dq.int m11) .nil)) (by show 2 ≤ 100000; decide) fun v18 F14 H15 g16 r17 => ?_
    have eF14 := g16.s
    have gF14 := g7.trans (g16.weak (by simp))
    replace r17 : Dq K F14 v18 ((e2 PyData.int PyData.int) (m8, m11)) := r17
    exact k.h _ _ _ gF14 r17
/-! ### plus -/
abbrev s_plus : Stmt := top 12
theorem sc_plus : FnScope ["one", "other"] ["one", "other"] (defScope s_plus) := ⟨rfl, rfl, rfl, by decide +kernel, rfl, by decide +kernel, by decide +kernel⟩
def plus (one : (Int × Int)) (other : (Int × Int)) : Mm (Int × Int) := (mulM one.1 other.2).bd fun m13 => (mulM other.1 one.2).bd fun m16 => (mulM one.2 other.2).bd fun m19 => (lowest ((m13 + m16)) (m19)).bd fun b22 => Mm.ok b22
def sp_plus (K : PySem.W.Frag) : Sp := fun vs H Q _ => ∃ (F : Hp) (v_one : V) (one : (Int × Int)) (v_other : V) (other : (Int × Int)), vs = [v_one, v_other] ∧ Ex F H ∧ Dq K F v_one ((e2 PyData.int PyData.int) one) ∧ Dq K F v_other ((e2 PyData.int PyData.int) other) ∧ Post (plus one other) (fun r => Ret [] F H (fun F' _ v => Dq K F' v ((e2 PyData.int PyData.int) r)) Q) (fun _ => False)
theorem ok_plus {P : Program} {w : World} {K : PySem.W.Frag} {mg : Str → Option Value} {base : Heap} {C f : Addr} {fd : FuncData} (B : Bi mg) (FF : FunD K "plus" "plus" (defArgs s_plus) (defBody s_plus) (defScope s_plus) [] [] f fd) (G_lowest : Kn P w K mg base "lowest" 1 ["top", "bottom"] (sp_lowest K)) : FnOk P w K mg base CX0 2 f fd ["one", "other"] (sp_plus K) := by
  refine FF.ok sc_plus (fun vs H Q E h => ?_) (fun cdv A outer s H vs Q E hr h => ?_)
  · obtain ⟨F, v_one, one, v_other, other, rfl, _⟩ := h; rfl
  · obtain ⟨F, v_one, one, v_other, other, rfl, e, r_one, r_other, k⟩ := h
    unfold plus at k
    have g_ := Gm.refl (M := []) e
    refine ⟨_, PSs.nox (pss_one (ps_ret (pe_kn G_lowest (hr.mono (by decide)) (pa_cons (pe_op op_add (pe_op op_mulM (pe_ix (r := rIxT K) ix_tup (pv 0) (pe_int) (fun _ _ => rfl)) (pe_ix (r := rIxT K) ix_tup (pv 1) (pe_int) (fun _ _ => rfl))) (pe_op op_mulM (pe_ix (r := rIxT K) ix_tup (pv 1) (pe_int) (fun _ _ => rfl)) (pe_ix (r := rIxT K) ix_tup (pv 0) (pe_int) (fun _ _ => rfl)))) (pa_cons (pe_op op_mulM (pe_ix (r := rIxT K) ix_tup (pv 0) (pe_int) (fun _ _ => rfl)) (pe_ix (r := rIxT K) ix_tup (pv 1) (pe_int) (fun _ _ => rfl))) (pa_nil)))))), ?_⟩
    refine ⟨_, rfl, ?_⟩
    obtain ⟨p1, x2, x3, rfl, s4, d5, d6⟩ := dp_tup2 r_one
    obtain rfl := dp_int d5
    obtain rfl := dp_int d6
    refine ⟨_, _, _, _, rfl, rfl, ex_t e s4, rfl, _, rfl, ?_⟩
    obtain ⟨p7, x8, x9, rfl, s10, d11, d12⟩ := dp_tup2 r_other
    obtain rfl := dp_int d11
    obtain rfl := dp_int d12
    refine ⟨_, _, _, _, rfl, rfl, ex_t e s10, rfl, ?_⟩
    obtain ⟨m13, c14, q15, k⟩ := post_mul k
    refine ⟨_, _, _, rfl, rfl, c14, q15, _, rfl, ?_⟩
    refine ⟨_, _, _, _, rfl, rfl, ex_t e s10, rfl, _, rfl, ?_⟩
    refine ⟨_, _, _, _, rfl, rfl, ex_t e s4, rfl, ?_⟩
    obtain ⟨m16, c17, q18, k⟩ := post_mul k
    refine ⟨_, _, _, rfl, rfl, c17, q18, _, _, rfl, rfl, _, rfl, ?_⟩
    refine ⟨_, _, _, _, rfl, rfl, ex_t e s4, rfl, _, rfl, ?_⟩
    refine ⟨_, _, _, _, rfl, rfl, ex_t e s10, rfl, ?_⟩
    obtain ⟨m19, c20, q21, k⟩ := post_mul k
    refine ⟨_, _, _, rfl, rfl, c20, q21, ?_⟩
    refine ⟨F, (m13 + m16), m19, rfl, e, (post_bd k).mono (fun b22 k v27 F23 H24 g25 r26 => ?_) (fun _ z => z)⟩
    have eF23 := g25.s
    have gF23 := g_.trans (g25.weak (by simp))
    replace r_one := r_one.up g25.f
    replace r_other := r_other.up g25.f
    replace s4 := ex_t g25.f s4
    replace s10 := ex_t g25.f s10
    exact k.h _ _ _ gF23 r26
/-! ### times -/
abbrev s_times : Stmt := top 13
theorem sc_times : FnScope ["one", "other"] ["one", "other"] (defScope s_times) := ⟨rfl, rfl, rfl, by decide +kernel, rfl, by decide +kernel, by decide +kernel⟩
def times (one : (Int × Int)) (other : (Int × Int)) : Mm (Int × Int) := (mulM one.1 other.1).bd fun m13 => (mulM one.2 other.2).bd fun m16 => (lowest (m13) (m16)).bd fun b19 => Mm.ok b19
def sp_times (K : PySem.W.Frag) : Sp := fun vs H Q _ => ∃ (F : Hp) (v_one : V) (one : (Int × Int)) (v_other : V) (other : (Int × Int)), vs = [v_one, v_other] ∧ Ex F H ∧ Dq K F v_one ((e2 PyData.int PyData.int) one) ∧ Dq K F v_other ((e2 PyData.int PyData.int) other) ∧ Post (times one other) (fun r => Ret [] F H (fun F' _ v => Dq K F' v ((e2 PyData.int PyData.int) r)) Q) (fun _ => False)
theorem ok_times {P : Program} {w : World} {K : PySem.W.Frag} {mg : Str → Option Value} {base : Heap} {C f : Addr} {fd : FuncData} (B : Bi mg) (FF : FunD K "times" "times" (defArgs s_times) (defBody s_times) (defScope s_times) [] [] f fd) (G_lowest : Kn P w K mg base "lowest" 1 ["top", "bottom"] (sp_lowest K)) : FnOk P w K mg base CX0 2 f fd ["one", "other"] (sp_times K) := by
  refine FF.ok sc_times (fun vs H Q E h => ?_) (fun cdv A outer s H vs Q E hr h => ?_)
  · obtain ⟨F, v_one, one, v_other, other, rfl, _⟩ := h; rfl
  · obtain ⟨F, v_one, one, v_other, other, rfl, e, r_one, r_other, k⟩ := h
    unfold times at k
    have g_ := Gm.refl (M := []) e
    refine ⟨_, PSs.nox (pss_one (ps_ret (pe_kn G_lowest (hr.mono (by decide)) (pa_cons (pe_op op_mulM (pe_ix (r := rIxT K) ix_tup (pv 0) (pe_int) (fun _ _ => rfl)) (pe_ix (r := rIxT K) ix_tup (pv 1) (pe_int) (fun _ _ => rfl))) (pa_cons (pe_op op_mulM (pe_ix (r := rIxT K) ix_tup (pv 0) (pe_int) (fun _ _ => rfl)) (pe_ix (r := rIxT K) ix_tup (pv 1) (pe_int) (fun _ _ => rfl))) (pa_nil)))))), ?_⟩
    refine ⟨_, rfl, ?_⟩
    obtain ⟨p1, x2, x3, rfl, s4, d5, d6⟩ := dp_tup2 r_one
    obtain rfl := dp_int d5
    obtain rfl := dp_int d6
    refine ⟨_, _, _, _, rfl, rfl, ex_t e s4, rfl, _, rfl, ?_⟩
    obtain ⟨p7, x8, x9, rfl, s10, d11, d12⟩ := dp_tup2 r_other
    obtain rfl := dp_int d11
    obtain rfl := dp_int d12
    refine ⟨_, _, _, _, rfl, rfl, ex_t e s10, rfl, ?_⟩
    obtain ⟨m13, c14, q15, k⟩ := post_mul k
    refine ⟨_, _, _, rfl, rfl, c14, q15, _, rfl, ?_⟩
    refine ⟨_, _, _, _, rfl, rfl, ex_t e s4, rfl, _, rfl, ?_⟩
    refine ⟨_, _, _, _, rfl, rfl, ex_t e s10, rfl, ?_⟩
    obtain ⟨m16, c17, q18, k⟩ := post_mul k
    refine ⟨_, _, _, rfl, rfl, c17, q18, ?_⟩
    refine ⟨F, m13, m16, rfl, e, (post_bd k).mono (fun b19 k v24 F20 H21 g22 r23 => ?_) (fun _ z => z)⟩
    have eF20 := g22.s
    have gF20 := g_.trans (g22.weak (by simp))
    replace r_one := r_one.up g22.f
    replace r_other := r_other.up g22.f
    replace s4 := ex_t g22.f s4
    replace s10 := ex_t g22.f s10
    exact k.h _ _ _ gF20 r23
/-! ### over -/
abbrev s_over : Stmt := top 14
theorem sc_over : FnScope ["one", "other"] ["one", "other"] (defScope s_over) := ⟨rfl, rfl, rfl, by decide +kernel, rfl, by decide +kernel, by decide +kernel⟩
def over (one : (Int × Int)) (other : (Int × Int)) : Mm (Int × Int) := (mulM one.1 other.2).bd fun m13 => (mulM one.2 other.1).bd fun m16 => (lowest (m13) (m16)).bd fun b19 => Mm.ok b19
def sp_over (K : PySem.W.Frag) : Sp := fun vs H Q _ => ∃ (F : Hp) (v_one : V) (one : (Int × Int)) (v_other : V) (other : (Int × Int)), vs = [v_one, v_other] ∧ Ex F H ∧ Dq K F v_one ((e2 PyData.int PyData.int) one) ∧ Dq K F v_other ((e2 PyData.int PyData.int) other) ∧ Post (over one other) (fun r => Ret [] F H (fun F' _ v => Dq K F' v ((e2 PyData.int PyData.int) r)) Q) (fun _ => False)
theorem ok_over {P : Program} {w : World} {K : PySem.W.Frag} {mg : Str → Option Value} {base : Heap} {C f : Addr} {fd : FuncData} (B : Bi mg) (FF : FunD K "over" "over" (defArgs s_over) (defBody s_over) (defScope s_over) [] [] f fd) (G_lowest : Kn P w K mg base "lowest" 1 ["top", "bottom"] (sp_lowest K)) : FnOk P w K mg base CX0 2 f fd ["one", "other"] (sp_over K) := by
  refine FF.ok sc_over (fun vs H Q E h => ?_) (fun cdv A outer s H vs Q E hr h => ?_)
  · obtain ⟨F, v_one, one, v_other, other, rfl, _⟩ := h; rfl
  · obtain ⟨F, v_one, one, v_other, other, rfl, e, r_one, r_other, k⟩ := h
    unfold over at k
    have g_ := Gm.refl (M := []) e
    refine ⟨_, PSs.nox (pss_one (ps_ret (pe_kn G_lowest (hr.mono (by decide)) (pa_cons (pe_op op_mulM (pe_ix (r := rIxT K) ix_tup (pv 0) (pe_int) (fun _ _ => rfl)) (pe_ix (r := rIxT K) ix_tup (pv 1) (pe_int) (fun _ _ => rfl))) (pa_cons (pe_op op_mulM (pe_ix (r := rIxT K) ix_tup (pv 0) (pe_int) (fun _ _ => rfl)) (pe_ix (r := rIxT K) ix_tup (pv 1) (pe_int) (fun _ _ => rfl))) (pa_nil)))))), ?_⟩
    refine ⟨_, rfl, ?_⟩
    obtain ⟨p1, x2, x3, rfl, s4, d5, d6⟩ := dp_tup2 r_one
    obtain rfl := dp_int d5
    obtain rfl := dp_int d6
    refine ⟨_, _, _, _, rfl, rfl, ex_t e s4, rfl, _, rfl, ?_⟩
    obtain ⟨p7, x8, x9, rfl, s10, d11, d12⟩ := dp_tup2 r_other
    obtain rfl := dp_int d11
    obtain rfl := dp_int d12
    refine ⟨_, _, _, _, rfl, rfl, ex_t e s10, rfl, ?_⟩
    obtain ⟨m13, c14, q15, k⟩ := post_mul k
    refine ⟨_, _, _, rfl, rfl, c14, q15, _, rfl, ?_⟩
    refine ⟨_, _, _, _, rfl, rfl, ex_t e s4, rfl, _, rfl, ?_⟩
    refine ⟨_, _, _, _, rfl, rfl, ex_t e s10, rfl, ?_⟩
    obtain ⟨m16, c17, q18, k⟩ := post_mul k
    refine ⟨_, _, _, rfl, rfl, c17, q18, ?_⟩
    refine ⟨F, m13, m16, rfl, e, (post_bd k).mono (fun b19 k v24 F20 H21 g22 r23 => ?_) (fun _ z => z)⟩
    have eF20 := g22.s
    have gF20 := g_.trans (g22.weak (by simp))
    replace r_one := r_one.up g22.f
    replace r_other := r_other.up g22.f
    replace s4 := ex_t g22.f s4
    replace s10 := ex_t g22.f s10
    exact k.h _ _ _ gF20 r23
/-! ### added_up -/
abbrev s_added_up : Stmt := top 15
theorem sc_added_up : FnScope ["fractions", "result", "fraction"] ["fractions"] (defScope s_added_up) := ⟨rfl, rfl, rfl, by decide +kernel, rfl, by decide +kernel, by decide +kernel⟩
def added_up (fractions : (List (Int × Int))) : Mm (Int × Int) := (foldM (fun (b5 : (Int × Int)) (x6 : (Int × Int)) => (plus (b5) (x6)).bd fun b26 => Mm.ok b26) ((0, 1) : (Int × Int)) fractions).bd fun b22 => Mm.ok b22
def sp_added_up (K : PySem.W.Frag) : Sp := fun vs H Q _ => ∃ (F : Hp) (v_fractions : V) (fractions : (List (Int × Int))), vs = [v_fractions] ∧ Ex F H ∧ Dq K F v_fractions ((eL (e2 PyData.int PyData.int)) fractions) ∧ Post (added_up fractions) (fun r => Ret [] F H (fun F' _ v => Dq K F' v ((e2 PyData.int PyData.int) r)) Q) (fun _ => False)
theorem ok_added_up {P : Program} {w : World} {K : PySem.W.Frag} {mg : Str → Option Value} {base : Heap} {C f : Addr} {fd : FuncData} (B : Bi mg) (FF : FunD K "added_up" "added_up" (defArgs s_added_up) (defBody s_added_up) (defScope s_added_up) [] [] f fd) (G_plus : Kn P w K mg base "plus" 2 ["one", "other"] (sp_plus K)) {a_NOUGHT : Addr} (c_NOUGHT : mg "NOUGHT" = some (.ref a_NOUGHT)) (d_NOUGHT : ∀ F, Dq K F (.ref a_NOUGHT) ((e2 PyData.int PyData.int) (0, 1))) : FnOk P w K mg base CX0 3 f fd ["fractions"] (sp_added_up K) := by
  refine FF.ok sc_added_up (fun vs H Q E h => ?_) (fun cdv A outer s H vs Q E hr h => ?_)
  · obtain ⟨F, v_fractions, fractions, rfl, _⟩ := h; rfl
  · obtain ⟨F, v_fractions, fractions, rfl, e, r_fractions, k⟩ := h
    unfold added_up at k
    have g_ := Gm.refl (M := []) e
    refine ⟨_, PSs.nox (pss_cons (ps_set (i := 1) sc_added_up.nd rfl (Or.inl rfl) (pe_gref c_NOUGHT)) (pss_cons (ps_for PassesOwn.never rfl (pi_list (pv 0)) (pg_name (i := 2) sc_added_up.nd rfl (Or.inl rfl)) (pss_one (ps_set (i := 1) sc_added_up.nd rfl (Or.inl rfl) (pe_kn G_plus (hr.mono (by decide)) (pa_cons (pv 1) (pa_cons (pv 2) (pa_nil))))))) (pss_one (ps_ret (pv 1))))), ?_⟩
    refine ⟨_, rfl, ?_⟩
    obtain ⟨p1, xs2, rfl, s3, a4⟩ := dp_lst r_fractions
    refine ⟨_, rfl, ⟨_, (sq_of (e _ _ s3))⟩, ?_⟩
    refine for_m (M := []) (F := F) (wlk_list e s3 a4) (fun b5 F' H' σ' => ∃ (c1 : V) (u2 : Option V), σ' = [some (V.ref p1), some c1, u2] ∧ Dq K F' c1 ((e2 PyData.int PyData.int) b5)) k e ⟨_, _, rfl, (d_NOUGHT F)⟩ (fun b5 x6 v14 σ16 F7 H8 F9 H10 g11 i15 g12 r13 nx kfb5 => ?_) (fun b22 σ21 F17 H18 g19 i20 k => ?_)
    · replace r_fractions := r_fractions.up g11.f
      replace s3 := g11.f _ _ s3
      replace a4 := a4.up g11.f
      obtain ⟨c23, u24, rfl, r25⟩ := i15
      replace r_fractions := r_fractions.up g12.f
      replace s3 := g12.f _ _ s3
      replace a4 := a4.up g12.f
      replace r25 := r25.up g12.f
      have eF9 := g12.s
      have gF9 := g11.trans (g12.weak (by simp))
      refine ⟨_, rfl, _, rfl, ?_⟩
      refine ⟨F9, _, b5, _, x6, rfl, eF9, r25, r13, (post_bd kfb5).mono (fun b26 kfb5 v31 F27 H28 g29 r30 => ?_) (fun _ z => z)⟩
      have eF27 := g29.s
      have gF27 := gF9.trans (g29.weak (by simp))
      replace r_fractions := r_fractions.up g29.f
      replace s3 := g29.f _ _ s3
      replace a4 := a4.up g29.f
      replace r25 := r25.up g29.f
      replace r13 := r13.up g29.f
      exact kfb5.h _ _ _ gF27 ⟨_, _, rfl, r30⟩
    have g33 := g_.trans (g19.weak (by simp))
    replace r_fractions := r_fractions.up g19.f
    replace s3 := g19.f _ _ s3
    replace a4 := a4.up g19.f
    have eF17 := g19.s
    obtain ⟨c34, u35, rfl, r36⟩ := i20
    refine ⟨_, rfl, ?_⟩
    exact k.h _ _ _ g33 r36
/-! ### is_place -/
abbrev s_is_place : Stmt := top 24
theorem sc_is_place : FnScope ["number"] ["number"] (defScope s_is_place) := ⟨rfl, rfl, rfl, by decide +kernel, rfl, by decide +kernel, by decide +kernel⟩
def is_place (number : Int) : Mm Bool := (whole_within (number) ((-(20 : Int))) ((20 : Int))).bd fun b1 => Mm.ok b1
def sp_is_place (K : PySem.W.Frag) : Sp := fun vs H Q _ => ∃ (F : Hp) (number : Int), vs = [(V.int number)] ∧ Ex F H ∧ Post (is_place number) (fun r => Ret [] F H (fun F' _ v => v = V.bl r) Q) (fun _ => False)
theorem ok_is_place {P : Program} {w : World} {K : PySem.W.Frag} {mg : Str → Option Value} {base : Heap} {C f : Addr} {fd : FuncData} (B : Bi mg) (FF : FunD K "is_place" "is_place" (defArgs s_is_place) (defBody s_is_place) (defScope s_is_place) [] [] f fd) (G_whole_within : Kn P w K mg base "whole_within" 1 ["number", "low", "high"] (sp_whole_within K)) (c_FARTHEST : ∃ t, mg "FARTHEST" = some (.int 20 t)) : FnOk P w K mg base CX0 2 f fd ["number"] (sp_is_place K) := by
  refine FF.ok sc_is_place (fun vs H Q E h => ?_) (fun cdv A outer s H vs Q E hr h => ?_)
  · obtain ⟨F, number, rfl, _⟩ := h; rfl
  · obtain ⟨F, number, rfl, e, k⟩ := h
    unfold is_place at k
    have g_ := Gm.refl (M := []) e
    refine ⟨_, PSs.nox (pss_one (ps_ret (pe_kn G_whole_within (hr.mono (by decide)) (pa_cons (pv 0) (pa_cons (pe_un un_neg (pe_gint c_FARTHEST)) (pa_cons (pe_gint c_FARTHEST) (pa_nil))))))), ?_⟩
    refine ⟨_, rfl, _, rfl, ?_⟩
    refine ⟨F, number, (-(20 : Int)), (20 : Int), rfl, e, (post_bd k).mono (fun b1 k v6 F2 H3 g4 r5 => ?_) (fun _ z => z)⟩
    have eF2 := g4.s
    have gF2 := g_.trans (g4.weak (by simp))
    subst r5
    exact k.h _ _ _ gF2 rfl
/-! ### is_mass -/
abbrev s_is_mass : Stmt := top 25
theorem sc_is_mass : FnScope ["number"] ["number"] (defScope s_is_mass) := ⟨rfl, rfl, rfl, by decide +kernel, rfl, by decide +kernel, by decide +kernel⟩
def is_mass (number : Int) : Mm Bool := (whole_within (number) ((1 : Int)) ((20 : Int))).bd fun b1 => Mm.ok b1
def sp_is_mass (K : PySem.W.Frag) : Sp := fun vs H Q _ => ∃ (F : Hp) (number : Int), vs = [(V.int number)] ∧ Ex F H ∧ Post (is_mass number) (fun r => Ret [] F H (fun F' _ v => v = V.bl r) Q) (fun _ => False)
theorem ok_is_mass {P : Program} {w : World} {K : PySem.W.Frag} {mg : Str → Option Value} {base : Heap} {C f : Addr} {fd : FuncData} (B : Bi mg) (FF : FunD K "is_mass" "is_mass" (defArgs s_is_mass) (defBody s_is_mass) (defScope s_is_mass) [] [] f fd) (G_whole_within : Kn P w K mg base "whole_within" 1 ["number", "low", "high"] (sp_whole_within K)) (c_HEAVIEST : ∃ t, mg "HEAVIEST" = some (.int 20 t)) : FnOk P w K mg base CX0 2 f fd ["number"] (sp_is_mass K) := by
  refine FF.ok sc_is_mass (fun vs H Q E h => ?_) (fun cdv A outer s H vs Q E hr h => ?_)
  · obtain ⟨F, number, rfl, _⟩ := h; rfl
  · obtain ⟨F, number, rfl, e, k⟩ := h
    unfold is_mass at k
    have g_ := Gm.refl (M := []) e
    refine ⟨_, PSs.nox (pss_one (ps_ret (pe_kn G_whole_within (hr.mono (by decide)) (pa_cons (pv 0) (pa_cons (pe_int) (pa_cons (pe_gint c_HEAVIEST) (pa_nil))))))), ?_⟩
    refine ⟨_, rfl, ?_⟩
    refine ⟨F, number, (1 : Int), (20 : Int), rfl, e, (post_bd k).mono (fun b1 k v6 F2 H3 g4 r5 => ?_) (fun _ z => z)⟩
    have eF2 := g4.s
    have gF2 := g_.trans (g4.weak (by simp))
    subst r5
    exact k.h _ _ _ gF2 rfl
/-! ### check_masses -/
abbrev s_check_masses : Stmt := top 26
theorem sc_check_masses : FnScope ["masses", "ahead", "index", "place", "mass"] ["masses"] (defScope s_check_masses) := ⟨rfl, rfl, rfl, by decide +kernel, rfl, by decide +kernel, by decide +kernel⟩
def check_masses (masses : (List (Int × Int))) : Mm Unit := (foldM (fun (b5 : Int) (x6 : (Int × (Int × Int))) => (cond (decide (x6.1 = (6 : Int))) (Mm.ok true) ((is_place (x6.2.1)).bd fun b42 => (cond (!b42) (Mm.ok true) ((is_mass (x6.2.2)).bd fun b53 => Mm.ok ((!b53) || (decide (x6.2.1 ≤ b5))))).bd fun b49 => Mm.ok b49)).bd fun b38 => cond b38 (Mm.bad) (Mm.ok x6.2.1)) ((-(20 : Int)) - (1 : Int)) (enumL masses)).bd fun b22 => Mm.ok ()
def sp_check_masses (K : PySem.W.Frag) : Sp := fun vs H Q _ => ∃ (F : Hp) (v_masses : V) (masses : (List (Int × Int))), vs = [v_masses] ∧ Ex F H ∧ Dq K F v_masses ((eV (e2 PyData.int PyData.int)) masses) ∧ Post (check_masses masses) (fun r => Ret [] F H (fun F' _ v => v = V.non) Q) (fun _ => False)
theorem ok_check_masses {P : Program} {w : World} {K : PySem.W.Frag} {mg : Str → Option Value} {base : Heap} {C f : Addr} {fd : FuncData} (B : Bi mg) (FF : FunD K "check_masses" "check_masses" (defArgs s_check_masses) (defBody s_check_masses) (defScope s_check_masses) [] [] f fd) (G_is_place : Kn P w K mg base "is_place" 2 ["number"] (sp_is_place K)) (G_is_mass : Kn P w K mg base "is_mass" 2 ["number"] (sp_is_mass K)) (c_FARTHEST : ∃ t, mg "FARTHEST" = some (.int 20 t)) (c_MOST_MASSES : ∃ t, mg "MOST_MASSES" = some (.int 6 t)) : FnOk P w K mg base CX0 3 f fd ["masses"] (sp_check_masses K) := by
  refine FF.ok sc_check_masses (fun vs H Q E h => ?_) (fun cdv A outer s H vs Q E hr h => ?_)
  · obtain ⟨F, v_masses, masses, rfl, _⟩ := h; rfl
  · obtain ⟨F, v_masses, masses, rfl, e, r_masses, k⟩ := h
    unfold check_masses at k
    have g_ := Gm.refl (M := []) e
    refine ⟨_, PSs.nox (pss_cons (ps_set (i := 1) sc_check_masses.nd rfl (Or.inl rfl) (pe_op op_sub (pe_un un_neg (pe_gint c_FARTHEST)) (pe_int))) (pss_one (ps_for PassesOwn.never rfl (pi_enumT rfl B.enumerate (pa_cons (pv 0) pa_nil)) (pg_tup (by rfl) (pgs_cons (pg_name (i := 2) sc_check_masses.nd rfl (Or.inl rfl)) (pgs_cons (pg_tup (by rfl) (pgs_cons (pg_name (i := 3) sc_check_masses.nd rfl (Or.inl rfl)) (pgs_cons (pg_name (i := 4) sc_check_masses.nd rfl (Or.inl rfl)) (pgs_nil)))) (pgs_nil)))) (pss_cons (ps_if (PW.pt (pw_or (pt_cmpR op_eq (pv 2) (pe_gint c_MOST_MASSES) (nomark _)) (pw_or (pt_not (pt_val (pe_kn G_is_place (hr.mono (by decide)) (pa_cons (pv 3) (pa_nil))))) (pw_or (pt_not (pt_val (pe_kn G_is_mass (hr.mono (by decide)) (pa_cons (pv 4) (pa_nil))))) (pw_or1 (pt_cmpR op_le (pv 3) (pv 1) (nomark _))))))) (pss_one ps_never) pss_nil) (pss_one (ps_set (i := 1) sc_check_masses.nd rfl (Or.inl rfl) (pv 3))))))), ?_⟩
    refine ⟨_, rfl, _, _, rfl, rfl, ?_⟩
    refine ⟨_, rfl, ?_⟩
    obtain ⟨p1, xs2, rfl, s3, a4⟩ := dp_tup r_masses
    refine ⟨_, _, rfl, (ex_t e s3), ?_⟩
    refine for_m (M := []) (F := F) (wlk_enumT e s3 a4) (fun b5 F' H' σ' => ∃ (u2 : Option V) (u3 : Option V) (u4 : Option V), σ' = [some (V.ref p1), some (V.int b5), u2, u3, u4]) k e ⟨_, _, _, rfl⟩ (fun b5 x6 v14 σ16 F7 H8 F9 H10 g11 i15 g12 r13 nx kfb5 => ?_) (fun b22 σ21 F17 H18 g19 i20 k => ?_)
    · replace r_masses := r_masses.up g11.f
      replace s3 := ex_t g11.f s3
      replace a4 := a4.up g11.f
      obtain ⟨u23, u24, u25, rfl⟩ := i15
      replace r_masses := r_masses.up g12.f
      replace s3 := ex_t g12.f s3
      replace a4 := a4.up g12.f
      have eF9 := g12.s
      have gF9 := g11.trans (g12.weak (by simp))
      obtain ⟨p26, x27, x28, rfl, s29, d30, d31⟩ := dp_tup2 r13
      obtain rfl := dp_int d30
      refine ⟨_, _, rfl, ex_t eF9 s29, rfl, _, _, rfl, _, _, rfl, ?_⟩
      obtain ⟨p32, x33, x34, rfl, s35, d36, d37⟩ := dp_tup2 d31
      obtain rfl := dp_int d36
      obtain rfl := dp_int d37
      refine ⟨_, _, rfl, ex_t eF9 s35, rfl, _, _, rfl, _, _, rfl, rfl, rfl, ?_⟩
      refine ⟨_, rfl, rfl, ?_⟩
      rw [decV_int]
      refine ⟨_, rfl, ?_⟩
      refine or_jM (M := []) eF9 kfb5 (fun _ Q' kfb5tb38 => ?_) (fun b38 F39 H40 g41 kfb5 => ?_)
      · have gF9_ := Gm.refl (M := []) eF9
        refine ⟨_, rfl, ?_⟩
        refine ⟨F9, x6.2.1, rfl, eF9, (post_bd kfb5tb38).mono (fun b42 kfb5tb38 v47 F43 H44 g45 r46 => ?_) (fun _ z => z)⟩
        have eF43 := g45.s
        have gF43 := gF9_.trans (g45.weak (by simp))
        replace r_masses := r_masses.up g45.f
        replace s3 := ex_t g45.f s3
        replace a4 := a4.up g45.f
        replace r13 := r13.up g45.f
        replace s29 := ex_t g45.f s29
        replace d31 := d31.up g45.f
        replace s35 := ex_t g45.f s35
        subst r46
        refine ⟨_, rfl, ?_⟩
        refine or_jM (M := []) eF43 kfb5tb38 (fun _ Q' kfb5tb38tb49 => ?_) (fun b49 F50 H51 g52 kfb5tb38 => ?_)
        · have gF43_ := Gm.refl (M := []) eF43
          refine ⟨_, rfl, ?_⟩
          refine ⟨F43, x6.2.2, rfl, eF43, (post_bd kfb5tb38tb49).mono (fun b53 kfb5tb38tb49 v58 F54 H55 g56 r57 => ?_) (fun _ z => z)⟩
          have eF54 := g56.s
          have gF54 := gF43_.trans (g56.weak (by simp))
          replace r_masses := r_masses.up g56.f
          replace s3 := ex_t g56.f s3
          replace a4 := a4.up g56.f
          replace r13 := r13.up g56.f
          replace s29 := ex_t g56.f s29
          replace d31 := d31.up g56.f
          replace s35 := ex_t g56.f s35
          subst r57
          refine ⟨_, rfl, ?_⟩
          refine or_j (b := (decide (x6.2.1 ≤ b5))) (fun _ Q' q => ?_) ?_
          · refine ⟨_, rfl, _, rfl, _, _, rfl, rfl, _, rfl, ?_⟩
            exact q
          exact kfb5tb38tb49.h _ _ gF54
        have eF50 := g52.s
        have gF50 := gF43.trans (g52.weak (by simp))
        replace r_masses := r_masses.up g52.f
        replace s3 := ex_t g52.f s3
        replace a4 := a4.up g52.f
        replace r13 := r13.up g52.f
        replace s29 := ex_t g52.f s29
        replace d31 := d31.up g52.f
        replace s35 := ex_t g52.f s35
        exact kfb5tb38.h _ _ gF50
      have eF39 := g41.s
      have gF39 := gF9.trans (g41.weak (by simp))
      replace r_masses := r_masses.up g41.f
      replace s3 := ex_t g41.f s3
      replace a4 := a4.up g41.f
      replace r13 := r13.up g41.f
      replace s29 := ex_t g41.f s29
      replace d31 := d31.up g41.f
      replace s35 := ex_t g41.f s35
      refine cs kfb5 (fun _ kfb5 => ?_) (fun _ kfb5 => ?_)
      · exact kfb5.elim
      · refine ⟨_, rfl, ?_⟩
        exact kfb5.h _ _ _ gF39 ⟨_, _, _, rfl⟩
    have g60 := g_.trans (g19.weak (by simp))
    replace r_masses := r_masses.up g19.f
    replace s3 := ex_t g19.f s3
    replace a4 := a4.up g19.f
    have eF17 := g19.s
    obtain ⟨u61, u62, u63, rfl⟩ := i20
    exact k.h _ _ _ g60 rfl
/-! ### check_stretches -/
abbrev s_check_stretches : Stmt := top 27
theorem sc_check_stretches : FnScope ["stretches", "ahead", "index", "low", "high", "height"] ["stretches"] (defScope s_check_stretches) := ⟨rfl, rfl, rfl, by decide +kernel, rfl, by decide +kernel, by decide +kernel⟩
def check_stretches (stretches : (List (Int × Int × Int))) : Mm Unit := (foldM (fun (b5 : Int) (x6 : (Int × (Int × Int × Int))) => (cond (decide (x6.1 = (4 : Int))) (Mm.ok true) ((is_place (x6.2.1)).bd fun b45 => (cond (!b45) (Mm.ok true) ((is_place (x6.2.2.1)).bd fun b56 => (cond (!b56) (Mm.ok true) ((is_mass (x6.2.2.2)).bd fun b67 => Mm.ok (!b67))).bd fun b63 => Mm.ok b63)).bd fun b52 => Mm.ok b52)).bd fun b41 => cond b41 (Mm.bad) (cond ((decide (x6.2.1 < b5)) || (decide (x6.2.2.1 ≤ x6.2.1))) (Mm.bad) (Mm.ok x6.2.2.1))) (-(20 : Int)) (enumL stretches)).bd fun b22 => Mm.ok ()
def sp_check_stretches (K : PySem.W.Frag) : Sp := fun vs H Q _ => ∃ (F : Hp) (v_stretches : V) (stretches : (List (Int × Int × Int))), vs = [v_stretches] ∧ Ex F H ∧ Dq K F v_stretches ((eV (e3 PyData.int PyData.int PyData.int)) stretches) ∧ Post (check_stretches stretches) (fun r => Ret [] F H (fun F' _ v => v = V.non) Q) (fun _ => False)
theorem ok_check_stretches {P : Program} {w : World} {K : PySem.W.Frag} {mg : Str → Option Value} {base : Heap} {C f : Addr} {fd : FuncData} (B : Bi mg) (FF : FunD K "check_stretches" "check_stretches" (defArgs s_check_stretches) (defBody s_check_stretches) (defScope s_check_stretches) [] [] f fd) (G_is_place : Kn P w K mg base "is_place" 2 ["number"] (sp_is_place K)) (G_is_mass : Kn P w K mg base "is_mass" 2 ["number"] (sp_is_mass K)) (c_FARTHEST : ∃ t, mg "FARTHEST" = some (.int 20 t)) (c_MOST_STRETCHES : ∃ t, mg "MOST_STRETCHES" = some (.int 4 t)) : FnOk P w K mg base CX0 3 f fd ["stretches"] (sp_check_stretches K) := by
  refine FF.ok sc_check_stretches (fun vs H Q E h => ?_) (fun cdv A outer s H vs Q E hr h => ?_)
  · obtain ⟨F, v_stretches, stretches, rfl, _⟩ := h; rfl
  · obtain ⟨F, v_stretches, stretches, rfl, e, r_stretches, k⟩ := h
    unfold check_stretches at k
    have g_ := Gm.refl (M := []) e
    refine ⟨_, PSs.nox (pss_cons (ps_set (i := 1) sc_check_stretches.nd rfl (Or.inl rfl) (pe_un un_neg (pe_gint c_FARTHEST))) (pss_one (ps_for PassesOwn.never rfl (pi_enumT rfl B.enumerate (pa_cons (pv 0) pa_nil)) (pg_tup (by rfl) (pgs_cons (pg_name (i := 2) sc_check_stretches.nd rfl (Or.inl rfl)) (pgs_cons (pg_tup (by rfl) (pgs_cons (pg_name (i := 3) sc_check_stretches.nd rfl (Or.inl rfl)) (pgs_cons (pg_name (i := 4) sc_check_stretches.nd rfl (Or.inl rfl)) (pgs_cons (pg_name (i := 5) sc_check_stretches.nd rfl (Or.inl rfl)) (pgs_nil))))) (pgs_nil)))) (pss_cons (ps_if (PW.pt (pw_or (pt_cmpR op_eq (pv 2) (pe_gint c_MOST_STRETCHES) (nomark _)) (pw_or (pt_not (pt_val (pe_kn G_is_place (hr.mono (by decide)) (pa_cons (pv 3) (pa_nil))))) (pw_or (pt_not (pt_val (pe_kn G_is_place (hr.mono (by decide)) (pa_cons (pv 4) (pa_nil))))) (pw_or1 (pt_not (pt_val (pe_kn G_is_mass (hr.mono (by decide)) (pa_cons (pv 5) (pa_nil)))))))))) (pss_one ps_never) pss_nil) (pss_cons (ps_if (PW.pt (pw_or (pt_cmpR op_lt (pv 3) (pv 1) (nomark _)) (pw_or1 (pt_cmpR op_le (pv 4) (pv 3) (nomark _))))) (pss_one ps_never) pss_nil) (pss_one (ps_set (i := 1) sc_check_stretches.nd rfl (Or.inl rfl) (pv 4)))))))), ?_⟩
    refine ⟨_, rfl, ?_⟩
    refine ⟨_, rfl, ?_⟩
    obtain ⟨p1, xs2, rfl, s3, a4⟩ := dp_tup r_stretches
    refine ⟨_, _, rfl, (ex_t e s3), ?_⟩
    refine for_m (M := []) (F := F) (wlk_enumT e s3 a4) (fun b5 F' H' σ' => ∃ (u2 : Option V) (u3 : Option V) (u4 : Option V) (u5 : Option V), σ' = [some (V.ref p1), some (V.int b5), u2, u3, u4, u5]) k e ⟨_, _, _, _, rfl⟩ (fun b5 x6 v14 σ16 F7 H8 F9 H10 g11 i15 g12 r13 nx kfb5 => ?_) (fun b22 σ21 F17 H18 g19 i20 k => ?_)
    · replace r_stretches := r_stretches.up g11.f
      replace s3 := ex_t g11.f s3
      replace a4 := a4.up g11.f
      obtain ⟨u23, u24, u25, u26, rfl⟩ := i15
      replace r_stretches := r_stretches.up g12.f
      replace s3 := ex_t g12.f s3
      replace a4 := a4.up g12.f
      have eF9 := g12.s
      have gF9 := g11.trans (g12.weak (by simp))
      obtain ⟨p27, x28, x29, rfl, s30, d31, d32⟩ := dp_tup2 r13
      obtain rfl := dp_int d31
      refine ⟨_, _, rfl, ex_t eF9 s30, rfl, _, _, rfl, _, _, rfl, ?_⟩
      obtain ⟨p33, x34, x35, x36, rfl, s37, d38, d39, d40⟩ := dp_tup3 d32
      obtain rfl := dp_int d38
      obtain rfl := dp_int d39
      obtain rfl := dp_int d40
      refine ⟨_, _, rfl, ex_t eF9 s37, rfl, _, _, rfl, _, _, rfl, _, _, rfl, rfl, rfl, ?_⟩
      refine ⟨_, rfl, rfl, ?_⟩
      rw [decV_int]
      refine ⟨_, rfl, ?_⟩
      refine or_jM (M := []) eF9 kfb5 (fun _ Q' kfb5tb41 => ?_) (fun b41 F42 H43 g44 kfb5 => ?_)
      · have gF9_ := Gm.refl (M := []) eF9
        refine ⟨_, rfl, ?_⟩
        refine ⟨F9, x6.2.1, rfl, eF9, (post_bd kfb5tb41).mono (fun b45 kfb5tb41 v50 F46 H47 g48 r49 => ?_) (fun _ z => z)⟩
        have eF46 := g48.s
        have gF46 := gF9_.trans (g48.weak (by simp))
        replace r_stretches := r_stretches.up g48.f
        replace s3 := ex_t g48.f s3
        replace a4 := a4.up g48.f
        replace r13 := r13.up g48.f
        replace s30 := ex_t g48.f s30
        replace d32 := d32.up g48.f
        replace s37 := ex_t g48.f s37
        subst r49
        refine ⟨_, rfl, ?_⟩
        refine or_jM (M := []) eF46 kfb5tb41 (fun _ Q' kfb5tb41tb52 => ?_) (fun b52 F53 H54 g55 kfb5tb41 => ?_)
        · have gF46_ := Gm.refl (M := []) eF46
          refine ⟨_, rfl, ?_⟩
          refine ⟨F46, x6.2.2.1, rfl, eF46, (post_bd kfb5tb41tb52).mono (fun b56 kfb5tb41tb52 v61 F57 H58 g59 r60 => ?_) (fun _ z => z)⟩
          have eF57 := g59.s
          have gF57 := gF46_.trans (g59.weak (by simp))
          replace r_stretches := r_stretches.up g59.f
          replace s3 := ex_t g59.f s3
          replace a4 := a4.up g59.f
          replace r13 := r13.up g59.f
          replace s30 := ex_t g59.f s30
          replace d32 := d32.up g59.f
          replace s37 := ex_t g59.f s37
          subst r60
          refine ⟨_, rfl, ?_⟩
          refine or_jM (M := []) eF57 kfb5tb41tb52 (fun _ Q' kfb5tb41tb52tb63 => ?_) (fun b63 F64 H65 g66 kfb5tb41tb52 => ?_)
          · have gF57_ := Gm.refl (M := []) eF57
            refine ⟨_, rfl, ?_⟩
            refine ⟨F57, x6.2.2.2, rfl, eF57, (post_bd kfb5tb41tb52tb63).mono (fun b67 kfb5tb41tb52tb63 v72 F68 H69 g70 r71 => ?_) (fun _ z => z)⟩
            have eF68 := g70.s
            have gF68 := gF57_.trans (g70.weak (by simp))
            replace r_stretches := r_stretches.up g70.f
            replace s3 := ex_t g70.f s3
            replace a4 := a4.up g70.f
            replace r13 := r13.up g70.f
            replace s30 := ex_t g70.f s30
            replace d32 := d32.up g70.f
            replace s37 := ex_t g70.f s37
            subst r71
            refine ⟨_, rfl, ?_⟩
            exact kfb5tb41tb52tb63.h _ _ gF68
          have eF64 := g66.s
          have gF64 := gF57.trans (g66.weak (by simp))
          replace r_stretches := r_stretches.up g66.f
          replace s3 := ex_t g66.f s3
          replace a4 := a4.up g66.f
          replace r13 := r13.up g66.f
          replace s30 := ex_t g66.f s30
          replace d32 := d32.up g66.f
          replace s37 := ex_t g66.f s37
          exact kfb5tb41tb52.h _ _ gF64
        have eF53 := g55.s
        have gF53 := gF46.trans (g55.weak (by simp))
        replace r_stretches := r_stretches.up g55.f
        replace s3 := ex_t g55.f s3
        replace a4 := a4.up g55.f
        replace r13 := r13.up g55.f
        replace s30 := ex_t g55.f s30
        replace d32 := d32.up g55.f
        replace s37 := ex_t g55.f s37
        exact kfb5tb41.h _ _ gF53
      have eF42 := g44.s
      have gF42 := gF9.trans (g44.weak (by simp))
      replace r_stretches := r_stretches.up g44.f
      replace s3 := ex_t g44.f s3
      replace a4 := a4.up g44.f
      replace r13 := r13.up g44.f
      replace s30 := ex_t g44.f s30
      replace d32 := d32.up g44.f
      replace s37 := ex_t g44.f s37
      refine cs kfb5 (fun _ kfb5 => ?_) (fun _ kfb5 => ?_)
      · exact kfb5.elim
      · refine ⟨_, rfl, _, rfl, _, _, rfl, rfl, _, rfl, ?_⟩
        refine or_j (b := (decide (x6.2.2.1 ≤ x6.2.1))) (fun _ Q' q => ?_) ?_
        · refine ⟨_, rfl, _, rfl, _, _, rfl, rfl, _, rfl, ?_⟩
          exact q
        refine cs kfb5 (fun _ kfb5 => ?_) (fun _ kfb5 => ?_)
        · exact kfb5.elim
        · refine ⟨_, rfl, ?_⟩
          exact kfb5.h _ _ _ gF42 ⟨_, _, _, _, rfl⟩
    have g74 := g_.trans (g19.weak (by simp))
    replace r_stretches := r_stretches.up g19.f
    replace s3 := ex_t g19.f s3
    replace a4 := a4.up g19.f
    have eF17 := g19.s
    obtain ⟨u75, u76, u77, u78, rfl⟩ := i20
    exact k.h _ _ _ g74 rfl
/-! ### Weighting.__init__ -/
abbrev s_Weighting_init : Stmt := inClass (top 23) 0
theorem sc_Weighting_init : FnScope ["self", "masses", "stretches", "place", "mass", "low", "high", "height"] ["self", "masses", "stretches"] (defScope s_Weighting_init) := ⟨rfl, rfl, rfl, by decide +kernel, rfl, by decide +kernel, by decide +kernel⟩
def Weighting_init (masses : Ms) (stretches : Ss) : Mm Wt := (check_masses (masses)).bd fun b1 => (check_stretches (stretches)).bd fun b8 => (cond (decide ((masses.length : Int) = (0 : Int))) (Mm.ok (decide ((stretches.length : Int) = (0 : Int)))) (Mm.ok false)).bd fun b19 => cond b19 (Mm.bad) ((guardM (masses.length ≤ 50000)).bd fun _ => (mapMm (fun (x29 : (Int × Int)) => Mm.ok (x29.1, x29.2)) masses).bd fun b28 => (guardM (stretches.length ≤ 50000)).bd fun _ => (mapMm (fun (x77 : (Int × Int × Int)) => Mm.ok (x77.1, x77.2.1, x77.2.2)) stretches).bd fun b76 => Mm.ok (b28, b76))
theorem ok_Weighting_init {P : Program} {w : World} {K : PySem.W.Frag} {mg : Str → Option Value} {base : Heap} {C f : Addr} {fd : FuncData} (B : Bi mg) (cl : Cls K C) (n_masses : NoAttr K C "_masses") (n_stretches : NoAttr K C "_stretches") (FF : FunD K "__init__" "Weighting.__init__" (defArgs s_Weighting_init) (defBody s_Weighting_init) (defScope s_Weighting_init) [] [] f fd) (G_check_masses : Kn P w K mg base "check_masses" 3 ["masses"] (sp_check_masses K)) (G_check_stretches : Kn P w K mg base "check_stretches" 3 ["stretches"] (sp_check_stretches K)) : FnOk P w K mg base CX0 4 f fd ["self", "masses", "stretches"] (spW0 Weighting_init K C) := by
  refine FF.ok sc_Weighting_init (fun vs H Q E h => ?_) (fun cdv A outer s H vs Q E hr h => ?_)
  · obtain ⟨F, x, dx, v_masses, v_stretches, masses, stretches, rfl, _⟩ := h; rfl
  · obtain ⟨F, x, dx, v_masses, v_stretches, masses, stretches, rfl, e, hx, fx, r_masses, r_stretches, k⟩ := h
    have o : H x = some (.ins C dx []) ∧ F x = none := ⟨hx, fx⟩
    unfold Weighting_init at k
    have g_ := Gm.refl (M := [x]) e
    refine ⟨_, PSs.nox (pss_cons (ps_expr (pe_kn G_check_masses (hr.mono (by decide)) (pa_cons (pv 1) (pa_nil)))) (pss_cons (ps_expr (pe_kn G_check_stretches (hr.mono (by decide)) (pa_cons (pv 2) (pa_nil)))) (pss_cons (ps_if (PW.pt (pw_and (pt_cmpR op_eq (pe_callB call_lenM (by rfl) B.len (by decide +kernel) (pa_cons (pv 1) pa_nil)) (pe_int) (nomark _)) (pw_and1 (pt_cmpR op_eq (pe_callB call_lenM (by rfl) B.len (by decide +kernel) (pa_cons (pv 2) pa_nil)) (pe_int) (nomark _))))) (pss_one ps_never) pss_nil) (pss_cons (ps_fld (pv 0) (pe_q (pe_callTy call_tuple_of (by rfl) B.tuple (by decide +kernel) (pa_cons (pe_q (pe_lc (own := [("place", 3), ("mass", 4)]) (g := gTup K 2 (gCons (gName 3) (gCons (gName 4) gNil))) rfl sc_Weighting_init.nd (pi_tup (pv 1)) (blkOk_by (N := ["self", "masses", "stretches", "place", "mass", "low", "high", "height"]) (sc := defScope s_Weighting_init) (by decide +kernel)) (fun _ _ _ _ _ => pg_tup (by rfl) (pgs_cons (pg_name (i := 3) sc_Weighting_init.nd rfl (Or.inl rfl)) (pgs_cons (pg_name (i := 4) sc_Weighting_init.nd rfl (Or.inl rfl)) (pgs_nil)))) (fun _ _ _ _ _ => pts_nil) (fun _ _ _ _ _ => pe_q (pe_tup (pa_cons (pv 3) (pa_cons (pv 4) (pa_nil))))))) pa_nil))) rfl) (pss_one (ps_fld (pv 0) (pe_q (pe_callTy call_tuple_of (by rfl) B.tuple (by decide +kernel) (pa_cons (pe_q (pe_lc (own := [("low", 5), ("high", 6), ("height", 7)]) (g := gTup K 3 (gCons (gName 5) (gCons (gName 6) (gCons (gName 7) gNil)))) rfl sc_Weighting_init.nd (pi_tup (pv 2)) (blkOk_by (N := ["self", "masses", "stretches", "place", "mass", "low", "high", "height"]) (sc := defScope s_Weighting_init) (by decide +kernel)) (fun _ _ _ _ _ => pg_tup (by rfl) (pgs_cons (pg_name (i := 5) sc_Weighting_init.nd rfl (Or.inl rfl)) (pgs_cons (pg_name (i := 6) sc_Weighting_init.nd rfl (Or.inl rfl)) (pgs_cons (pg_name (i := 7) sc_Weighting_init.nd rfl (Or.inl rfl)) (pgs_nil))))) (fun _ _ _ _ _ => pts_nil) (fun _ _ _ _ _ => pe_q (pe_tup (pa_cons (pv 5) (pa_cons (pv 6) (pa_cons (pv 7) (pa_nil)))))))) pa_nil))) rfl)))))), ?_⟩
    refine ⟨_, rfl, ?_⟩
    refine ⟨F, _, masses, rfl, e, r_masses, (post_bd k).mono (fun b1 k v6 F2 H3 g4 r5 => ?_) (fun _ z => z)⟩
    have eF2 := g4.s
    have gF2 := g_.trans (g4.weak (by simp))
    replace o := g4.own (by simp [*]) o.1 o.2
    replace r_masses := r_masses.up g4.f
    replace r_stretches := r_stretches.up g4.f
    subst r5
    refine ⟨_, rfl, ?_⟩
    refine ⟨F2, _, stretches, rfl, eF2, r_stretches, (post_bd k).mono (fun b8 k v13 F9 H10 g11 r12 => ?_) (fun _ z => z)⟩
    have eF9 := g11.s
    have gF9 := gF2.trans (g11.weak (by simp))
    replace o := g11.own (by simp [*]) o.1 o.2
    replace r_masses := r_masses.up g11.f
    replace r_stretches := r_stretches.up g11.f
    subst r12
    refine ⟨_, rfl, ?_⟩
    obtain ⟨p15, xs16, rfl, s17, a18⟩ := dp_tup r_masses
    refine ⟨_, _, _, rfl, .inr (ex_t eF9 s17), len_all a18, rfl, ?_⟩
    rw [decV_int]
    refine ⟨_, rfl, ?_⟩
    refine and_jM (M := []) eF9 k (fun _ Q' ktb19 => ?_) (fun b19 F20 H21 g22 k => ?_)
    · have gF9_ := Gm.refl (M := []) eF9
      refine ⟨_, rfl, ?_⟩
      obtain ⟨p23, xs24, rfl, s25, a26⟩ := dp_tup r_stretches
      refine ⟨_, _, _, rfl, .inr (ex_t eF9 s25), len_all a26, rfl, ?_⟩
      rw [decV_int]
      refine ⟨_, rfl, ?_⟩
      exact ktb19.h _ _ gF9_
    have eF20 := g22.s
    have gF20 := gF9.trans (g22.weak (by simp))
    replace o := g22.own (by simp [*]) o.1 o.2
    replace r_masses := r_masses.up g22.f
    replace r_stretches := r_stretches.up g22.f
    replace s17 := ex_t g22.f s17
    replace a18 := a18.up g22.f
    refine cs k (fun _ k => ?_) (fun _ k => ?_)
    · exact k.elim
    · refine ⟨_, rfl, ?_⟩
      refine ⟨_, rfl, ⟨_, (ex_t eF20 s17)⟩, ?_⟩
      obtain ⟨h46, k⟩ := post_guard k
      refine lc_map (K := K) (M := []) (wlk_tup eF20 s17 a18) (e2 PyData.int PyData.int) k eF20 h46 (fun _ _ => by simp) (fun x29 v44 F37 H38 F39 H40 g41 g42 r43 Q' k27 => ?_) (fun _ z => z) (fun b28 v30 F31 H32 g33 r34 k => ?_) (gm_tup (gms_cons gm_name (gms_cons gm_name gms_nil)))
      · have g47 := Gm.refl (M := []) g41.s
        replace o := g41.own (by simp [*]) o.1 o.2
        replace r_masses := r_masses.up g41.f
        replace r_stretches := r_stretches.up g41.f
        replace s17 := ex_t g41.f s17
        replace a18 := a18.up g41.f
        replace o := g42.own (by simp [*]) o.1 o.2
        replace r_masses := r_masses.up g42.f
        replace r_stretches := r_stretches.up g42.f
        replace s17 := ex_t g42.f s17
        replace a18 := a18.up g42.f
        have eF39 := g42.s
        have gF39 := g47.trans (g42.weak (by simp))
        obtain ⟨p48, x49, x50, rfl, s51, d52, d53⟩ := dp_tup2 r43
        obtain rfl := dp_int d52
        obtain rfl := dp_int d53
        refine ⟨_, _, rfl, ex_t eF39 s51, rfl, _, _, rfl, _, _, rfl, rfl, rfl, _, rfl, _, rfl, ?_⟩
        show _ ∧ _
        refine new_tup (K := K) (M := []) eF39 (.cons (Dq.int x29.1) (.cons (Dq.int x29.2) .nil)) (by show 2 ≤ 100000; decide) fun v58 F54 H55 g56 r57 => ?_
        have eF54 := g56.s
        have gF54 := gF39.trans (g56.weak (by simp))
        replace o := g56.own (by simp [*]) o.1 o.2
        replace r_masses := r_masses.up g56.f
        replace r_stretches := r_stretches.up g56.f
        replace s17 := ex_t g56.f s17
        replace a18 := a18.up g56.f
        replace r43 := r43.up g56.f
        replace s51 := ex_t g56.f s51
        replace r57 : Dq K F54 v58 ((e2 PyData.int PyData.int) (x29.1, x29.2)) := r57
        exact k27.h _ _ _ gF54 r57
      have eF31 := g33.s
      have gF31 := gF20.trans (g33.weak (by simp))
      replace o := g33.own (by simp [*]) o.1 o.2
      replace r_masses := r_masses.up g33.f
      replace r_stretches := r_stretches.up g33.f
      replace s17 := ex_t g33.f s17
      replace a18 := a18.up g33.f
      obtain ⟨p60, xs61, rfl, s62, a63⟩ := dp_lst r34
      refine to_VL (K := K) (M := []) eF31 s62 a63 (en := (e2 PyData.int PyData.int)) (l := b28) fun v68 F64 H65 g66 r67 => ?_
      have eF64 := g66.s
      have gF64 := gF31.trans (g66.weak (by simp))
      replace o := g66.own (by simp [*]) o.1 o.2
      replace r_masses := r_masses.up g66.f
      replace r_stretches := r_stretches.up g66.f
      replace s17 := ex_t g66.f s17
      replace a18 := a18.up g66.f
      replace r34 := r34.up g66.f
      replace s62 := g66.f _ _ s62
      replace a63 := a63.up g66.f
      refine ⟨_, rfl, x, C, dx, _, rfl, o.1, cl, n_masses, (by show 0 < 1000; decide), ?_⟩
      have g69 := gF64.putIn (o := .ins C dx (putF "_masses" v68 [])) (by simp) o.1 o.2
      replace o : (upd H65 x (.ins C dx (putF "_masses" v68 []))) x = some (.ins C dx (putF "_masses" v68 [])) ∧ F64 x = none := ⟨upd_same, o.2⟩
      have e70 := g69.s
      refine ⟨_, rfl, ?_⟩
      obtain ⟨p71, xs72, rfl, s73, a74⟩ := dp_tup r_stretches
      refine ⟨_, rfl, ⟨_, (ex_t e70 s73)⟩, ?_⟩
      obtain ⟨h94, k⟩ := post_guard k
      refine lc_map (K := K) (M := []) (wlk_tup e70 s73 a74) (e3 PyData.int PyData.int PyData.int) k e70 h94 (fun _ _ => by simp) (fun x77 v92 F85 H86 F87 H88 g89 g90 r91 Q' k75 => ?_) (fun _ z => z) (fun b76 v78 F79 H80 g81 r82 k => ?_) (gm_tup (gms_cons gm_name (gms_cons gm_name (gms_cons gm_name gms_nil))))
      · have g95 := Gm.refl (M := []) g89.s
        replace o := g89.own (by simp [*]) o.1 o.2
        replace r_masses := r_masses.up g89.f
        replace r_stretches := r_stretches.up g89.f
        replace s17 := ex_t g89.f s17
        replace a18 := a18.up g89.f
        replace r34 := r34.up g89.f
        replace s62 := g89.f _ _ s62
        replace a63 := a63.up g89.f
        replace r67 := r67.up g89.f
        replace s73 := ex_t g89.f s73
        replace a74 := a74.up g89.f
        replace o := g90.own (by simp [*]) o.1 o.2
        replace r_masses := r_masses.up g90.f
        replace r_stretches := r_stretches.up g90.f
        replace s17 := ex_t g90.f s17
        replace a18 := a18.up g90.f
        replace r34 := r34.up g90.f
        replace s62 := g90.f _ _ s62
        replace a63 := a63.up g90.f
        replace r67 := r67.up g90.f
        replace s73 := ex_t g90.f s73
        replace a74 := a74.up g90.f
        have eF87 := g90.s
        have gF87 := g95.trans (g90.weak (by simp))
        obtain ⟨p96, x97, x98, x99, rfl, s100, d101, d102, d103⟩ := dp_tup3 r91
        obtain rfl := dp_int d101
        obtain rfl := dp_int d102
        obtain rfl := dp_int d103
        refine ⟨_, _, rfl, ex_t eF87 s100, rfl, _, _, rfl, _, _, rfl, _, _, rfl, rfl, rfl, _, rfl, _, rfl, _, rfl, ?_⟩
        show _ ∧ _
        refine new_tup (K := K) (M := []) eF87 (.cons (Dq.int x77.1) (.cons (Dq.int x77.2.1) (.cons (Dq.int x77.2.2) .nil))) (by show 3 ≤ 100000; decide) fun v108 F104 H105 g106 r107 => ?_
        have eF104 := g106.s
        have gF104 := gF87.trans (g106.weak (by simp))
        replace o := g106.own (by simp [*]) o.1 o.2
        replace r_masses := r_masses.up g106.f
        replace r_stretches := r_stretches.up g106.f
        replace s17 := ex_t g106.f s17
        replace a18 := a18.up g106.f
        replace r34 := r34.up g106.f
        replace s62 := g106.f _ _ s62
        replace a63 := a63.up g106.f
        replace r67 := r67.up g106.f
        replace s73 := ex_t g106.f s73
        replace a74 := a74.up g106.f
        replace r91 := r91.up g106.f
        replace s100 := ex_t g106.f s100
        replace r107 : Dq K F104 v108 ((e3 PyData.int PyData.int PyData.int) (x77.1, x77.2.1, x77.2.2)) := r107
        exact k75.h _ _ _ gF104 r107
      have eF79 := g81.s
      have gF79 := g69.trans (g81.weak (by simp))
      replace o := g81.own (by simp [*]) o.1 o.2
      replace r_masses := r_masses.up g81.f
      replace r_stretches := r_stretches.up g81.f
      replace s17 := ex_t g81.f s17
      replace a18 := a18.up g81.f
      replace r34 := r34.up g81.f
      replace s62 := g81.f _ _ s62
      replace a63 := a63.up g81.f
      replace r67 := r67.up g81.f
      replace s73 := ex_t g81.f s73
      replace a74 := a74.up g81.f
      obtain ⟨p110, xs111, rfl, s112, a113⟩ := dp_lst r82
      refine to_VL (K := K) (M := []) eF79 s112 a113 (en := (e3 PyData.int PyData.int PyData.int)) (l := b76) fun v118 F114 H115 g116 r117 => ?_
      have eF114 := g116.s
      have gF114 := gF79.trans (g116.weak (by simp))
      replace o := g116.own (by simp [*]) o.1 o.2
      replace r_masses := r_masses.up g116.f
      replace r_stretches := r_stretches.up g116.f
      replace s17 := ex_t g116.f s17
      replace a18 := a18.up g116.f
      replace r34 := r34.up g116.f
      replace s62 := g116.f _ _ s62
      replace a63 := a63.up g116.f
      replace r67 := r67.up g116.f
      replace s73 := ex_t g116.f s73
      replace a74 := a74.up g116.f
      replace r82 := r82.up g116.f
      replace s112 := g116.f _ _ s112
      replace a113 := a113.up g116.f
      refine ⟨_, rfl, x, C, dx, _, rfl, o.1, cl, n_stretches, (by show 1 < 1000; decide), ?_⟩
      have g119 := gF114.putIn (o := .ins C dx (putF "_stretches" v118 (putF "_masses" v68 []))) (by simp) o.1 o.2
      replace o : (upd H115 x (.ins C dx (putF "_stretches" v118 (putF "_masses" v68 [])))) x = some (.ins C dx (putF "_stretches" v118 (putF "_masses" v68 []))) ∧ F114 x = none := ⟨upd_same, o.2⟩
      have e120 := g119.s
      exact k.h _ _ _ _ g119 o.1 o.2 r67 r117
/-! ### checked_polynomial -/
abbrev s_checked_polynomial : Stmt := top 28
theorem sc_checked_polynomial : FnScope ["polynomial", "coefficient"] ["polynomial"] (defScope s_checked_polynomial) := ⟨rfl, rfl, rfl, by decide +kernel, rfl, by decide +kernel, by decide +kernel⟩
def checked_polynomial (polynomial : (List Int)) : Mm (List (Int × Int)) := cond (decide ((polynomial.length : Int) > (13 : Int))) (Mm.bad) ((guardM (polynomial.length ≤ 50000)).bd fun _ => (mapMm (fun (x7 : Int) => Mm.ok (x7, (1 : Int))) polynomial).bd fun b6 => Mm.ok b6)
def sp_checked_polynomial (K : PySem.W.Frag) : Sp := fun vs H Q _ => ∃ (F : Hp) (v_polynomial : V) (polynomial : (List Int)), vs = [v_polynomial] ∧ Ex F H ∧ Dq K F v_polynomial ((eV PyData.int) polynomial) ∧ Post (checked_polynomial polynomial) (fun r => Ret [] F H (fun F' _ v => Dq K F' v ((eL (e2 PyData.int PyData.int)) r)) Q) (fun _ => False)
theorem ok_checked_polynomial {P : Program} {w : World} {K : PySem.W.Frag} {mg : Str → Option Value} {base : Heap} {C f : Addr} {fd : FuncData} (B : Bi mg) (FF : FunD K "checked_polynomial" "checked_polynomial" (defArgs s_checked_polynomial) (defBody s_checked_polynomial) (defScope s_checked_polynomial) [] [] f fd) (c_MOST_COEFFICIENTS : ∃ t, mg "MOST_COEFFICIENTS" = some (.int 13 t)) : FnOk P w K mg base CX0 1 f fd ["polynomial"] (sp_checked_polynomial K) := by
  refine FF.ok sc_checked_polynomial (fun vs H Q E h => ?_) (fun cdv A outer s H vs Q E hr h => ?_)
  · obtain ⟨F, v_polynomial, polynomial, rfl, _⟩ := h; rfl
  · obtain ⟨F, v_polynomial, polynomial, rfl, e, r_polynomial, k⟩ := h
    unfold checked_polynomial at k
    have g_ := Gm.refl (M := []) e
    refine ⟨_, PSs.nox (pss_cons (ps_if (pt_cmpR op_gt (pe_callB call_lenM (by rfl) B.len (by decide +kernel) (pa_cons (pv 0) pa_nil)) (pe_gint c_MOST_COEFFICIENTS) (nomark _)) (pss_one ps_never) pss_nil) (pss_one (ps_ret (pe_q (pe_lc (own := [("coefficient", 1)]) (g := gName 1) rfl sc_checked_polynomial.nd (pi_tup (pv 0)) (blkOk_by (N := ["polynomial", "coefficient"]) (sc := defScope s_checked_polynomial) (by decide +kernel)) (fun _ _ _ _ _ => pg_name (i := 1) sc_checked_polynomial.nd rfl (Or.inl rfl)) (fun _ _ _ _ _ => pts_nil) (fun _ _ _ _ _ => pe_q (pe_tup (pa_cons (pv 1) (pa_cons (pe_int) (pa_nil)))))))))), ?_⟩
    refine ⟨_, rfl, ?_⟩
    obtain ⟨p1, xs2, rfl, s3, a4⟩ := dp_tup r_polynomial
    refine ⟨_, _, _, rfl, .inr (ex_t e s3), len_all a4, _, _, rfl, rfl, _, rfl, ?_⟩
    refine cs k (fun _ k => ?_) (fun _ k => ?_)
    · exact k.elim
    · refine ⟨_, rfl, ?_⟩
      refine ⟨_, rfl, ⟨_, (ex_t e s3)⟩, ?_⟩
      obtain ⟨h24, k⟩ := post_guard k
      refine lc_map (K := K) (M := []) (wlk_tup e s3 a4) (e2 PyData.int PyData.int) k e h24 (fun _ _ => by simp) (fun x7 v22 F15 H16 F17 H18 g19 g20 r21 Q' k5 => ?_) (fun _ z => z) (fun b6 v8 F9 H10 g11 r12 k => ?_) gm_name
      · have g25 := Gm.refl (M := []) g19.s
        replace r_polynomial := r_polynomial.up g19.f
        replace s3 := ex_t g19.f s3
        replace a4 := a4.up g19.f
        replace r_polynomial := r_polynomial.up g20.f
        replace s3 := ex_t g20.f s3
        replace a4 := a4.up g20.f
        have eF17 := g20.s
        have gF17 := g25.trans (g20.weak (by simp))
        obtain rfl := dp_int r21
        refine ⟨rfl, _, rfl, ?_⟩
        show _ ∧ _
        refine new_tup (K := K) (M := []) eF17 (.cons (Dq.int x7) (.cons (Dq.int (1 : Int)) .nil)) (by show 2 ≤ 100000; decide) fun v30 F26 H27 g28 r29 => ?_
        have eF26 := g28.s
        have gF26 := gF17.trans (g28.weak (by simp))
        replace r_polynomial := r_polynomial.up g28.f
        replace s3 := ex_t g28.f s3
        replace a4 := a4.up g28.f
        replace r29 : Dq K F26 v30 ((e2 PyData.int PyData.int) (x7, (1 : Int))) := r29
        exact k5.h _ _ _ gF26 r29
      have eF9 := g11.s
      have gF9 := g_.trans (g11.weak (by simp))
      replace r_polynomial := r_polynomial.up g11.f
      replace s3 := ex_t g11.f s3
      replace a4 := a4.up g11.f
      exact k.h _ _ _ gF9 r12
/-! ### power_sum -/
abbrev s_power_sum : Stmt := top 29
theorem sc_power_sum : FnScope ["weighting", "power", "up", "masses", "areas", "place", "mass", "low", "high", "height"] ["weighting", "power"] (defScope s_power_sum) := ⟨rfl, rfl, rfl, by decide +kernel, rfl, by decide +kernel, by decide +kernel⟩
def power_sum (weighting : Wt) (power : Int) : Mm (Int × Int) := (check_within (power) ((0 : Int)) ((60 : Int))).bd fun b1 => (guardM (weighting.1.length ≤ 50000)).bd fun _ => (mapMm (fun (x21 : (Int × Int)) => (power_of (x21.1) (power)).bd fun b46 => (mulM x21.2 b46).bd fun m53 => Mm.ok m53) weighting.1).bd fun b20 => (guardM (weighting.2.length ≤ 50000)).bd fun _ => (mapMm (fun (x67 : (Int × Int × Int)) => (power_of (x67.2.1) ((power + (1 : Int)))).bd fun b94 => (power_of (x67.1) ((power + (1 : Int)))).bd fun b101 => (mulM x67.2.2 (b94 - b101)).bd fun m108 => Mm.ok m108) weighting.2).bd fun b66 => (mulM (List.sum b20) (power + (1 : Int))).bd fun m116 => (lowest ((m116 + (List.sum b66))) ((power + (1 : Int)))).bd fun b119 => Mm.ok b119
def sp_power_sum (K : PySem.W.Frag) (C : Addr) : Sp := fun vs H Q _ => ∃ (F : Hp) (v_weighting : V) (weighting : Wt) (power : Int), vs = [v_weighting, (V.int power)] ∧ Ex F H ∧ IsW K C F v_weighting weighting ∧ Post (power_sum weighting power) (fun r => Ret [] F H (fun F' _ v => Dq K F' v ((e2 PyData.int PyData.int) r)) Q) (fun _ => False)
theorem ok_power_sum {P : Program} {w : World} {K : PySem.W.Frag} {mg : Str → Option Value} {base : Heap} {C f : Addr} {fd : FuncData} (B : Bi mg) (FF : FunD K "power_sum" "power_sum" (defArgs s_power_sum) (defBody s_power_sum) (defScope s_power_sum) [] [] f fd) (G_check_within : Kn P w K mg base "check_within" 2 ["number", "low", "high"] (sp_check_within K)) (G_power_of : Kn P w K mg base "power_of" 1 ["base", "power"] (sp_power_of K)) (G_lowest : Kn P w K mg base "lowest" 1 ["top", "bottom"] (sp_lowest K)) (c_MOST_POWER : ∃ t, mg "MOST_POWER" = some (.int 60 t)) (GP_masses : KnP P w K mg base C "masses" "_masses") (GP_stretches : KnP P w K mg base C "stretches" "_stretches") : FnOk P w K mg base CX0 3 f fd ["weighting", "power"] (sp_power_sum K C) := by
  refine FF.ok sc_power_sum (fun vs H Q E h => ?_) (fun cdv A outer s H vs Q E hr h => ?_)
  · obtain ⟨F, v_weighting, weighting, power, rfl, _⟩ := h; rfl
  · obtain ⟨F, v_weighting, weighting, power, rfl, e, r_weighting, k⟩ := h
    unfold power_sum at k
    have g_ := Gm.refl (M := []) e
    refine ⟨_, PSs.nox (pss_cons (ps_expr (pe_kn G_check_within (hr.mono (by decide)) (pa_cons (pv 1) (pa_cons (pe_int) (pa_cons (pe_gint c_MOST_POWER) (pa_nil)))))) (pss_cons (ps_set (i := 2) sc_power_sum.nd rfl (Or.inr rfl) (pe_op op_add (pv 1) (pe_int))) (pss_cons (ps_set (i := 3) sc_power_sum.nd rfl (Or.inl rfl) (pe_callB (cr_sum rfl) (by rfl) B.sum (by decide +kernel) (pa_cons (pe_q (pe_lc (own := [("place", 5), ("mass", 6)]) (g := gTup K 2 (gCons (gName 5) (gCons (gName 6) gNil))) rfl sc_power_sum.nd (pi_tup (pe_propK GP_masses (hr.mono (by decide)) (pv 0))) (blkOk_by (N := ["weighting", "power", "up", "masses", "areas", "place", "mass", "low", "high", "height"]) (sc := defScope s_power_sum) (by decide +kernel)) (fun _ _ _ _ _ => pg_tup (by rfl) (pgs_cons (pg_name (i := 5) sc_power_sum.nd rfl (Or.inl rfl)) (pgs_cons (pg_name (i := 6) sc_power_sum.nd rfl (Or.inl rfl)) (pgs_nil)))) (fun _ _ _ _ _ => pts_nil) (fun _ _ _ _ _ => pe_op op_mulM (pv 6) (pe_kn G_power_of (hr.mono (by decide)) (pa_cons (pv 5) (pa_cons (pv 1) (pa_nil))))))) pa_nil))) (pss_cons (ps_set (i := 4) sc_power_sum.nd rfl (Or.inl rfl) (pe_callB (cr_sum rfl) (by rfl) B.sum (by decide +kernel) (pa_cons (pe_q (pe_lc (own := [("low", 7), ("high", 8), ("height", 9)]) (g := gTup K 3 (gCons (gName 7) (gCons (gName 8) (gCons (gName 9) gNil)))) rfl sc_power_sum.nd (pi_tup (pe_propK GP_stretches (hr.mono (by decide)) (pv 0))) (blkOk_by (N := ["weighting", "power", "up", "masses", "areas", "place", "mass", "low", "high", "height"]) (sc := defScope s_power_sum) (by decide +kernel)) (fun _ _ _ _ _ => pg_tup (by rfl) (pgs_cons (pg_name (i := 7) sc_power_sum.nd rfl (Or.inl rfl)) (pgs_cons (pg_name (i := 8) sc_power_sum.nd rfl (Or.inl rfl)) (pgs_cons (pg_name (i := 9) sc_power_sum.nd rfl (Or.inl rfl)) (pgs_nil))))) (fun _ _ _ _ _ => pts_nil) (fun _ _ _ _ _ => pe_op op_mulM (pv 9) (pe_op op_sub (pe_kn G_power_of (hr.mono (by decide)) (pa_cons (pv 8) (pa_cons (pv 2) (pa_nil)))) (pe_kn G_power_of (hr.mono (by decide)) (pa_cons (pv 7) (pa_cons (pv 2) (pa_nil)))))))) pa_nil))) (pss_one (ps_ret (pe_kn G_lowest (hr.mono (by decide)) (pa_cons (pe_op op_add (pe_op op_mulM (pv 3) (pv 2)) (pv 4)) (pa_cons (pv 2) (pa_nil)))))))))), ?_⟩
    refine ⟨_, rfl, ?_⟩
    refine ⟨F, power, (0 : Int), (60 : Int), rfl, e, (post_bd k).mono (fun b1 k v6 F2 H3 g4 r5 => ?_) (fun _ z => z)⟩
    have eF2 := g4.s
    have gF2 := g_.trans (g4.weak (by simp))
    replace r_weighting := r_weighting.up g4.f
    subst r5
    refine ⟨_, rfl, _, _, rfl, rfl, ?_⟩
    refine ⟨_, rfl, ?_⟩
    obtain ⟨a8, dx9, m10, t11, rfl, h12, r13, r14⟩ := r_weighting.ex
    refine ⟨_, _, _, rfl, eF2 _ _ h12, _, _, _, _, rfl, eF2 _ _ h12, wf_m _ _, ?_⟩
    obtain ⟨p15, xs16, rfl, s17, a18⟩ := dp_tup r13
    refine ⟨_, rfl, ⟨_, (ex_t eF2 s17)⟩, ?_⟩
    obtain ⟨h38, k⟩ := post_guard k
    refine lc_map (K := K) (M := []) (wlk_tup eF2 s17 a18) PyData.int k eF2 h38 (fun _ _ => by simp) (fun x21 v36 F29 H30 F31 H32 g33 g34 r35 Q' k19 => ?_) (fun _ z => z) (fun b20 v22 F23 H24 g25 r26 k => ?_) (gm_tup (gms_cons gm_name (gms_cons gm_name gms_nil)))
    · have g39 := Gm.refl (M := []) g33.s
      replace r_weighting := r_weighting.up g33.f
      replace h12 := g33.f _ _ h12
      replace r13 := r13.up g33.f
      replace r14 := r14.up g33.f
      replace s17 := ex_t g33.f s17
      replace a18 := a18.up g33.f
      replace r_weighting := r_weighting.up g34.f
      replace h12 := g34.f _ _ h12
      replace r13 := r13.up g34.f
      replace r14 := r14.up g34.f
      replace s17 := ex_t g34.f s17
      replace a18 := a18.up g34.f
      have eF31 := g34.s
      have gF31 := g39.trans (g34.weak (by simp))
      obtain ⟨p40, x41, x42, rfl, s43, d44, d45⟩ := dp_tup2 r35
      obtain rfl := dp_int d44
      obtain rfl := dp_int d45
      refine ⟨_, _, rfl, ex_t eF31 s43, rfl, _, _, rfl, _, _, rfl, rfl, rfl, _, rfl, _, rfl, _, rfl, ?_⟩
      refine ⟨F31, x21.1, power, rfl, eF31, (post_bd k19).mono (fun b46 k19 v51 F47 H48 g49 r50 => ?_) (fun _ z => z)⟩
      have eF47 := g49.s
      have gF47 := gF31.trans (g49.weak (by simp))
      replace r_weighting := r_weighting.up g49.f
      replace h12 := g49.f _ _ h12
      replace r13 := r13.up g49.f
      replace r14 := r14.up g49.f
      replace s17 := ex_t g49.f s17
      replace a18 := a18.up g49.f
      replace r35 := r35.up g49.f
      replace s43 := ex_t g49.f s43
      subst r50
      obtain ⟨m53, c54, q55, k19⟩ := post_mul k19
      refine ⟨_, _, _, rfl, rfl, c54, q55, ?_⟩
      exact k19.h _ _ _ gF47 (Dq.int m53)
    have eF23 := g25.s
    have gF23 := gF2.trans (g25.weak (by simp))
    replace r_weighting := r_weighting.up g25.f
    replace h12 := g25.f _ _ h12
    replace r13 := r13.up g25.f
    replace r14 := r14.up g25.f
    replace s17 := ex_t g25.f s17
    replace a18 := a18.up g25.f
    obtain ⟨p57, xs58, rfl, s59, a60⟩ := dp_lst r26
    obtain rfl := all_ints a60
    refine ⟨_, _, rfl, (sq_of (eF23 _ _ s59)), ?_⟩
    refine ⟨_, rfl, ?_⟩
    refine ⟨_, _, _, rfl, eF23 _ _ h12, _, _, _, _, rfl, eF23 _ _ h12, wf_s _ _, ?_⟩
    obtain ⟨p61, xs62, rfl, s63, a64⟩ := dp_tup r14
    refine ⟨_, rfl, ⟨_, (ex_t eF23 s63)⟩, ?_⟩
    obtain ⟨h84, k⟩ := post_guard k
    refine lc_map (K := K) (M := []) (wlk_tup eF23 s63 a64) PyData.int k eF23 h84 (fun _ _ => by simp) (fun x67 v82 F75 H76 F77 H78 g79 g80 r81 Q' k65 => ?_) (fun _ z => z) (fun b66 v68 F69 H70 g71 r72 k => ?_) (gm_tup (gms_cons gm_name (gms_cons gm_name (gms_cons gm_name gms_nil))))
    · have g85 := Gm.refl (M := []) g79.s
      replace r_weighting := r_weighting.up g79.f
      replace h12 := g79.f _ _ h12
      replace r13 := r13.up g79.f
      replace r14 := r14.up g79.f
      replace s17 := ex_t g79.f s17
      replace a18 := a18.up g79.f
      replace r26 := r26.up g79.f
      replace s59 := g79.f _ _ s59
      replace a60 := a60.up g79.f
      replace s63 := ex_t g79.f s63
      replace a64 := a64.up g79.f
      replace r_weighting := r_weighting.up g80.f
      replace h12 := g80.f _ _ h12
      replace r13 := r13.up g80.f
      replace r14 := r14.up g80.f
      replace s17 := ex_t g80.f s17
      replace a18 := a18.up g80.f
      replace r26 := r26.up g80.f
      replace s59 := g80.f _ _ s59
      replace a60 := a60.up g80.f
      replace s63 := ex_t g80.f s63
      replace a64 := a64.up g80.f
      have eF77 := g80.s
      have gF77 := g85.trans (g80.weak (by simp))
      obtain ⟨p86, x87, x88, x89, rfl, s90, d91, d92, d93⟩ := dp_tup3 r81
      obtain rfl := dp_int d91
      obtain rfl := dp_int d92
      obtain rfl := dp_int d93
      refine ⟨_, _, rfl, ex_t eF77 s90, rfl, _, _, rfl, _, _, rfl, _, _, rfl, rfl, rfl, _, rfl, _, rfl, _, rfl, ?_⟩
      refine ⟨F77, x67.2.1, (power + (1 : Int)), rfl, eF77, (post_bd k65).mono (fun b94 k65 v99 F95 H96 g97 r98 => ?_) (fun _ z => z)⟩
      have eF95 := g97.s
      have gF95 := gF77.trans (g97.weak (by simp))
      replace r_weighting := r_weighting.up g97.f
      replace h12 := g97.f _ _ h12
      replace r13 := r13.up g97.f
      replace r14 := r14.up g97.f
      replace s17 := ex_t g97.f s17
      replace a18 := a18.up g97.f
      replace r26 := r26.up g97.f
      replace s59 := g97.f _ _ s59
      replace a60 := a60.up g97.f
      replace s63 := ex_t g97.f s63
      replace a64 := a64.up g97.f
      replace r81 := r81.up g97.f
      replace s90 := ex_t g97.f s90
      subst r98
      refine ⟨_, rfl, _, rfl, ?_⟩
      refine ⟨F95, x67.1, (power + (1 : Int)), rfl, eF95, (post_bd k65).mono (fun b101 k65 v106 F102 H103 g104 r105 => ?_) (fun _ z => z)⟩
      have eF102 := g104.s
      have gF102 := gF95.trans (g104.weak (by simp))
      replace r_weighting := r_weighting.up g104.f
      replace h12 := g104.f _ _ h12
      replace r13 := r13.up g104.f
      replace r14 := r14.up g104.f
      replace s17 := ex_t g104.f s17
      replace a18 := a18.up g104.f
      replace r26 := r26.up g104.f
      replace s59 := g104.f _ _ s59
      replace a60 := a60.up g104.f
      replace s63 := ex_t g104.f s63
      replace a64 := a64.up g104.f
      replace r81 := r81.up g104.f
      replace s90 := ex_t g104.f s90
      subst r105
      refine ⟨_, _, rfl, rfl, ?_⟩
      obtain ⟨m108, c109, q110, k65⟩ := post_mul k65
      refine ⟨_, _, _, rfl, rfl, c109, q110, ?_⟩
      exact k65.h _ _ _ gF102 (Dq.int m108)
    have eF69 := g71.s
    have gF69 := gF23.trans (g71.weak (by simp))
    replace r_weighting := r_weighting.up g71.f
    replace h12 := g71.f _ _ h12
    replace r13 := r13.up g71.f
    replace r14 := r14.up g71.f
    replace s17 := ex_t g71.f s17
    replace a18 := a18.up g71.f
    replace r26 := r26.up g71.f
    replace s59 := g71.f _ _ s59
    replace a60 := a60.up g71.f
    replace s63 := ex_t g71.f s63
    replace a64 := a64.up g71.f
    obtain ⟨p112, xs113, rfl, s114, a115⟩ := dp_lst r72
    obtain rfl := all_ints a115
    refine ⟨_, _, rfl, (sq_of (eF69 _ _ s114)), ?_⟩
    refine ⟨_, rfl, _, rfl, ?_⟩
    obtain ⟨m116, c117, q118, k⟩ := post_mul k
    refine ⟨_, _, _, rfl, rfl, c117, q118, _, rfl, _, _, rfl, rfl, _, rfl, ?_⟩
    refine ⟨F69, (m116 + (List.sum b66)), (power + (1 : Int)), rfl, eF69, (post_bd k).mono (fun b119 k v124 F120 H121 g122 r123 => ?_) (fun _ z => z)⟩
    have eF120 := g122.s
    have gF120 := gF69.trans (g122.weak (by simp))
    replace r_weighting := r_weighting.up g122.f
    replace h12 := g122.f _ _ h12
    replace r13 := r13.up g122.f
    replace r14 := r14.up g122.f
    replace s17 := ex_t g122.f s17
    replace a18 := a18.up g122.f
    replace r26 := r26.up g122.f
    replace s59 := g122.f _ _ s59
    replace a60 := a60.up g122.f
    replace s63 := ex_t g122.f s63
    replace a64 := a64.up g122.f
    replace r72 := r72.up g122.f
    replace s114 := g122.f _ _ s114
    replace a115 := a115.up g122.f
    exact k.h _ _ _ gF120 r123
/-! ### power_sums -/
abbrev s_power_sums : Stmt := top 30
theorem sc_power_sums : FnScope ["weighting", "count", "power"] ["weighting", "count"] (defScope s_power_sums) := ⟨rfl, rfl, rfl, by decide +kernel, rfl, by decide +kernel, by decide +kernel⟩
def power_sums (weighting : Wt) (count : Int) : Mm (List (Int × Int)) := (check_within (count) ((0 : Int)) (((60 : Int) + (1 : Int)))).bd fun b1 => (rangeM count).bd fun l9 => (guardM ((rangeL 0 count.toNat).length ≤ 50000)).bd fun _ => (mapMm (fun (x12 : Int) => (power_sum (weighting) (x12)).bd fun b31 => Mm.ok b31) (rangeL 0 count.toNat)).bd fun b11 => Mm.ok b11
def sp_power_sums (K : PySem.W.Frag) (C : Addr) : Sp := fun vs H Q _ => ∃ (F : Hp) (v_weighting : V) (weighting : Wt) (count : Int), vs = [v_weighting, (V.int count)] ∧ Ex F H ∧ IsW K C F v_weighting weighting ∧ Post (power_sums weighting count) (fun r => Ret [] F H (fun F' _ v => Dq K F' v ((eL (e2 PyData.int PyData.int)) r)) Q) (fun _ => False)
theorem ok_power_sums {P : Program} {w : World} {K : PySem.W.Frag} {mg : Str → Option Value} {base : Heap} {C f : Addr} {fd : FuncData} (B : Bi mg) (FF : FunD K "power_sums" "power_sums" (defArgs s_power_sums) (defBody s_power_sums) (defScope s_power_sums) [] [] f fd) (G_check_within : Kn P w K mg base "check_within" 2 ["number", "low", "high"] (sp_check_within K)) (G_power_sum : Kn P w K mg base "power_sum" 3 ["weighting", "power"] (sp_power_sum K C)) (c_MOST_POWER : ∃ t, mg "MOST_POWER" = some (.int 60 t)) : FnOk P w K mg base CX0 4 f fd ["weighting", "count"] (sp_power_sums K C) := by
  refine FF.ok sc_power_sums (fun vs H Q E h => ?_) (fun cdv A outer s H vs Q E hr h => ?_)
  · obtain ⟨F, v_weighting, weighting, count, rfl, _⟩ := h; rfl
  · obtain ⟨F, v_weighting, weighting, count, rfl, e, r_weighting, k⟩ := h
    unfold power_sums at k
    have g_ := Gm.refl (M := []) e
    refine ⟨_, PSs.nox (pss_cons (ps_expr (pe_kn G_check_within (hr.mono (by decide)) (pa_cons (pv 1) (pa_cons (pe_int) (pa_cons (pe_op op_add (pe_gint c_MOST_POWER) (pe_int)) (pa_nil)))))) (pss_one (ps_ret (pe_q (pe_lc (own := [("power", 2)]) (g := gName 2) rfl sc_power_sums.nd (pi_range1 rfl B.range (pa_cons (pv 1) (pa_nil))) (blkOk_by (N := ["weighting", "count", "power"]) (sc := defScope s_power_sums) (by decide +kernel)) (fun _ _ _ _ _ => pg_name (i := 2) sc_power_sums.nd rfl (Or.inl rfl)) (fun _ _ _ _ _ => pts_nil) (fun _ _ _ _ _ => pe_kn G_power_sum (hr.mono (by decide)) (pa_cons (pv 0) (pa_cons (pv 2) (pa_nil))))))))), ?_⟩
    refine ⟨_, rfl, _, _, rfl, rfl, ?_⟩
    refine ⟨F, count, (0 : Int), ((60 : Int) + (1 : Int)), rfl, e, (post_bd k).mono (fun b1 k v6 F2 H3 g4 r5 => ?_) (fun _ z => z)⟩
    have eF2 := g4.s
    have gF2 := g_.trans (g4.weak (by simp))
    replace r_weighting := r_weighting.up g4.f
    subst r5
    refine ⟨_, rfl, ?_⟩
    obtain ⟨h8, k⟩ := post_range k
    refine ⟨_, rfl, h8.1, h8.2, ?_⟩
    obtain ⟨h29, k⟩ := post_guard k
    refine lc_map (K := K) (M := []) wlk_range (e2 PyData.int PyData.int) k eF2 h29 (fun _ _ => by simp) (fun x12 v27 F20 H21 F22 H23 g24 g25 r26 Q' k10 => ?_) (fun _ z => z) (fun b11 v13 F14 H15 g16 r17 k => ?_) gm_name
    · have g30 := Gm.refl (M := []) g24.s
      replace r_weighting := r_weighting.up g24.f
      replace r_weighting := r_weighting.up g25.f
      have eF22 := g25.s
      have gF22 := g30.trans (g25.weak (by simp))
      subst r26
      refine ⟨rfl, _, rfl, _, rfl, ?_⟩
      refine ⟨F22, _, weighting, x12, rfl, eF22, r_weighting, (post_bd k10).mono (fun b31 k10 v36 F32 H33 g34 r35 => ?_) (fun _ z => z)⟩
      have eF32 := g34.s
      have gF32 := gF22.trans (g34.weak (by simp))
      replace r_weighting := r_weighting.up g34.f
      exact k10.h _ _ _ gF32 r35
    have eF14 := g16.s
    have gF14 := gF2.trans (g16.weak (by simp))
    replace r_weighting := r_weighting.up g16.f
    exact k.h _ _ _ gF14 r17
/-! ### weighed -/
abbrev s_weighed : Stmt := top 31
theorem sc_weighed : FnScope ["weighting", "coefficients", "power", "coefficient"] ["weighting", "coefficients"] (defScope s_weighed) := ⟨rfl, rfl, rfl, by decide +kernel, rfl, by decide +kernel, by decide +kernel⟩
def weighed (weighting : Wt) (coefficients : (List (Int × Int))) : Mm (Int × Int) := (guardM ((enumL coefficients).length ≤ 50000)).bd fun _ => (mapMm (fun (x7 : (Int × (Int × Int))) => (power_sum (weighting) (x7.1)).bd fun b32 => (times (x7.2) (b32)).bd fun b39 => Mm.ok b39) (enumL coefficients)).bd fun b6 => (added_up (b6)).bd fun b47 => Mm.ok b47
def sp_weighed (K : PySem.W.Frag) (C : Addr) : Sp := fun vs H Q _ => ∃ (F : Hp) (v_weighting : V) (weighting : Wt) (v_coefficients : V) (coefficients : (List (Int × Int))), vs = [v_weighting, v_coefficients] ∧ Ex F H ∧ IsW K C F v_weighting weighting ∧ Dq K F v_coefficients ((eL (e2 PyData.int PyData.int)) coefficients) ∧ Post (weighed weighting coefficients) (fun r => Ret [] F H (fun F' _ v => Dq K F' v ((e2 PyData.int PyData.int) r)) Q) (fun _ => False)
theorem ok_weighed {P : Program} {w : World} {K : PySem.W.Frag} {mg : Str → Option Value} {base : Heap} {C f : Addr} {fd : FuncData} (B : Bi mg) (FF : FunD K "weighed" "weighed" (defArgs s_weighed) (defBody s_weighed) (defScope s_weighed) [] [] f fd) (G_added_up : Kn P w K mg base "added_up" 3 ["fractions"] (sp_added_up K)) (G_times : Kn P w K mg base "times" 2 ["one", "other"] (sp_times K)) (G_power_sum : Kn P w K mg base "power_sum" 3 ["weighting", "power"] (sp_power_sum K C)) : FnOk P w K mg base CX0 4 f fd ["weighting", "coefficients"] (sp_weighed K C) := by
  refine FF.ok sc_weighed (fun vs H Q E h => ?_) (fun cdv A outer s H vs Q E hr h => ?_)
  · obtain ⟨F, v_weighting, weighting, v_coefficients, coefficients, rfl, _⟩ := h; rfl
  · obtain ⟨F, v_weighting, weighting, v_coefficients, coefficients, rfl, e, r_weighting, r_coefficients, k⟩ := h
    unfold weighed at k
    have g_ := Gm.refl (M := []) e
    refine ⟨_, PSs.nox (pss_one (ps_ret (pe_kn G_added_up (hr.mono (by decide)) (pa_cons (pe_q (pe_lc (own := [("power", 2), ("coefficient", 3)]) (g := gTup K 2 (gCons (gName 2) (gCons (gName 3) gNil))) rfl sc_weighed.nd (pi_enum rfl B.enumerate (pa_cons (pv 1) pa_nil)) (blkOk_by (N := ["weighting", "coefficients", "power", "coefficient"]) (sc := defScope s_weighed) (by decide +kernel)) (fun _ _ _ _ _ => pg_tup (by rfl) (pgs_cons (pg_name (i := 2) sc_weighed.nd rfl (Or.inl rfl)) (pgs_cons (pg_name (i := 3) sc_weighed.nd rfl (Or.inl rfl)) (pgs_nil)))) (fun _ _ _ _ _ => pts_nil) (fun _ _ _ _ _ => pe_kn G_times (hr.mono (by decide)) (pa_cons (pv 3) (pa_cons (pe_kn G_power_sum (hr.mono (by decide)) (pa_cons (pv 0) (pa_cons (pv 2) (pa_nil)))) (pa_nil)))))) (pa_nil))))), ?_⟩
    refine ⟨_, rfl, ?_⟩
    obtain ⟨p1, xs2, rfl, s3, a4⟩ := dp_lst r_coefficients
    refine ⟨_, _, rfl, (sq_of (e _ _ s3)), ?_⟩
    obtain ⟨h24, k⟩ := post_guard k
    refine lc_map (K := K) (M := []) (wlk_enum e s3 a4) (e2 PyData.int PyData.int) k e h24 (fun _ _ => by simp) (fun x7 v22 F15 H16 F17 H18 g19 g20 r21 Q' k5 => ?_) (fun _ z => z) (fun b6 v8 F9 H10 g11 r12 k => ?_) (gm_tup (gms_cons gm_name (gms_cons gm_name gms_nil)))
    · have g25 := Gm.refl (M := []) g19.s
      replace r_weighting := r_weighting.up g19.f
      replace r_coefficients := r_coefficients.up g19.f
      replace s3 := g19.f _ _ s3
      replace a4 := a4.up g19.f
      replace r_weighting := r_weighting.up g20.f
      replace r_coefficients := r_coefficients.up g20.f
      replace s3 := g20.f _ _ s3
      replace a4 := a4.up g20.f
      have eF17 := g20.s
      have gF17 := g25.trans (g20.weak (by simp))
      obtain ⟨p26, x27, x28, rfl, s29, d30, d31⟩ := dp_tup2 r21
      obtain rfl := dp_int d30
      refine ⟨_, _, rfl, ex_t eF17 s29, rfl, _, _, rfl, _, _, rfl, rfl, rfl, _, rfl, _, rfl, _, rfl, ?_⟩
      refine ⟨F17, _, weighting, x7.1, rfl, eF17, r_weighting, (post_bd k5).mono (fun b32 k5 v37 F33 H34 g35 r36 => ?_) (fun _ z => z)⟩
      have eF33 := g35.s
      have gF33 := gF17.trans (g35.weak (by simp))
      replace r_weighting := r_weighting.up g35.f
      replace r_coefficients := r_coefficients.up g35.f
      replace s3 := g35.f _ _ s3
      replace a4 := a4.up g35.f
      replace r21 := r21.up g35.f
      replace s29 := ex_t g35.f s29
      replace d31 := d31.up g35.f
      refine ⟨F33, _, x7.2, _, b32, rfl, eF33, d31, r36, (post_bd k5).mono (fun b39 k5 v44 F40 H41 g42 r43 => ?_) (fun _ z => z)⟩
      have eF40 := g42.s
      have gF40 := gF33.trans (g42.weak (by simp))
      replace r_weighting := r_weighting.up g42.f
      replace r_coefficients := r_coefficients.up g42.f
      replace s3 := g42.f _ _ s3
      replace a4 := a4.up g42.f
      replace r21 := r21.up g42.f
      replace s29 := ex_t g42.f s29
      replace d31 := d31.up g42.f
      replace r36 := r36.up g42.f
      exact k5.h _ _ _ gF40 r43
    have eF9 := g11.s
    have gF9 := g_.trans (g11.weak (by simp))
    replace r_weighting := r_weighting.up g11.f
    replace r_coefficients := r_coefficients.up g11.f
    replace s3 := g11.f _ _ s3
    replace a4 := a4.up g11.f
    refine ⟨F9, _, b6, rfl, eF9, r12, (post_bd k).mono (fun b47 k v52 F48 H49 g50 r51 => ?_) (fun _ z => z)⟩
    have eF48 := g50.s
    have gF48 := gF9.trans (g50.weak (by simp))
    replace r_weighting := r_weighting.up g50.f
    replace r_coefficients := r_coefficients.up g50.f
    replace s3 := g50.f _ _ s3
    replace a4 := a4.up g50.f
    replace r12 := r12.up g50.f
    exact k.h _ _ _ gF48 r51
/-! ### total -/
abbrev s_total : Stmt := top 32
theorem sc_total : FnScope ["weighting", "polynomial"] ["weighting", "polynomial"] (defScope s_total) := ⟨rfl, rfl, rfl, by decide +kernel, rfl, by decide +kernel, by decide +kernel⟩
def total (weighting : Wt) (polynomial : (List Int)) : Mm (Int × Int) := (checked_polynomial (polynomial)).bd fun b1 => (weighed (weighting) (b1)).bd fun b8 => Mm.ok b8
def sp_total (K : PySem.W.Frag) (C : Addr) : Sp := fun vs H Q _ => ∃ (F : Hp) (v_weighting : V) (weighting : Wt) (v_polynomial : V) (polynomial : (List Int)), vs = [v_weighting, v_polynomial] ∧ Ex F H ∧ IsW K C F v_weighting weighting ∧ Dq K F v_polynomial ((eV PyData.int) polynomial) ∧ Post (total weighting polynomial) (fun r => Ret [] F H (fun F' _ v => Dq K F' v ((e2 PyData.int PyData.int) r)) Q) (fun _ => False)
theorem ok_total {P : Program} {w : World} {K : PySem.W.Frag} {mg : Str → Option Value} {base : Heap} {C f : Addr} {fd : FuncData} (B : Bi mg) (FF : FunD K "total" "total" (defArgs s_total) (defBody s_total) (defScope s_total) [] [] f fd) (G_weighed : Kn P w K mg base "weighed" 4 ["weighting", "coefficients"] (sp_weighed K C)) (G_checked_polynomial : Kn P w K mg base "checked_polynomial" 1 ["polynomial"] (sp_checked_polynomial K)) : FnOk P w K mg base CX0 5 f fd ["weighting", "polynomial"] (sp_total K C) := by
  refine FF.ok sc_total (fun vs H Q E h => ?_) (fun cdv A outer s H vs Q E hr h => ?_)
  · obtain ⟨F, v_weighting, weighting, v_polynomial, polynomial, rfl, _⟩ := h; rfl
  · obtain ⟨F, v_weighting, weighting, v_polynomial, polynomial, rfl, e, r_weighting, r_polynomial, k⟩ := h
    unfold total at k
    have g_ := Gm.refl (M := []) e
    refine ⟨_, PSs.nox (pss_one (ps_ret (pe_kn G_weighed (hr.mono (by decide)) (pa_cons (pv 0) (pa_cons (pe_kn G_checked_polynomial (hr.mono (by decide)) (pa_cons (pv 1) (pa_nil))) (pa_nil)))))), ?_⟩
    refine ⟨_, rfl, _, rfl, ?_⟩
    refine ⟨F, _, polynomial, rfl, e, r_polynomial, (post_bd k).mono (fun b1 k v6 F2 H3 g4 r5 => ?_) (fun _ z => z)⟩
    have eF2 := g4.s
    have gF2 := g_.trans (g4.weak (by simp))
    replace r_weighting := r_weighting.up g4.f
    replace r_polynomial := r_polynomial.up g4.f
    refine ⟨F2, _, weighting, _, b1, rfl, eF2, r_weighting, r5, (post_bd k).mono (fun b8 k v13 F9 H10 g11 r12 => ?_) (fun _ z => z)⟩
    have eF9 := g11.s
    have gF9 := gF2.trans (g11.weak (by simp))
    replace r_weighting := r_weighting.up g11.f
    replace r_polynomial := r_polynomial.up g11.f
    replace r5 := r5.up g11.f
    exact k.h _ _ _ gF9 r12
/-! ### mean -/
abbrev s_mean : Stmt := top 33
theorem sc_mean : FnScope ["weighting", "polynomial"] ["weighting", "polynomial"] (defScope s_mean) := ⟨rfl, rfl, rfl, by decide +kernel, rfl, by decide +kernel, by decide +kernel⟩
def mean (weighting : Wt) (polynomial : (List Int)) : Mm (Int × Int) := (total (weighting) (polynomial)).bd fun b1 => (power_sum (weighting) ((0 : Int))).bd fun b8 => (over (b1) (b8)).bd fun b15 => Mm.ok b15
def sp_mean (K : PySem.W.Frag) (C : Addr) : Sp := fun vs H Q _ => ∃ (F : Hp) (v_weighting : V) (weighting : Wt) (v_polynomial : V) (polynomial : (List Int)), vs = [v_weighting, v_polynomial] ∧ Ex F H ∧ IsW K C F v_weighting weighting ∧ Dq K F v_polynomial ((eV PyData.int) polynomial) ∧ Post (mean weighting polynomial) (fun r => Ret [] F H (fun F' _ v => Dq K F' v ((e2 PyData.int PyData.int) r)) Q) (fun _ => False)
theorem ok_mean {P : Program} {w : World} {K : PySem.W.Frag} {mg : Str → Option Value} {base : Heap} {C f : Addr} {fd : FuncData} (B : Bi mg) (FF : FunD K "mean" "mean" (defArgs s_mean) (defBody s_mean) (defScope s_mean) [] [] f fd) (G_over : Kn P w K mg base "over" 2 ["one", "other"] (sp_over K)) (G_total : Kn P w K mg base "total" 5 ["weighting", "polynomial"] (sp_total K C)) (G_power_sum : Kn P w K mg base "power_sum" 3 ["weighting", "power"] (sp_power_sum K C)) : FnOk P w K mg base CX0 6 f fd ["weighting", "polynomial"] (sp_mean K C) := by
  refine FF.ok sc_mean (fun vs H Q E h => ?_) (fun cdv A outer s H vs Q E hr h => ?_)
  · obtain ⟨F, v_weighting, weighting, v_polynomial, polynomial, rfl, _⟩ := h; rfl
  · obtain ⟨F, v_weighting, weighting, v_polynomial, polynomial, rfl, e, r_weighting, r_polynomial, k⟩ := h
    unfold mean at k
    have g_ := Gm.refl (M := []) e
    refine ⟨_, PSs.nox (pss_one (ps_ret (pe_kn G_over (hr.mono (by decide)) (pa_cons (pe_kn G_total (hr.mono (by decide)) (pa_cons (pv 0) (pa_cons (pv 1) (pa_nil)))) (pa_cons (pe_kn G_power_sum (hr.mono (by decide)) (pa_cons (pv 0) (pa_cons (pe_int) (pa_nil)))) (pa_nil)))))), ?_⟩
    refine ⟨_, rfl, _, rfl, ?_⟩
    refine ⟨F, _, weighting, _, polynomial, rfl, e, r_weighting, r_polynomial, (post_bd k).mono (fun b1 k v6 F2 H3 g4 r5 => ?_) (fun _ z => z)⟩
    have eF2 := g4.s
    have gF2 := g_.trans (g4.weak (by simp))
    replace r_weighting := r_weighting.up g4.f
    replace r_polynomial := r_polynomial.up g4.f
    refine ⟨_, rfl, ?_⟩
    refine ⟨F2, _, weighting, (0 : Int), rfl, eF2, r_weighting, (post_bd k).mono (fun b8 k v13 F9 H10 g11 r12 => ?_) (fun _ z => z)⟩
    have eF9 := g11.s
    have gF9 := gF2.trans (g11.weak (by simp))
    replace r_weighting := r_weighting.up g11.f
    replace r_polynomial := r_polynomial.up g11.f
    replace r5 := r5.up g11.f
    refine ⟨F9, _, b1, _, b8, rfl, eF9, r5, r12, (post_bd k).mono (fun b15 k v20 F16 H17 g18 r19 => ?_) (fun _ z => z)⟩
    have eF16 := g18.s
    have gF16 := gF9.trans (g18.weak (by simp))
    replace r_weighting := r_weighting.up g18.f
    replace r_polynomial := r_polynomial.up g18.f
    replace r5 := r5.up g18.f
    replace r12 := r12.up g18.f
    exact k.h _ _ _ gF16 r19
/-! ### _law_taken -/
abbrev s_law_taken : Stmt := top 35
theorem sc_law_taken : FnScope ["_law_row", "_law_many", "_law_found", "_law_cell"] ["_law_row", "_law_many"] (defScope s_law_taken) := ⟨rfl, rfl, rfl, by decide +kernel, rfl, by decide +kernel, by decide +kernel⟩
theorem ok_law_taken {P : Program} {w : World} {K : PySem.W.Frag} {mg : Str → Option Value} {base : Heap} {f : Addr} {fd : FuncData} (B : Bi mg) (FF : FunD K "_law_taken" "_law_taken" (defArgs s_law_taken) (defBody s_law_taken) (defScope s_law_taken) [] [] f fd) : FnOk P w K mg base CX0 1 f fd ["_law_row", "_law_many"] (spTaken takenA K) := by
  refine FF.ok sc_law_taken (fun vs H Q E h => ?_) (fun cdv A outer s H vs Q E hr h => ?_)
  · obtain ⟨F, sc, ra, scr, st, many, rfl, _⟩ := h; rfl
  · obtain ⟨F, sc, ra, scr, st, many, rfl, e, ⟨hL, hF, hS⟩, k⟩ := h
    obtain ⟨pos, seed, left⟩ := st
    unfold takenA at k
    split at k
    case isFalse => exact k.elim
    rename_i hc
    obtain ⟨h1, h2, h3, h4, h5, h6⟩ := hc
    simp only at h3 h4 h5 h6 k hL
    have cd : ∀ i : Int, CDv i many := fun i => cdv_small ⟨by omega, by omega⟩
    refine ⟨_, PSs.nox (pss_cons (ps_if (pt_cmpR op_gt (pe_ix ix_list (pv 0) pe_int (fun _ _ => rfl)) pe_int (nomark _))
        (pss_cons (ps_set (i := 2) sc_law_taken.nd rfl (.inl rfl) (pe_op op_modM (pe_callTy call_intM (by rfl) B.int (by decide +kernel) (pa_cons (pe_ix ix_list (pv 0) pe_int (fun _ _ => rfl)) pa_nil)) (pv 1)))
          (pss_cons (ps_asg (pe_op op_divM (pe_ix ix_list (pv 0) pe_int (fun _ _ => rfl)) (pv 1)) (pg_sub (pv 0) pe_int set_list)) (pss_one (ps_ret (pv 2))))) pss_nil)
      (pss_cons (ps_asg (pe_op op_add (pe_ix ix_list (pv 0) pe_int (fun _ _ => rfl)) pe_int) (pg_sub (pv 0) pe_int set_list))
      (pss_cons (ps_if (pt_cmpR op_gt (pe_ix ix_list (pv 0) pe_int (fun _ _ => rfl)) (pe_callB call_lenM (by rfl) B.len (by decide +kernel) (pa_cons (pe_ix ix_list (pv 0) pe_int (fun _ _ => rfl)) pa_nil)) (nomark _))
        (pss_cons (ps_asg (pe_op op_modM (pe_callTy call_intM (by rfl) B.int (by decide +kernel) (pa_cons (pe_op op_add (pe_op op_mulM (pe_ix ix_list (pv 0) pe_int (fun _ _ => rfl)) pe_int) pe_int) pa_nil)) pe_int) (pg_sub (pv 0) pe_int set_list))
          (pss_one (ps_ret (pe_op op_modM (pe_callTy call_intM (by rfl) B.int (by decide +kernel) (pa_cons (pe_op op_divM (pe_ix ix_list (pv 0) pe_int (fun _ _ => rfl)) pe_int) pa_nil)) (pv 1))))) pss_nil)
      (pss_cons (ps_set (i := 3) sc_law_taken.nd rfl (.inl rfl) (pe_ix ix_list (pe_ix ix_list (pv 0) pe_int (fun _ _ => rfl)) (pe_op op_sub (pe_ix ix_list (pv 0) pe_int (fun _ _ => rfl)) pe_int) (fun _ _ => rfl)))
      (pss_cons (ps_asg (pe_op op_modM (pe_callTy call_intM (by rfl) B.int (by decide +kernel) (pa_cons (pe_op op_add (pe_op op_add (pe_op op_mulM (pe_ix ix_list (pv 0) pe_int (fun _ _ => rfl)) pe_int) (pv 3)) pe_int) pa_nil)) pe_int) (pg_sub (pv 0) pe_int set_list))
      (pss_cons (ps_asg (pe_ifExp (pt_cmpR op_ge (pv 3) (pe_op op_pow pe_int pe_int) (nomark _)) (pe_op op_divM (pv 3) (pv 1)) pe_int) (pg_sub (pv 0) pe_int set_list))
      (pss_one (ps_ret (pe_op op_modM (pe_callTy call_intM (by rfl) B.int (by decide +kernel) (pa_cons (pv 3) pa_nil)) (pv 1)))))))))), ?_⟩
    refine ⟨_, rfl, _, _, _, _, rfl, rfl, sq_of hL, rfl, _, _, rfl, rfl, _, rfl, ?_⟩
    by_cases c1 : left > 0
    · rw [if_pos (show left > 0 from c1)] at k
      rw [if_pos (decide_eq_true c1)]
      refine ⟨_, rfl, _, _, _, _, rfl, rfl, sq_of hL, rfl, _, rfl, _, rfl, _, _, _, rfl, rfl, by omega, rfl, ?_⟩
      refine ⟨_, rfl, _, _, _, _, rfl, rfl, sq_of hL, rfl, _, rfl, _, _, _, rfl, rfl, cd _, rfl, _, rfl, _, _, _, _, rfl, rfl, hL, rfl, _, rfl, ?_⟩
      rw [fmod_pos h1, fdiv_pos h1]
      exact k.h _ F _ (Gm.put e hL hF) ⟨rfl, upd_same, hF, hS⟩
    · rw [if_neg (show ¬ left > 0 from c1)] at k
      rw [if_neg (by simpa using c1)]
      refine ⟨_, rfl, _, _, _, _, rfl, rfl, sq_of hL, rfl, _, _, rfl, rfl, _, rfl, _, _, _, _, rfl, rfl, hL, rfl, ?_⟩
      generalize hq : upd H ra (.lst ([V.ref sc, V.int pos, V.int seed, V.int left].set (Int.toNat 1) ((fun i j => V.int (i + j)) pos 1))) = H1
      have g1 : Gm [ra] F H F H1 := by rw [← hq]; exact Gm.put e hL hF
      have l1 : H1 ra = some (.lst [.ref sc, .int (pos + 1), .int seed, .int left]) := by rw [← hq]; exact upd_same
      clear hq
      refine ⟨_, rfl, _, _, _, _, rfl, rfl, sq_of l1, rfl, _, rfl, _, _, _, _, rfl, rfl, sq_of l1, rfl, _, _, _, rfl, .inl (ex_l g1.s hS), rfl, _, _, rfl, rfl, _, rfl, ?_⟩
      cases c2 : scr[pos.toNat]? with
      | none =>
        rw [c2] at k
        have hlen : pos + 1 > ((scr.map V.int).length : Int) := by
          have := List.getElem?_eq_none_iff.mp c2
          rw [List.length_map]; omega
        rw [if_pos (decide_eq_true hlen)]
        refine ⟨_, rfl, _, _, _, _, rfl, rfl, sq_of l1, rfl, _, _, _, rfl, rfl, cmul_small (by omega) (by decide), rfl, _, _, rfl, rfl, _, rfl, _, _, _, rfl, rfl, by decide, rfl, _, rfl, _, _, _, _, rfl, rfl, l1, rfl, ?_⟩
        have es : (seed * 48271 + 11).fmod 2147483647 = seedN seed 0 := by rw [fmod_pos (by decide)]; unfold seedN; rw [Int.add_zero]
        have g2 : Gm [ra] F H F (upd H1 ra (.lst [.ref sc, .int (pos + 1), .int (seedN seed 0), .int left])) := g1.trans (Gm.put g1.s l1 hF)
        have l2 : (upd H1 ra (.lst [.ref sc, .int (pos + 1), .int (seedN seed 0), .int left])) ra = some (.lst [.ref sc, .int (pos + 1), .int (seedN seed 0), .int left]) := upd_same
        rw [es]
        refine ⟨_, rfl, _, _, _, _, rfl, rfl, sq_of l2, rfl, _, _, _, rfl, rfl, cdv_small ⟨by decide, by decide⟩, rfl, _, rfl, _, rfl, _, _, _, rfl, rfl, by omega, rfl, ?_⟩
        rw [fmod_pos h1, fdiv_pos (by decide)]
        exact k.h _ F _ g2 ⟨rfl, l2, hF, hS⟩
      | some c =>
        rw [c2] at k
        obtain ⟨hp, ec⟩ := List.getElem?_eq_some_iff.mp c2
        have hlen : ¬ pos + 1 > ((scr.map V.int).length : Int) := by rw [List.length_map]; omega
        rw [if_neg (by simpa using hlen)]
        have hat : atI (scr.map V.int) (pos + 1 - 1) = some (.int c) := by
          unfold atI ixN
          rw [if_pos (by omega), if_pos (by rw [List.length_map]; omega)]
          show (scr.map V.int)[(pos + 1 - 1).toNat]? = _
          rw [show (pos + 1 - 1) = pos by omega, List.getElem?_map, c2]; rfl
        refine ⟨_, rfl, _, _, _, _, rfl, rfl, sq_of l1, rfl, _, rfl, _, _, _, _, rfl, rfl, sq_of l1, rfl, _, _, rfl, rfl, _, _, _, _, rfl, rfl, ex_l g1.s hS, hat, ?_⟩
        refine ⟨_, rfl, _, _, _, _, rfl, rfl, sq_of l1, rfl, _, _, _, rfl, rfl, cmul_small (by omega) (by decide), rfl, _, rfl, _, _, rfl, rfl, _, _, rfl, rfl, _, rfl, _, _, _, rfl, rfl, by decide, rfl, _, rfl, _, _, _, _, rfl, rfl, l1, rfl, ?_⟩
        have es : (seed * 48271 + c + 11).fmod 2147483647 = seedN seed c := by rw [fmod_pos (by decide)]; rfl
        have g2 : Gm [ra] F H F (upd H1 ra (.lst [.ref sc, .int (pos + 1), .int (seedN seed c), .int left])) := g1.trans (Gm.put g1.s l1 hF)
        have l2 : (upd H1 ra (.lst [.ref sc, .int (pos + 1), .int (seedN seed c), .int left])) ra = some (.lst [.ref sc, .int (pos + 1), .int (seedN seed c), .int left]) := upd_same
        rw [es]
        refine ⟨_, rfl, _, _, rfl, rfl, ⟨by decide, by decide, by decide⟩, _, _, rfl, rfl, _, rfl, ?_⟩
        have fin : ∀ x, Gm [ra] F H F (upd (upd H1 ra (.lst [.ref sc, .int (pos + 1), .int (seedN seed c), .int left])) ra (.lst [.ref sc, .int (pos + 1), .int (seedN seed c), .int x])) := fun x => g2.trans (Gm.put g2.s l2 hF)
        by_cases c3 : c ≥ 10 ^ 18
        · simp only [if_pos (show c ≥ 10 ^ 18 from c3)] at k
          refine iteP (decide_eq_true c3) ?_
          refine ⟨_, rfl, _, rfl, _, _, _, rfl, rfl, cd _, rfl, _, rfl, _, _, _, _, rfl, rfl, l2, rfl, ?_⟩
          refine ⟨_, rfl, _, rfl, _, rfl, _, _, _, rfl, rfl, by omega, rfl, ?_⟩
          rw [fmod_pos h1, fdiv_pos h1]
          exact k.h _ F _ (fin _) ⟨rfl, upd_same, hF, hS⟩
        · simp only [if_neg (show ¬ c ≥ 10 ^ 18 from c3)] at k
          refine iteN (decide_eq_false c3) ?_
          refine ⟨_, rfl, _, _, _, _, rfl, rfl, l2, rfl, ?_⟩
          refine ⟨_, rfl, _, rfl, _, rfl, _, _, _, rfl, rfl, by omega, rfl, ?_⟩
          rw [fmod_pos h1]
          exact k.h _ F _ (fin _) ⟨rfl, upd_same, hF, hS⟩

/-! ### _law_pick -/
abbrev s_law_pick : Stmt := top 36
theorem sc_law_pick : FnScope ["_law_row", "_law_some"] ["_law_row", "_law_some"] (defScope s_law_pick) := ⟨rfl, rfl, rfl, by decide +kernel, rfl, by decide +kernel, by decide +kernel⟩
theorem ok_law_pick {P : Program} {w : World} {K : PySem.W.Frag} {mg : Str → Option Value} {base : Heap} {f : Addr} {fd : FuncData} (B : Bi mg) (FF : FunD K "_law_pick" "_law_pick" (defArgs s_law_pick) (defBody s_law_pick) (defScope s_law_pick) [] [] f fd)
    (G_law_taken : Kn P w K mg base "_law_taken" 1 ["_law_row", "_law_many"] (spTaken takenA K)) : FnOk P w K mg base CX0 2 f fd ["_law_row", "_law_some"] (spPick takenA K) := by
  refine FF.ok sc_law_pick (fun vs H Q E h => ?_) (fun cdv A outer s H vs Q E hr h => ?_)
  · obtain ⟨F, sc, ra, scr, st, α, en, v, l, rfl, _⟩ := h; rfl
  · obtain ⟨F, sc, ra, scr, st, α, en, v, l, rfl, e, w, r, k⟩ := h
    obtain ⟨p, xs, rfl, hp, ha⟩ := dp_lst r
    unfold pickM at k
    refine ⟨_, PSs.nox (pss_one (ps_ret (pe_ix ix_list (pv 1) (pe_kn G_law_taken (hr.mono (by decide)) (pa_cons (pv 0) (pa_cons (pe_callB call_lenM (by rfl) B.len (by decide +kernel) (pa_cons (pv 1) pa_nil)) pa_nil))) (fun _ _ => rfl)))), ?_⟩
    refine ⟨_, rfl, _, rfl, _, rfl, _, _, _, rfl, .inl (sq_of (e _ _ hp)), len_all ha, ?_⟩
    refine ⟨F, sc, ra, scr, st, _, rfl, e, w, (post_bd k).mono (fun b k v F1 H1 g h => ?_) (fun _ z => z)⟩
    obtain ⟨rfl, w1⟩ := h
    obtain ⟨a, h1, k⟩ := post_get k
    obtain ⟨u, hu, ru⟩ := dq_at (ha.up g.f) h1
    refine ⟨_, _, _, _, rfl, rfl, sq_of (g.s _ _ (g.f _ _ hp)), hu, ?_⟩
    exact k.h _ _ _ g ⟨ru, w1⟩

/-! ### _law_low -/
abbrev s_law_low : Stmt := top 37
theorem sc_law_low : FnScope ["_law_top", "_law_bottom", "_law_one", "_law_other"] ["_law_top", "_law_bottom"] (defScope s_law_low) := ⟨rfl, rfl, rfl, by decide +kernel, rfl, by decide +kernel, by decide +kernel⟩
def law_low (law_top : Int) (law_bottom : Int) : Mm (Int × Int) := cond (decide (law_top = (0 : Int))) (Mm.ok ((0 : Int), (1 : Int))) ((foldW (fun (b6 : (Int × Int)) => Mm.ok (decide (b6.2 > (0 : Int)))) (fun (b7 : (Int × Int)) => (modM b7.1 b7.2).bd fun m24 => Mm.ok (b7.2, m24)) ((absI law_bottom).toNat + 1) ((absI law_top), (absI law_bottom))).bd fun b8 => (cond (decide (law_bottom > (0 : Int))) ((divM law_top b8.1).bd fun m35 => (divM law_bottom b8.1).bd fun m38 => Mm.ok (m35, m38)) ((divM law_top b8.1).bd fun m46 => (divM law_bottom b8.1).bd fun m49 => Mm.ok (((0 : Int) - m46), ((0 : Int) - m49)))).bd fun b33 => Mm.ok b33)
def sp_law_low (K : PySem.W.Frag) : Sp := fun vs H Q _ => ∃ (F : Hp) (law_top : Int) (law_bottom : Int), vs = [(V.int law_top), (V.int law_bottom)] ∧ Ex F H ∧ Post (law_low law_top law_bottom) (fun r => Ret [] F H (fun F' _ v => Dq K F' v ((e2 PyData.int PyData.int) r)) Q) (fun _ => False)
theorem ok_law_low {P : Program} {w : World} {K : PySem.W.Frag} {mg : Str → Option Value} {base : Heap} {C f : Addr} {fd : FuncData} (B : Bi mg) (FF : FunD K "_law_low" "_law_low" (defArgs s_law_low) (defBody s_law_low) (defScope s_law_low) [] [] f fd) : FnOk P w K mg base CX0 1 f fd ["_law_top", "_law_bottom"] (sp_law_low K) := by
  refine FF.ok sc_law_low (fun vs H Q E h => ?_) (fun cdv A outer s H vs Q E hr h => ?_)
  · obtain ⟨F, law_top, law_bottom, rfl, _⟩ := h; rfl
  · obtain ⟨F, law_top, law_bottom, rfl, e, k⟩ := h
    unfold law_low at k
    have g_ := Gm.refl (M := []) e
    refine ⟨_, PSs.nox (pss_cons (ps_if (pt_cmpR op_eq (pv 0) (pe_int) (nomark _)) (pss_one (ps_ret (pe_q (pe_tup (pa_cons (pe_int) (pa_cons (pe_int) (pa_nil))))))) pss_nil) (pss_cons (ps_par (i := 2) (j := 3) (by rfl) sc_law_low.nd rfl rfl (by decide) rfl rfl (pa_cons (pe_callB call_abs (by rfl) B.abs (by decide +kernel) (pa_cons (pv 0) pa_nil)) (pa_cons (pe_callB call_abs (by rfl) B.abs (by decide +kernel) (pa_cons (pv 1) pa_nil)) (pa_nil))) (by rfl)) (pss_cons (ps_while PassesOwn.never (pt_cmpR op_gt (pv 3) (pe_int) (nomark _)) (pss_one (ps_par (i := 2) (j := 3) (by rfl) sc_law_low.nd rfl rfl (by decide) rfl rfl (pa_cons (pv 3) (pa_cons (pe_op op_modM (pv 2) (pv 3)) (pa_nil))) (by rfl)))) (pss_one (ps_ret (pe_ifExp (pt_cmpR op_gt (pv 1) (pe_int) (nomark _)) (pe_q (pe_tup (pa_cons (pe_op op_divM (pv 0) (pv 2)) (pa_cons (pe_op op_divM (pv 1) (pv 2)) (pa_nil))))) (pe_q (pe_tup (pa_cons (pe_op op_sub (pe_int) (pe_op op_divM (pv 0) (pv 2))) (pa_cons (pe_op op_sub (pe_int) (pe_op op_divM (pv 1) (pv 2))) (pa_nil))))))))))), ?_⟩
    refine ⟨_, rfl, rfl, ?_⟩
    rw [decV_int]
    refine ⟨_, rfl, ?_⟩
    refine cs k (fun _ k => ?_) (fun _ k => ?_)
    · show _ ∧ _
      refine new_tup (K := K) (M := []) e (.cons (Dq.int (0 : Int)) (.cons (Dq.int (1 : Int)) .nil)) (by show 2 ≤ 100000; decide) fun v5 F1 H2 g3 r4 => ?_
      have eF1 := g3.s
      have gF1 := g_.trans (g3.weak (by simp))
      replace r4 : Dq K F1 v5 ((e2 PyData.int PyData.int) ((0 : Int), (1 : Int))) := r4
      exact k.h _ _ _ gF1 r4
    · refine ⟨_, rfl, _, rfl, _, rfl, _, rfl, _, _, rfl, ?_⟩
      refine while_mir (M := []) (F := F) (N := (absI law_bottom).toNat + 1) (fun b6 F' H' σ' => σ' = [some (V.int law_top), some (V.int law_bottom), some (V.int b6.1), some (V.int b6.2)]) k e rfl (fun b6 σ13 F9 H10 g11 i12 Q' kcb6 => ?_) (fun b7 σ18 F14 H15 g16 i17 nx kwb6 => ?_) (fun b8 σ23 F19 H20 g21 i22 k => ?_)
      · obtain rfl := i12
        have eF9 := g11.s
        refine ⟨_, rfl, _, _, rfl, rfl, _, rfl, ?_⟩
        exact kcb6.h _ _ g11 rfl
      · obtain rfl := i17
        have eF14 := g16.s
        refine ⟨_, rfl, _, rfl, _, rfl, ?_⟩
        obtain ⟨m24, c25, q26, kwb6⟩ := post_mod kwb6
        refine ⟨_, _, _, rfl, rfl, c25, q26, _, _, rfl, ?_⟩
        exact kwb6.h _ _ _ g16 rfl
      have g27 := g_.trans (g21.weak (by simp))
      have eF19 := g21.s
      obtain rfl := i22
      refine ⟨_, rfl, _, _, rfl, rfl, _, rfl, ?_⟩
      refine if_jM (M := []) (F := F19) (fun b F' H' v => Dq K F' v ((e2 PyData.int PyData.int) b)) k (fun _ Q' kib33 => ?_) (fun _ Q' kib33 => ?_) (fun b33 v28 F29 H30 g31 r32 k => ?_)
      · have gF19_ := Gm.refl (M := []) eF19
        refine ⟨_, rfl, _, rfl, ?_⟩
        obtain ⟨m35, c36, q37, kib33⟩ := post_div kib33
        refine ⟨_, _, _, rfl, rfl, c36, q37, _, rfl, _, rfl, ?_⟩
        obtain ⟨m38, c39, q40, kib33⟩ := post_div kib33
        refine ⟨_, _, _, rfl, rfl, c39, q40, ?_⟩
        show _ ∧ _
        refine new_tup (K := K) (M := []) eF19 (.cons (Dq.int m35) (.cons (Dq.int m38) .nil)) (by show 2 ≤ 100000; decide) fun v45 F41 H42 g43 r44 => ?_
        have eF41 := g43.s
        have gF41 := gF19_.trans (g43.weak (by simp))
        replace r44 : Dq K F41 v45 ((e2 PyData.int PyData.int) (m35, m38)) := r44
        exact kib33.h _ _ _ gF41 r44
      · have gF19_ := Gm.refl (M := []) eF19
        refine ⟨_, rfl, _, rfl, ?_⟩
        obtain ⟨m46, c47, q48, kib33⟩ := post_div kib33
        refine ⟨_, _, _, rfl, rfl, c47, q48, _, _, rfl, rfl, _, rfl, _, rfl, ?_⟩
        obtain ⟨m49, c50, q51, kib33⟩ := post_div kib33
        refine ⟨_, _, _, rfl, rfl, c50, q51, _, _, rfl, rfl, ?_⟩
        show _ ∧ _
        refine new_tup (K := K) (M := []) eF19 (.cons (Dq.int ((0 : Int) - m46)) (.cons (Dq.int ((0 : Int) - m49)) .nil)) (by show 2 ≤ 100000; decide) fun v56 F52 H53 g54 r55 => ?_
        have eF52 := g54.s
        have gF52 := gF19_.trans (g54.weak (by simp))
        replace r55 : Dq K F52 v56 ((e2 PyData.int PyData.int) (((0 : Int) - m46), ((0 : Int) - m49))) := r55
        exact kib33.h _ _ _ gF52 r55
      have eF29 := g31.s
      have gF29 := g27.trans (g31.weak (by simp))
      exact k.h _ _ _ gF29 r32
/-! ### _law_add -/
abbrev s_law_add : Stmt := top 38
theorem sc_law_add : FnScope ["_law_one", "_law_other"] ["_law_one", "_law_other"] (defScope s_law_add) := ⟨rfl, rfl, rfl, by decide +kernel, rfl, by decide +kernel, by decide +kernel⟩
def law_add (law_one : (Int × Int)) (law_other : (Int × Int)) : Mm (Int × Int) := (mulM law_one.1 law_other.2).bd fun m13 => (mulM law_other.1 law_one.2).bd fun m16 => (mulM law_one.2 law_other.2).bd fun m19 => (law_low ((m13 + m16)) (m19)).bd fun b22 => Mm.ok b22
def sp_law_add (K : PySem.W.Frag) : Sp := fun vs H Q _ => ∃ (F : Hp) (v_law_one : V) (law_one : (Int × Int)) (v_law_other : V) (law_other : (Int × Int)), vs = [v_law_one, v_law_other] ∧ Ex F H ∧ Dq K F v_law_one ((e2 PyData.int PyData.int) law_one) ∧ Dq K F v_law_other ((e2 PyData.int PyData.int) law_other) ∧ Post (law_add law_one law_other) (fun r => Ret [] F H (fun F' _ v => Dq K F' v ((e2 PyData.int PyData.int) r)) Q) (fun _ => False)
theorem ok_law_add {P : Program} {w : World} {K : PySem.W.Frag} {mg : Str → Option Value} {base : Heap} {C f : Addr} {fd : FuncData} (B : Bi mg) (FF : FunD K "_law_add" "_law_add" (defArgs s_law_add) (defBody s_law_add) (defScope s_law_add) [] [] f fd) (G_law_low : Kn P w K mg base "_law_low" 1 ["_law_top", "_law_bottom"] (sp_law_low K)) : FnOk P w K mg base CX0 2 f fd ["_law_one", "_law_other"] (sp_law_add K) := by
  refine FF.ok sc_law_add (fun vs H Q E h => ?_) (fun cdv A outer s H vs Q E hr h => ?_)
  · obtain ⟨F, v_law_one, law_one, v_law_other, law_other, rfl, _⟩ := h; rfl
  · obtain ⟨F, v_law_one, law_one, v_law_other, law_other, rfl, e, r_law_one, r_law_other, k⟩ := h
    unfold law_add at k
    have g_ := Gm.refl (M := []) e
    refine ⟨_, PSs.nox (pss_one (ps_ret (pe_kn G_law_low (hr.mono (by decide)) (pa_cons (pe_op op_add (pe_op op_mulM (pe_ix (r := rIxT K) ix_tup (pv 0) (pe_int) (fun _ _ => rfl)) (pe_ix (r := rIxT K) ix_tup (pv 1) (pe_int) (fun _ _ => rfl))) (pe_op op_mulM (pe_ix (r := rIxT K) ix_tup (pv 1) (pe_int) (fun _ _ => rfl)) (pe_ix (r := rIxT K) ix_tup (pv 0) (pe_int) (fun _ _ => rfl)))) (pa_cons (pe_op op_mulM (pe_ix (r := rIxT K) ix_tup (pv 0) (pe_int) (fun _ _ => rfl)) (pe_ix (r := rIxT K) ix_tup (pv 1) (pe_int) (fun _ _ => rfl))) (pa_nil)))))), ?_⟩
    refine ⟨_, rfl, ?_⟩
    obtain ⟨p1, x2, x3, rfl, s4, d5, d6⟩ := dp_tup2 r_law_one
    obtain rfl := dp_int d5
    obtain rfl := dp_int d6
    refine ⟨_, _, _, _, rfl, rfl, ex_t e s4, rfl, _, rfl, ?_⟩
    obtain ⟨p7, x8, x9, rfl, s10, d11, d12⟩ := dp_tup2 r_law_other
    obtain rfl := dp_int d11
    obtain rfl := dp_int d12
    refine ⟨_, _, _, _, rfl, rfl, ex_t e s10, rfl, ?_⟩
    obtain ⟨m13, c14, q15, k⟩ := post_mul k
    refine ⟨_, _, _, rfl, rfl, c14, q15, _, rfl, ?_⟩
    refine ⟨_, _, _, _, rfl, rfl, ex_t e s10, rfl, _, rfl, ?_⟩
    refine ⟨_, _, _, _, rfl, rfl, ex_t e s4, rfl, ?_⟩
    obtain ⟨m16, c17, q18, k⟩ := post_mul k
    refine ⟨_, _, _, rfl, rfl, c17, q18, _, _, rfl, rfl, _, rfl, ?_⟩
    refine ⟨_, _, _, _, rfl, rfl, ex_t e s4, rfl, _, rfl, ?_⟩
    refine ⟨_, _, _, _, rfl, rfl, ex_t e s10, rfl, ?_⟩
    obtain ⟨m19, c20, q21, k⟩ := post_mul k
    refine ⟨_, _, _, rfl, rfl, c20, q21, ?_⟩
    refine ⟨F, (m13 + m16), m19, rfl, e, (post_bd k).mono (fun b22 k v27 F23 H24 g25 r26 => ?_) (fun _ z => z)⟩
    have eF23 := g25.s
    have gF23 := g_.trans (g25.weak (by simp))
    replace r_law_one := r_law_one.up g25.f
    replace r_law_other := r_law_other.up g25.f
    replace s4 := ex_t g25.f s4
    replace s10 := ex_t g25.f s10
    exact k.h _ _ _ gF23 r26
/-! ### _law_mul -/
abbrev s_law_mul : Stmt := top 39
theorem sc_law_mul : FnScope ["_law_one", "_law_other"] ["_law_one", "_law_other"] (defScope s_law_mul) := ⟨rfl, rfl, rfl, by decide +kernel, rfl, by decide +kernel, by decide +kernel⟩
def law_mul (law_one : (Int × Int)) (law_other : (Int × Int)) : Mm (Int × Int) := (mulM law_one.1 law_other.1).bd fun m13 => (mulM law_one.2 law_other.2).bd fun m16 => (law_low (m13) (m16)).bd fun b19 => Mm.ok b19
def sp_law_mul (K : PySem.W.Frag) : Sp := fun vs H Q _ => ∃ (F : Hp) (v_law_one : V) (law_one : (Int × Int)) (v_law_other : V) (law_other : (Int × Int)), vs = [v_law_one, v_law_other] ∧ Ex F H ∧ Dq K F v_law_one ((e2 PyData.int PyData.int) law_one) ∧ Dq K F v_law_other ((e2 PyData.int PyData.int) law_other) ∧ Post (law_mul law_one law_other) (fun r => Ret [] F H (fun F' _ v => Dq K F' v ((e2 PyData.int PyData.int) r)) Q) (fun _ => False)
theorem ok_law_mul {P : Program} {w : World} {K : PySem.W.Frag} {mg : Str → Option Value} {base : Heap} {C f : Addr} {fd : FuncData} (B : Bi mg) (FF : FunD K "_law_mul" "_law_mul" (defArgs s_law_mul) (defBody s_law_mul) (defScope s_law_mul) [] [] f fd) (G_law_low : Kn P w K mg base "_law_low" 1 ["_law_top", "_law_bottom"] (sp_law_low K)) : FnOk P w K mg base CX0 2 f fd ["_law_one", "_law_other"] (sp_law_mul K) := by
  refine FF.ok sc_law_mul (fun vs H Q E h => ?_) (fun cdv A outer s H vs Q E hr h => ?_)
  · obtain ⟨F, v_law_one, law_one, v_law_other, law_other, rfl, _⟩ := h; rfl
  · obtain ⟨F, v_law_one, law_one, v_law_other, law_other, rfl, e, r_law_one, r_law_other, k⟩ := h
    unfold law_mul at k
    have g_ := Gm.refl (M := []) e
    refine ⟨_, PSs.nox (pss_one (ps_ret (pe_kn G_law_low (hr.mono (by decide)) (pa_cons (pe_op op_mulM (pe_ix (r := rIxT K) ix_tup (pv 0) (pe_int) (fun _ _ => rfl)) (pe_ix (r := rIxT K) ix_tup (pv 1) (pe_int) (fun _ _ => rfl))) (pa_cons (pe_op op_mulM (pe_ix (r := rIxT K) ix_tup (pv 0) (pe_int) (fun _ _ => rfl)) (pe_ix (r := rIxT K) ix_tup (pv 1) (pe_int) (fun _ _ => rfl))) (pa_nil)))))), ?_⟩
    refine ⟨_, rfl, ?_⟩
    obtain ⟨p1, x2, x3, rfl, s4, d5, d6⟩ := dp_tup2 r_law_one
    obtain rfl := dp_int d5
    obtain rfl := dp_int d6
    refine ⟨_, _, _, _, rfl, rfl, ex_t e s4, rfl, _, rfl, ?_⟩
    obtain ⟨p7, x8, x9, rfl, s10, d11, d12⟩ := dp_tup2 r_law_other
    obtain rfl := dp_int d11
    obtain rfl := dp_int d12
    refine ⟨_, _, _, _, rfl, rfl, ex_t e s10, rfl, ?_⟩
    obtain ⟨m13, c14, q15, k⟩ := post_mul k
    refine ⟨_, _, _, rfl, rfl, c14, q15, _, rfl, ?_⟩
    refine ⟨_, _, _, _, rfl, rfl, ex_t e s4, rfl, _, rfl, ?_⟩
    refine ⟨_, _, _, _, rfl, rfl, ex_t e s10, rfl, ?_⟩
    obtain ⟨m16, c17, q18, k⟩ := post_mul k
    refine ⟨_, _, _, rfl, rfl, c17, q18, ?_⟩
    refine ⟨F, m13, m16, rfl, e, (post_bd k).mono (fun b19 k v24 F20 H21 g22 r23 => ?_) (fun _ z => z)⟩
    have eF20 := g22.s
    have gF20 := g_.trans (g22.weak (by simp))
    replace r_law_one := r_law_one.up g22.f
    replace r_law_other := r_law_other.up g22.f
    replace s4 := ex_t g22.f s4
    replace s10 := ex_t g22.f s10
    exact k.h _ _ _ gF20 r23
/-! ### _law_over -/
abbrev s_law_over : Stmt := top 40
theorem sc_law_over : FnScope ["_law_one", "_law_other"] ["_law_one", "_law_other"] (defScope s_law_over) := ⟨rfl, rfl, rfl, by decide +kernel, rfl, by decide +kernel, by decide +kernel⟩
def law_over (law_one : (Int × Int)) (law_other : (Int × Int)) : Mm (Int × Int) := (mulM law_one.1 law_other.2).bd fun m13 => (mulM law_one.2 law_other.1).bd fun m16 => (law_low (m13) (m16)).bd fun b19 => Mm.ok b19
def sp_law_over (K : PySem.W.Frag) : Sp := fun vs H Q _ => ∃ (F : Hp) (v_law_one : V) (law_one : (Int × Int)) (v_law_other : V) (law_other : (Int × Int)), vs = [v_law_one, v_law_other] ∧ Ex F H ∧ Dq K F v_law_one ((e2 PyData.int PyData.int) law_one) ∧ Dq K F v_law_other ((e2 PyData.int PyData.int) law_other) ∧ Post (law_over law_one law_other) (fun r => Ret [] F H (fun F' _ v => Dq K F' v ((e2 PyData.int PyData.int) r)) Q) (fun _ => False)
theorem ok_law_over {P : Program} {w : World} {K : PySem.W.Frag} {mg : Str → Option Value} {base : Heap} {C f : Addr} {fd : FuncData} (B : Bi mg) (FF : FunD K "_law_over" "_law_over" (defArgs s_law_over) (defBody s_law_over) (defScope s_law_over) [] [] f fd) (G_law_low : Kn P w K mg base "_law_low" 1 ["_law_top", "_law_bottom"] (sp_law_low K)) : FnOk P w K mg base CX0 2 f fd ["_law_one", "_law_other"] (sp_law_over K) := by
  refine FF.ok sc_law_over (fun vs H Q E h => ?_) (fun cdv A outer s H vs Q E hr h => ?_)
  · obtain ⟨F, v_law_one, law_one, v_law_other, law_other, rfl, _⟩ := h; rfl
  · obtain ⟨F, v_law_one, law_one, v_law_other, law_other, rfl, e, r_law_one, r_law_other, k⟩ := h
    unfold law_over at k
    have g_ := Gm.refl (M := []) e
    refine ⟨_, PSs.nox (pss_one (ps_ret (pe_kn G_law_low (hr.mono (by decide)) (pa_cons (pe_op op_mulM (pe_ix (r := rIxT K) ix_tup (pv 0) (pe_int) (fun _ _ => rfl)) (pe_ix (r := rIxT K) ix_tup (pv 1) (pe_int) (fun _ _ => rfl))) (pa_cons (pe_op op_mulM (pe_ix (r := rIxT K) ix_tup (pv 0) (pe_int) (fun _ _ => rfl)) (pe_ix (r := rIxT K) ix_tup (pv 1) (pe_int) (fun _ _ => rfl))) (pa_nil)))))), ?_⟩
    refine ⟨_, rfl, ?_⟩
    obtain ⟨p1, x2, x3, rfl, s4, d5, d6⟩ := dp_tup2 r_law_one
    obtain rfl := dp_int d5
    obtain rfl := dp_int d6
    refine ⟨_, _, _, _, rfl, rfl, ex_t e s4, rfl, _, rfl, ?_⟩
    obtain ⟨p7, x8, x9, rfl, s10, d11, d12⟩ := dp_tup2 r_law_other
    obtain rfl := dp_int d11
    obtain rfl := dp_int d12
    refine ⟨_, _, _, _, rfl, rfl, ex_t e s10, rfl, ?_⟩
    obtain ⟨m13, c14, q15, k⟩ := post_mul k
    refine ⟨_, _, _, rfl, rfl, c14, q15, _, rfl, ?_⟩
    refine ⟨_, _, _, _, rfl, rfl, ex_t e s4, rfl, _, rfl, ?_⟩
    refine ⟨_, _, _, _, rfl, rfl, ex_t e s10, rfl, ?_⟩
    obtain ⟨m16, c17, q18, k⟩ := post_mul k
    refine ⟨_, _, _, rfl, rfl, c17, q18, ?_⟩
    refine ⟨F, m13, m16, rfl, e, (post_bd k).mono (fun b19 k v24 F20 H21 g22 r23 => ?_) (fun _ z => z)⟩
    have eF20 := g22.s
    have gF20 := g_.trans (g22.weak (by simp))
    replace r_law_one := r_law_one.up g22.f
    replace r_law_other := r_law_other.up g22.f
    replace s4 := ex_t g22.f s4
    replace s10 := ex_t g22.f s10
    exact k.h _ _ _ gF20 r23
/-! ### _law_masses -/
abbrev s_law_masses : Stmt := top 41
theorem sc_law_masses : FnScope ["_law_row", "_law_most", "_law_far", "_law_places", "_law_place", "_law_k"] ["_law_row", "_law_most", "_law_far"] (defScope s_law_masses) := ⟨rfl, rfl, rfl, by decide +kernel, rfl, by decide +kernel, by decide +kernel⟩
def law_masses (scr : List Int) (st : Rw) (law_most : Int) (law_far : Int) : Mm ((List (Int × Int)) × Rw) := (takenA scr st ((law_most + (1 : Int)))).bd fun b1 => (rangeM b1.1).bd fun l9 => (guardM ((rangeL 0 b1.1.toNat).length ≤ 50000)).bd fun _ => (mapSt (fun (st19 : Rw) (x12 : Int) => (mulM (2 : Int) law_far).bd fun m31 => (takenA scr st19 ((m31 + (1 : Int)))).bd fun b34 => Mm.ok ((b34.1 - law_far), b34.2)) b1.2 (rangeL 0 b1.1.toNat)).bd fun b11 => (guardM (b11.1.length < 64)).bd fun _ => (guardM ((sortedSet b11.1).length ≤ 50000)).bd fun _ => (mapSt (fun (st65 : Rw) (x58 : Int) => (takenA scr st65 ((3 : Int))).bd fun b77 => (takenA scr b77.2 ((20 : Int))).bd fun b84 => (pickM takenA scr b84.2 [(0 : Int), b77.1, b84.1]).bd fun b96 => Mm.ok ((x58, ((1 : Int) + b96.1)), b96.2)) b11.2 (sortedSet b11.1)).bd fun b57 => Mm.ok (b57.1, b57.2)
def sp_law_masses (K : PySem.W.Frag) : Sp := fun vs H Q _ => ∃ (F : Hp) (sc ra : Addr) (scr : List Int) (st : Rw) (law_most : Int) (law_far : Int), vs = [.ref ra, (V.int law_most), (V.int law_far)] ∧ Ex F H ∧ RowAt K sc ra scr F H st ∧ Post (law_masses scr st law_most law_far) (fun r => Ret [ra] F H (fun F' H' v => Dq K F' v ((eV (e2 PyData.int PyData.int)) r.1) ∧ RowAt K sc ra scr F' H' r.2) Q) (fun _ => False)
theorem ok_law_masses {P : Program} {w : World} {K : PySem.W.Frag} {mg : Str → Option Value} {base : Heap} {C f : Addr} {fd : FuncData} (B : Bi mg) (FF : FunD K "_law_masses" "_law_masses" (defArgs s_law_masses) (defBody s_law_masses) (defScope s_law_masses) [] [] f fd) (G_law_taken : Kn P w K mg base "_law_taken" 1 ["_law_row", "_law_many"] (spTaken takenA K)) (G_law_pick : Kn P w K mg base "_law_pick" 2 ["_law_row", "_law_some"] (spPick takenA K)) : FnOk P w K mg base CX0 3 f fd ["_law_row", "_law_most", "_law_far"] (sp_law_masses K) := by
  refine FF.ok sc_law_masses (fun vs H Q E h => ?_) (fun cdv A outer s H vs Q E hr h => ?_)
  · obtain ⟨F, sc, ra, scr, st, law_most, law_far, rfl, _⟩ := h; rfl
  · obtain ⟨F, sc, ra, scr, st, law_most, law_far, rfl, e, w, k⟩ := h
    unfold law_masses at k
    have g_ := Gm.refl (M := [ra]) e
    refine ⟨_, PSs.nox (pss_cons (ps_set (i := 3) sc_law_masses.nd rfl (Or.inl rfl) (pe_q (pe_callB (cr_sortedSet rfl) (by rfl) B.sorted (by decide +kernel) (pa_cons (pe_callTy (cr_setM rfl) (by rfl) B.set (by decide +kernel) (pa_cons (pe_q (pe_lc (own := [("_law_k", 5)]) (g := gName 5) rfl sc_law_masses.nd (pi_range1 rfl B.range (pa_cons (pe_kn G_law_taken (hr.mono (by decide)) (pa_cons (pv 0) (pa_cons (pe_op op_add (pv 1) (pe_int)) (pa_nil)))) (pa_nil))) (blkOk_by (N := ["_law_row", "_law_most", "_law_far", "_law_places", "_law_place", "_law_k"]) (sc := defScope s_law_masses) (by decide +kernel)) (fun _ _ _ _ _ => pg_name (i := 5) sc_law_masses.nd rfl (Or.inl rfl)) (fun _ _ _ _ _ => pts_nil) (fun _ _ _ _ _ => pe_op op_sub (pe_kn G_law_taken (hr.mono (by decide)) (pa_cons (pv 0) (pa_cons (pe_op op_add (pe_op op_mulM (pe_int) (pv 2)) (pe_int)) (pa_nil)))) (pv 2)))) pa_nil)) pa_nil)))) (pss_one (ps_ret (pe_q (pe_callTy call_tuple_of (by rfl) B.tuple (by decide +kernel) (pa_cons (pe_q (pe_lc (own := [("_law_place", 4)]) (g := gName 4) rfl sc_law_masses.nd (pi_list (pv 3)) (blkOk_by (N := ["_law_row", "_law_most", "_law_far", "_law_places", "_law_place", "_law_k"]) (sc := defScope s_law_masses) (by decide +kernel)) (fun _ _ _ _ _ => pg_name (i := 4) sc_law_masses.nd rfl (Or.inl rfl)) (fun _ _ _ _ _ => pts_nil) (fun _ _ _ _ _ => pe_q (pe_tup (pa_cons (pv 4) (pa_cons (pe_op op_add (pe_int) (pe_kn G_law_pick (hr.mono (by decide)) (pa_cons (pv 0) (pa_cons (pe_q (pe_lst (pa_cons (pe_int) (pa_cons (pe_kn G_law_taken (hr.mono (by decide)) (pa_cons (pv 0) (pa_cons (pe_int) (pa_nil)))) (pa_cons (pe_kn G_law_taken (hr.mono (by decide)) (pa_cons (pv 0) (pa_cons (pe_int) (pa_nil)))) (pa_nil)))))) pa_nil)))) (pa_nil))))))) pa_nil)))))), ?_⟩
    refine ⟨_, rfl, _, rfl, _, _, rfl, rfl, ?_⟩
    refine ⟨F, sc, ra, scr, st, (law_most + (1 : Int)), rfl, e, w, (post_bd k).mono (fun b1 k v6 F2 H3 g4 ⟨r5, w7⟩ => ?_) (fun _ z => z)⟩
    have eF2 := g4.s
    have gF2 := g_.trans (g4.weak (by simp))
    subst r5
    obtain ⟨h8, k⟩ := post_range k
    refine ⟨_, rfl, h8.1, h8.2, ?_⟩
    obtain ⟨h29, k⟩ := post_guard k
    refine lc_st (K := K) wlk_range PyData.int k eF2 h29 w7 (fun st19 x12 v27 F20 H21 F22 H23 g24 w28 g25 r26 Q' k10 => ?_) (fun _ z => z) (fun b11 v13 F14 H15 g16 ⟨r17, w18⟩ k => ?_) gm_name
    · have g30 := Gm.refl (M := [ra]) g24.s
      clear w7
      replace w28 := w28.keep g25
      have eF22 := g25.s
      have gF22 := g30.trans (g25.weak (by simp))
      subst r26
      refine ⟨rfl, _, rfl, _, rfl, ?_⟩
      obtain ⟨m31, c32, q33, k10⟩ := post_mul k10
      refine ⟨_, _, _, rfl, rfl, c32, q33, _, _, rfl, rfl, ?_⟩
      refine ⟨F22, sc, ra, scr, st19, (m31 + (1 : Int)), rfl, eF22, w28, (post_bd k10).mono (fun b34 k10 v39 F35 H36 g37 ⟨r38, w40⟩ => ?_) (fun _ z => z)⟩
      have eF35 := g37.s
      have gF35 := gF22.trans (g37.weak (by simp))
      subst r38
      refine ⟨_, rfl, _, _, rfl, rfl, ?_⟩
      exact k10.h _ _ _ gF35 ⟨(Dq.int (b34.1 - law_far)), w40⟩
    have eF14 := g16.s
    have gF14 := gF2.trans (g16.weak (by simp))
    obtain ⟨p42, xs43, rfl, s44, a45⟩ := dp_lst r17
    obtain rfl := all_ints a45
    obtain ⟨h46, k⟩ := post_guard k
    refine sorted_set (K := K) (M := []) eF14 s44 h46 fun v51 F47 H48 g49 r50 => ?_
    have eF47 := g49.s
    have gF47 := gF14.trans (g49.weak (by simp))
    replace w18 := w18.keep g49
    replace r17 := r17.up g49.f
    replace s44 := g49.f _ _ s44
    replace a45 := a45.up g49.f
    refine ⟨_, rfl, ?_⟩
    obtain ⟨p52, xs53, rfl, s54, a55⟩ := dp_lst r50
    refine ⟨_, rfl, ⟨_, (sq_of (eF47 _ _ s54))⟩, ?_⟩
    obtain ⟨h75, k⟩ := post_guard k
    refine lc_st (K := K) (wlk_list eF47 s54 a55) (e2 PyData.int PyData.int) k eF47 h75 w18 (fun st65 x58 v73 F66 H67 F68 H69 g70 w74 g71 r72 Q' k56 => ?_) (fun _ z => z) (fun b57 v59 F60 H61 g62 ⟨r63, w64⟩ k => ?_) gm_name
    · have g76 := Gm.refl (M := [ra]) g70.s
      clear w18
      replace r17 := r17.up g70.f
      replace s44 := g70.f _ _ s44
      replace a45 := a45.up g70.f
      replace r50 := r50.up g70.f
      replace s54 := g70.f _ _ s54
      replace a55 := a55.up g70.f
      replace r17 := r17.up g71.f
      replace s44 := g71.f _ _ s44
      replace a45 := a45.up g71.f
      replace r50 := r50.up g71.f
      replace s54 := g71.f _ _ s54
      replace a55 := a55.up g71.f
      replace w74 := w74.keep g71
      have eF68 := g71.s
      have gF68 := g76.trans (g71.weak (by simp))
      obtain rfl := dp_int r72
      refine ⟨rfl, _, rfl, _, rfl, _, rfl, ?_⟩
      refine ⟨F68, sc, ra, scr, st65, (3 : Int), rfl, eF68, w74, (post_bd k56).mono (fun b77 k56 v82 F78 H79 g80 ⟨r81, w83⟩ => ?_) (fun _ z => z)⟩
      have eF78 := g80.s
      have gF78 := gF68.trans (g80.weak (by simp))
      replace r17 := r17.up g80.f
      replace s44 := g80.f _ _ s44
      replace a45 := a45.up g80.f
      replace r50 := r50.up g80.f
      replace s54 := g80.f _ _ s54
      replace a55 := a55.up g80.f
      subst r81
      refine ⟨_, rfl, ?_⟩
      refine ⟨F78, sc, ra, scr, b77.2, (20 : Int), rfl, eF78, w83, (post_bd k56).mono (fun b84 k56 v89 F85 H86 g87 ⟨r88, w90⟩ => ?_) (fun _ z => z)⟩
      have eF85 := g87.s
      have gF85 := gF78.trans (g87.weak (by simp))
      replace r17 := r17.up g87.f
      replace s44 := g87.f _ _ s44
      replace a45 := a45.up g87.f
      replace r50 := r50.up g87.f
      replace s54 := g87.f _ _ s54
      replace a55 := a55.up g87.f
      subst r88
      show _ ∧ _
      refine new_lst (K := K) (M := []) eF85 (.cons (Dq.int (0 : Int)) (.cons (Dq.int b77.1) (.cons (Dq.int b84.1) .nil))) (by show 3 ≤ 100000; decide) fun v95 F91 H92 g93 r94 => ?_
      have eF91 := g93.s
      have gF91 := gF85.trans (g93.weak (by simp))
      replace r17 := r17.up g93.f
      replace s44 := g93.f _ _ s44
      replace a45 := a45.up g93.f
      replace r50 := r50.up g93.f
      replace s54 := g93.f _ _ s54
      replace a55 := a55.up g93.f
      replace w90 := w90.keep g93
      replace r94 : Dq K F91 v95 ((eL PyData.int) [(0 : Int), b77.1, b84.1]) := r94
      refine ⟨F91, sc, ra, scr, b84.2, _, PyData.int, _, [(0 : Int), b77.1, b84.1], rfl, eF91, w90, r94, (post_bd k56).mono (fun b96 k56 v101 F97 H98 g99 ⟨r100, w102⟩ => ?_) (fun _ z => z)⟩
      have eF97 := g99.s
      have gF97 := gF91.trans (g99.weak (by simp))
      replace r17 := r17.up g99.f
      replace s44 := g99.f _ _ s44
      replace a45 := a45.up g99.f
      replace r50 := r50.up g99.f
      replace s54 := g99.f _ _ s54
      replace a55 := a55.up g99.f
      replace r94 := r94.up g99.f
      obtain rfl := dp_int r100
      refine ⟨_, _, rfl, rfl, ?_⟩
      show _ ∧ _
      refine new_tup (K := K) (M := []) eF97 (.cons (Dq.int x58) (.cons (Dq.int ((1 : Int) + b96.1)) .nil)) (by show 2 ≤ 100000; decide) fun v107 F103 H104 g105 r106 => ?_
      have eF103 := g105.s
      have gF103 := gF97.trans (g105.weak (by simp))
      replace r17 := r17.up g105.f
      replace s44 := g105.f _ _ s44
      replace a45 := a45.up g105.f
      replace r50 := r50.up g105.f
      replace s54 := g105.f _ _ s54
      replace a55 := a55.up g105.f
      replace r94 := r94.up g105.f
      replace w102 := w102.keep g105
      replace r106 : Dq K F103 v107 ((e2 PyData.int PyData.int) (x58, ((1 : Int) + b96.1))) := r106
      exact k56.h _ _ _ gF103 ⟨r106, w102⟩
    have eF60 := g62.s
    have gF60 := gF47.trans (g62.weak (by simp))
    replace r17 := r17.up g62.f
    replace s44 := g62.f _ _ s44
    replace a45 := a45.up g62.f
    replace r50 := r50.up g62.f
    replace s54 := g62.f _ _ s54
    replace a55 := a55.up g62.f
    obtain ⟨p109, xs110, rfl, s111, a112⟩ := dp_lst r63
    refine to_VL (K := K) (M := []) eF60 s111 a112 (en := (e2 PyData.int PyData.int)) (l := b57.1) fun v117 F113 H114 g115 r116 => ?_
    have eF113 := g115.s
    have gF113 := gF60.trans (g115.weak (by simp))
    replace r17 := r17.up g115.f
    replace s44 := g115.f _ _ s44
    replace a45 := a45.up g115.f
    replace r50 := r50.up g115.f
    replace s54 := g115.f _ _ s54
    replace a55 := a55.up g115.f
    replace w64 := w64.keep g115
    replace r63 := r63.up g115.f
    replace s111 := g115.f _ _ s111
    replace a112 := a112.up g115.f
    exact k.h _ _ _ gF113 ⟨r116, w64⟩
/-! ### _law_stretches -/
abbrev s_law_stretches : Stmt := top 42
theorem sc_law_stretches : FnScope ["_law_row", "_law_most", "_law_far", "_law_found", "_law_low_here", "_law_k", "_law_high"] ["_law_row", "_law_most", "_law_far"] (defScope s_law_stretches) := ⟨rfl, rfl, rfl, by decide +kernel, rfl, by decide +kernel, by decide +kernel⟩
def law_stretches (scr : List Int) (st : Rw) (law_most : Int) (law_far : Int) : Mm ((List (Int × Int × Int)) × Rw) := (takenA scr st ((law_most + (1 : Int)))).bd fun b8 => (rangeM b8.1).bd fun l16 => (foldM (fun (b17 : (Int × (List (Int × Int × Int)) × Rw)) (x18 : Int) => (takenA scr b17.2.2 (law_far)).bd fun b41 => (takenA scr b41.2 (law_far)).bd fun b48 => cond (decide ((((b17.1 + b41.1) + (1 : Int)) + b48.1) ≤ law_far)) ((takenA scr b48.2 ((4 : Int))).bd fun b55 => (guardM (b17.2.1.length < 100000)).bd fun _ => Mm.ok ((((b17.1 + b41.1) + (1 : Int)) + b48.1), (b17.2.1 ++ [((b17.1 + b41.1), (((b17.1 + b41.1) + (1 : Int)) + b48.1), ((1 : Int) + b55.1))]), b55.2)) (Mm.ok ((b17.1 + b41.1), b17.2.1, b48.2))) (((0 : Int) - law_far), [], b8.2) (rangeL 0 b8.1.toNat)).bd fun b34 => Mm.ok (b34.2.1, b34.2.2)
def sp_law_stretches (K : PySem.W.Frag) : Sp := fun vs H Q _ => ∃ (F : Hp) (sc ra : Addr) (scr : List Int) (st : Rw) (law_most : Int) (law_far : Int), vs = [.ref ra, (V.int law_most), (V.int law_far)] ∧ Ex F H ∧ RowAt K sc ra scr F H st ∧ Post (law_stretches scr st law_most law_far) (fun r => Ret [ra] F H (fun F' H' v => Dq K F' v ((eV (e3 PyData.int PyData.int PyData.int)) r.1) ∧ RowAt K sc ra scr F' H' r.2) Q) (fun _ => False)
theorem ok_law_stretches {P : Program} {w : World} {K : PySem.W.Frag} {mg : Str → Option Value} {base : Heap} {C f : Addr} {fd : FuncData} (B : Bi mg) (FF : FunD K "_law_stretches" "_law_stretches" (defArgs s_law_stretches) (defBody s_law_stretches) (defScope s_law_stretches) [] [] f fd) (G_law_taken : Kn P w K mg base "_law_taken" 1 ["_law_row", "_law_many"] (spTaken takenA K)) : FnOk P w K mg base CX0 2 f fd ["_law_row", "_law_most", "_law_far"] (sp_law_stretches K) := by
  refine FF.ok sc_law_stretches (fun vs H Q E h => ?_) (fun cdv A outer s H vs Q E hr h => ?_)
  · obtain ⟨F, sc, ra, scr, st, law_most, law_far, rfl, _⟩ := h; rfl
  · obtain ⟨F, sc, ra, scr, st, law_most, law_far, rfl, e, w, k⟩ := h
    unfold law_stretches at k
    have g_ := Gm.refl (M := [ra]) e
    refine ⟨_, PSs.nox (pss_cons (ps_par (i := 3) (j := 4) (by rfl) sc_law_stretches.nd rfl rfl (by decide) rfl rfl (pa_cons (pe_q (pe_lst (pa_nil))) (pa_cons (pe_op op_sub (pe_int) (pv 2)) (pa_nil))) (by rfl)) (pss_cons (ps_for PassesOwn.never rfl (pi_range1 rfl B.range (pa_cons (pe_kn G_law_taken (hr.mono (by decide)) (pa_cons (pv 0) (pa_cons (pe_op op_add (pv 1) (pe_int)) (pa_nil)))) (pa_nil))) (pg_name (i := 5) sc_law_stretches.nd rfl (Or.inl rfl)) (pss_cons (ps_set (i := 4) sc_law_stretches.nd rfl (Or.inl rfl) (pe_op op_add (pv 4) (pe_kn G_law_taken (hr.mono (by decide)) (pa_cons (pv 0) (pa_cons (pv 2) (pa_nil)))))) (pss_cons (ps_set (i := 6) sc_law_stretches.nd rfl (Or.inl rfl) (pe_op op_add (pe_op op_add (pv 4) (pe_int)) (pe_kn G_law_taken (hr.mono (by decide)) (pa_cons (pv 0) (pa_cons (pv 2) (pa_nil)))))) (pss_one (ps_if (pt_cmpR op_le (pv 6) (pv 2) (nomark _)) (pss_cons (ps_expr (pe_bm PySem.F.plainAttrs_list PySem.F.slot_list_append PySem.F.type_list_append mt_append (pv 3) (pa_cons (pe_q (pe_tup (pa_cons (pv 4) (pa_cons (pv 6) (pa_cons (pe_op op_add (pe_int) (pe_kn G_law_taken (hr.mono (by decide)) (pa_cons (pv 0) (pa_cons (pe_int) (pa_nil))))) (pa_nil)))))) pa_nil))) (pss_one (ps_set (i := 4) sc_law_stretches.nd rfl (Or.inl rfl) (pv 6)))) (pss_nil)))))) (pss_one (ps_ret (pe_q (pe_callTy call_tuple_of (by rfl) B.tuple (by decide +kernel) (pa_cons (pv 3) pa_nil))))))), ?_⟩
    show _ ∧ _
    refine new_own (K := K) e .nil (by show 0 ≤ 100000; decide) fun p1 H2 g3 y4 o5 => ?_
    have a6 : DqAll K F [] (List.map (e3 PyData.int PyData.int PyData.int) []) := .nil
    have np1 := ne_of_none w.1 y4
    have mp1 := np1.symm
    have zp1 := g_.fresh y4
    have eH2 := g3.s
    have gH2 := g_.trans (g3.weak (by simp))
    replace w := w.keep g3
    refine ⟨_, rfl, _, _, rfl, rfl, _, _, rfl, ?_⟩
    refine ⟨_, rfl, _, rfl, _, _, rfl, rfl, ?_⟩
    refine ⟨F, sc, ra, scr, st, (law_most + (1 : Int)), rfl, eH2, w, (post_bd k).mono (fun b8 k v13 F9 H10 g11 ⟨r12, w14⟩ => ?_) (fun _ z => z)⟩
    have eF9 := g11.s
    have gF9 := gH2.trans (g11.weak (by simp))
    replace o5 := g11.own (by simp [*]) o5.1 o5.2
    replace a6 := a6.up g11.f
    subst r12
    obtain ⟨h15, k⟩ := post_range k
    refine ⟨_, rfl, h15.1, h15.2, ?_⟩
    refine for_m (M := [p1, ra]) (F := F9) wlk_range (fun b17 F' H' σ' => ∃ (u5 : Option V) (u6 : Option V) (xs3 : List V), σ' = [some (V.ref ra), some (V.int law_most), some (V.int law_far), some (V.ref p1), some (V.int b17.1), u5, u6] ∧ (H' p1 = some (.lst xs3) ∧ F' p1 = none) ∧ DqAll K F' xs3 (List.map (e3 PyData.int PyData.int PyData.int) b17.2.1) ∧ RowAt K sc ra scr F' H' b17.2.2) k eF9 ⟨_, _, _, rfl, o5, a6, w14⟩ (fun b17 x18 v26 σ28 F19 H20 F21 H22 g23 i27 g24 r25 nx kfb17 => ?_) (fun b34 σ33 F29 H30 g31 i32 k => ?_)
    · obtain ⟨u35, u36, xs37, rfl, o38, a39, w40⟩ := i27
      replace o38 := g24.own (by simp [*]) o38.1 o38.2
      replace a39 := a39.up g24.f
      replace w40 := w40.keep g24
      have eF21 := g24.s
      have gF21 := g23.trans (g24.weak (by simp))
      subst r25
      refine ⟨_, rfl, _, rfl, _, rfl, ?_⟩
      refine ⟨F21, sc, ra, scr, b17.2.2, law_far, rfl, eF21, w40, (post_bd kfb17).mono (fun b41 kfb17 v46 F42 H43 g44 ⟨r45, w47⟩ => ?_) (fun _ z => z)⟩
      have eF42 := g44.s
      have gF42 := gF21.trans (g44.weak (by simp))
      replace o38 := g44.own (by simp [*]) o38.1 o38.2
      replace a39 := a39.up g44.f
      subst r45
      refine ⟨_, _, rfl, rfl, ?_⟩
      refine ⟨_, rfl, _, _, rfl, rfl, _, rfl, _, rfl, ?_⟩
      refine ⟨F42, sc, ra, scr, b41.2, law_far, rfl, eF42, w47, (post_bd kfb17).mono (fun b48 kfb17 v53 F49 H50 g51 ⟨r52, w54⟩ => ?_) (fun _ z => z)⟩
      have eF49 := g51.s
      have gF49 := gF42.trans (g51.weak (by simp))
      replace o38 := g51.own (by simp [*]) o38.1 o38.2
      replace a39 := a39.up g51.f
      subst r52
      refine ⟨_, _, rfl, rfl, ?_⟩
      refine ⟨_, rfl, _, rfl, _, _, rfl, rfl, _, rfl, ?_⟩
      refine cs kfb17 (fun _ kfb17 => ?_) (fun _ kfb17 => ?_)
      · refine ⟨_, rfl, .inl ⟨rfl, _, sq_of o38.1⟩, _, rfl, _, rfl, _, rfl, ?_⟩
        refine ⟨F49, sc, ra, scr, b48.2, (4 : Int), rfl, eF49, w54, (post_bd kfb17).mono (fun b55 kfb17 v60 F56 H57 g58 ⟨r59, w61⟩ => ?_) (fun _ z => z)⟩
        have eF56 := g58.s
        have gF56 := gF49.trans (g58.weak (by simp))
        replace o38 := g58.own (by simp [*]) o38.1 o38.2
        replace a39 := a39.up g58.f
        subst r59
        refine ⟨_, _, rfl, rfl, ?_⟩
        show _ ∧ _
        refine new_tup (K := K) (M := []) eF56 (.cons (Dq.int (b17.1 + b41.1)) (.cons (Dq.int (((b17.1 + b41.1) + (1 : Int)) + b48.1)) (.cons (Dq.int ((1 : Int) + b55.1)) .nil))) (by show 3 ≤ 100000; decide) fun v66 F62 H63 g64 r65 => ?_
        have eF62 := g64.s
        have gF62 := gF56.trans (g64.weak (by simp))
        replace o38 := g64.own (by simp [*]) o38.1 o38.2
        replace a39 := a39.up g64.f
        replace w61 := w61.keep g64
        replace r65 : Dq K F62 v66 ((e3 PyData.int PyData.int PyData.int) ((b17.1 + b41.1), (((b17.1 + b41.1) + (1 : Int)) + b48.1), ((1 : Int) + b55.1))) := r65
        obtain ⟨h67, kfb17⟩ := post_guard kfb17
        refine ⟨_, _, _, rfl, rfl, o38.1, own_sz a39 h67, ?_⟩
        have g68 := gF62.putOr (o := .lst (xs37 ++ [v66])) (.inl (by simp)) o38.1 o38.2
        replace w61 := w61.put np1 (o := .lst (xs37 ++ [v66]))
        replace o38 : (upd H63 p1 (.lst (xs37 ++ [v66]))) p1 = some (.lst (xs37 ++ [v66])) ∧ F62 p1 = none := ⟨upd_same, o38.2⟩
        replace a39 : DqAll K F62 (xs37 ++ [v66]) (List.map (e3 PyData.int PyData.int PyData.int) (b17.2.1 ++ [((b17.1 + b41.1), (((b17.1 + b41.1) + (1 : Int)) + b48.1), ((1 : Int) + b55.1))])) := by rw [List.map_append]; exact a39.app (.cons r65 .nil)
        have e69 := g68.s
        refine ⟨_, rfl, ?_⟩
        exact kfb17.h _ _ _ g68 ⟨_, _, _, rfl, o38, a39, w61⟩
      · exact kfb17.h _ _ _ gF49 ⟨_, _, _, rfl, o38, a39, w54⟩
    have hy71 : ∀ q ∈ [p1], q ∈ [ra] ∨ H q = none := by intro q hq; simp only [List.mem_cons, List.not_mem_nil, or_false] at hq; rcases hq with rfl; exact (.inr zp1)
    have g70 := Gm.outs [p1] hy71 gF9 (g31.weak (by simp))
    have eF29 := g31.s
    obtain ⟨u72, u73, xs74, rfl, o75, a76, w77⟩ := i32
    refine ⟨_, rfl, ?_⟩
    refine to_VO (K := K) (M := []) eF29 o75.1 a76 (en := (e3 PyData.int PyData.int PyData.int)) (l := b34.2.1) fun v82 F78 H79 g80 r81 => ?_
    have eF78 := g80.s
    have gF78 := g70.trans (g80.weak (by simp))
    replace o75 := g80.own (by simp [*]) o75.1 o75.2
    replace a76 := a76.up g80.f
    replace w77 := w77.keep g80
    exact k.h _ _ _ gF78 ⟨r81, w77⟩
/-! ### _law_parts -/
abbrev s_law_parts : Stmt := top 43
theorem sc_law_parts : FnScope ["_law_row", "_law_far", "_law_masses_here", "_law_stretches_here"] ["_law_row"] (defScope s_law_parts) := ⟨rfl, rfl, rfl, by decide +kernel, rfl, by decide +kernel, by decide +kernel⟩
def law_parts (scr : List Int) (st : Rw) : Mm (((List (Int × Int)) × (List (Int × Int × Int))) × Rw) := (pickM takenA scr st [(3 : Int), (3 : Int), (8 : Int), (20 : Int)]).bd fun b6 => (pickM takenA scr b6.2 [(1 : Int), (3 : Int), (6 : Int)]).bd fun b18 => (law_masses scr b18.2 (b18.1) (b6.1)).bd fun b25 => (law_stretches scr b25.2 ((3 : Int)) (b6.1)).bd fun b32 => (guardM (b25.1.length + b32.1.length ≤ 100000)).bd fun _ => (cond (!(b25.1.isEmpty && b32.1.isEmpty)) (Mm.ok (b25.1, b32.1)) (Mm.ok ([((0 : Int), (1 : Int))], []))).bd fun b63 => Mm.ok (b63, b32.2)
def sp_law_parts (K : PySem.W.Frag) : Sp := fun vs H Q _ => ∃ (F : Hp) (sc ra : Addr) (scr : List Int) (st : Rw), vs = [.ref ra] ∧ Ex F H ∧ RowAt K sc ra scr F H st ∧ Post (law_parts scr st) (fun r => Ret [ra] F H (fun F' H' v => Dq K F' v ((e2 (eV (e2 PyData.int PyData.int)) (eV (e3 PyData.int PyData.int PyData.int))) r.1) ∧ RowAt K sc ra scr F' H' r.2) Q) (fun _ => False)
theorem ok_law_parts {P : Program} {w : World} {K : PySem.W.Frag} {mg : Str → Option Value} {base : Heap} {C f : Addr} {fd : FuncData} (B : Bi mg) (FF : FunD K "_law_parts" "_law_parts" (defArgs s_law_parts) (defBody s_law_parts) (defScope s_law_parts) [] [] f fd) (G_law_pick : Kn P w K mg base "_law_pick" 2 ["_law_row", "_law_some"] (spPick takenA K)) (G_law_masses : Kn P w K mg base "_law_masses" 3 ["_law_row", "_law_most", "_law_far"] (sp_law_masses K)) (G_law_stretches : Kn P w K mg base "_law_stretches" 2 ["_law_row", "_law_most", "_law_far"] (sp_law_stretches K)) : FnOk P w K mg base CX0 4 f fd ["_law_row"] (sp_law_parts K) := by
  refine FF.ok sc_law_parts (fun vs H Q E h => ?_) (fun cdv A outer s H vs Q E hr h => ?_)
  · obtain ⟨F, sc, ra, scr, st, rfl, _⟩ := h; rfl
  · obtain ⟨F, sc, ra, scr, st, rfl, e, w, k⟩ := h
    unfold law_parts at k
    have g_ := Gm.refl (M := [ra]) e
    refine ⟨_, PSs.nox (pss_cons (ps_set (i := 1) sc_law_parts.nd rfl (Or.inl rfl) (pe_kn G_law_pick (hr.mono (by decide)) (pa_cons (pv 0) (pa_cons (pe_q (pe_lst (pa_cons (pe_int) (pa_cons (pe_int) (pa_cons (pe_int) (pa_cons (pe_int) (pa_nil))))))) pa_nil)))) (pss_cons (ps_par (i := 2) (j := 3) (by rfl) sc_law_parts.nd rfl rfl (by decide) rfl rfl (pa_cons (pe_kn G_law_masses (hr.mono (by decide)) (pa_cons (pv 0) (pa_cons (pe_kn G_law_pick (hr.mono (by decide)) (pa_cons (pv 0) (pa_cons (pe_q (pe_lst (pa_cons (pe_int) (pa_cons (pe_int) (pa_cons (pe_int) (pa_nil)))))) pa_nil))) (pa_cons (pv 1) (pa_nil))))) (pa_cons (pe_kn G_law_stretches (hr.mono (by decide)) (pa_cons (pv 0) (pa_cons (pe_int) (pa_cons (pv 1) (pa_nil))))) (pa_nil))) (by rfl)) (pss_one (ps_ret (pe_ifExp (pt_cmpR (op_neNil (units_of hr)) (pe_q (pe_op op_catM (pv 2) (pv 3))) (pe_q (pe_tup (pa_nil))) (nomark _)) (pe_q (pe_tup (pa_cons (pv 2) (pa_cons (pv 3) (pa_nil))))) (pe_q (pe_tup (pa_cons (pe_q (pe_tup (pa_cons (pe_q (pe_tup (pa_cons (pe_int) (pa_cons (pe_int) (pa_nil))))) (pa_nil)))) (pa_cons (pe_q (pe_tup (pa_nil))) (pa_nil)))))))))), ?_⟩
    refine ⟨_, rfl, ?_⟩
    show _ ∧ _
    refine new_lst (K := K) (M := []) e (.cons (Dq.int (3 : Int)) (.cons (Dq.int (3 : Int)) (.cons (Dq.int (8 : Int)) (.cons (Dq.int (20 : Int)) .nil)))) (by show 4 ≤ 100000; decide) fun v5 F1 H2 g3 r4 => ?_
    have eF1 := g3.s
    have gF1 := g_.trans (g3.weak (by simp))
    replace w := w.keep g3
    replace r4 : Dq K F1 v5 ((eL PyData.int) [(3 : Int), (3 : Int), (8 : Int), (20 : Int)]) := r4
    refine ⟨F1, sc, ra, scr, st, _, PyData.int, _, [(3 : Int), (3 : Int), (8 : Int), (20 : Int)], rfl, eF1, w, r4, (post_bd k).mono (fun b6 k v11 F7 H8 g9 ⟨r10, w12⟩ => ?_) (fun _ z => z)⟩
    have eF7 := g9.s
    have gF7 := gF1.trans (g9.weak (by simp))
    replace r4 := r4.up g9.f
    obtain rfl := dp_int r10
    refine ⟨_, rfl, _, rfl, ?_⟩
    show _ ∧ _
    refine new_lst (K := K) (M := []) eF7 (.cons (Dq.int (1 : Int)) (.cons (Dq.int (3 : Int)) (.cons (Dq.int (6 : Int)) .nil))) (by show 3 ≤ 100000; decide) fun v17 F13 H14 g15 r16 => ?_
    have eF13 := g15.s
    have gF13 := gF7.trans (g15.weak (by simp))
    replace r4 := r4.up g15.f
    replace w12 := w12.keep g15
    replace r16 : Dq K F13 v17 ((eL PyData.int) [(1 : Int), (3 : Int), (6 : Int)]) := r16
    refine ⟨F13, sc, ra, scr, b6.2, _, PyData.int, _, [(1 : Int), (3 : Int), (6 : Int)], rfl, eF13, w12, r16, (post_bd k).mono (fun b18 k v23 F19 H20 g21 ⟨r22, w24⟩ => ?_) (fun _ z => z)⟩
    have eF19 := g21.s
    have gF19 := gF13.trans (g21.weak (by simp))
    replace r4 := r4.up g21.f
    replace r16 := r16.up g21.f
    obtain rfl := dp_int r22
    refine ⟨_, rfl, ?_⟩
    refine ⟨F19, sc, ra, scr, b18.2, b18.1, b6.1, rfl, eF19, w24, (post_bd k).mono (fun b25 k v30 F26 H27 g28 ⟨r29, w31⟩ => ?_) (fun _ z => z)⟩
    have eF26 := g28.s
    have gF26 := gF19.trans (g28.weak (by simp))
    replace r4 := r4.up g28.f
    replace r16 := r16.up g28.f
    refine ⟨_, rfl, _, rfl, ?_⟩
    refine ⟨F26, sc, ra, scr, b25.2, (3 : Int), b6.1, rfl, eF26, w31, (post_bd k).mono (fun b32 k v37 F33 H34 g35 ⟨r36, w38⟩ => ?_) (fun _ z => z)⟩
    have eF33 := g35.s
    have gF33 := gF26.trans (g35.weak (by simp))
    replace r4 := r4.up g35.f
    replace r16 := r16.up g35.f
    replace r29 := r29.up g35.f
    refine ⟨_, _, rfl, ?_⟩
    refine ⟨_, rfl, _, rfl, ?_⟩
    obtain ⟨p39, xs40, rfl, s41, a42⟩ := dp_tup r29
    obtain ⟨p43, xs44, rfl, s45, a46⟩ := dp_tup r36
    obtain ⟨h47, k⟩ := post_guard k
    refine cat_tupD (K := K) (M := []) eF33 s41 a42 s45 a46 h47 fun v52 F48 H49 g50 r51 => ?_
    have eF48 := g50.s
    have gF48 := gF33.trans (g50.weak (by simp))
    replace r4 := r4.up g50.f
    replace r16 := r16.up g50.f
    replace r29 := r29.up g50.f
    replace w38 := w38.keep g50
    replace r36 := r36.up g50.f
    replace s41 := ex_t g50.f s41
    replace a42 := a42.up g50.f
    replace s45 := ex_t g50.f s45
    replace a46 := a46.up g50.f
    show _ ∧ _
    refine new_tup (K := K) (M := []) eF48 .nil (by show 0 ≤ 100000; decide) fun v57 F53 H54 g55 r56 => ?_
    have eF53 := g55.s
    have gF53 := gF48.trans (g55.weak (by simp))
    replace r4 := r4.up g55.f
    replace r16 := r16.up g55.f
    replace r29 := r29.up g55.f
    replace w38 := w38.keep g55
    replace r36 := r36.up g55.f
    replace s41 := ex_t g55.f s41
    replace a42 := a42.up g55.f
    replace s45 := ex_t g55.f s45
    replace a46 := a46.up g55.f
    replace r51 := r51.up g55.f
    refine ⟨_, (b25.1.isEmpty && b32.1.isEmpty), r51.dp eF53, r56.dp eF53, shaped_cat (sh_e2 sh_int sh_int) (sh_e3 sh_int sh_int sh_int) _ _, isEmpty_cat _ _, _, rfl, ?_⟩
    refine if_jM (M := []) (F := F53) (fun b F' H' v => Dq K F' v ((e2 (eV (e2 PyData.int PyData.int)) (eV (e3 PyData.int PyData.int PyData.int))) b)) k (fun _ Q' kib63 => ?_) (fun _ Q' kib63 => ?_) (fun b63 v58 F59 H60 g61 r62 k => ?_)
    · have gF53_ := Gm.refl (M := []) eF53
      refine ⟨_, rfl, _, rfl, ?_⟩
      show _ ∧ _
      refine new_tup (K := K) (M := []) eF53 (.cons r29 (.cons r36 .nil)) (by show 2 ≤ 100000; decide) fun v69 F65 H66 g67 r68 => ?_
      have eF65 := g67.s
      have gF65 := gF53_.trans (g67.weak (by simp))
      replace r4 := r4.up g67.f
      replace r16 := r16.up g67.f
      replace r29 := r29.up g67.f
      replace w38 := w38.keep g67
      replace r36 := r36.up g67.f
      replace s41 := ex_t g67.f s41
      replace a42 := a42.up g67.f
      replace s45 := ex_t g67.f s45
      replace a46 := a46.up g67.f
      replace r51 := r51.up g67.f
      replace r56 := r56.up g67.f
      replace r68 : Dq K F65 v69 ((e2 (eV (e2 PyData.int PyData.int)) (eV (e3 PyData.int PyData.int PyData.int))) (b25.1, b32.1)) := r68
      exact kib63.h _ _ _ gF65 r68
    · have gF53_ := Gm.refl (M := []) eF53
      show _ ∧ _
      refine new_tup (K := K) (M := []) eF53 (.cons (Dq.int (0 : Int)) (.cons (Dq.int (1 : Int)) .nil)) (by show 2 ≤ 100000; decide) fun v74 F70 H71 g72 r73 => ?_
      have eF70 := g72.s
      have gF70 := gF53_.trans (g72.weak (by simp))
      replace r4 := r4.up g72.f
      replace r16 := r16.up g72.f
      replace r29 := r29.up g72.f
      replace w38 := w38.keep g72
      replace r36 := r36.up g72.f
      replace s41 := ex_t g72.f s41
      replace a42 := a42.up g72.f
      replace s45 := ex_t g72.f s45
      replace a46 := a46.up g72.f
      replace r51 := r51.up g72.f
      replace r56 := r56.up g72.f
      replace r73 : Dq K F70 v74 ((e2 PyData.int PyData.int) ((0 : Int), (1 : Int))) := r73
      show _ ∧ _
      refine new_tup (K := K) (M := []) eF70 (.cons r73 .nil) (by show 1 ≤ 100000; decide) fun v79 F75 H76 g77 r78 => ?_
      have eF75 := g77.s
      have gF75 := gF70.trans (g77.weak (by simp))
      replace r4 := r4.up g77.f
      replace r16 := r16.up g77.f
      replace r29 := r29.up g77.f
      replace w38 := w38.keep g77
      replace r36 := r36.up g77.f
      replace s41 := ex_t g77.f s41
      replace a42 := a42.up g77.f
      replace s45 := ex_t g77.f s45
      replace a46 := a46.up g77.f
      replace r51 := r51.up g77.f
      replace r56 := r56.up g77.f
      replace r73 := r73.up g77.f
      replace r78 : Dq K F75 v79 ((eV (e2 PyData.int PyData.int)) [((0 : Int), (1 : Int))]) := r78
      show _ ∧ _
      refine new_tup (K := K) (M := []) eF75 .nil (by show 0 ≤ 100000; decide) fun v84 F80 H81 g82 r83 => ?_
      have eF80 := g82.s
      have gF80 := gF75.trans (g82.weak (by simp))
      replace r4 := r4.up g82.f
      replace r16 := r16.up g82.f
      replace r29 := r29.up g82.f
      replace w38 := w38.keep g82
      replace r36 := r36.up g82.f
      replace s41 := ex_t g82.f s41
      replace a42 := a42.up g82.f
      replace s45 := ex_t g82.f s45
      replace a46 := a46.up g82.f
      replace r51 := r51.up g82.f
      replace r56 := r56.up g82.f
      replace r73 := r73.up g82.f
      replace r78 := r78.up g82.f
      replace r83 : Dq K F80 v84 (eV (e3 PyData.int PyData.int PyData.int) []) := r83
      show _ ∧ _
      refine new_tup (K := K) (M := []) eF80 (.cons r78 (.cons r83 .nil)) (by show 2 ≤ 100000; decide) fun v89 F85 H86 g87 r88 => ?_
      have eF85 := g87.s
      have gF85 := gF80.trans (g87.weak (by simp))
      replace r4 := r4.up g87.f
      replace r16 := r16.up g87.f
      replace r29 := r29.up g87.f
      replace w38 := w38.keep g87
      replace r36 := r36.up g87.f
      replace s41 := ex_t g87.f s41
      replace a42 := a42.up g87.f
      replace s45 := ex_t g87.f s45
      replace a46 := a46.up g87.f
      replace r51 := r51.up g87.f
      replace r56 := r56.up g87.f
      replace r73 := r73.up g87.f
      replace r78 := r78.up g87.f
      replace r83 := r83.up g87.f
      replace r88 : Dq K F85 v89 ((e2 (eV (e2 PyData.int PyData.int)) (eV (e3 PyData.int PyData.int PyData.int))) ([((0 : Int), (1 : Int))], [])) := r88
      exact kib63.h _ _ _ gF85 r88
    have eF59 := g61.s
    have gF59 := gF53.trans (g61.weak (by simp))
    replace r4 := r4.up g61.f
    replace r16 := r16.up g61.f
    replace r29 := r29.up g61.f
    replace w38 := w38.keep g61
    replace r36 := r36.up g61.f
    replace s41 := ex_t g61.f s41
    replace a42 := a42.up g61.f
    replace s45 := ex_t g61.f s45
    replace a46 := a46.up g61.f
    replace r51 := r51.up g61.f
    replace r56 := r56.up g61.f
    exact k.h _ _ _ gF59 ⟨r62, w38⟩
/-! ### _law_weighting -/
abbrev s_law_weighting : Stmt := top 44
theorem sc_law_weighting : FnScope ["_law_parts_here"] ["_law_parts_here"] (defScope s_law_weighting) := ⟨rfl, rfl, rfl, by decide +kernel, rfl, by decide +kernel, by decide +kernel⟩
def law_weighting (law_parts_here : ((List (Int × Int)) × (List (Int × Int × Int)))) : Mm Wt := (Weighting_init law_parts_here.1 law_parts_here.2).bd fun b7 => Mm.ok b7
def sp_law_weighting (K : PySem.W.Frag) (C : Addr) : Sp := fun vs H Q _ => ∃ (F : Hp) (v_law_parts_here : V) (law_parts_here : ((List (Int × Int)) × (List (Int × Int × Int)))), vs = [v_law_parts_here] ∧ Ex F H ∧ Dq K F v_law_parts_here ((e2 (eV (e2 PyData.int PyData.int)) (eV (e3 PyData.int PyData.int PyData.int))) law_parts_here) ∧ Post (law_weighting law_parts_here) (fun r => Ret [] F H (fun F' _ v => IsW K C F' v r) Q) (fun _ => False)
theorem ok_law_weighting {P : Program} {w : World} {K : PySem.W.Frag} {mg : Str → Option Value} {base : Heap} {C f : Addr} {fd : FuncData} (B : Bi mg) (FF : FunD K "_law_weighting" "_law_weighting" (defArgs s_law_weighting) (defBody s_law_weighting) (defScope s_law_weighting) [] [] f fd) (GC_Weighting : KnC P w K mg base CX0 "Weighting" C 4 ["self", "masses", "stretches"] (spW0 Weighting_init K C)) : FnOk P w K mg base CX0 6 f fd ["_law_parts_here"] (sp_law_weighting K C) := by
  refine FF.ok sc_law_weighting (fun vs H Q E h => ?_) (fun cdv A outer s H vs Q E hr h => ?_)
  · obtain ⟨F, v_law_parts_here, law_parts_here, rfl, _⟩ := h; rfl
  · obtain ⟨F, v_law_parts_here, law_parts_here, rfl, e, r_law_parts_here, k⟩ := h
    unfold law_weighting at k
    have g_ := Gm.refl (M := []) e
    refine ⟨_, PSs.nox (pss_one (ps_ret (pe_q (pe_knC GC_Weighting (hr.mono (by decide)) pass0 (pa_cons (pe_ix (r := rIxT K) ix_tup (pv 0) (pe_int) (fun _ _ => rfl)) (pa_cons (pe_ix (r := rIxT K) ix_tup (pv 0) (pe_int) (fun _ _ => rfl)) pa_nil)))))), ?_⟩
    refine ⟨_, rfl, ?_⟩
    obtain ⟨p1, x2, x3, rfl, s4, d5, d6⟩ := dp_tup2 r_law_parts_here
    refine ⟨_, _, _, _, rfl, rfl, ex_t e s4, rfl, _, rfl, ?_⟩
    refine ⟨_, _, _, _, rfl, rfl, ex_t e s4, rfl, ?_⟩
    refine make_W e d5 d6 ((post_bd k).mono (fun b7 k v12 F8 H9 g10 r11 => ?_) (fun _ z => z))
    have eF8 := g10.s
    have gF8 := g_.trans (g10.weak (by simp))
    replace r_law_parts_here := r_law_parts_here.up g10.f
    replace s4 := ex_t g10.f s4
    replace d5 := d5.up g10.f
    replace d6 := d6.up g10.f
    exact k.h _ _ _ gF8 r11
/-! ### _law_sum -/
abbrev s_law_sum : Stmt := top 45
theorem sc_law_sum : FnScope ["_law_parts_here", "_law_count", "_law_found", "_law_place", "_law_mass", "_law_by", "_law_turn", "_law_low_here", "_law_high", "_law_height", "_law_above", "_law_below"] ["_law_parts_here", "_law_count"] (defScope s_law_sum) := ⟨rfl, rfl, rfl, by decide +kernel, rfl, by decide +kernel, by decide +kernel⟩
def law_sum (law_parts_here : ((List (Int × Int)) × (List (Int × Int × Int)))) (law_count : Int) : Mm (Int × Int) := (foldM (fun (b16 : (Int × Int)) (x17 : (Int × Int)) => (rangeM law_count).bd fun l52 => (foldM (fun (b53 : Int) (x54 : Int) => (mulM b53 x17.1).bd fun m77 => Mm.ok m77) x17.2 (rangeL 0 law_count.toNat)).bd fun b70 => (law_add (b16) ((b70, (1 : Int)))).bd fun b92 => Mm.ok b92) ((0 : Int), (1 : Int)) law_parts_here.1).bd fun b33 => (foldM (fun (b115 : (Int × Int)) (x116 : (Int × Int × Int)) => (rangeM (law_count + (1 : Int))).bd fun l153 => (foldM (fun (b154 : (Int × Int)) (x155 : Int) => (mulM b154.1 x116.2.1).bd fun m176 => (mulM b154.2 x116.1).bd fun m179 => Mm.ok (m176, m179)) (x116.2.2, x116.2.2) (rangeL 0 (law_count + (1 : Int)).toNat)).bd fun b171 => (law_low ((b171.1 - b171.2)) ((law_count + (1 : Int)))).bd fun b187 => (law_add (b115) (b187)).bd fun b194 => Mm.ok b194) b33 law_parts_here.2).bd fun b132 => Mm.ok b132
def sp_law_sum (K : PySem.W.Frag) : Sp := fun vs H Q _ => ∃ (F : Hp) (v_law_parts_here : V) (law_parts_here : ((List (Int × Int)) × (List (Int × Int × Int)))) (law_count : Int), vs = [v_law_parts_here, (V.int law_count)] ∧ Ex F H ∧ Dq K F v_law_parts_here ((e2 (eV (e2 PyData.int PyData.int)) (eV (e3 PyData.int PyData.int PyData.int))) law_parts_here) ∧ Post (law_sum law_parts_here law_count) (fun r => Ret [] F H (fun F' _ v => Dq K F' v ((e2 PyData.int PyData.int) r)) Q) (fun _ => False)
theorem ok_law_sum {P : Program} {w : World} {K : PySem.W.Frag} {mg : Str → Option Value} {base : Heap} {C f : Addr} {fd : FuncData} (B : Bi mg) (FF : FunD K "_law_sum" "_law_sum" (defArgs s_law_sum) (defBody s_law_sum) (defScope s_law_sum) [] [] f fd) (G_law_add : Kn P w K mg base "_law_add" 2 ["_law_one", "_law_other"] (sp_law_add K)) (G_law_low : Kn P w K mg base "_law_low" 1 ["_law_top", "_law_bottom"] (sp_law_low K)) : FnOk P w K mg base CX0 3 f fd ["_law_parts_here", "_law_count"] (sp_law_sum K) := by
  refine FF.ok sc_law_sum (fun vs H Q E h => ?_) (fun cdv A outer s H vs Q E hr h => ?_)
  · obtain ⟨F, v_law_parts_here, law_parts_here, law_count, rfl, _⟩ := h; rfl
  · obtain ⟨F, v_law_parts_here, law_parts_here, law_count, rfl, e, r_law_parts_here, k⟩ := h
    unfold law_sum at k
    have g_ := Gm.refl (M := []) e
    refine ⟨_, PSs.nox (pss_cons (ps_set (i := 2) sc_law_sum.nd rfl (Or.inl rfl) (pe_q (pe_tup (pa_cons (pe_int) (pa_cons (pe_int) (pa_nil)))))) (pss_cons (ps_for PassesOwn.never rfl (pi_tup (pe_ix (r := rIxT K) ix_tup (pv 0) (pe_int) (fun _ _ => rfl))) (pg_tup (by rfl) (pgs_cons (pg_name (i := 3) sc_law_sum.nd rfl (Or.inl rfl)) (pgs_cons (pg_name (i := 4) sc_law_sum.nd rfl (Or.inl rfl)) (pgs_nil)))) (pss_cons (ps_set (i := 5) sc_law_sum.nd rfl (Or.inl rfl) (pv 4)) (pss_cons (ps_for PassesOwn.never rfl (pi_range1 rfl B.range (pa_cons (pv 1) (pa_nil))) (pg_name (i := 6) sc_law_sum.nd rfl (Or.inl rfl)) (pss_one (ps_set (i := 5) sc_law_sum.nd rfl (Or.inl rfl) (pe_op op_mulM (pv 5) (pv 3))))) (pss_one (ps_set (i := 2) sc_law_sum.nd rfl (Or.inl rfl) (pe_kn G_law_add (hr.mono (by decide)) (pa_cons (pv 2) (pa_cons (pe_q (pe_tup (pa_cons (pv 5) (pa_cons (pe_int) (pa_nil))))) (pa_nil))))))))) (pss_cons (ps_for PassesOwn.never rfl (pi_tup (pe_ix (r := rIxT K) ix_tup (pv 0) (pe_int) (fun _ _ => rfl))) (pg_tup (by rfl) (pgs_cons (pg_name (i := 7) sc_law_sum.nd rfl (Or.inl rfl)) (pgs_cons (pg_name (i := 8) sc_law_sum.nd rfl (Or.inl rfl)) (pgs_cons (pg_name (i := 9) sc_law_sum.nd rfl (Or.inl rfl)) (pgs_nil))))) (pss_cons (ps_par (i := 10) (j := 11) (by rfl) sc_law_sum.nd rfl rfl (by decide) rfl rfl (pa_cons (pv 9) (pa_cons (pv 9) (pa_nil))) (by rfl)) (pss_cons (ps_for PassesOwn.never rfl (pi_range1 rfl B.range (pa_cons (pe_op op_add (pv 1) (pe_int)) (pa_nil))) (pg_name (i := 6) sc_law_sum.nd rfl (Or.inl rfl)) (pss_one (ps_par (i := 10) (j := 11) (by rfl) sc_law_sum.nd rfl rfl (by decide) rfl rfl (pa_cons (pe_op op_mulM (pv 10) (pv 8)) (pa_cons (pe_op op_mulM (pv 11) (pv 7)) (pa_nil))) (by rfl)))) (pss_one (ps_set (i := 2) sc_law_sum.nd rfl (Or.inl rfl) (pe_kn G_law_add (hr.mono (by decide)) (pa_cons (pv 2) (pa_cons (pe_kn G_law_low (hr.mono (by decide)) (pa_cons (pe_op op_sub (pv 10) (pv 11)) (pa_cons (pe_op op_add (pv 1) (pe_int)) (pa_nil)))) (pa_nil))))))))) (pss_one (ps_ret (pv 2)))))), ?_⟩
    show _ ∧ _
    refine new_tup (K := K) (M := []) e (.cons (Dq.int (0 : Int)) (.cons (Dq.int (1 : Int)) .nil)) (by show 2 ≤ 100000; decide) fun v5 F1 H2 g3 r4 => ?_
    have eF1 := g3.s
    have gF1 := g_.trans (g3.weak (by simp))
    replace r_law_parts_here := r_law_parts_here.up g3.f
    replace r4 : Dq K F1 v5 ((e2 PyData.int PyData.int) ((0 : Int), (1 : Int))) := r4
    refine ⟨_, rfl, ?_⟩
    obtain ⟨p6, x7, x8, rfl, s9, d10, d11⟩ := dp_tup2 r_law_parts_here
    refine ⟨_, _, _, _, rfl, rfl, ex_t eF1 s9, rfl, ?_⟩
    obtain ⟨p12, xs13, rfl, s14, a15⟩ := dp_tup d10
    refine ⟨_, rfl, ⟨_, (ex_t eF1 s14)⟩, ?_⟩
    refine for_m (M := []) (F := F1) (wlk_tup eF1 s14 a15) (fun b16 F' H' σ' => ∃ (c2 : V) (u3 : Option V) (u4 : Option V) (u5 : Option V) (u6 : Option V) (u7 : Option V) (u8 : Option V) (u9 : Option V) (u10 : Option V) (u11 : Option V), σ' = [some (V.ref p6), some (V.int law_count), some c2, u3, u4, u5, u6, u7, u8, u9, u10, u11] ∧ Dq K F' c2 ((e2 PyData.int PyData.int) b16)) k eF1 ⟨_, _, _, _, _, _, _, _, _, _, rfl, r4⟩ (fun b16 x17 v25 σ27 F18 H19 F20 H21 g22 i26 g23 r24 nx kfb16 => ?_) (fun b33 σ32 F28 H29 g30 i31 k => ?_)
    · replace r_law_parts_here := r_law_parts_here.up g22.f
      replace r4 := r4.up g22.f
      replace s9 := ex_t g22.f s9
      replace d10 := d10.up g22.f
      replace d11 := d11.up g22.f
      replace s14 := ex_t g22.f s14
      replace a15 := a15.up g22.f
      obtain ⟨c34, u35, u36, u37, u38, u39, u40, u41, u42, u43, rfl, r44⟩ := i26
      replace r_law_parts_here := r_law_parts_here.up g23.f
      replace s9 := ex_t g23.f s9
      replace d10 := d10.up g23.f
      replace d11 := d11.up g23.f
      replace s14 := ex_t g23.f s14
      replace a15 := a15.up g23.f
      replace r44 := r44.up g23.f
      have eF20 := g23.s
      have gF20 := g22.trans (g23.weak (by simp))
      obtain ⟨p45, x46, x47, rfl, s48, d49, d50⟩ := dp_tup2 r24
      obtain rfl := dp_int d49
      obtain rfl := dp_int d50
      refine ⟨_, _, rfl, ex_t eF20 s48, rfl, _, _, rfl, _, _, rfl, rfl, ?_⟩
      refine ⟨_, rfl, ?_⟩
      refine ⟨_, rfl, ?_⟩
      obtain ⟨h51, kfb16⟩ := post_range kfb16
      refine ⟨_, rfl, h51.1, h51.2, ?_⟩
      refine for_m (M := []) (F := F20) wlk_range (fun b53 F' H' σ' => ∃ (u6 : Option V) (u7 : Option V) (u8 : Option V) (u9 : Option V) (u10 : Option V) (u11 : Option V), σ' = [some (V.ref p6), some (V.int law_count), some c34, some (V.int x17.1), some (V.int x17.2), some (V.int b53), u6, u7, u8, u9, u10, u11]) kfb16 eF20 ⟨_, _, _, _, _, _, rfl⟩ (fun b53 x54 v62 σ64 F55 H56 F57 H58 g59 i63 g60 r61 nx kfb16fb53 => ?_) (fun b70 σ69 F65 H66 g67 i68 kfb16 => ?_)
      · replace r_law_parts_here := r_law_parts_here.up g59.f
        replace s9 := ex_t g59.f s9
        replace d10 := d10.up g59.f
        replace d11 := d11.up g59.f
        replace s14 := ex_t g59.f s14
        replace a15 := a15.up g59.f
        replace r44 := r44.up g59.f
        replace r24 := r24.up g59.f
        replace s48 := ex_t g59.f s48
        obtain ⟨u71, u72, u73, u74, u75, u76, rfl⟩ := i63
        replace r_law_parts_here := r_law_parts_here.up g60.f
        replace s9 := ex_t g60.f s9
        replace d10 := d10.up g60.f
        replace d11 := d11.up g60.f
        replace s14 := ex_t g60.f s14
        replace a15 := a15.up g60.f
        replace r44 := r44.up g60.f
        replace r24 := r24.up g60.f
        replace s48 := ex_t g60.f s48
        have eF57 := g60.s
        have gF57 := g59.trans (g60.weak (by simp))
        subst r61
        refine ⟨_, rfl, _, rfl, ?_⟩
        obtain ⟨m77, c78, q79, kfb16fb53⟩ := post_mul kfb16fb53
        refine ⟨_, _, _, rfl, rfl, c78, q79, ?_⟩
        exact kfb16fb53.h _ _ _ gF57 ⟨_, _, _, _, _, _, rfl⟩
      have g80 := gF20.trans (g67.weak (by simp))
      replace r_law_parts_here := r_law_parts_here.up g67.f
      replace s9 := ex_t g67.f s9
      replace d10 := d10.up g67.f
      replace d11 := d11.up g67.f
      replace s14 := ex_t g67.f s14
      replace a15 := a15.up g67.f
      replace r44 := r44.up g67.f
      replace r24 := r24.up g67.f
      replace s48 := ex_t g67.f s48
      have eF65 := g67.s
      obtain ⟨u81, u82, u83, u84, u85, u86, rfl⟩ := i68
      refine ⟨_, rfl, _, rfl, ?_⟩
      show _ ∧ _
      refine new_tup (K := K) (M := []) eF65 (.cons (Dq.int b70) (.cons (Dq.int (1 : Int)) .nil)) (by show 2 ≤ 100000; decide) fun v91 F87 H88 g89 r90 => ?_
      have eF87 := g89.s
      have gF87 := g80.trans (g89.weak (by simp))
      replace r_law_parts_here := r_law_parts_here.up g89.f
      replace s9 := ex_t g89.f s9
      replace d10 := d10.up g89.f
      replace d11 := d11.up g89.f
      replace s14 := ex_t g89.f s14
      replace a15 := a15.up g89.f
      replace r44 := r44.up g89.f
      replace r24 := r24.up g89.f
      replace s48 := ex_t g89.f s48
      replace r90 : Dq K F87 v91 ((e2 PyData.int PyData.int) (b70, (1 : Int))) := r90
      refine ⟨F87, _, b16, _, (b70, (1 : Int)), rfl, eF87, r44, r90, (post_bd kfb16).mono (fun b92 kfb16 v97 F93 H94 g95 r96 => ?_) (fun _ z => z)⟩
      have eF93 := g95.s
      have gF93 := gF87.trans (g95.weak (by simp))
      replace r_law_parts_here := r_law_parts_here.up g95.f
      replace s9 := ex_t g95.f s9
      replace d10 := d10.up g95.f
      replace d11 := d11.up g95.f
      replace s14 := ex_t g95.f s14
      replace a15 := a15.up g95.f
      replace r44 := r44.up g95.f
      replace r24 := r24.up g95.f
      replace s48 := ex_t g95.f s48
      replace r90 := r90.up g95.f
      exact kfb16.h _ _ _ gF93 ⟨_, _, _, _, _, _, _, _, _, _, rfl, r96⟩
    have g99 := gF1.trans (g30.weak (by simp))
    replace r_law_parts_here := r_law_parts_here.up g30.f
    replace r4 := r4.up g30.f
    replace s9 := ex_t g30.f s9
    replace d10 := d10.up g30.f
    replace d11 := d11.up g30.f
    replace s14 := ex_t g30.f s14
    replace a15 := a15.up g30.f
    have eF28 := g30.s
    obtain ⟨c100, u101, u102, u103, u104, u105, u106, u107, u108, u109, rfl, r110⟩ := i31
    refine ⟨_, rfl, ?_⟩
    refine ⟨_, _, _, _, rfl, rfl, ex_t eF28 s9, rfl, ?_⟩
    obtain ⟨p111, xs112, rfl, s113, a114⟩ := dp_tup d11
    refine ⟨_, rfl, ⟨_, (ex_t eF28 s113)⟩, ?_⟩
    refine for_m (M := []) (F := F28) (wlk_tup eF28 s113 a114) (fun b115 F' H' σ' => ∃ (c2 : V) (u3 : Option V) (u4 : Option V) (u5 : Option V) (u6 : Option V) (u7 : Option V) (u8 : Option V) (u9 : Option V) (u10 : Option V) (u11 : Option V), σ' = [some (V.ref p6), some (V.int law_count), some c2, u3, u4, u5, u6, u7, u8, u9, u10, u11] ∧ Dq K F' c2 ((e2 PyData.int PyData.int) b115)) k eF28 ⟨_, _, _, _, _, _, _, _, _, _, rfl, r110⟩ (fun b115 x116 v124 σ126 F117 H118 F119 H120 g121 i125 g122 r123 nx kfb115 => ?_) (fun b132 σ131 F127 H128 g129 i130 k => ?_)
    · replace r_law_parts_here := r_law_parts_here.up g121.f
      replace s9 := ex_t g121.f s9
      replace d10 := d10.up g121.f
      replace d11 := d11.up g121.f
      replace s14 := ex_t g121.f s14
      replace a15 := a15.up g121.f
      replace r110 := r110.up g121.f
      replace s113 := ex_t g121.f s113
      replace a114 := a114.up g121.f
      obtain ⟨c133, u134, u135, u136, u137, u138, u139, u140, u141, u142, rfl, r143⟩ := i125
      replace r_law_parts_here := r_law_parts_here.up g122.f
      replace s9 := ex_t g122.f s9
      replace d10 := d10.up g122.f
      replace d11 := d11.up g122.f
      replace s14 := ex_t g122.f s14
      replace a15 := a15.up g122.f
      replace s113 := ex_t g122.f s113
      replace a114 := a114.up g122.f
      replace r143 := r143.up g122.f
      have eF119 := g122.s
      have gF119 := g121.trans (g122.weak (by simp))
      obtain ⟨p144, x145, x146, x147, rfl, s148, d149, d150, d151⟩ := dp_tup3 r123
      obtain rfl := dp_int d149
      obtain rfl := dp_int d150
      obtain rfl := dp_int d151
      refine ⟨_, _, rfl, ex_t eF119 s148, rfl, _, _, rfl, _, _, rfl, _, _, rfl, rfl, ?_⟩
      refine ⟨_, rfl, _, rfl, _, _, rfl, ?_⟩
      refine ⟨_, rfl, _, _, rfl, rfl, ?_⟩
      obtain ⟨h152, kfb115⟩ := post_range kfb115
      refine ⟨_, rfl, h152.1, h152.2, ?_⟩
      refine for_m (M := []) (F := F119) wlk_range (fun b154 F' H' σ' => ∃ (u3 : Option V) (u4 : Option V) (u5 : Option V) (u6 : Option V), σ' = [some (V.ref p6), some (V.int law_count), some c133, u3, u4, u5, u6, some (V.int x116.1), some (V.int x116.2.1), some (V.int x116.2.2), some (V.int b154.1), some (V.int b154.2)]) kfb115 eF119 ⟨_, _, _, _, rfl⟩ (fun b154 x155 v163 σ165 F156 H157 F158 H159 g160 i164 g161 r162 nx kfb115fb154 => ?_) (fun b171 σ170 F166 H167 g168 i169 kfb115 => ?_)
      · replace r_law_parts_here := r_law_parts_here.up g160.f
        replace s9 := ex_t g160.f s9
        replace d10 := d10.up g160.f
        replace d11 := d11.up g160.f
        replace s14 := ex_t g160.f s14
        replace a15 := a15.up g160.f
        replace s113 := ex_t g160.f s113
        replace a114 := a114.up g160.f
        replace r143 := r143.up g160.f
        replace r123 := r123.up g160.f
        replace s148 := ex_t g160.f s148
        obtain ⟨u172, u173, u174, u175, rfl⟩ := i164
        replace r_law_parts_here := r_law_parts_here.up g161.f
        replace s9 := ex_t g161.f s9
        replace d10 := d10.up g161.f
        replace d11 := d11.up g161.f
        replace s14 := ex_t g161.f s14
        replace a15 := a15.up g161.f
        replace s113 := ex_t g161.f s113
        replace a114 := a114.up g161.f
        replace r143 := r143.up g161.f
        replace r123 := r123.up g161.f
        replace s148 := ex_t g161.f s148
        have eF158 := g161.s
        have gF158 := g160.trans (g161.weak (by simp))
        subst r162
        refine ⟨_, rfl, _, rfl, ?_⟩
        obtain ⟨m176, c177, q178, kfb115fb154⟩ := post_mul kfb115fb154
        refine ⟨_, _, _, rfl, rfl, c177, q178, _, rfl, _, rfl, ?_⟩
        obtain ⟨m179, c180, q181, kfb115fb154⟩ := post_mul kfb115fb154
        refine ⟨_, _, _, rfl, rfl, c180, q181, _, _, rfl, ?_⟩
        exact kfb115fb154.h _ _ _ gF158 ⟨_, _, _, _, rfl⟩
      have g182 := gF119.trans (g168.weak (by simp))
      replace r_law_parts_here := r_law_parts_here.up g168.f
      replace s9 := ex_t g168.f s9
      replace d10 := d10.up g168.f
      replace d11 := d11.up g168.f
      replace s14 := ex_t g168.f s14
      replace a15 := a15.up g168.f
      replace s113 := ex_t g168.f s113
      replace a114 := a114.up g168.f
      replace r143 := r143.up g168.f
      replace r123 := r123.up g168.f
      replace s148 := ex_t g168.f s148
      have eF166 := g168.s
      obtain ⟨u183, u184, u185, u186, rfl⟩ := i169
      refine ⟨_, rfl, _, rfl, _, rfl, _, _, rfl, rfl, _, rfl, _, _, rfl, rfl, ?_⟩
      refine ⟨F166, (b171.1 - b171.2), (law_count + (1 : Int)), rfl, eF166, (post_bd kfb115).mono (fun b187 kfb115 v192 F188 H189 g190 r191 => ?_) (fun _ z => z)⟩
      have eF188 := g190.s
      have gF188 := g182.trans (g190.weak (by simp))
      replace r_law_parts_here := r_law_parts_here.up g190.f
      replace s9 := ex_t g190.f s9
      replace d10 := d10.up g190.f
      replace d11 := d11.up g190.f
      replace s14 := ex_t g190.f s14
      replace a15 := a15.up g190.f
      replace s113 := ex_t g190.f s113
      replace a114 := a114.up g190.f
      replace r143 := r143.up g190.f
      replace r123 := r123.up g190.f
      replace s148 := ex_t g190.f s148
      refine ⟨F188, _, b115, _, b187, rfl, eF188, r143, r191, (post_bd kfb115).mono (fun b194 kfb115 v199 F195 H196 g197 r198 => ?_) (fun _ z => z)⟩
      have eF195 := g197.s
      have gF195 := gF188.trans (g197.weak (by simp))
      replace r_law_parts_here := r_law_parts_here.up g197.f
      replace s9 := ex_t g197.f s9
      replace d10 := d10.up g197.f
      replace d11 := d11.up g197.f
      replace s14 := ex_t g197.f s14
      replace a15 := a15.up g197.f
      replace s113 := ex_t g197.f s113
      replace a114 := a114.up g197.f
      replace r143 := r143.up g197.f
      replace r123 := r123.up g197.f
      replace s148 := ex_t g197.f s148
      replace r191 := r191.up g197.f
      exact kfb115.h _ _ _ gF195 ⟨_, _, _, _, _, _, _, _, _, _, rfl, r198⟩
    have g201 := g99.trans (g129.weak (by simp))
    replace r_law_parts_here := r_law_parts_here.up g129.f
    replace s9 := ex_t g129.f s9
    replace d10 := d10.up g129.f
    replace d11 := d11.up g129.f
    replace s14 := ex_t g129.f s14
    replace a15 := a15.up g129.f
    replace r110 := r110.up g129.f
    replace s113 := ex_t g129.f s113
    replace a114 := a114.up g129.f
    have eF127 := g129.s
    obtain ⟨c202, u203, u204, u205, u206, u207, u208, u209, u210, u211, rfl, r212⟩ := i130
    refine ⟨_, rfl, ?_⟩
    exact k.h _ _ _ g201 r212
/-! ### _law_total -/
abbrev s_law_total : Stmt := top 46
theorem sc_law_total : FnScope ["_law_parts_here", "_law_some", "_law_found", "_law_k"] ["_law_parts_here", "_law_some"] (defScope s_law_total) := ⟨rfl, rfl, rfl, by decide +kernel, rfl, by decide +kernel, by decide +kernel⟩
def law_total (law_parts_here : ((List (Int × Int)) × (List (Int × Int × Int)))) (law_some : (List (Int × Int))) : Mm (Int × Int) := (rangeM (law_some.length : Int)).bd fun l11 => (foldM (fun (b12 : (Int × Int)) (x13 : Int) => (getM law_some x13).bd fun i33 => (law_sum (law_parts_here) (x13)).bd fun b38 => (law_mul (i33) (b38)).bd fun b45 => (law_add (b12) (b45)).bd fun b52 => Mm.ok b52) ((0 : Int), (1 : Int)) (rangeL 0 (law_some.length : Int).toNat)).bd fun b29 => Mm.ok b29
def sp_law_total (K : PySem.W.Frag) : Sp := fun vs H Q _ => ∃ (F : Hp) (v_law_parts_here : V) (law_parts_here : ((List (Int × Int)) × (List (Int × Int × Int)))) (v_law_some : V) (law_some : (List (Int × Int))), vs = [v_law_parts_here, v_law_some] ∧ Ex F H ∧ Dq K F v_law_parts_here ((e2 (eV (e2 PyData.int PyData.int)) (eV (e3 PyData.int PyData.int PyData.int))) law_parts_here) ∧ Dq K F v_law_some ((eL (e2 PyData.int PyData.int)) law_some) ∧ Post (law_total law_parts_here law_some) (fun r => Ret [] F H (fun F' _ v => Dq K F' v ((e2 PyData.int PyData.int) r)) Q) (fun _ => False)
theorem ok_law_total {P : Program} {w : World} {K : PySem.W.Frag} {mg : Str → Option Value} {base : Heap} {C f : Addr} {fd : FuncData} (B : Bi mg) (FF : FunD K "_law_total" "_law_total" (defArgs s_law_total) (defBody s_law_total) (defScope s_law_total) [] [] f fd) (G_law_add : Kn P w K mg base "_law_add" 2 ["_law_one", "_law_other"] (sp_law_add K)) (G_law_mul : Kn P w K mg base "_law_mul" 2 ["_law_one", "_law_other"] (sp_law_mul K)) (G_law_sum : Kn P w K mg base "_law_sum" 3 ["_law_parts_here", "_law_count"] (sp_law_sum K)) : FnOk P w K mg base CX0 4 f fd ["_law_parts_here", "_law_some"] (sp_law_total K) := by
  refine FF.ok sc_law_total (fun vs H Q E h => ?_) (fun cdv A outer s H vs Q E hr h => ?_)
  · obtain ⟨F, v_law_parts_here, law_parts_here, v_law_some, law_some, rfl, _⟩ := h; rfl
  · obtain ⟨F, v_law_parts_here, law_parts_here, v_law_some, law_some, rfl, e, r_law_parts_here, r_law_some, k⟩ := h
    unfold law_total at k
    have g_ := Gm.refl (M := []) e
    refine ⟨_, PSs.nox (pss_cons (ps_set (i := 2) sc_law_total.nd rfl (Or.inl rfl) (pe_q (pe_tup (pa_cons (pe_int) (pa_cons (pe_int) (pa_nil)))))) (pss_cons (ps_for PassesOwn.never rfl (pi_range1 rfl B.range (pa_cons (pe_callB call_lenM (by rfl) B.len (by decide +kernel) (pa_cons (pv 1) pa_nil)) (pa_nil))) (pg_name (i := 3) sc_law_total.nd rfl (Or.inl rfl)) (pss_one (ps_set (i := 2) sc_law_total.nd rfl (Or.inl rfl) (pe_kn G_law_add (hr.mono (by decide)) (pa_cons (pv 2) (pa_cons (pe_kn G_law_mul (hr.mono (by decide)) (pa_cons (pe_ix (r := rIxL K) ix_list (pv 1) (pv 3) (fun _ _ => rfl)) (pa_cons (pe_kn G_law_sum (hr.mono (by decide)) (pa_cons (pv 0) (pa_cons (pv 3) (pa_nil)))) (pa_nil)))) (pa_nil))))))) (pss_one (ps_ret (pv 2))))), ?_⟩
    show _ ∧ _
    refine new_tup (K := K) (M := []) e (.cons (Dq.int (0 : Int)) (.cons (Dq.int (1 : Int)) .nil)) (by show 2 ≤ 100000; decide) fun v5 F1 H2 g3 r4 => ?_
    have eF1 := g3.s
    have gF1 := g_.trans (g3.weak (by simp))
    replace r_law_parts_here := r_law_parts_here.up g3.f
    replace r_law_some := r_law_some.up g3.f
    replace r4 : Dq K F1 v5 ((e2 PyData.int PyData.int) ((0 : Int), (1 : Int))) := r4
    refine ⟨_, rfl, ?_⟩
    obtain ⟨p6, xs7, rfl, s8, a9⟩ := dp_lst r_law_some
    refine ⟨_, _, _, rfl, .inl (sq_of (eF1 _ _ s8)), len_all a9, ?_⟩
    obtain ⟨h10, k⟩ := post_range k
    refine ⟨_, rfl, h10.1, h10.2, ?_⟩
    refine for_m (M := []) (F := F1) wlk_range (fun b12 F' H' σ' => ∃ (c2 : V) (u3 : Option V), σ' = [some v_law_parts_here, some (V.ref p6), some c2, u3] ∧ Dq K F' c2 ((e2 PyData.int PyData.int) b12)) k eF1 ⟨_, _, rfl, r4⟩ (fun b12 x13 v21 σ23 F14 H15 F16 H17 g18 i22 g19 r20 nx kfb12 => ?_) (fun b29 σ28 F24 H25 g26 i27 k => ?_)
    · replace r_law_parts_here := r_law_parts_here.up g18.f
      replace r_law_some := r_law_some.up g18.f
      replace r4 := r4.up g18.f
      replace s8 := g18.f _ _ s8
      replace a9 := a9.up g18.f
      obtain ⟨c30, u31, rfl, r32⟩ := i22
      replace r_law_parts_here := r_law_parts_here.up g19.f
      replace r_law_some := r_law_some.up g19.f
      replace s8 := g19.f _ _ s8
      replace a9 := a9.up g19.f
      replace r32 := r32.up g19.f
      have eF16 := g19.s
      have gF16 := g18.trans (g19.weak (by simp))
      subst r20
      refine ⟨_, rfl, _, rfl, _, rfl, ?_⟩
      obtain ⟨i33, h34, kfb12⟩ := post_get kfb12
      obtain ⟨v35, h36, r37⟩ := dq_at a9 h34
      refine ⟨_, _, _, _, rfl, rfl, (sq_of (eF16 _ _ s8)), h36, ?_⟩
      refine ⟨_, rfl, _, rfl, ?_⟩
      refine ⟨F16, _, law_parts_here, x13, rfl, eF16, r_law_parts_here, (post_bd kfb12).mono (fun b38 kfb12 v43 F39 H40 g41 r42 => ?_) (fun _ z => z)⟩
      have eF39 := g41.s
      have gF39 := gF16.trans (g41.weak (by simp))
      replace r_law_parts_here := r_law_parts_here.up g41.f
      replace r_law_some := r_law_some.up g41.f
      replace s8 := g41.f _ _ s8
      replace a9 := a9.up g41.f
      replace r32 := r32.up g41.f
      replace r37 := r37.up g41.f
      refine ⟨F39, _, i33, _, b38, rfl, eF39, r37, r42, (post_bd kfb12).mono (fun b45 kfb12 v50 F46 H47 g48 r49 => ?_) (fun _ z => z)⟩
      have eF46 := g48.s
      have gF46 := gF39.trans (g48.weak (by simp))
      replace r_law_parts_here := r_law_parts_here.up g48.f
      replace r_law_some := r_law_some.up g48.f
      replace s8 := g48.f _ _ s8
      replace a9 := a9.up g48.f
      replace r32 := r32.up g48.f
      replace r37 := r37.up g48.f
      replace r42 := r42.up g48.f
      refine ⟨F46, _, b12, _, b45, rfl, eF46, r32, r49, (post_bd kfb12).mono (fun b52 kfb12 v57 F53 H54 g55 r56 => ?_) (fun _ z => z)⟩
      have eF53 := g55.s
      have gF53 := gF46.trans (g55.weak (by simp))
      replace r_law_parts_here := r_law_parts_here.up g55.f
      replace r_law_some := r_law_some.up g55.f
      replace s8 := g55.f _ _ s8
      replace a9 := a9.up g55.f
      replace r32 := r32.up g55.f
      replace r37 := r37.up g55.f
      replace r42 := r42.up g55.f
      replace r49 := r49.up g55.f
      exact kfb12.h _ _ _ gF53 ⟨_, _, rfl, r56⟩
    have g59 := gF1.trans (g26.weak (by simp))
    replace r_law_parts_here := r_law_parts_here.up g26.f
    replace r_law_some := r_law_some.up g26.f
    replace r4 := r4.up g26.f
    replace s8 := g26.f _ _ s8
    replace a9 := a9.up g26.f
    have eF24 := g26.s
    obtain ⟨c60, u61, rfl, r62⟩ := i27
    refine ⟨_, rfl, ?_⟩
    exact k.h _ _ _ g59 r62
/-! ### law -/
abbrev s_law : Stmt := top 47
theorem sc_law : FnScope ["_law_script", "_law_row", "_law_parts_here", "_law_one", "_law_count", "_law_at", "_law_some", "_law_due", "_law_cut", "_law_used", "_law_low_here", "_law_high", "_law_height", "_law_middle", "_law_k", "_law_part"] ["_law_script"] (defScope s_law) := ⟨rfl, rfl, rfl, by decide +kernel, rfl, by decide +kernel, by decide +kernel⟩
def law (scr : List Int) : Mm Bool := (law_parts scr (Rw.mk 0 0 0)).bd fun b1 => (law_weighting (b1.1)).bd fun b8 => (pickM takenA scr b1.2 [(3 : Int), (12 : Int), (61 : Int)]).bd fun b20 => (power_sums (b8) (b20.1)).bd fun b27 => (rangeM b20.1).bd fun l35 => (guardM ((rangeL 0 b20.1.toNat).length ≤ 50000)).bd fun _ => (mapMm (fun (x38 : Int) => (law_sum (b1.1) (x38)).bd fun b57 => Mm.ok b57) (rangeL 0 b20.1.toNat)).bd fun b37 => cond (!(decide (b27 = b37))) (Mm.ok false) ((takenA scr b20.2 ((61 : Int))).bd fun b65 => (power_sum (b8) (b65.1)).bd fun b72 => (law_sum (b1.1) (b65.1)).bd fun b79 => cond (!(decide (b72 = b79))) (Mm.ok false) ((takenA scr b65.2 ((14 : Int))).bd fun b86 => (rangeM b86.1).bd fun l94 => (guardM ((rangeL 0 b86.1.toNat).length ≤ 50000)).bd fun _ => (mapSt (fun (st104 : Rw) (x97 : Int) => (takenA scr st104 ((21 : Int))).bd fun b116 => Mm.ok ((b116.1 - (10 : Int)), b116.2)) b86.2 (rangeL 0 b86.1.toNat)).bd fun b96 => (guardM (b96.1.length ≤ 50000)).bd fun _ => (mapMm (fun (x139 : Int) => Mm.ok (x139, (1 : Int))) b96.1).bd fun b138 => (law_total (b1.1) (b138)).bd fun b164 => (total (b8) (b96.1)).bd fun b171 => cond (!(decide (b171 = b164))) (Mm.ok false) ((mean (b8) (b96.1)).bd fun b178 => (law_sum (b1.1) ((0 : Int))).bd fun b185 => (law_over (b164) (b185)).bd fun b192 => cond (!(decide (b178 = b192))) (Mm.ok false) ((foldM (fun (b216 : (Bool × (List (Int × Int × Int)) × Rw)) (x217 : (Int × Int × Int)) => (cond (decide ((x217.2.1 - x217.1) > (1 : Int))) ((cond (!b216.1) (Mm.ok (decide ((b1.1.2.length : Int) < (4 : Int)))) (Mm.ok false)).bd fun b257 => Mm.ok b257) (Mm.ok false)).bd fun b253 => cond b253 ((takenA scr b216.2.2 (((x217.2.1 - x217.1) - (1 : Int)))).bd fun b261 => (guardM (b216.2.1.length + [(x217.1, ((x217.1 + (1 : Int)) + b261.1), x217.2.2), (((x217.1 + (1 : Int)) + b261.1), x217.2.1, x217.2.2)].length ≤ 100000)).bd fun _ => Mm.ok (true, (b216.2.1 ++ [(x217.1, ((x217.1 + (1 : Int)) + b261.1), x217.2.2), (((x217.1 + (1 : Int)) + b261.1), x217.2.1, x217.2.2)]), b261.2)) ((guardM (b216.2.1.length < 100000)).bd fun _ => Mm.ok (b216.1, (b216.2.1 ++ [(x217.1, x217.2.1, x217.2.2)]), b216.2.2))) (false, [], b96.2) b1.1.2).bd fun b233 => (Weighting_init b1.1.1 b233.2.1).bd fun b320 => (power_sums (b320) ((13 : Int))).bd fun b326 => (power_sums (b8) ((13 : Int))).bd fun b333 => cond (decide (b326 = b333)) ((total (b8) ([])).bd fun b345 => Mm.ok (decide (b345 = ((0 : Int), (1 : Int))))) (Mm.ok false)))))
def sp_law (K : PySem.W.Frag) : Sp := fun vs H Q _ => ∃ (sc : Addr) (scr : List Int), vs = [.ref sc] ∧ SqL K H sc (scr.map V.int) ∧ Post (law scr) (fun r => ∀ H', Q (.bl r) H') (fun _ => False)
theorem ok_law {P : Program} {w : World} {K : PySem.W.Frag} {mg : Str → Option Value} {base : Heap} {C f : Addr} {fd : FuncData} (B : Bi mg) (FF : FunD K "law" "law" (defArgs s_law) (defBody s_law) (defScope s_law) [] [] f fd) (G_law_parts : Kn P w K mg base "_law_parts" 4 ["_law_row"] (sp_law_parts K)) (G_law_weighting : Kn P w K mg base "_law_weighting" 6 ["_law_parts_here"] (sp_law_weighting K C)) (G_law_pick : Kn P w K mg base "_law_pick" 2 ["_law_row", "_law_some"] (spPick takenA K)) (G_power_sums : Kn P w K mg base "power_sums" 4 ["weighting", "count"] (sp_power_sums K C)) (G_law_sum : Kn P w K mg base "_law_sum" 3 ["_law_parts_here", "_law_count"] (sp_law_sum K)) (G_law_taken : Kn P w K mg base "_law_taken" 1 ["_law_row", "_law_many"] (spTaken takenA K)) (G_power_sum : Kn P w K mg base "power_sum" 3 ["weighting", "power"] (sp_power_sum K C)) (G_law_total : Kn P w K mg base "_law_total" 4 ["_law_parts_here", "_law_some"] (sp_law_total K)) (G_total : Kn P w K mg base "total" 5 ["weighting", "polynomial"] (sp_total K C)) (G_mean : Kn P w K mg base "mean" 6 ["weighting", "polynomial"] (sp_mean K C)) (G_law_over : Kn P w K mg base "_law_over" 2 ["_law_one", "_law_other"] (sp_law_over K)) (GC_Weighting : KnC P w K mg base CX0 "Weighting" C 4 ["self", "masses", "stretches"] (spW0 Weighting_init K C)) : FnOk P w K mg base CX0 7 f fd ["_law_script"] (sp_law K) := by
  refine FF.ok sc_law (fun vs H Q E h => ?_) (fun cdv A outer s H vs Q E hr h => ?_)
  · obtain ⟨sc, scr, rfl, _⟩ := h; rfl
  · obtain ⟨sc, scr, rfl, hs, k⟩ := h
    unfold law at k
    refine ⟨_, PSs.nox (pss_cons (ps_set (i := 1) sc_law.nd rfl (Or.inr rfl) (pe_q (pe_lst (pa_cons (pv 0) (pa_cons pe_int (pa_cons pe_int (pa_cons pe_int pa_nil))))))) (pss_cons (ps_set (i := 2) sc_law.nd rfl (Or.inr rfl) (pe_kn G_law_parts (hr.mono (by decide)) (pa_cons (pv 1) (pa_nil)))) (pss_cons (ps_par (i := 3) (j := 4) (by rfl) sc_law.nd rfl rfl (by decide) rfl rfl (pa_cons (pe_kn G_law_weighting (hr.mono (by decide)) (pa_cons (pv 2) (pa_nil))) (pa_cons (pe_kn G_law_pick (hr.mono (by decide)) (pa_cons (pv 1) (pa_cons (pe_q (pe_lst (pa_cons (pe_int) (pa_cons (pe_int) (pa_cons (pe_int) (pa_nil)))))) pa_nil))) (pa_nil))) (by rfl)) (pss_cons (ps_if (pt_cmpR (r := rNeM K (eL (e2 PyData.int PyData.int))) (op_neM (sh_eL (sh_e2 sh_int sh_int)) (units_of hr)) (pe_kn G_power_sums (hr.mono (by decide)) (pa_cons (pv 3) (pa_cons (pv 4) (pa_nil)))) (pe_q (pe_lc (own := [("_law_k", 14)]) (g := gName 14) rfl sc_law.nd (pi_range1 rfl B.range (pa_cons (pv 4) (pa_nil))) (blkOk_by (N := ["_law_script", "_law_row", "_law_parts_here", "_law_one", "_law_count", "_law_at", "_law_some", "_law_due", "_law_cut", "_law_used", "_law_low_here", "_law_high", "_law_height", "_law_middle", "_law_k", "_law_part"]) (sc := defScope s_law) (by decide +kernel)) (fun _ _ _ _ _ => pg_name (i := 14) sc_law.nd rfl (Or.inl rfl)) (fun _ _ _ _ _ => pts_nil) (fun _ _ _ _ _ => pe_kn G_law_sum (hr.mono (by decide)) (pa_cons (pv 2) (pa_cons (pv 14) (pa_nil)))))) (nomark _)) (pss_one (ps_ret (pe_bl))) pss_nil) (pss_cons (ps_set (i := 5) sc_law.nd rfl (Or.inl rfl) (pe_kn G_law_taken (hr.mono (by decide)) (pa_cons (pv 1) (pa_cons (pe_int) (pa_nil))))) (pss_cons (ps_if (pt_cmpR (r := rNeM K (e2 PyData.int PyData.int)) (op_neM (sh_e2 sh_int sh_int) (units_of hr)) (pe_kn G_power_sum (hr.mono (by decide)) (pa_cons (pv 3) (pa_cons (pv 5) (pa_nil)))) (pe_kn G_law_sum (hr.mono (by decide)) (pa_cons (pv 2) (pa_cons (pv 5) (pa_nil)))) (nomark _)) (pss_one (ps_ret (pe_bl))) pss_nil) (pss_cons (ps_set (i := 6) sc_law.nd rfl (Or.inl rfl) (pe_q (pe_callTy call_tuple_of (by rfl) B.tuple (by decide +kernel) (pa_cons (pe_q (pe_lc (own := [("_law_k", 14)]) (g := gName 14) rfl sc_law.nd (pi_range1 rfl B.range (pa_cons (pe_kn G_law_taken (hr.mono (by decide)) (pa_cons (pv 1) (pa_cons (pe_int) (pa_nil)))) (pa_nil))) (blkOk_by (N := ["_law_script", "_law_row", "_law_parts_here", "_law_one", "_law_count", "_law_at", "_law_some", "_law_due", "_law_cut", "_law_used", "_law_low_here", "_law_high", "_law_height", "_law_middle", "_law_k", "_law_part"]) (sc := defScope s_law) (by decide +kernel)) (fun _ _ _ _ _ => pg_name (i := 14) sc_law.nd rfl (Or.inl rfl)) (fun _ _ _ _ _ => pts_nil) (fun _ _ _ _ _ => pe_op op_sub (pe_kn G_law_taken (hr.mono (by decide)) (pa_cons (pv 1) (pa_cons (pe_int) (pa_nil)))) (pe_int)))) pa_nil)))) (pss_cons (ps_set (i := 7) sc_law.nd rfl (Or.inl rfl) (pe_kn G_law_total (hr.mono (by decide)) (pa_cons (pv 2) (pa_cons (pe_q (pe_lc (own := [("_law_part", 15)]) (g := gName 15) rfl sc_law.nd (pi_tup (pv 6)) (blkOk_by (N := ["_law_script", "_law_row", "_law_parts_here", "_law_one", "_law_count", "_law_at", "_law_some", "_law_due", "_law_cut", "_law_used", "_law_low_here", "_law_high", "_law_height", "_law_middle", "_law_k", "_law_part"]) (sc := defScope s_law) (by decide +kernel)) (fun _ _ _ _ _ => pg_name (i := 15) sc_law.nd rfl (Or.inl rfl)) (fun _ _ _ _ _ => pts_nil) (fun _ _ _ _ _ => pe_q (pe_tup (pa_cons (pv 15) (pa_cons (pe_int) (pa_nil))))))) (pa_nil))))) (pss_cons (ps_if (pt_cmpR (r := rNeM K (e2 PyData.int PyData.int)) (op_neM (sh_e2 sh_int sh_int) (units_of hr)) (pe_kn G_total (hr.mono (by decide)) (pa_cons (pv 3) (pa_cons (pv 6) (pa_nil)))) (pv 7) (nomark _)) (pss_one (ps_ret (pe_bl))) pss_nil) (pss_cons (ps_if (pt_cmpR (r := rNeM K (e2 PyData.int PyData.int)) (op_neM (sh_e2 sh_int sh_int) (units_of hr)) (pe_kn G_mean (hr.mono (by decide)) (pa_cons (pv 3) (pa_cons (pv 6) (pa_nil)))) (pe_kn G_law_over (hr.mono (by decide)) (pa_cons (pv 7) (pa_cons (pe_kn G_law_sum (hr.mono (by decide)) (pa_cons (pv 2) (pa_cons (pe_int) (pa_nil)))) (pa_nil)))) (nomark _)) (pss_one (ps_ret (pe_bl))) pss_nil) (pss_cons (ps_par (i := 8) (j := 9) (by rfl) sc_law.nd rfl rfl (by decide) rfl rfl (pa_cons (pe_q (pe_lst (pa_nil))) (pa_cons (pe_bl) (pa_nil))) (by rfl)) (pss_cons (ps_for PassesOwn.never rfl (pi_tup (pe_ix (r := rIxT K) ix_tup (pv 2) (pe_int) (fun _ _ => rfl))) (pg_tup (by rfl) (pgs_cons (pg_name (i := 10) sc_law.nd rfl (Or.inl rfl)) (pgs_cons (pg_name (i := 11) sc_law.nd rfl (Or.inl rfl)) (pgs_cons (pg_name (i := 12) sc_law.nd rfl (Or.inl rfl)) (pgs_nil))))) (pss_one (ps_if (PW.pt (pw_and (pt_cmpR op_gt (pe_op op_sub (pv 11) (pv 10)) (pe_int) (nomark _)) (pw_and (pt_not (pt_val (pv 9))) (pw_and1 (pt_cmpR op_lt (pe_callB call_lenM (by rfl) B.len (by decide +kernel) (pa_cons (pe_ix (r := rIxT K) ix_tup (pv 2) (pe_int) (fun _ _ => rfl)) pa_nil)) (pe_int) (nomark _)))))) (pss_cons (ps_par (i := 13) (j := 9) (by rfl) sc_law.nd rfl rfl (by decide) rfl rfl (pa_cons (pe_op op_add (pe_op op_add (pv 10) (pe_int)) (pe_kn G_law_taken (hr.mono (by decide)) (pa_cons (pv 1) (pa_cons (pe_op op_sub (pe_op op_sub (pv 11) (pv 10)) (pe_int)) (pa_nil))))) (pa_cons (pe_bl) (pa_nil))) (by rfl)) (pss_one (ps_set (i := 8) sc_law.nd rfl (Or.inl rfl) (pe_q (pe_op op_cat (pv 8) (pe_q (pe_lst (pa_cons (pe_q (pe_tup (pa_cons (pv 10) (pa_cons (pv 13) (pa_cons (pv 12) (pa_nil)))))) (pa_cons (pe_q (pe_tup (pa_cons (pv 13) (pa_cons (pv 11) (pa_cons (pv 12) (pa_nil)))))) (pa_nil)))))))))) (pss_one (ps_expr (pe_bm PySem.F.plainAttrs_list PySem.F.slot_list_append PySem.F.type_list_append mt_append (pv 8) (pa_cons (pe_q (pe_tup (pa_cons (pv 10) (pa_cons (pv 11) (pa_cons (pv 12) (pa_nil)))))) pa_nil))))))) (pss_one (ps_ret (pe_and (pe_cmpR (r := rEqM K (eL (e2 PyData.int PyData.int))) (op_eqM (sh_eL (sh_e2 sh_int sh_int)) (units_of hr)) (pe_kn G_power_sums (hr.mono (by decide)) (pa_cons (pe_q (pe_knC GC_Weighting (hr.mono (by decide)) pass0 (pa_cons (pe_ix (r := rIxT K) ix_tup (pv 2) (pe_int) (fun _ _ => rfl)) (pa_cons (pe_q (pe_callTy call_tuple_of (by rfl) B.tuple (by decide +kernel) (pa_cons (pv 8) pa_nil))) pa_nil)))) (pa_cons (pe_int) (pa_nil)))) (pe_kn G_power_sums (hr.mono (by decide)) (pa_cons (pv 3) (pa_cons (pe_int) (pa_nil)))) (nomark _)) (pe_one (pe_cmpR (r := rEqM K (e2 PyData.int PyData.int)) (op_eqM (sh_e2 sh_int sh_int) (units_of hr)) (pe_kn G_total (hr.mono (by decide)) (pa_cons (pv 3) (pa_cons (pe_q (pe_tup (pa_nil))) (pa_nil)))) (pe_q (pe_tup (pa_cons (pe_int) (pa_cons (pe_int) (pa_nil))))) (nomark _)))))))))))))))))), ?_⟩
    refine ⟨_, rfl, ?_⟩
    show _ ∧ _
    refine new_row hs fun ra H0 e w => ?_
    have g_ := Gm.refl (M := [ra]) e
    refine ⟨_, rfl, ?_⟩
    refine ⟨H, sc, ra, scr, (Rw.mk 0 0 0), rfl, e, w, (post_bd k).mono (fun b1 k v6 F2 H3 g4 ⟨r5, w7⟩ => ?_) (fun _ z => z)⟩
    have eF2 := g4.s
    have gF2 := g_.trans (g4.weak (by simp))
    refine ⟨_, rfl, ?_⟩
    refine ⟨F2, _, b1.1, rfl, eF2, r5, (post_bd k).mono (fun b8 k v13 F9 H10 g11 r12 => ?_) (fun _ z => z)⟩
    have eF9 := g11.s
    have gF9 := gF2.trans (g11.weak (by simp))
    replace w7 := w7.keep g11
    replace r5 := r5.up g11.f
    refine ⟨_, rfl, ?_⟩
    show _ ∧ _
    refine new_lst (K := K) (M := []) eF9 (.cons (Dq.int (3 : Int)) (.cons (Dq.int (12 : Int)) (.cons (Dq.int (61 : Int)) .nil))) (by show 3 ≤ 100000; decide) fun v19 F15 H16 g17 r18 => ?_
    have eF15 := g17.s
    have gF15 := gF9.trans (g17.weak (by simp))
    replace w7 := w7.keep g17
    replace r5 := r5.up g17.f
    replace r12 := r12.up g17.f
    replace r18 : Dq K F15 v19 ((eL PyData.int) [(3 : Int), (12 : Int), (61 : Int)]) := r18
    refine ⟨F15, sc, ra, scr, b1.2, _, PyData.int, _, [(3 : Int), (12 : Int), (61 : Int)], rfl, eF15, w7, r18, (post_bd k).mono (fun b20 k v25 F21 H22 g23 ⟨r24, w26⟩ => ?_) (fun _ z => z)⟩
    have eF21 := g23.s
    have gF21 := gF15.trans (g23.weak (by simp))
    replace r5 := r5.up g23.f
    replace r12 := r12.up g23.f
    replace r18 := r18.up g23.f
    obtain rfl := dp_int r24
    refine ⟨_, _, rfl, ?_⟩
    refine ⟨_, rfl, _, rfl, ?_⟩
    refine ⟨F21, _, b8, b20.1, rfl, eF21, r12, (post_bd k).mono (fun b27 k v32 F28 H29 g30 r31 => ?_) (fun _ z => z)⟩
    have eF28 := g30.s
    have gF28 := gF21.trans (g30.weak (by simp))
    replace r5 := r5.up g30.f
    replace r12 := r12.up g30.f
    replace r18 := r18.up g30.f
    replace w26 := w26.keep g30
    refine ⟨_, rfl, ?_⟩
    obtain ⟨h34, k⟩ := post_range k
    refine ⟨_, rfl, h34.1, h34.2, ?_⟩
    obtain ⟨h55, k⟩ := post_guard k
    refine lc_map (K := K) (M := []) wlk_range (e2 PyData.int PyData.int) k eF28 h55 (fun _ _ => by simp) (fun x38 v53 F46 H47 F48 H49 g50 g51 r52 Q' k36 => ?_) (fun _ z => z) (fun b37 v39 F40 H41 g42 r43 k => ?_) gm_name
    · have g56 := Gm.refl (M := []) g50.s
      replace r5 := r5.up g50.f
      replace r12 := r12.up g50.f
      replace r18 := r18.up g50.f
      replace w26 := w26.keep g50
      replace r31 := r31.up g50.f
      replace r5 := r5.up g51.f
      replace r12 := r12.up g51.f
      replace r18 := r18.up g51.f
      replace w26 := w26.keep g51
      replace r31 := r31.up g51.f
      have eF48 := g51.s
      have gF48 := g56.trans (g51.weak (by simp))
      subst r52
      refine ⟨rfl, _, rfl, _, rfl, ?_⟩
      refine ⟨F48, _, b1.1, x38, rfl, eF48, r5, (post_bd k36).mono (fun b57 k36 v62 F58 H59 g60 r61 => ?_) (fun _ z => z)⟩
      have eF58 := g60.s
      have gF58 := gF48.trans (g60.weak (by simp))
      replace r5 := r5.up g60.f
      replace r12 := r12.up g60.f
      replace r18 := r18.up g60.f
      replace w26 := w26.keep g60
      replace r31 := r31.up g60.f
      exact k36.h _ _ _ gF58 r61
    have eF40 := g42.s
    have gF40 := gF28.trans (g42.weak (by simp))
    replace r5 := r5.up g42.f
    replace r12 := r12.up g42.f
    replace r18 := r18.up g42.f
    replace w26 := w26.keep g42
    replace r31 := r31.up g42.f
    refine ⟨b27, b37, r31.dp eF40, r43.dp eF40, ?_⟩
    refine ⟨_, rfl, ?_⟩
    refine cs k (fun _ k => ?_) (fun _ k => ?_)
    · exact k.h _
    · refine ⟨_, rfl, ?_⟩
      refine ⟨F40, sc, ra, scr, b20.2, (61 : Int), rfl, eF40, w26, (post_bd k).mono (fun b65 k v70 F66 H67 g68 ⟨r69, w71⟩ => ?_) (fun _ z => z)⟩
      have eF66 := g68.s
      have gF66 := gF40.trans (g68.weak (by simp))
      replace r5 := r5.up g68.f
      replace r12 := r12.up g68.f
      replace r18 := r18.up g68.f
      replace r31 := r31.up g68.f
      replace r43 := r43.up g68.f
      subst r69
      refine ⟨_, rfl, _, rfl, ?_⟩
      refine ⟨F66, _, b8, b65.1, rfl, eF66, r12, (post_bd k).mono (fun b72 k v77 F73 H74 g75 r76 => ?_) (fun _ z => z)⟩
      have eF73 := g75.s
      have gF73 := gF66.trans (g75.weak (by simp))
      replace r5 := r5.up g75.f
      replace r12 := r12.up g75.f
      replace r18 := r18.up g75.f
      replace r31 := r31.up g75.f
      replace r43 := r43.up g75.f
      replace w71 := w71.keep g75
      refine ⟨_, rfl, _, rfl, ?_⟩
      refine ⟨F73, _, b1.1, b65.1, rfl, eF73, r5, (post_bd k).mono (fun b79 k v84 F80 H81 g82 r83 => ?_) (fun _ z => z)⟩
      have eF80 := g82.s
      have gF80 := gF73.trans (g82.weak (by simp))
      replace r5 := r5.up g82.f
      replace r12 := r12.up g82.f
      replace r18 := r18.up g82.f
      replace r31 := r31.up g82.f
      replace r43 := r43.up g82.f
      replace w71 := w71.keep g82
      replace r76 := r76.up g82.f
      refine ⟨b72, b79, r76.dp eF80, r83.dp eF80, ?_⟩
      refine ⟨_, rfl, ?_⟩
      refine cs k (fun _ k => ?_) (fun _ k => ?_)
      · exact k.h _
      · refine ⟨_, rfl, ?_⟩
        refine ⟨F80, sc, ra, scr, b65.2, (14 : Int), rfl, eF80, w71, (post_bd k).mono (fun b86 k v91 F87 H88 g89 ⟨r90, w92⟩ => ?_) (fun _ z => z)⟩
        have eF87 := g89.s
        have gF87 := gF80.trans (g89.weak (by simp))
        replace r5 := r5.up g89.f
        replace r12 := r12.up g89.f
        replace r18 := r18.up g89.f
        replace r31 := r31.up g89.f
        replace r43 := r43.up g89.f
        replace r76 := r76.up g89.f
        replace r83 := r83.up g89.f
        subst r90
        obtain ⟨h93, k⟩ := post_range k
        refine ⟨_, rfl, h93.1, h93.2, ?_⟩
        obtain ⟨h114, k⟩ := post_guard k
        refine lc_st (K := K) wlk_range PyData.int k eF87 h114 w92 (fun st104 x97 v112 F105 H106 F107 H108 g109 w113 g110 r111 Q' k95 => ?_) (fun _ z => z) (fun b96 v98 F99 H100 g101 ⟨r102, w103⟩ k => ?_) gm_name
        · have g115 := Gm.refl (M := [ra]) g109.s
          replace r5 := r5.up g109.f
          replace r12 := r12.up g109.f
          replace r18 := r18.up g109.f
          replace r31 := r31.up g109.f
          replace r43 := r43.up g109.f
          replace r76 := r76.up g109.f
          replace r83 := r83.up g109.f
          clear w92
          replace r5 := r5.up g110.f
          replace r12 := r12.up g110.f
          replace r18 := r18.up g110.f
          replace r31 := r31.up g110.f
          replace r43 := r43.up g110.f
          replace r76 := r76.up g110.f
          replace r83 := r83.up g110.f
          replace w113 := w113.keep g110
          have eF107 := g110.s
          have gF107 := g115.trans (g110.weak (by simp))
          subst r111
          refine ⟨rfl, _, rfl, ?_⟩
          refine ⟨F107, sc, ra, scr, st104, (21 : Int), rfl, eF107, w113, (post_bd k95).mono (fun b116 k95 v121 F117 H118 g119 ⟨r120, w122⟩ => ?_) (fun _ z => z)⟩
          have eF117 := g119.s
          have gF117 := gF107.trans (g119.weak (by simp))
          replace r5 := r5.up g119.f
          replace r12 := r12.up g119.f
          replace r18 := r18.up g119.f
          replace r31 := r31.up g119.f
          replace r43 := r43.up g119.f
          replace r76 := r76.up g119.f
          replace r83 := r83.up g119.f
          subst r120
          refine ⟨_, _, rfl, rfl, ?_⟩
          exact k95.h _ _ _ gF117 ⟨(Dq.int (b116.1 - (10 : Int))), w122⟩
        have eF99 := g101.s
        have gF99 := gF87.trans (g101.weak (by simp))
        replace r5 := r5.up g101.f
        replace r12 := r12.up g101.f
        replace r18 := r18.up g101.f
        replace r31 := r31.up g101.f
        replace r43 := r43.up g101.f
        replace r76 := r76.up g101.f
        replace r83 := r83.up g101.f
        obtain ⟨p124, xs125, rfl, s126, a127⟩ := dp_lst r102
        refine to_VL (K := K) (M := []) eF99 s126 a127 (en := PyData.int) (l := b96.1) fun v132 F128 H129 g130 r131 => ?_
        have eF128 := g130.s
        have gF128 := gF99.trans (g130.weak (by simp))
        replace r5 := r5.up g130.f
        replace r12 := r12.up g130.f
        replace r18 := r18.up g130.f
        replace r31 := r31.up g130.f
        replace r43 := r43.up g130.f
        replace r76 := r76.up g130.f
        replace r83 := r83.up g130.f
        replace w103 := w103.keep g130
        replace r102 := r102.up g130.f
        replace s126 := g130.f _ _ s126
        replace a127 := a127.up g130.f
        refine ⟨_, rfl, _, rfl, ?_⟩
        obtain ⟨p133, xs134, rfl, s135, a136⟩ := dp_tup r131
        refine ⟨_, rfl, ⟨_, (ex_t eF128 s135)⟩, ?_⟩
        obtain ⟨h156, k⟩ := post_guard k
        refine lc_map (K := K) (M := []) (wlk_tup eF128 s135 a136) (e2 PyData.int PyData.int) k eF128 h156 (fun _ _ => by simp) (fun x139 v154 F147 H148 F149 H150 g151 g152 r153 Q' k137 => ?_) (fun _ z => z) (fun b138 v140 F141 H142 g143 r144 k => ?_) gm_name
        · have g157 := Gm.refl (M := []) g151.s
          replace r5 := r5.up g151.f
          replace r12 := r12.up g151.f
          replace r18 := r18.up g151.f
          replace r31 := r31.up g151.f
          replace r43 := r43.up g151.f
          replace r76 := r76.up g151.f
          replace r83 := r83.up g151.f
          replace w103 := w103.keep g151
          replace r102 := r102.up g151.f
          replace s126 := g151.f _ _ s126
          replace a127 := a127.up g151.f
          replace r131 := r131.up g151.f
          replace s135 := ex_t g151.f s135
          replace a136 := a136.up g151.f
          replace r5 := r5.up g152.f
          replace r12 := r12.up g152.f
          replace r18 := r18.up g152.f
          replace r31 := r31.up g152.f
          replace r43 := r43.up g152.f
          replace r76 := r76.up g152.f
          replace r83 := r83.up g152.f
          replace w103 := w103.keep g152
          replace r102 := r102.up g152.f
          replace s126 := g152.f _ _ s126
          replace a127 := a127.up g152.f
          replace r131 := r131.up g152.f
          replace s135 := ex_t g152.f s135
          replace a136 := a136.up g152.f
          have eF149 := g152.s
          have gF149 := g157.trans (g152.weak (by simp))
          obtain rfl := dp_int r153
          refine ⟨rfl, _, rfl, ?_⟩
          show _ ∧ _
          refine new_tup (K := K) (M := []) eF149 (.cons (Dq.int x139) (.cons (Dq.int (1 : Int)) .nil)) (by show 2 ≤ 100000; decide) fun v162 F158 H159 g160 r161 => ?_
          have eF158 := g160.s
          have gF158 := gF149.trans (g160.weak (by simp))
          replace r5 := r5.up g160.f
          replace r12 := r12.up g160.f
          replace r18 := r18.up g160.f
          replace r31 := r31.up g160.f
          replace r43 := r43.up g160.f
          replace r76 := r76.up g160.f
          replace r83 := r83.up g160.f
          replace w103 := w103.keep g160
          replace r102 := r102.up g160.f
          replace s126 := g160.f _ _ s126
          replace a127 := a127.up g160.f
          replace r131 := r131.up g160.f
          replace s135 := ex_t g160.f s135
          replace a136 := a136.up g160.f
          replace r161 : Dq K F158 v162 ((e2 PyData.int PyData.int) (x139, (1 : Int))) := r161
          exact k137.h _ _ _ gF158 r161
        have eF141 := g143.s
        have gF141 := gF128.trans (g143.weak (by simp))
        replace r5 := r5.up g143.f
        replace r12 := r12.up g143.f
        replace r18 := r18.up g143.f
        replace r31 := r31.up g143.f
        replace r43 := r43.up g143.f
        replace r76 := r76.up g143.f
        replace r83 := r83.up g143.f
        replace w103 := w103.keep g143
        replace r102 := r102.up g143.f
        replace s126 := g143.f _ _ s126
        replace a127 := a127.up g143.f
        replace r131 := r131.up g143.f
        replace s135 := ex_t g143.f s135
        replace a136 := a136.up g143.f
        refine ⟨F141, _, b1.1, _, b138, rfl, eF141, r5, r144, (post_bd k).mono (fun b164 k v169 F165 H166 g167 r168 => ?_) (fun _ z => z)⟩
        have eF165 := g167.s
        have gF165 := gF141.trans (g167.weak (by simp))
        replace r5 := r5.up g167.f
        replace r12 := r12.up g167.f
        replace r18 := r18.up g167.f
        replace r31 := r31.up g167.f
        replace r43 := r43.up g167.f
        replace r76 := r76.up g167.f
        replace r83 := r83.up g167.f
        replace w103 := w103.keep g167
        replace r102 := r102.up g167.f
        replace s126 := g167.f _ _ s126
        replace a127 := a127.up g167.f
        replace r131 := r131.up g167.f
        replace s135 := ex_t g167.f s135
        replace a136 := a136.up g167.f
        replace r144 := r144.up g167.f
        refine ⟨_, rfl, _, rfl, ?_⟩
        refine ⟨F165, _, b8, _, b96.1, rfl, eF165, r12, r131, (post_bd k).mono (fun b171 k v176 F172 H173 g174 r175 => ?_) (fun _ z => z)⟩
        have eF172 := g174.s
        have gF172 := gF165.trans (g174.weak (by simp))
        replace r5 := r5.up g174.f
        replace r12 := r12.up g174.f
        replace r18 := r18.up g174.f
        replace r31 := r31.up g174.f
        replace r43 := r43.up g174.f
        replace r76 := r76.up g174.f
        replace r83 := r83.up g174.f
        replace w103 := w103.keep g174
        replace r102 := r102.up g174.f
        replace s126 := g174.f _ _ s126
        replace a127 := a127.up g174.f
        replace r131 := r131.up g174.f
        replace s135 := ex_t g174.f s135
        replace a136 := a136.up g174.f
        replace r144 := r144.up g174.f
        replace r168 := r168.up g174.f
        refine ⟨_, rfl, b171, b164, r175.dp eF172, r168.dp eF172, ?_⟩
        refine ⟨_, rfl, ?_⟩
        refine cs k (fun _ k => ?_) (fun _ k => ?_)
        · exact k.h _
        · refine ⟨_, rfl, _, rfl, ?_⟩
          refine ⟨F172, _, b8, _, b96.1, rfl, eF172, r12, r131, (post_bd k).mono (fun b178 k v183 F179 H180 g181 r182 => ?_) (fun _ z => z)⟩
          have eF179 := g181.s
          have gF179 := gF172.trans (g181.weak (by simp))
          replace r5 := r5.up g181.f
          replace r12 := r12.up g181.f
          replace r18 := r18.up g181.f
          replace r31 := r31.up g181.f
          replace r43 := r43.up g181.f
          replace r76 := r76.up g181.f
          replace r83 := r83.up g181.f
          replace w103 := w103.keep g181
          replace r102 := r102.up g181.f
          replace s126 := g181.f _ _ s126
          replace a127 := a127.up g181.f
          replace r131 := r131.up g181.f
          replace s135 := ex_t g181.f s135
          replace a136 := a136.up g181.f
          replace r144 := r144.up g181.f
          replace r168 := r168.up g181.f
          replace r175 := r175.up g181.f
          refine ⟨_, rfl, _, rfl, ?_⟩
          refine ⟨F179, _, b1.1, (0 : Int), rfl, eF179, r5, (post_bd k).mono (fun b185 k v190 F186 H187 g188 r189 => ?_) (fun _ z => z)⟩
          have eF186 := g188.s
          have gF186 := gF179.trans (g188.weak (by simp))
          replace r5 := r5.up g188.f
          replace r12 := r12.up g188.f
          replace r18 := r18.up g188.f
          replace r31 := r31.up g188.f
          replace r43 := r43.up g188.f
          replace r76 := r76.up g188.f
          replace r83 := r83.up g188.f
          replace w103 := w103.keep g188
          replace r102 := r102.up g188.f
          replace s126 := g188.f _ _ s126
          replace a127 := a127.up g188.f
          replace r131 := r131.up g188.f
          replace s135 := ex_t g188.f s135
          replace a136 := a136.up g188.f
          replace r144 := r144.up g188.f
          replace r168 := r168.up g188.f
          replace r175 := r175.up g188.f
          replace r182 := r182.up g188.f
          refine ⟨F186, _, b164, _, b185, rfl, eF186, r168, r189, (post_bd k).mono (fun b192 k v197 F193 H194 g195 r196 => ?_) (fun _ z => z)⟩
          have eF193 := g195.s
          have gF193 := gF186.trans (g195.weak (by simp))
          replace r5 := r5.up g195.f
          replace r12 := r12.up g195.f
          replace r18 := r18.up g195.f
          replace r31 := r31.up g195.f
          replace r43 := r43.up g195.f
          replace r76 := r76.up g195.f
          replace r83 := r83.up g195.f
          replace w103 := w103.keep g195
          replace r102 := r102.up g195.f
          replace s126 := g195.f _ _ s126
          replace a127 := a127.up g195.f
          replace r131 := r131.up g195.f
          replace s135 := ex_t g195.f s135
          replace a136 := a136.up g195.f
          replace r144 := r144.up g195.f
          replace r168 := r168.up g195.f
          replace r175 := r175.up g195.f
          replace r182 := r182.up g195.f
          replace r189 := r189.up g195.f
          refine ⟨b178, b192, r182.dp eF193, r196.dp eF193, ?_⟩
          refine ⟨_, rfl, ?_⟩
          refine cs k (fun _ k => ?_) (fun _ k => ?_)
          · exact k.h _
          · show _ ∧ _
            refine new_own (K := K) eF193 .nil (by show 0 ≤ 100000; decide) fun p199 H200 g201 y202 o203 => ?_
            have a204 : DqAll K F193 [] (List.map (e3 PyData.int PyData.int PyData.int) []) := .nil
            have np199 := ne_of_none w103.1 y202
            have mp199 := np199.symm
            have zp199 := gF193.fresh y202
            have eH200 := g201.s
            have gH200 := gF193.trans (g201.weak (by simp))
            replace w103 := w103.keep g201
            refine ⟨_, _, rfl, ?_⟩
            refine ⟨_, rfl, ?_⟩
            obtain ⟨p206, x207, x208, rfl, s209, d210, d211⟩ := dp_tup2 r5
            refine ⟨_, _, _, _, rfl, rfl, ex_t eH200 s209, rfl, ?_⟩
            obtain ⟨p212, xs213, rfl, s214, a215⟩ := dp_tup d211
            refine ⟨_, rfl, ⟨_, (ex_t eH200 s214)⟩, ?_⟩
            refine for_m (M := [p199, ra]) (F := F193) (wlk_tup eH200 s214 a215) (fun b216 F' H' σ' => ∃ (q8 : Addr) (u10 : Option V) (u11 : Option V) (u12 : Option V) (u13 : Option V) (u14 : Option V) (u15 : Option V) (xs8 : List V), σ' = [some (V.ref sc), some (V.ref ra), some (V.ref p206), some v13, some (V.int b20.1), some (V.int b65.1), some (V.ref p133), some v169, some (V.ref q8), some (V.bl b216.1), u10, u11, u12, u13, u14, u15] ∧ (q8 ∈ [p199, ra] ∨ H200 q8 = none) ∧ ra ≠ q8 ∧ (H' q8 = some (.lst xs8) ∧ F' q8 = none) ∧ DqAll K F' xs8 (List.map (e3 PyData.int PyData.int PyData.int) b216.2.1) ∧ RowAt K sc ra scr F' H' b216.2.2) k eH200 ⟨_, _, _, _, _, _, _, _, rfl, .inl (by simp), np199, o203, a204, w103⟩ (fun b216 x217 v225 σ227 F218 H219 F220 H221 g222 i226 g223 r224 nx kfb216 => ?_) (fun b233 σ232 F228 H229 g230 i231 k => ?_)
            · replace r5 := r5.up g222.f
              replace r12 := r12.up g222.f
              replace r18 := r18.up g222.f
              replace r31 := r31.up g222.f
              replace r43 := r43.up g222.f
              replace r76 := r76.up g222.f
              replace r83 := r83.up g222.f
              replace r102 := r102.up g222.f
              replace s126 := g222.f _ _ s126
              replace a127 := a127.up g222.f
              replace r131 := r131.up g222.f
              replace s135 := ex_t g222.f s135
              replace a136 := a136.up g222.f
              replace r144 := r144.up g222.f
              replace r168 := r168.up g222.f
              replace r175 := r175.up g222.f
              replace r182 := r182.up g222.f
              replace r189 := r189.up g222.f
              replace r196 := r196.up g222.f
              replace s209 := ex_t g222.f s209
              replace d210 := d210.up g222.f
              replace d211 := d211.up g222.f
              replace s214 := ex_t g222.f s214
              replace a215 := a215.up g222.f
              obtain ⟨q234, u235, u236, u237, u238, u239, u240, xs241, rfl, yq234, nq234, o242, a243, w244⟩ := i226
              have mq234 := nq234.symm
              replace r5 := r5.up g223.f
              replace r12 := r12.up g223.f
              replace r18 := r18.up g223.f
              replace r31 := r31.up g223.f
              replace r43 := r43.up g223.f
              replace r76 := r76.up g223.f
              replace r83 := r83.up g223.f
              replace r102 := r102.up g223.f
              replace s126 := g223.f _ _ s126
              replace a127 := a127.up g223.f
              replace r131 := r131.up g223.f
              replace s135 := ex_t g223.f s135
              replace a136 := a136.up g223.f
              replace r144 := r144.up g223.f
              replace r168 := r168.up g223.f
              replace r175 := r175.up g223.f
              replace r182 := r182.up g223.f
              replace r189 := r189.up g223.f
              replace r196 := r196.up g223.f
              replace s209 := ex_t g223.f s209
              replace d210 := d210.up g223.f
              replace d211 := d211.up g223.f
              replace s214 := ex_t g223.f s214
              replace a215 := a215.up g223.f
              replace o242 := g223.own (by simp [*]) o242.1 o242.2
              replace a243 := a243.up g223.f
              replace w244 := w244.keep g223
              have eF220 := g223.s
              have gF220 := g222.trans (g223.weak (by simp))
              obtain ⟨p245, x246, x247, x248, rfl, s249, d250, d251, d252⟩ := dp_tup3 r224
              obtain rfl := dp_int d250
              obtain rfl := dp_int d251
              obtain rfl := dp_int d252
              refine ⟨_, _, rfl, ex_t eF220 s249, rfl, _, _, rfl, _, _, rfl, _, _, rfl, rfl, ?_⟩
              refine ⟨_, rfl, _, rfl, _, _, rfl, rfl, _, _, rfl, rfl, _, rfl, ?_⟩
              refine and_jM (M := []) eF220 kfb216 (fun _ Q' kfb216tb253 => ?_) (fun b253 F254 H255 g256 kfb216 => ?_)
              · have gF220_ := Gm.refl (M := []) eF220
                refine ⟨_, rfl, _, rfl, ?_⟩
                refine and_jM (M := []) eF220 kfb216tb253 (fun _ Q' kfb216tb253tb257 => ?_) (fun b257 F258 H259 g260 kfb216tb253 => ?_)
                · have gF220_ := Gm.refl (M := []) eF220
                  refine ⟨_, rfl, ?_⟩
                  refine ⟨_, _, _, _, rfl, rfl, ex_t eF220 s209, rfl, ?_⟩
                  refine ⟨_, _, _, rfl, .inr (ex_t eF220 s214), len_all a215, _, _, rfl, rfl, _, rfl, ?_⟩
                  exact kfb216tb253tb257.h _ _ gF220_
                have eF258 := g260.s
                have gF258 := gF220_.trans (g260.weak (by simp))
                replace r5 := r5.up g260.f
                replace r12 := r12.up g260.f
                replace r18 := r18.up g260.f
                replace r31 := r31.up g260.f
                replace r43 := r43.up g260.f
                replace r76 := r76.up g260.f
                replace r83 := r83.up g260.f
                replace r102 := r102.up g260.f
                replace s126 := g260.f _ _ s126
                replace a127 := a127.up g260.f
                replace r131 := r131.up g260.f
                replace s135 := ex_t g260.f s135
                replace a136 := a136.up g260.f
                replace r144 := r144.up g260.f
                replace r168 := r168.up g260.f
                replace r175 := r175.up g260.f
                replace r182 := r182.up g260.f
                replace r189 := r189.up g260.f
                replace r196 := r196.up g260.f
                replace s209 := ex_t g260.f s209
                replace d210 := d210.up g260.f
                replace d211 := d211.up g260.f
                replace s214 := ex_t g260.f s214
                replace a215 := a215.up g260.f
                replace o242 := g260.own (by simp [*]) o242.1 o242.2
                replace a243 := a243.up g260.f
                replace w244 := w244.keep g260
                replace r224 := r224.up g260.f
                replace s249 := ex_t g260.f s249
                exact kfb216tb253.h _ _ gF258
              have eF254 := g256.s
              have gF254 := gF220.trans (g256.weak (by simp))
              replace r5 := r5.up g256.f
              replace r12 := r12.up g256.f
              replace r18 := r18.up g256.f
              replace r31 := r31.up g256.f
              replace r43 := r43.up g256.f
              replace r76 := r76.up g256.f
              replace r83 := r83.up g256.f
              replace r102 := r102.up g256.f
              replace s126 := g256.f _ _ s126
              replace a127 := a127.up g256.f
              replace r131 := r131.up g256.f
              replace s135 := ex_t g256.f s135
              replace a136 := a136.up g256.f
              replace r144 := r144.up g256.f
              replace r168 := r168.up g256.f
              replace r175 := r175.up g256.f
              replace r182 := r182.up g256.f
              replace r189 := r189.up g256.f
              replace r196 := r196.up g256.f
              replace s209 := ex_t g256.f s209
              replace d210 := d210.up g256.f
              replace d211 := d211.up g256.f
              replace s214 := ex_t g256.f s214
              replace a215 := a215.up g256.f
              replace o242 := g256.own (by simp [*]) o242.1 o242.2
              replace a243 := a243.up g256.f
              replace w244 := w244.keep g256
              replace r224 := r224.up g256.f
              replace s249 := ex_t g256.f s249
              refine cs kfb216 (fun _ kfb216 => ?_) (fun _ kfb216 => ?_)
              · refine ⟨_, rfl, _, _, rfl, rfl, _, rfl, _, rfl, _, rfl, _, _, rfl, rfl, _, _, rfl, rfl, ?_⟩
                refine ⟨F254, sc, ra, scr, b216.2.2, ((x217.2.1 - x217.1) - (1 : Int)), rfl, eF254, w244, (post_bd kfb216).mono (fun b261 kfb216 v266 F262 H263 g264 ⟨r265, w267⟩ => ?_) (fun _ z => z)⟩
                have eF262 := g264.s
                have gF262 := gF254.trans (g264.weak (by simp))
                replace r5 := r5.up g264.f
                replace r12 := r12.up g264.f
                replace r18 := r18.up g264.f
                replace r31 := r31.up g264.f
                replace r43 := r43.up g264.f
                replace r76 := r76.up g264.f
                replace r83 := r83.up g264.f
                replace r102 := r102.up g264.f
                replace s126 := g264.f _ _ s126
                replace a127 := a127.up g264.f
                replace r131 := r131.up g264.f
                replace s135 := ex_t g264.f s135
                replace a136 := a136.up g264.f
                replace r144 := r144.up g264.f
                replace r168 := r168.up g264.f
                replace r175 := r175.up g264.f
                replace r182 := r182.up g264.f
                replace r189 := r189.up g264.f
                replace r196 := r196.up g264.f
                replace s209 := ex_t g264.f s209
                replace d210 := d210.up g264.f
                replace d211 := d211.up g264.f
                replace s214 := ex_t g264.f s214
                replace a215 := a215.up g264.f
                replace o242 := g264.own (by simp [*]) o242.1 o242.2
                replace a243 := a243.up g264.f
                replace r224 := r224.up g264.f
                replace s249 := ex_t g264.f s249
                subst r265
                refine ⟨_, _, rfl, rfl, _, _, rfl, ?_⟩
                refine ⟨_, rfl, _, rfl, _, rfl, _, rfl, ?_⟩
                show _ ∧ _
                refine new_tup (K := K) (M := []) eF262 (.cons (Dq.int x217.1) (.cons (Dq.int ((x217.1 + (1 : Int)) + b261.1)) (.cons (Dq.int x217.2.2) .nil))) (by show 3 ≤ 100000; decide) fun v272 F268 H269 g270 r271 => ?_
                have eF268 := g270.s
                have gF268 := gF262.trans (g270.weak (by simp))
                replace r5 := r5.up g270.f
                replace r12 := r12.up g270.f
                replace r18 := r18.up g270.f
                replace r31 := r31.up g270.f
                replace r43 := r43.up g270.f
                replace r76 := r76.up g270.f
                replace r83 := r83.up g270.f
                replace r102 := r102.up g270.f
                replace s126 := g270.f _ _ s126
                replace a127 := a127.up g270.f
                replace r131 := r131.up g270.f
                replace s135 := ex_t g270.f s135
                replace a136 := a136.up g270.f
                replace r144 := r144.up g270.f
                replace r168 := r168.up g270.f
                replace r175 := r175.up g270.f
                replace r182 := r182.up g270.f
                replace r189 := r189.up g270.f
                replace r196 := r196.up g270.f
                replace s209 := ex_t g270.f s209
                replace d210 := d210.up g270.f
                replace d211 := d211.up g270.f
                replace s214 := ex_t g270.f s214
                replace a215 := a215.up g270.f
                replace o242 := g270.own (by simp [*]) o242.1 o242.2
                replace a243 := a243.up g270.f
                replace r224 := r224.up g270.f
                replace s249 := ex_t g270.f s249
                replace w267 := w267.keep g270
                replace r271 : Dq K F268 v272 ((e3 PyData.int PyData.int PyData.int) (x217.1, ((x217.1 + (1 : Int)) + b261.1), x217.2.2)) := r271
                refine ⟨_, rfl, _, rfl, _, rfl, ?_⟩
                show _ ∧ _
                refine new_tup (K := K) (M := []) eF268 (.cons (Dq.int ((x217.1 + (1 : Int)) + b261.1)) (.cons (Dq.int x217.2.1) (.cons (Dq.int x217.2.2) .nil))) (by show 3 ≤ 100000; decide) fun v277 F273 H274 g275 r276 => ?_
                have eF273 := g275.s
                have gF273 := gF268.trans (g275.weak (by simp))
                replace r5 := r5.up g275.f
                replace r12 := r12.up g275.f
                replace r18 := r18.up g275.f
                replace r31 := r31.up g275.f
                replace r43 := r43.up g275.f
                replace r76 := r76.up g275.f
                replace r83 := r83.up g275.f
                replace r102 := r102.up g275.f
                replace s126 := g275.f _ _ s126
                replace a127 := a127.up g275.f
                replace r131 := r131.up g275.f
                replace s135 := ex_t g275.f s135
                replace a136 := a136.up g275.f
                replace r144 := r144.up g275.f
                replace r168 := r168.up g275.f
                replace r175 := r175.up g275.f
                replace r182 := r182.up g275.f
                replace r189 := r189.up g275.f
                replace r196 := r196.up g275.f
                replace s209 := ex_t g275.f s209
                replace d210 := d210.up g275.f
                replace d211 := d211.up g275.f
                replace s214 := ex_t g275.f s214
                replace a215 := a215.up g275.f
                replace o242 := g275.own (by simp [*]) o242.1 o242.2
                replace a243 := a243.up g275.f
                replace r224 := r224.up g275.f
                replace s249 := ex_t g275.f s249
                replace w267 := w267.keep g275
                replace r271 := r271.up g275.f
                replace r276 : Dq K F273 v277 ((e3 PyData.int PyData.int PyData.int) (((x217.1 + (1 : Int)) + b261.1), x217.2.1, x217.2.2)) := r276
                show _ ∧ _
                refine new_lst (K := K) (M := []) eF273 (.cons r271 (.cons r276 .nil)) (by show 2 ≤ 100000; decide) fun v282 F278 H279 g280 r281 => ?_
                have eF278 := g280.s
                have gF278 := gF273.trans (g280.weak (by simp))
                replace r5 := r5.up g280.f
                replace r12 := r12.up g280.f
                replace r18 := r18.up g280.f
                replace r31 := r31.up g280.f
                replace r43 := r43.up g280.f
                replace r76 := r76.up g280.f
                replace r83 := r83.up g280.f
                replace r102 := r102.up g280.f
                replace s126 := g280.f _ _ s126
                replace a127 := a127.up g280.f
                replace r131 := r131.up g280.f
                replace s135 := ex_t g280.f s135
                replace a136 := a136.up g280.f
                replace r144 := r144.up g280.f
                replace r168 := r168.up g280.f
                replace r175 := r175.up g280.f
                replace r182 := r182.up g280.f
                replace r189 := r189.up g280.f
                replace r196 := r196.up g280.f
                replace s209 := ex_t g280.f s209
                replace d210 := d210.up g280.f
                replace d211 := d211.up g280.f
                replace s214 := ex_t g280.f s214
                replace a215 := a215.up g280.f
                replace o242 := g280.own (by simp [*]) o242.1 o242.2
                replace a243 := a243.up g280.f
                replace r224 := r224.up g280.f
                replace s249 := ex_t g280.f s249
                replace w267 := w267.keep g280
                replace r271 := r271.up g280.f
                replace r276 := r276.up g280.f
                replace r281 : Dq K F278 v282 ((eL (e3 PyData.int PyData.int PyData.int)) [(x217.1, ((x217.1 + (1 : Int)) + b261.1), x217.2.2), (((x217.1 + (1 : Int)) + b261.1), x217.2.1, x217.2.2)]) := r281
                obtain ⟨p283, xs284, rfl, s285, a286⟩ := dp_lst r281
                obtain ⟨h287, kfb216⟩ := post_guard kfb216
                refine ⟨_, _, _, _, rfl, rfl, o242.1, (eF278 _ _ s285), cat_len a243 a286 h287, own_of eF278 fun p288 H289 g290 y291 o292 => ?_⟩
                have a293 : DqAll K F278 (xs241 ++ xs284) (List.map (e3 PyData.int PyData.int PyData.int) (b216.2.1 ++ [(x217.1, ((x217.1 + (1 : Int)) + b261.1), x217.2.2), (((x217.1 + (1 : Int)) + b261.1), x217.2.1, x217.2.2)])) := by rw [List.map_append]; exact a243.app a286
                have np288 := ne_of_none w267.1 y291
                have mp288 := np288.symm
                have nq234_p288 := ne_of_none o242.1 y291
                have np288_q234 := nq234_p288.symm
                have zp288 := gF278.fresh y291
                have eH289 := g290.s
                have gH289 := gF278.trans (g290.weak (by simp))
                replace o242 := g290.own (by simp) o242.1 o242.2
                replace w267 := w267.keep g290
                exact kfb216.h _ _ _ gH289 ⟨_, _, _, _, _, _, _, _, rfl, (.inr zp288), np288, o292, a293, w267⟩
              · refine ⟨_, rfl, .inl ⟨rfl, _, sq_of o242.1⟩, _, rfl, _, rfl, _, rfl, ?_⟩
                show _ ∧ _
                refine new_tup (K := K) (M := []) eF254 (.cons (Dq.int x217.1) (.cons (Dq.int x217.2.1) (.cons (Dq.int x217.2.2) .nil))) (by show 3 ≤ 100000; decide) fun v298 F294 H295 g296 r297 => ?_
                have eF294 := g296.s
                have gF294 := gF254.trans (g296.weak (by simp))
                replace r5 := r5.up g296.f
                replace r12 := r12.up g296.f
                replace r18 := r18.up g296.f
                replace r31 := r31.up g296.f
                replace r43 := r43.up g296.f
                replace r76 := r76.up g296.f
                replace r83 := r83.up g296.f
                replace r102 := r102.up g296.f
                replace s126 := g296.f _ _ s126
                replace a127 := a127.up g296.f
                replace r131 := r131.up g296.f
                replace s135 := ex_t g296.f s135
                replace a136 := a136.up g296.f
                replace r144 := r144.up g296.f
                replace r168 := r168.up g296.f
                replace r175 := r175.up g296.f
                replace r182 := r182.up g296.f
                replace r189 := r189.up g296.f
                replace r196 := r196.up g296.f
                replace s209 := ex_t g296.f s209
                replace d210 := d210.up g296.f
                replace d211 := d211.up g296.f
                replace s214 := ex_t g296.f s214
                replace a215 := a215.up g296.f
                replace o242 := g296.own (by simp [*]) o242.1 o242.2
                replace a243 := a243.up g296.f
                replace w244 := w244.keep g296
                replace r224 := r224.up g296.f
                replace s249 := ex_t g296.f s249
                replace r297 : Dq K F294 v298 ((e3 PyData.int PyData.int PyData.int) (x217.1, x217.2.1, x217.2.2)) := r297
                obtain ⟨h299, kfb216⟩ := post_guard kfb216
                refine ⟨_, _, _, rfl, rfl, o242.1, own_sz a243 h299, ?_⟩
                have g300 := gF294.putOr (o := .lst (xs241 ++ [v298])) yq234 o242.1 o242.2
                replace w244 := w244.put nq234 (o := .lst (xs241 ++ [v298]))
                replace o242 : (upd H295 q234 (.lst (xs241 ++ [v298]))) q234 = some (.lst (xs241 ++ [v298])) ∧ F294 q234 = none := ⟨upd_same, o242.2⟩
                replace a243 : DqAll K F294 (xs241 ++ [v298]) (List.map (e3 PyData.int PyData.int PyData.int) (b216.2.1 ++ [(x217.1, x217.2.1, x217.2.2)])) := by rw [List.map_append]; exact a243.app (.cons r297 .nil)
                have e301 := g300.s
                exact kfb216.h _ _ _ g300 ⟨_, _, _, _, _, _, _, _, rfl, yq234, nq234, o242, a243, w244⟩
            have hy303 : ∀ q ∈ [p199], q ∈ [ra] ∨ H0 q = none := by intro q hq; simp only [List.mem_cons, List.not_mem_nil, or_false] at hq; rcases hq with rfl; exact (.inr zp199)
            have g302 := Gm.outs [p199] hy303 gH200 (g230.weak (by simp))
            replace r5 := r5.up g230.f
            replace r12 := r12.up g230.f
            replace r18 := r18.up g230.f
            replace r31 := r31.up g230.f
            replace r43 := r43.up g230.f
            replace r76 := r76.up g230.f
            replace r83 := r83.up g230.f
            replace r102 := r102.up g230.f
            replace s126 := g230.f _ _ s126
            replace a127 := a127.up g230.f
            replace r131 := r131.up g230.f
            replace s135 := ex_t g230.f s135
            replace a136 := a136.up g230.f
            replace r144 := r144.up g230.f
            replace r168 := r168.up g230.f
            replace r175 := r175.up g230.f
            replace r182 := r182.up g230.f
            replace r189 := r189.up g230.f
            replace r196 := r196.up g230.f
            replace s209 := ex_t g230.f s209
            replace d210 := d210.up g230.f
            replace d211 := d211.up g230.f
            replace s214 := ex_t g230.f s214
            replace a215 := a215.up g230.f
            have eF228 := g230.s
            obtain ⟨q304, u305, u306, u307, u308, u309, u310, xs311, rfl, yq304, nq304, o312, a313, w314⟩ := i231
            have mq304 := nq304.symm
            replace yq304 := out_y hy303 gH200 yq304
            refine ⟨_, rfl, ?_⟩
            refine ⟨_, _, _, _, rfl, rfl, ex_t eF228 s209, rfl, _, rfl, ?_⟩
            refine to_VO (K := K) (M := []) eF228 o312.1 a313 (en := (e3 PyData.int PyData.int PyData.int)) (l := b233.2.1) fun v319 F315 H316 g317 r318 => ?_
            have eF315 := g317.s
            have gF315 := g302.trans (g317.weak (by simp))
            replace r5 := r5.up g317.f
            replace r12 := r12.up g317.f
            replace r18 := r18.up g317.f
            replace r31 := r31.up g317.f
            replace r43 := r43.up g317.f
            replace r76 := r76.up g317.f
            replace r83 := r83.up g317.f
            replace r102 := r102.up g317.f
            replace s126 := g317.f _ _ s126
            replace a127 := a127.up g317.f
            replace r131 := r131.up g317.f
            replace s135 := ex_t g317.f s135
            replace a136 := a136.up g317.f
            replace r144 := r144.up g317.f
            replace r168 := r168.up g317.f
            replace r175 := r175.up g317.f
            replace r182 := r182.up g317.f
            replace r189 := r189.up g317.f
            replace r196 := r196.up g317.f
            replace s209 := ex_t g317.f s209
            replace d210 := d210.up g317.f
            replace d211 := d211.up g317.f
            replace s214 := ex_t g317.f s214
            replace a215 := a215.up g317.f
            replace o312 := g317.own (by simp [*]) o312.1 o312.2
            replace a313 := a313.up g317.f
            replace w314 := w314.keep g317
            refine make_W eF315 d210 r318 ((post_bd k).mono (fun b320 k v325 F321 H322 g323 r324 => ?_) (fun _ z => z))
            have eF321 := g323.s
            have gF321 := gF315.trans (g323.weak (by simp))
            replace r5 := r5.up g323.f
            replace r12 := r12.up g323.f
            replace r18 := r18.up g323.f
            replace r31 := r31.up g323.f
            replace r43 := r43.up g323.f
            replace r76 := r76.up g323.f
            replace r83 := r83.up g323.f
            replace r102 := r102.up g323.f
            replace s126 := g323.f _ _ s126
            replace a127 := a127.up g323.f
            replace r131 := r131.up g323.f
            replace s135 := ex_t g323.f s135
            replace a136 := a136.up g323.f
            replace r144 := r144.up g323.f
            replace r168 := r168.up g323.f
            replace r175 := r175.up g323.f
            replace r182 := r182.up g323.f
            replace r189 := r189.up g323.f
            replace r196 := r196.up g323.f
            replace s209 := ex_t g323.f s209
            replace d210 := d210.up g323.f
            replace d211 := d211.up g323.f
            replace s214 := ex_t g323.f s214
            replace a215 := a215.up g323.f
            replace o312 := g323.own (by simp [*]) o312.1 o312.2
            replace a313 := a313.up g323.f
            replace w314 := w314.keep g323
            replace r318 := r318.up g323.f
            refine ⟨F321, _, b320, (13 : Int), rfl, eF321, r324, (post_bd k).mono (fun b326 k v331 F327 H328 g329 r330 => ?_) (fun _ z => z)⟩
            have eF327 := g329.s
            have gF327 := gF321.trans (g329.weak (by simp))
            replace r5 := r5.up g329.f
            replace r12 := r12.up g329.f
            replace r18 := r18.up g329.f
            replace r31 := r31.up g329.f
            replace r43 := r43.up g329.f
            replace r76 := r76.up g329.f
            replace r83 := r83.up g329.f
            replace r102 := r102.up g329.f
            replace s126 := g329.f _ _ s126
            replace a127 := a127.up g329.f
            replace r131 := r131.up g329.f
            replace s135 := ex_t g329.f s135
            replace a136 := a136.up g329.f
            replace r144 := r144.up g329.f
            replace r168 := r168.up g329.f
            replace r175 := r175.up g329.f
            replace r182 := r182.up g329.f
            replace r189 := r189.up g329.f
            replace r196 := r196.up g329.f
            replace s209 := ex_t g329.f s209
            replace d210 := d210.up g329.f
            replace d211 := d211.up g329.f
            replace s214 := ex_t g329.f s214
            replace a215 := a215.up g329.f
            replace o312 := g329.own (by simp [*]) o312.1 o312.2
            replace a313 := a313.up g329.f
            replace w314 := w314.keep g329
            replace r318 := r318.up g329.f
            replace r324 := r324.up g329.f
            refine ⟨_, rfl, ?_⟩
            refine ⟨F327, _, b8, (13 : Int), rfl, eF327, r12, (post_bd k).mono (fun b333 k v338 F334 H335 g336 r337 => ?_) (fun _ z => z)⟩
            have eF334 := g336.s
            have gF334 := gF327.trans (g336.weak (by simp))
            replace r5 := r5.up g336.f
            replace r12 := r12.up g336.f
            replace r18 := r18.up g336.f
            replace r31 := r31.up g336.f
            replace r43 := r43.up g336.f
            replace r76 := r76.up g336.f
            replace r83 := r83.up g336.f
            replace r102 := r102.up g336.f
            replace s126 := g336.f _ _ s126
            replace a127 := a127.up g336.f
            replace r131 := r131.up g336.f
            replace s135 := ex_t g336.f s135
            replace a136 := a136.up g336.f
            replace r144 := r144.up g336.f
            replace r168 := r168.up g336.f
            replace r175 := r175.up g336.f
            replace r182 := r182.up g336.f
            replace r189 := r189.up g336.f
            replace r196 := r196.up g336.f
            replace s209 := ex_t g336.f s209
            replace d210 := d210.up g336.f
            replace d211 := d211.up g336.f
            replace s214 := ex_t g336.f s214
            replace a215 := a215.up g336.f
            replace o312 := g336.own (by simp [*]) o312.1 o312.2
            replace a313 := a313.up g336.f
            replace w314 := w314.keep g336
            replace r318 := r318.up g336.f
            replace r324 := r324.up g336.f
            replace r330 := r330.up g336.f
            refine ⟨b326, b333, r330.dp eF334, r337.dp eF334, ?_⟩
            refine ⟨_, rfl, ?_⟩
            refine cs k (fun _ k => ?_) (fun _ k => ?_)
            · refine ⟨_, rfl, ?_⟩
              show _ ∧ _
              refine new_tup (K := K) (M := []) eF334 .nil (by show 0 ≤ 100000; decide) fun v344 F340 H341 g342 r343 => ?_
              have eF340 := g342.s
              have gF340 := gF334.trans (g342.weak (by simp))
              replace r5 := r5.up g342.f
              replace r12 := r12.up g342.f
              replace r18 := r18.up g342.f
              replace r31 := r31.up g342.f
              replace r43 := r43.up g342.f
              replace r76 := r76.up g342.f
              replace r83 := r83.up g342.f
              replace r102 := r102.up g342.f
              replace s126 := g342.f _ _ s126
              replace a127 := a127.up g342.f
              replace r131 := r131.up g342.f
              replace s135 := ex_t g342.f s135
              replace a136 := a136.up g342.f
              replace r144 := r144.up g342.f
              replace r168 := r168.up g342.f
              replace r175 := r175.up g342.f
              replace r182 := r182.up g342.f
              replace r189 := r189.up g342.f
              replace r196 := r196.up g342.f
              replace s209 := ex_t g342.f s209
              replace d210 := d210.up g342.f
              replace d211 := d211.up g342.f
              replace s214 := ex_t g342.f s214
              replace a215 := a215.up g342.f
              replace o312 := g342.own (by simp [*]) o312.1 o312.2
              replace a313 := a313.up g342.f
              replace w314 := w314.keep g342
              replace r318 := r318.up g342.f
              replace r324 := r324.up g342.f
              replace r330 := r330.up g342.f
              replace r337 := r337.up g342.f
              replace r343 : Dq K F340 v344 (eV PyData.int []) := r343
              refine ⟨F340, _, b8, _, [], rfl, eF340, r12, r343, (post_bd k).mono (fun b345 k v350 F346 H347 g348 r349 => ?_) (fun _ z => z)⟩
              have eF346 := g348.s
              have gF346 := gF340.trans (g348.weak (by simp))
              replace r5 := r5.up g348.f
              replace r12 := r12.up g348.f
              replace r18 := r18.up g348.f
              replace r31 := r31.up g348.f
              replace r43 := r43.up g348.f
              replace r76 := r76.up g348.f
              replace r83 := r83.up g348.f
              replace r102 := r102.up g348.f
              replace s126 := g348.f _ _ s126
              replace a127 := a127.up g348.f
              replace r131 := r131.up g348.f
              replace s135 := ex_t g348.f s135
              replace a136 := a136.up g348.f
              replace r144 := r144.up g348.f
              replace r168 := r168.up g348.f
              replace r175 := r175.up g348.f
              replace r182 := r182.up g348.f
              replace r189 := r189.up g348.f
              replace r196 := r196.up g348.f
              replace s209 := ex_t g348.f s209
              replace d210 := d210.up g348.f
              replace d211 := d211.up g348.f
              replace s214 := ex_t g348.f s214
              replace a215 := a215.up g348.f
              replace o312 := g348.own (by simp [*]) o312.1 o312.2
              replace a313 := a313.up g348.f
              replace w314 := w314.keep g348
              replace r318 := r318.up g348.f
              replace r324 := r324.up g348.f
              replace r330 := r330.up g348.f
              replace r337 := r337.up g348.f
              replace r343 := r343.up g348.f
              show _ ∧ _
              refine new_tup (K := K) (M := []) eF346 (.cons (Dq.int (0 : Int)) (.cons (Dq.int (1 : Int)) .nil)) (by show 2 ≤ 100000; decide) fun v356 F352 H353 g354 r355 => ?_
              have eF352 := g354.s
              have gF352 := gF346.trans (g354.weak (by simp))
              replace r5 := r5.up g354.f
              replace r12 := r12.up g354.f
              replace r18 := r18.up g354.f
              replace r31 := r31.up g354.f
              replace r43 := r43.up g354.f
              replace r76 := r76.up g354.f
              replace r83 := r83.up g354.f
              replace r102 := r102.up g354.f
              replace s126 := g354.f _ _ s126
              replace a127 := a127.up g354.f
              replace r131 := r131.up g354.f
              replace s135 := ex_t g354.f s135
              replace a136 := a136.up g354.f
              replace r144 := r144.up g354.f
              replace r168 := r168.up g354.f
              replace r175 := r175.up g354.f
              replace r182 := r182.up g354.f
              replace r189 := r189.up g354.f
              replace r196 := r196.up g354.f
              replace s209 := ex_t g354.f s209
              replace d210 := d210.up g354.f
              replace d211 := d211.up g354.f
              replace s214 := ex_t g354.f s214
              replace a215 := a215.up g354.f
              replace o312 := g354.own (by simp [*]) o312.1 o312.2
              replace a313 := a313.up g354.f
              replace w314 := w314.keep g354
              replace r318 := r318.up g354.f
              replace r324 := r324.up g354.f
              replace r330 := r330.up g354.f
              replace r337 := r337.up g354.f
              replace r343 := r343.up g354.f
              replace r349 := r349.up g354.f
              replace r355 : Dq K F352 v356 ((e2 PyData.int PyData.int) ((0 : Int), (1 : Int))) := r355
              refine ⟨b345, ((0 : Int), (1 : Int)), r349.dp eF352, r355.dp eF352, ?_⟩
              exact k.h _
            · exact k.h _
end L

set_option Elab.async false
set_option linter.all false
set_option maxRecDepth 100000
set_option maxHeartbeats 0
namespace L
open PySem L2 Evl Wk
abbrev sp_p_masses : Stmt := inClass (top 23) 1
abbrev sp_p_stretches : Stmt := inClass (top 23) 2
/-! ### the head -/
def dd_whole_within : He5.DefA := ⟨gAt "whole_within", "whole_within", "whole_within", defArgs s_whole_within, defBody s_whole_within, defScope s_whole_within, [], []⟩
def dd_check_within : He5.DefA := ⟨gAt "check_within", "check_within", "check_within", defArgs s_check_within, defBody s_check_within, defScope s_check_within, [], []⟩
def dd_power_of : He5.DefA := ⟨gAt "power_of", "power_of", "power_of", defArgs s_power_of, defBody s_power_of, defScope s_power_of, [], []⟩
def dd_lowest : He5.DefA := ⟨gAt "lowest", "lowest", "lowest", defArgs s_lowest, defBody s_lowest, defScope s_lowest, [], []⟩
def dd_plus : He5.DefA := ⟨gAt "plus", "plus", "plus", defArgs s_plus, defBody s_plus, defScope s_plus, [], []⟩
def dd_times : He5.DefA := ⟨gAt "times", "times", "times", defArgs s_times, defBody s_times, defScope s_times, [], []⟩
def dd_over : He5.DefA := ⟨gAt "over", "over", "over", defArgs s_over, defBody s_over, defScope s_over, [], []⟩
def dd_added_up : He5.DefA := ⟨gAt "added_up", "added_up", "added_up", defArgs s_added_up, defBody s_added_up, defScope s_added_up, [], []⟩
def dd_is_place : He5.DefA := ⟨gAt "is_place", "is_place", "is_place", defArgs s_is_place, defBody s_is_place, defScope s_is_place, [], []⟩
def dd_is_mass : He5.DefA := ⟨gAt "is_mass", "is_mass", "is_mass", defArgs s_is_mass, defBody s_is_mass, defScope s_is_mass, [], []⟩
def dd_check_masses : He5.DefA := ⟨gAt "check_masses", "check_masses", "check_masses", defArgs s_check_masses, defBody s_check_masses, defScope s_check_masses, [], []⟩
def dd_check_stretches : He5.DefA := ⟨gAt "check_stretches", "check_stretches", "check_stretches", defArgs s_check_stretches, defBody s_check_stretches, defScope s_check_stretches, [], []⟩
def dd_Weighting_init : He5.DefA := ⟨initAt "Weighting" "__init__", "__init__", "Weighting.__init__", defArgs s_Weighting_init, defBody s_Weighting_init, defScope s_Weighting_init, [], []⟩
def dd_checked_polynomial : He5.DefA := ⟨gAt "checked_polynomial", "checked_polynomial", "checked_polynomial", defArgs s_checked_polynomial, defBody s_checked_polynomial, defScope s_checked_polynomial, [], []⟩
def dd_power_sum : He5.DefA := ⟨gAt "power_sum", "power_sum", "power_sum", defArgs s_power_sum, defBody s_power_sum, defScope s_power_sum, [], []⟩
def dd_power_sums : He5.DefA := ⟨gAt "power_sums", "power_sums", "power_sums", defArgs s_power_sums, defBody s_power_sums, defScope s_power_sums, [], []⟩
def dd_weighed : He5.DefA := ⟨gAt "weighed", "weighed", "weighed", defArgs s_weighed, defBody s_weighed, defScope s_weighed, [], []⟩
def dd_total : He5.DefA := ⟨gAt "total", "total", "total", defArgs s_total, defBody s_total, defScope s_total, [], []⟩
def dd_mean : He5.DefA := ⟨gAt "mean", "mean", "mean", defArgs s_mean, defBody s_mean, defScope s_mean, [], []⟩
def dd_law_taken : He5.DefA := ⟨gAt "_law_taken", "_law_taken", "_law_taken", defArgs s_law_taken, defBody s_law_taken, defScope s_law_taken, [], []⟩
def dd_law_pick : He5.DefA := ⟨gAt "_law_pick", "_law_pick", "_law_pick", defArgs s_law_pick, defBody s_law_pick, defScope s_law_pick, [], []⟩
def dd_law_low : He5.DefA := ⟨gAt "_law_low", "_law_low", "_law_low", defArgs s_law_low, defBody s_law_low, defScope s_law_low, [], []⟩
def dd_law_add : He5.DefA := ⟨gAt "_law_add", "_law_add", "_law_add", defArgs s_law_add, defBody s_law_add, defScope s_law_add, [], []⟩
def dd_law_mul : He5.DefA := ⟨gAt "_law_mul", "_law_mul", "_law_mul", defArgs s_law_mul, defBody s_law_mul, defScope s_law_mul, [], []⟩
def dd_law_over : He5.DefA := ⟨gAt "_law_over", "_law_over", "_law_over", defArgs s_law_over, defBody s_law_over, defScope s_law_over, [], []⟩
def dd_law_masses : He5.DefA := ⟨gAt "_law_masses", "_law_masses", "_law_masses", defArgs s_law_masses, defBody s_law_masses, defScope s_law_masses, [], []⟩
def dd_law_stretches : He5.DefA := ⟨gAt "_law_stretches", "_law_stretches", "_law_stretches", defArgs s_law_stretches, defBody s_law_stretches, defScope s_law_stretches, [], []⟩
def dd_law_parts : He5.DefA := ⟨gAt "_law_parts", "_law_parts", "_law_parts", defArgs s_law_parts, defBody s_law_parts, defScope s_law_parts, [], []⟩
def dd_law_weighting : He5.DefA := ⟨gAt "_law_weighting", "_law_weighting", "_law_weighting", defArgs s_law_weighting, defBody s_law_weighting, defScope s_law_weighting, [], []⟩
def dd_law_sum : He5.DefA := ⟨gAt "_law_sum", "_law_sum", "_law_sum", defArgs s_law_sum, defBody s_law_sum, defScope s_law_sum, [], []⟩
def dd_law_total : He5.DefA := ⟨gAt "_law_total", "_law_total", "_law_total", defArgs s_law_total, defBody s_law_total, defScope s_law_total, [], []⟩
def dd_law : He5.DefA := ⟨gAt "law", "law", "law", defArgs s_law, defBody s_law, defScope s_law, [], []⟩
def dd_p_masses : He5.DefA := ⟨propG "Weighting" "masses", "masses", "Weighting.masses", defArgs sp_p_masses, defBody sp_p_masses, defScope sp_p_masses, [], []⟩
def dd_p_stretches : He5.DefA := ⟨propG "Weighting" "stretches", "stretches", "Weighting.stretches", defArgs sp_p_stretches, defBody sp_p_stretches, defScope sp_p_stretches, [], []⟩
def fn : List He5.DefA := [dd_whole_within, dd_check_within, dd_power_of, dd_lowest, dd_plus, dd_times, dd_over, dd_added_up, dd_is_place, dd_is_mass, dd_check_masses, dd_check_stretches, dd_Weighting_init, dd_checked_polynomial, dd_power_sum, dd_power_sums, dd_weighed, dd_total, dd_mean, dd_law_taken, dd_law_pick, dd_law_low, dd_law_add, dd_law_mul, dd_law_over, dd_law_masses, dd_law_stretches, dd_law_parts, dd_law_weighting, dd_law_sum, dd_law_total, dd_law, dd_p_masses, dd_p_stretches]
def fa : List He.Fa := [.free "len", .free "int", .free "bool", .free "str", .free "abs", .free "sum", .free "min", .free "max", .free "list", .free "tuple", .free "set", .free "dict", .free "sorted", .free "range", .free "enumerate", .free "zip", .free "reversed", .free "isinstance", .glo "whole_within", .glo "check_within", .glo "power_of", .glo "lowest", .glo "plus", .glo "times", .glo "over", .glo "added_up", .glo "is_place", .glo "is_mass", .glo "check_masses", .glo "check_stretches", .glo "checked_polynomial", .glo "power_sum", .glo "power_sums", .glo "weighed", .glo "total", .glo "mean", .glo "_law_taken", .glo "_law_pick", .glo "_law_low", .glo "_law_add", .glo "_law_mul", .glo "_law_over", .glo "_law_masses", .glo "_law_stretches", .glo "_law_parts", .glo "_law_weighting", .glo "_law_sum", .glo "_law_total", .glo "law", .glo "Weighting", .cls "Weighting", .mkr "Weighting", .noat "Weighting" "_masses", .noat "Weighting" "_stretches", .glo "NOUGHT", .int "FARTHEST" (20), .int "HEAVIEST" (20), .int "MOST_MASSES" (6), .int "MOST_STRETCHES" (4), .int "MOST_COEFFICIENTS" (13), .int "MOST_POWER" (60)]
def ex (K : PySem.W.Frag) : Bool := propB "Weighting" "masses" K && (propB "Weighting" "stretches" K && (bltB "gcd" "math.gcd" K && (He.tupB K "NOUGHT" [.int (0), .int (1)])))
abbrev R : PySem.W.OpenRow := PySem.W.OpenLaw.row PySem.Challenge.rw_fewreadings_k03_whole_sums_by_own_adding
abbrev hk : PySem.W.Hook := hookX 6 fa fn ex
def ob (s : PySem.W.SharedT) : He.AlD := obsXG 6 fa fn ex (HandSHeadRun.getT s)
theorem ob_eq (s : PySem.W.SharedT) : ob s = hk.obs s.abs := obsXG_eq (HandSHeadRun.getT_eq s)
abbrev looseN : List Str := (["ReadingError", "InvalidWeighting", "InvalidNumber", "InvalidPolynomial", "NOUGHT", "whole_within", "check_within", "power_of", "lowest", "plus", "times", "over", "added_up", "FARTHEST", "HEAVIEST", "MOST_MASSES", "MOST_STRETCHES", "MOST_POWER", "MOST_COEFFICIENTS", "Weighting"] : List Str) ++ (["is_place", "is_mass", "check_masses", "check_stretches", "checked_polynomial", "power_sum", "power_sums", "weighed", "total", "mean", "_law_taken", "_law_pick", "_law_low", "_law_add", "_law_mul", "_law_over", "_law_masses", "_law_stretches", "_law_parts", "_law_weighting"] : List Str) ++ (["_law_sum", "_law_total"] : List Str)
abbrev vw : Program := PySem.W.view R.prog [0, 47]
theorem run (w : World) : HandSHeadRun.RunEqI R vw hk ob 6000 looseN w := by
  unfold HandSHeadRun.RunEqI
  kernel_rfl
theorem facts {P : Program} {w : World} {K : PySem.W.Frag} {h : Heap} {mg : Str → Option Value} {f : Addr} (X : K.In h) (G : h.Ns mainGlobals mg) (hfa : mg ("law" : Str) = some (.ref f)) (c : SaysX fa fn ex K) :
    ∃ fd : FuncData, (∀ (s : Shared) (v : Value), BindsTo s fd ⟨[v], []⟩ [("_law_script", v)]) ∧ ∀ base : Heap, K.In base → base.Ns mainGlobals mg → FnOk P w K mg base CX0 7 f fd ["_law_script"] (sp_law K) := by
  have B : Bi mg := ⟨He.free_ok X G (c.fact 0 (f := .free "len") rfl), He.free_ok X G (c.fact 1 (f := .free "int") rfl), He.free_ok X G (c.fact 2 (f := .free "bool") rfl), He.free_ok X G (c.fact 3 (f := .free "str") rfl), He.free_ok X G (c.fact 4 (f := .free "abs") rfl), He.free_ok X G (c.fact 5 (f := .free "sum") rfl), He.free_ok X G (c.fact 6 (f := .free "min") rfl), He.free_ok X G (c.fact 7 (f := .free "max") rfl), He.free_ok X G (c.fact 8 (f := .free "list") rfl), He.free_ok X G (c.fact 9 (f := .free "tuple") rfl), He.free_ok X G (c.fact 10 (f := .free "set") rfl), He.free_ok X G (c.fact 11 (f := .free "dict") rfl), He.free_ok X G (c.fact 12 (f := .free "sorted") rfl), He.free_ok X G (c.fact 13 (f := .free "range") rfl), He.free_ok X G (c.fact 14 (f := .free "enumerate") rfl), He.free_ok X G (c.fact 15 (f := .free "zip") rfl), He.free_ok X G (c.fact 16 (f := .free "reversed") rfl), He.free_ok X G (c.fact 17 (f := .free "isinstance") rfl)⟩
  obtain ⟨fd_whole_within, F_whole_within⟩ := c.def_ 0 (d := dd_whole_within) rfl
  obtain ⟨fd_check_within, F_check_within⟩ := c.def_ 1 (d := dd_check_within) rfl
  obtain ⟨fd_power_of, F_power_of⟩ := c.def_ 2 (d := dd_power_of) rfl
  obtain ⟨fd_lowest, F_lowest⟩ := c.def_ 3 (d := dd_lowest) rfl
  obtain ⟨fd_plus, F_plus⟩ := c.def_ 4 (d := dd_plus) rfl
  obtain ⟨fd_times, F_times⟩ := c.def_ 5 (d := dd_times) rfl
  obtain ⟨fd_over, F_over⟩ := c.def_ 6 (d := dd_over) rfl
  obtain ⟨fd_added_up, F_added_up⟩ := c.def_ 7 (d := dd_added_up) rfl
  obtain ⟨fd_is_place, F_is_place⟩ := c.def_ 8 (d := dd_is_place) rfl
  obtain ⟨fd_is_mass, F_is_mass⟩ := c.def_ 9 (d := dd_is_mass) rfl
  obtain ⟨fd_check_masses, F_check_masses⟩ := c.def_ 10 (d := dd_check_masses) rfl
  obtain ⟨fd_check_stretches, F_check_stretches⟩ := c.def_ 11 (d := dd_check_stretches) rfl
  obtain ⟨fd_Weighting_init, F_Weighting_init⟩ := c.def_ 12 (d := dd_Weighting_init) rfl
  obtain ⟨fd_checked_polynomial, F_checked_polynomial⟩ := c.def_ 13 (d := dd_checked_polynomial) rfl
  obtain ⟨fd_power_sum, F_power_sum⟩ := c.def_ 14 (d := dd_power_sum) rfl
  obtain ⟨fd_power_sums, F_power_sums⟩ := c.def_ 15 (d := dd_power_sums) rfl
  obtain ⟨fd_weighed, F_weighed⟩ := c.def_ 16 (d := dd_weighed) rfl
  obtain ⟨fd_total, F_total⟩ := c.def_ 17 (d := dd_total) rfl
  obtain ⟨fd_mean, F_mean⟩ := c.def_ 18 (d := dd_mean) rfl
  obtain ⟨fd_law_taken, F_law_taken⟩ := c.def_ 19 (d := dd_law_taken) rfl
  obtain ⟨fd_law_pick, F_law_pick⟩ := c.def_ 20 (d := dd_law_pick) rfl
  obtain ⟨fd_law_low, F_law_low⟩ := c.def_ 21 (d := dd_law_low) rfl
  obtain ⟨fd_law_add, F_law_add⟩ := c.def_ 22 (d := dd_law_add) rfl
  obtain ⟨fd_law_mul, F_law_mul⟩ := c.def_ 23 (d := dd_law_mul) rfl
  obtain ⟨fd_law_over, F_law_over⟩ := c.def_ 24 (d := dd_law_over) rfl
  obtain ⟨fd_law_masses, F_law_masses⟩ := c.def_ 25 (d := dd_law_masses) rfl
  obtain ⟨fd_law_stretches, F_law_stretches⟩ := c.def_ 26 (d := dd_law_stretches) rfl
  obtain ⟨fd_law_parts, F_law_parts⟩ := c.def_ 27 (d := dd_law_parts) rfl
  obtain ⟨fd_law_weighting, F_law_weighting⟩ := c.def_ 28 (d := dd_law_weighting) rfl
  obtain ⟨fd_law_sum, F_law_sum⟩ := c.def_ 29 (d := dd_law_sum) rfl
  obtain ⟨fd_law_total, F_law_total⟩ := c.def_ 30 (d := dd_law_total) rfl
  obtain ⟨fd_law, F_law⟩ := c.def_ 31 (d := dd_law) rfl
  obtain ⟨fd_p_masses, F_p_masses⟩ := c.def_ 32 (d := dd_p_masses) rfl
  obtain ⟨fd_p_stretches, F_p_stretches⟩ := c.def_ 33 (d := dd_p_stretches) rfl
  have e0 := c.ext
  obtain ⟨x0, e1⟩ := He.ba e0
  obtain ⟨x1, e2⟩ := He.ba e1
  obtain ⟨x2, e3⟩ := He.ba e2
  have x3 := e3
  have c_gcd := bltB_ok X G x2
  have c_NOUGHT := He.glo_ok X G (c.fact 54 (f := .glo "NOUGHT") rfl)
  have d_NOUGHT : ∀ F, Dq K F (.ref (He.ga K "NOUGHT")) (.tuple [.int (0), .int (1)]) := fun F => .tup (He.tupB_ok x3 F) (.cons (Dq.int _) (.cons (Dq.int _) (.nil)))
  have c_FARTHEST := He.int_ok X G (c.fact 55 (f := .int "FARTHEST" (20)) rfl)
  have c_HEAVIEST := He.int_ok X G (c.fact 56 (f := .int "HEAVIEST" (20)) rfl)
  have c_MOST_MASSES := He.int_ok X G (c.fact 57 (f := .int "MOST_MASSES" (6)) rfl)
  have c_MOST_STRETCHES := He.int_ok X G (c.fact 58 (f := .int "MOST_STRETCHES" (4)) rfl)
  have c_MOST_COEFFICIENTS := He.int_ok X G (c.fact 59 (f := .int "MOST_COEFFICIENTS" (13)) rfl)
  have c_MOST_POWER := He.int_ok X G (c.fact 60 (f := .int "MOST_POWER" (60)) rfl)
  have cl := He.cls_ok (c.fact 50 (f := .cls "Weighting") rfl)
  have n_masses := He.noat_ok (c.fact 52 (f := .noat "Weighting" "_masses") rfl)
  have n_stretches := He.noat_ok (c.fact 53 (f := .noat "Weighting" "_stretches") rfl)
  have e := hfa.symm.trans (He.glo_ok X G (c.fact 48 (f := .glo "law") rfl))
  cases e
  have bl := FunD.bindsA (ps := ["_law_script"]) F_law fun _ _ _ _ _ _ us hl => match us, hl with | [_], _ => rfl
  refine ⟨fd_law, fun s v => bl s [v] rfl, fun base _ _ => ?_⟩
  have GP_masses : KnP P w K mg base (He.ga K "Weighting") "masses" "_masses" := knP_of x0 cl n_masses F_p_masses ⟨rfl, rfl, rfl, by decide +kernel, rfl, by decide +kernel, by decide +kernel⟩ rfl fun _ _ _ _ _ _ us hl => match us, hl with | [_], _ => rfl
  have GP_stretches : KnP P w K mg base (He.ga K "Weighting") "stretches" "_stretches" := knP_of x1 cl n_stretches F_p_stretches ⟨rfl, rfl, rfl, by decide +kernel, rfl, by decide +kernel, by decide +kernel⟩ rfl fun _ _ _ _ _ _ us hl => match us, hl with | [_], _ => rfl
  have G_whole_within : Kn P w K mg base "whole_within" 1 ["number", "low", "high"] (sp_whole_within K) := ⟨_, _, ok_whole_within (C := He.ga K "Weighting") B F_whole_within, He.glo_ok X G (c.fact 18 (f := .glo "whole_within") rfl), F_whole_within.kp, F_whole_within.bindsN fun _ _ _ _ _ _ us hl => match us, hl with | [_, _, _], _ => rfl⟩
  have G_check_within : Kn P w K mg base "check_within" 2 ["number", "low", "high"] (sp_check_within K) := ⟨_, _, ok_check_within (C := He.ga K "Weighting") B F_check_within G_whole_within, He.glo_ok X G (c.fact 19 (f := .glo "check_within") rfl), F_check_within.kp, F_check_within.bindsN fun _ _ _ _ _ _ us hl => match us, hl with | [_, _, _], _ => rfl⟩
  have G_power_of : Kn P w K mg base "power_of" 1 ["base", "power"] (sp_power_of K) := ⟨_, _, ok_power_of (C := He.ga K "Weighting") B F_power_of, He.glo_ok X G (c.fact 20 (f := .glo "power_of") rfl), F_power_of.kp, F_power_of.bindsN fun _ _ _ _ _ _ us hl => match us, hl with | [_, _], _ => rfl⟩
  have G_lowest : Kn P w K mg base "lowest" 1 ["top", "bottom"] (sp_lowest K) := ⟨_, _, ok_lowest (C := He.ga K "Weighting") B F_lowest c_gcd, He.glo_ok X G (c.fact 21 (f := .glo "lowest") rfl), F_lowest.kp, F_lowest.bindsN fun _ _ _ _ _ _ us hl => match us, hl with | [_, _], _ => rfl⟩
  have G_plus : Kn P w K mg base "plus" 2 ["one", "other"] (sp_plus K) := ⟨_, _, ok_plus (C := He.ga K "Weighting") B F_plus G_lowest, He.glo_ok X G (c.fact 22 (f := .glo "plus") rfl), F_plus.kp, F_plus.bindsN fun _ _ _ _ _ _ us hl => match us, hl with | [_, _], _ => rfl⟩
  have G_times : Kn P w K mg base "times" 2 ["one", "other"] (sp_times K) := ⟨_, _, ok_times (C := He.ga K "Weighting") B F_times G_lowest, He.glo_ok X G (c.fact 23 (f := .glo "times") rfl), F_times.kp, F_times.bindsN fun _ _ _ _ _ _ us hl => match us, hl with | [_, _], _ => rfl⟩
  have G_over : Kn P w K mg base "over" 2 ["one", "other"] (sp_over K) := ⟨_, _, ok_over (C := He.ga K "Weighting") B F_over G_lowest, He.glo_ok X G (c.fact 24 (f := .glo "over") rfl), F_over.kp, F_over.bindsN fun _ _ _ _ _ _ us hl => match us, hl with | [_, _], _ => rfl⟩
  have G_added_up : Kn P w K mg base "added_up" 3 ["fractions"] (sp_added_up K) := ⟨_, _, ok_added_up (C := He.ga K "Weighting") B F_added_up G_plus c_NOUGHT d_NOUGHT, He.glo_ok X G (c.fact 25 (f := .glo "added_up") rfl), F_added_up.kp, F_added_up.bindsN fun _ _ _ _ _ _ us hl => match us, hl with | [_], _ => rfl⟩
  have G_is_place : Kn P w K mg base "is_place" 2 ["number"] (sp_is_place K) := ⟨_, _, ok_is_place (C := He.ga K "Weighting") B F_is_place G_whole_within c_FARTHEST, He.glo_ok X G (c.fact 26 (f := .glo "is_place") rfl), F_is_place.kp, F_is_place.bindsN fun _ _ _ _ _ _ us hl => match us, hl with | [_], _ => rfl⟩
  have G_is_mass : Kn P w K mg base "is_mass" 2 ["number"] (sp_is_mass K) := ⟨_, _, ok_is_mass (C := He.ga K "Weighting") B F_is_mass G_whole_within c_HEAVIEST, He.glo_ok X G (c.fact 27 (f := .glo "is_mass") rfl), F_is_mass.kp, F_is_mass.bindsN fun _ _ _ _ _ _ us hl => match us, hl with | [_], _ => rfl⟩
  have G_check_masses : Kn P w K mg base "check_masses" 3 ["masses"] (sp_check_masses K) := ⟨_, _, ok_check_masses (C := He.ga K "Weighting") B F_check_masses G_is_place G_is_mass c_FARTHEST c_MOST_MASSES, He.glo_ok X G (c.fact 28 (f := .glo "check_masses") rfl), F_check_masses.kp, F_check_masses.bindsN fun _ _ _ _ _ _ us hl => match us, hl with | [_], _ => rfl⟩
  have G_check_stretches : Kn P w K mg base "check_stretches" 3 ["stretches"] (sp_check_stretches K) := ⟨_, _, ok_check_stretches (C := He.ga K "Weighting") B F_check_stretches G_is_place G_is_mass c_FARTHEST c_MOST_STRETCHES, He.glo_ok X G (c.fact 29 (f := .glo "check_stretches") rfl), F_check_stretches.kp, F_check_stretches.bindsN fun _ _ _ _ _ _ us hl => match us, hl with | [_], _ => rfl⟩
  have GC_Weighting : KnC P w K mg base CX0 "Weighting" (He.ga K "Weighting") 4 ["self", "masses", "stretches"] (spW0 Weighting_init K (He.ga K "Weighting")) := ⟨⟨_, _, He.mkr_ok (c.fact 51 (f := .mkr "Weighting") rfl), ok_Weighting_init (C := He.ga K "Weighting") B cl n_masses n_stretches F_Weighting_init G_check_masses G_check_stretches, F_Weighting_init.bindsN fun _ _ _ _ _ _ us hl => match us, hl with | [_, _, _], _ => rfl⟩, He.glo_ok X G (c.fact 49 (f := .glo "Weighting") rfl)⟩
  have G_checked_polynomial : Kn P w K mg base "checked_polynomial" 1 ["polynomial"] (sp_checked_polynomial K) := ⟨_, _, ok_checked_polynomial (C := He.ga K "Weighting") B F_checked_polynomial c_MOST_COEFFICIENTS, He.glo_ok X G (c.fact 30 (f := .glo "checked_polynomial") rfl), F_checked_polynomial.kp, F_checked_polynomial.bindsN fun _ _ _ _ _ _ us hl => match us, hl with | [_], _ => rfl⟩
  have G_power_sum : Kn P w K mg base "power_sum" 3 ["weighting", "power"] (sp_power_sum K (He.ga K "Weighting")) := ⟨_, _, ok_power_sum (C := He.ga K "Weighting") B F_power_sum G_check_within G_power_of G_lowest c_MOST_POWER GP_masses GP_stretches, He.glo_ok X G (c.fact 31 (f := .glo "power_sum") rfl), F_power_sum.kp, F_power_sum.bindsN fun _ _ _ _ _ _ us hl => match us, hl with | [_, _], _ => rfl⟩
  have G_power_sums : Kn P w K mg base "power_sums" 4 ["weighting", "count"] (sp_power_sums K (He.ga K "Weighting")) := ⟨_, _, ok_power_sums (C := He.ga K "Weighting") B F_power_sums G_check_within G_power_sum c_MOST_POWER, He.glo_ok X G (c.fact 32 (f := .glo "power_sums") rfl), F_power_sums.kp, F_power_sums.bindsN fun _ _ _ _ _ _ us hl => match us, hl with | [_, _], _ => rfl⟩
  have G_weighed : Kn P w K mg base "weighed" 4 ["weighting", "coefficients"] (sp_weighed K (He.ga K "Weighting")) := ⟨_, _, ok_weighed (C := He.ga K "Weighting") B F_weighed G_added_up G_times G_power_sum, He.glo_ok X G (c.fact 33 (f := .glo "weighed") rfl), F_weighed.kp, F_weighed.bindsN fun _ _ _ _ _ _ us hl => match us, hl with | [_, _], _ => rfl⟩
  have G_total : Kn P w K mg base "total" 5 ["weighting", "polynomial"] (sp_total K (He.ga K "Weighting")) := ⟨_, _, ok_total (C := He.ga K "Weighting") B F_total G_weighed G_checked_polynomial, He.glo_ok X G (c.fact 34 (f := .glo "total") rfl), F_total.kp, F_total.bindsN fun _ _ _ _ _ _ us hl => match us, hl with | [_, _], _ => rfl⟩
  have G_mean : Kn P w K mg base "mean" 6 ["weighting", "polynomial"] (sp_mean K (He.ga K "Weighting")) := ⟨_, _, ok_mean (C := He.ga K "Weighting") B F_mean G_over G_total G_power_sum, He.glo_ok X G (c.fact 35 (f := .glo "mean") rfl), F_mean.kp, F_mean.bindsN fun _ _ _ _ _ _ us hl => match us, hl with | [_, _], _ => rfl⟩
  have G_law_taken : Kn P w K mg base "_law_taken" 1 ["_law_row", "_law_many"] (spTaken takenA K) := ⟨_, _, ok_law_taken B F_law_taken, He.glo_ok X G (c.fact 36 (f := .glo "_law_taken") rfl), F_law_taken.kp, F_law_taken.bindsN fun _ _ _ _ _ _ us hl => match us, hl with | [_, _], _ => rfl⟩
  have G_law_pick : Kn P w K mg base "_law_pick" 2 ["_law_row", "_law_some"] (spPick takenA K) := ⟨_, _, ok_law_pick B F_law_pick G_law_taken, He.glo_ok X G (c.fact 37 (f := .glo "_law_pick") rfl), F_law_pick.kp, F_law_pick.bindsN fun _ _ _ _ _ _ us hl => match us, hl with | [_, _], _ => rfl⟩
  have G_law_low : Kn P w K mg base "_law_low" 1 ["_law_top", "_law_bottom"] (sp_law_low K) := ⟨_, _, ok_law_low (C := He.ga K "Weighting") B F_law_low, He.glo_ok X G (c.fact 38 (f := .glo "_law_low") rfl), F_law_low.kp, F_law_low.bindsN fun _ _ _ _ _ _ us hl => match us, hl with | [_, _], _ => rfl⟩
  have G_law_add : Kn P w K mg base "_law_add" 2 ["_law_one", "_law_other"] (sp_law_add K) := ⟨_, _, ok_law_add (C := He.ga K "Weighting") B F_law_add G_law_low, He.glo_ok X G (c.fact 39 (f := .glo "_law_add") rfl), F_law_add.kp, F_law_add.bindsN fun _ _ _ _ _ _ us hl => match us, hl with | [_, _], _ => rfl⟩
  have G_law_mul : Kn P w K mg base "_law_mul" 2 ["_law_one", "_law_other"] (sp_law_mul K) := ⟨_, _, ok_law_mul (C := He.ga K "Weighting") B F_law_mul G_law_low, He.glo_ok X G (c.fact 40 (f := .glo "_law_mul") rfl), F_law_mul.kp, F_law_mul.bindsN fun _ _ _ _ _ _ us hl => match us, hl with | [_, _], _ => rfl⟩
  have G_law_over : Kn P w K mg base "_law_over" 2 ["_law_one", "_law_other"] (sp_law_over K) := ⟨_, _, ok_law_over (C := He.ga K "Weighting") B F_law_over G_law_low, He.glo_ok X G (c.fact 41 (f := .glo "_law_over") rfl), F_law_over.kp, F_law_over.bindsN fun _ _ _ _ _ _ us hl => match us, hl with | [_, _], _ => rfl⟩
  have G_law_masses : Kn P w K mg base "_law_masses" 3 ["_law_row", "_law_most", "_law_far"] (sp_law_masses K) := ⟨_, _, ok_law_masses (C := He.ga K "Weighting") B F_law_masses G_law_taken G_law_pick, He.glo_ok X G (c.fact 42 (f := .glo "_law_masses") rfl), F_law_masses.kp, F_law_masses.bindsN fun _ _ _ _ _ _ us hl => match us, hl with | [_, _, _], _ => rfl⟩
  have G_law_stretches : Kn P w K mg base "_law_stretches" 2 ["_law_row", "_law_most", "_law_far"] (sp_law_stretches K) := ⟨_, _, ok_law_stretches (C := He.ga K "Weighting") B F_law_stretches G_law_taken, He.glo_ok X G (c.fact 43 (f := .glo "_law_stretches") rfl), F_law_stretches.kp, F_law_stretches.bindsN fun _ _ _ _ _ _ us hl => match us, hl with | [_, _, _], _ => rfl⟩
  have G_law_parts : Kn P w K mg base "_law_parts" 4 ["_law_row"] (sp_law_parts K) := ⟨_, _, ok_law_parts (C := He.ga K "Weighting") B F_law_parts G_law_pick G_law_masses G_law_stretches, He.glo_ok X G (c.fact 44 (f := .glo "_law_parts") rfl), F_law_parts.kp, F_law_parts.bindsN fun _ _ _ _ _ _ us hl => match us, hl with | [_], _ => rfl⟩
  have G_law_weighting : Kn P w K mg base "_law_weighting" 6 ["_law_parts_here"] (sp_law_weighting K (He.ga K "Weighting")) := ⟨_, _, ok_law_weighting (C := He.ga K "Weighting") B F_law_weighting GC_Weighting, He.glo_ok X G (c.fact 45 (f := .glo "_law_weighting") rfl), F_law_weighting.kp, F_law_weighting.bindsN fun _ _ _ _ _ _ us hl => match us, hl with | [_], _ => rfl⟩
  have G_law_sum : Kn P w K mg base "_law_sum" 3 ["_law_parts_here", "_law_count"] (sp_law_sum K) := ⟨_, _, ok_law_sum (C := He.ga K "Weighting") B F_law_sum G_law_add G_law_low, He.glo_ok X G (c.fact 46 (f := .glo "_law_sum") rfl), F_law_sum.kp, F_law_sum.bindsN fun _ _ _ _ _ _ us hl => match us, hl with | [_, _], _ => rfl⟩
  have G_law_total : Kn P w K mg base "_law_total" 4 ["_law_parts_here", "_law_some"] (sp_law_total K) := ⟨_, _, ok_law_total (C := He.ga K "Weighting") B F_law_total G_law_add G_law_mul G_law_sum, He.glo_ok X G (c.fact 47 (f := .glo "_law_total") rfl), F_law_total.kp, F_law_total.bindsN fun _ _ _ _ _ _ us hl => match us, hl with | [_, _], _ => rfl⟩
  exact ok_law (C := He.ga K "Weighting") B F_law G_law_parts G_law_weighting G_law_pick G_power_sums G_law_sum G_law_taken G_power_sum G_law_total G_total G_mean G_law_over GC_Weighting
open PySem PySem.W PySem.Calls PyProof.Rows
theorem of_law (math : ∀ scr : List Int, scr.length ≤ 63 → law scr = .ok true) : PySem.Challenge.rw_fewreadings_k03_whole_sums_by_own_adding.Holds := by
  w_on; o_law
  refine HandSHeadRun.head_imp (r := R) (q := vw) (H := hk) (ob := ob) (M := 6000) (loose := looseN) (d := HandSHeadRun.topDef R.prog 47) (kwd := []) ob_eq
    run (by kernel_rfl) (by kernel_rfl) (by kernel_rfl) (by rfl) (by first | assumption | decide +kernel) (by decide +kernel) ⟨rfl, rfl, rfl, rfl, rfl, by decide +kernel⟩ ?hw ?hc
  case hw => w_witness2
  case hc =>
    refine L2.walk_ofE (l := PySem.Challenge.rw_fewreadings_k03_whole_sums_by_own_adding) (n := 63) (k := 7) (x := "_law_script") (CX := L2.CX0) rfl (by decide) (by kernel_rfl) ⟨rfl, by decide, by decide⟩ ?F (fun _ _ _ _ z => z)
    intro w mg fa h Y G hmg0
    obtain ⟨K, KX, c⟩ := Y
    have hmg : mg ("law" : PySem.Str) = some (.ref fa) := by
      have e : (HandSHeadRun.topDef R.prog 47).name = ("law" : PySem.Str) := by kernel_rfl
      rw [← e]
      exact hmg0
    obtain ⟨fd, hb, hF⟩ := facts (P := PySem.Challenge.rw_fewreadings_k03_whole_sums_by_own_adding.prog) (w := w) KX G hmg c
    refine ⟨K, fd, sp_law K, KX, hb, fun H a ns hl _ hS => ⟨a, ns, rfl, hS, ?_⟩, hF⟩
    rw [math ns hl]
    exact ⟨fun H => rfl⟩
end L

set_option Elab.async false
set_option linter.all false
set_option maxRecDepth 100000
set_option maxHeartbeats 1000000
namespace L
open PySem L2 Evl Wk
/-! ### fractions: program and law tell the same -/
theorem lowest_ok {a b : Int} {n : Nat} (h : 0 < b) (hb : b.natAbs < 2 ^ n) (hn : n < 9000) : lowest a b = .ok (fr ((a : Rat) / (b : Rat))) := by
  unfold lowest
  have g0 := gcd_pos_int (a := a) h
  have g1 := Nat.lt_of_le_of_lt (gcd_le_int (a := a) h) hb
  rw [show decide (b < 0) = false from decide_eq_false (by omega)]
  show (divM a _).bd _ = _
  rw [div_ok g0 g1 hn]
  show (divM b _).bd _ = _
  rw [div_ok g0 g1 hn, fr_int a h]
  rfl
theorem plus_ok {p q : Rat} {a b : Nat} (ha : Sq a p) (hb : Sq b q) (h : a + b < 8999) : plus (fr p) (fr q) = .ok (fr (p + q)) := by
  unfold plus
  rw [mul_ok (i := (fr p).1) (j := (fr q).2) ha.1 hb.d (by omega)]
  show (mulM (fr q).1 (fr p).2).bd _ = _
  rw [mul_ok (i := (fr q).1) (j := (fr p).2) hb.1 ha.d (by omega)]
  show (mulM (fr p).2 (fr q).2).bd _ = _
  rw [mul_ok (i := (fr p).2) (j := (fr q).2) ha.d hb.d (by omega)]
  show (lowest _ _).bd _ = _
  rw [lowest_ok (b := (fr p).2 * (fr q).2) (n := a + b) (Int.mul_pos (den_posI p) (den_posI q)) (mul_lt ha.d hb.d (Nat.le_refl _)) (by omega), rat_add p q]
  rfl
theorem times_ok {p q : Rat} {a b : Nat} (ha : Sq a p) (hb : Sq b q) (h : a + b < 8999) : times (fr p) (fr q) = .ok (fr (p * q)) := by
  unfold times
  rw [mul_ok (i := (fr p).1) (j := (fr q).1) ha.1 hb.1 (by omega)]
  show (mulM (fr p).2 (fr q).2).bd _ = _
  rw [mul_ok (i := (fr p).2) (j := (fr q).2) ha.d hb.d (by omega)]
  show (lowest _ _).bd _ = _
  rw [lowest_ok (b := (fr p).2 * (fr q).2) (n := a + b) (Int.mul_pos (den_posI p) (den_posI q)) (mul_lt ha.d hb.d (Nat.le_refl _)) (by omega), rat_mul p q]
  rfl
theorem over_ok {p q : Rat} {a b : Nat} (ha : Sq a p) (hb : Sq b q) (hq : 0 < q) (h : a + b < 8999) : over (fr p) (fr q) = .ok (fr (p / q)) := by
  unfold over
  rw [mul_ok (i := (fr p).1) (j := (fr q).2) ha.1 hb.d (by omega)]
  show (mulM (fr p).2 (fr q).1).bd _ = _
  rw [mul_ok (i := (fr p).2) (j := (fr q).1) ha.d hb.1 (by omega)]
  show (lowest _ _).bd _ = _
  rw [lowest_ok (b := (fr p).2 * (fr q).1) (n := a + b) (Int.mul_pos (den_posI p) (num_pos' hq)) (mul_lt ha.d hb.1 (Nat.le_refl _)) (by omega), rat_div p q]
  rfl
/-- Euclid's way -/
theorem euclid : ∀ (n : Nat) (x y : Int), 0 ≤ x → 0 ≤ y → y.toNat < n → foldW (fun (b6 : (Int × Int)) => Mm.ok (decide (b6.2 > (0 : Int)))) (fun (b7 : (Int × Int)) => (modM b7.1 b7.2).bd fun m24 => Mm.ok (b7.2, m24)) n (x, y) = .ok (((Nat.gcd x.natAbs y.natAbs : Nat) : Int), 0)
  | 0, _, _, _, _, h => absurd h (by omega)
  | n + 1, x, y, hx, hy, h => by
    unfold foldW
    by_cases q : y > 0
    · show (match decide (y > 0) with | true => _ | false => _) = _
      rw [decide_eq_true q]
      show ((modM x y).bd _).bd _ = _
      rw [mod_ok q]
      show foldW _ _ n (y, x % y) = _
      have h1 := Int.emod_nonneg x (b := y) (by omega)
      have h2 := Int.emod_lt_of_pos x q
      rw [euclid n y (x % y) hy h1 (by omega)]
      congr 3
      rw [Int.natAbs_emod_of_nonneg hx, Nat.gcd_comm, ← Nat.gcd_rec, Nat.gcd_comm]
    · show (match decide (y > 0) with | true => _ | false => _) = _
      rw [decide_eq_false q]
      have : y = 0 := by omega
      subst this
      show Mm.ok (x, (0 : Int)) = _
      rw [Int.natAbs_zero, Nat.gcd_zero_right]
      congr 2
      omega
theorem abs_nn (x : Int) : 0 ≤ absI x := by unfold absI; split <;> omega
theorem abs_na (x : Int) : (absI x).natAbs = x.natAbs := by unfold absI; split <;> omega
theorem fr_zero : fr 0 = (0, 1) := by decide
theorem law_low_ok {a b : Int} {n : Nat} (h : 0 < b) (hb : b.natAbs < 2 ^ n) (hn : n < 9000) : law_low a b = .ok (fr ((a : Rat) / (b : Rat))) := by
  unfold law_low
  by_cases z : a = 0
  · rw [decide_eq_true z]
    subst z
    show Mm.ok _ = _
    have e : ((0 : Int) : Rat) / (b : Rat) = 0 := by
      push_cast
      grind
    rw [e, fr_zero]
  · rw [decide_eq_false z]
    show (foldW _ _ _ _).bd _ = _
    rw [euclid _ _ _ (abs_nn a) (abs_nn b) (by omega), abs_na, abs_na]
    have g0 := gcd_pos_int (a := a) h
    have g1 := Nat.lt_of_le_of_lt (gcd_le_int (a := a) h) hb
    show Mm.bd (cond (decide (b > 0)) _ _) _ = _
    rw [decide_eq_true (show b > 0 from h)]
    show Mm.bd (Mm.bd (divM a _) _) _ = _
    rw [div_ok g0 g1 hn]
    show Mm.bd (Mm.bd (divM b _) _) _ = _
    rw [div_ok g0 g1 hn, fr_int a h]
    rfl
theorem law_add_ok {p q : Rat} {a b : Nat} (ha : Sq a p) (hb : Sq b q) (h : a + b < 8999) : law_add (fr p) (fr q) = .ok (fr (p + q)) := by
  unfold law_add
  rw [mul_ok (i := (fr p).1) (j := (fr q).2) ha.1 hb.d (by omega)]
  show (mulM (fr q).1 (fr p).2).bd _ = _
  rw [mul_ok (i := (fr q).1) (j := (fr p).2) hb.1 ha.d (by omega)]
  show (mulM (fr p).2 (fr q).2).bd _ = _
  rw [mul_ok (i := (fr p).2) (j := (fr q).2) ha.d hb.d (by omega)]
  show (law_low _ _).bd _ = _
  rw [law_low_ok (b := (fr p).2 * (fr q).2) (n := a + b) (Int.mul_pos (den_posI p) (den_posI q)) (mul_lt ha.d hb.d (Nat.le_refl _)) (by omega), rat_add p q]
  rfl
theorem law_mul_ok {p q : Rat} {a b : Nat} (ha : Sq a p) (hb : Sq b q) (h : a + b < 8999) : law_mul (fr p) (fr q) = .ok (fr (p * q)) := by
  unfold law_mul
  rw [mul_ok (i := (fr p).1) (j := (fr q).1) ha.1 hb.1 (by omega)]
  show (mulM (fr p).2 (fr q).2).bd _ = _
  rw [mul_ok (i := (fr p).2) (j := (fr q).2) ha.d hb.d (by omega)]
  show (law_low _ _).bd _ = _
  rw [law_low_ok (b := (fr p).2 * (fr q).2) (n := a + b) (Int.mul_pos (den_posI p) (den_posI q)) (mul_lt ha.d hb.d (Nat.le_refl _)) (by omega), rat_mul p q]
  rfl
theorem law_over_ok {p q : Rat} {a b : Nat} (ha : Sq a p) (hb : Sq b q) (hq : 0 < q) (h : a + b < 8999) : law_over (fr p) (fr q) = .ok (fr (p / q)) := by
  unfold law_over
  rw [mul_ok (i := (fr p).1) (j := (fr q).2) ha.1 hb.d (by omega)]
  show (mulM (fr p).2 (fr q).1).bd _ = _
  rw [mul_ok (i := (fr p).2) (j := (fr q).1) ha.d hb.1 (by omega)]
  show (law_low _ _).bd _ = _
  rw [law_low_ok (b := (fr p).2 * (fr q).1) (n := a + b) (Int.mul_pos (den_posI p) (num_pos' hq)) (mul_lt ha.d hb.1 (Nat.le_refl _)) (by omega), rat_div p q]
  rfl
/-! ### powers, sums -/
theorem pow_fold {f : Int → Int → Mm Int} {base : Int} {b : Nat} (hb : base.natAbs < 2 ^ b) (hf : ∀ s x, f s x = (mulM s base).bd fun m => Mm.ok m) : ∀ (l : List Int) (s : Int) (a : Nat), s.natAbs < 2 ^ a → a + b * (l.length + 1) ≤ 900000 → foldM f s l = .ok (s * base ^ l.length)
  | [], s, a, _, _ => by simp [foldM]
  | x :: l, s, a, ha, h => by
    have e : a + b + b * (l.length + 1) ≤ 900000 := by
      rw [List.length_cons] at h
      have : b * (l.length + 1 + 1) = b * (l.length + 1) + b := by rw [Nat.mul_succ]
      omega
    unfold foldM
    rw [hf, mul_ok ha hb (by omega)]
    show foldM f (s * base) l = _
    rw [pow_fold hb hf l (s * base) (a + b) (mul_lt ha hb (Nat.le_refl _)) e, List.length_cons, Int.mul_assoc, Int.pow_succ']
theorem pow_lt {base : Int} {b : Nat} (hb : base.natAbs < 2 ^ b) : ∀ n : Nat, (base ^ n).natAbs < 2 ^ (b * n + 1)
  | 0 => by simp
  | n + 1 => by
    rw [Int.pow_succ]
    exact mul_lt (pow_lt hb n) hb (by rw [Nat.mul_succ]; omega)
theorem rangeL_len (k : Int) (n : Nat) : (rangeL k n).length = n := by simp [rangeL]
theorem power_of_ok {base power : Int} (hb : base.natAbs ≤ 20) (h : 0 ≤ power) (h2 : power ≤ 61) : power_of base power = .ok (base ^ power.toNat) := by
  unfold power_of
  rw [range_ok (by omega) (by omega)]
  show (foldM _ _ _).bd _ = _
  rw [pow_fold (base := base) (b := 5) (by omega) (fun s x => rfl) _ _ 1 (by decide) (by rw [rangeL_len]; omega), rangeL_len, Int.one_mul]
  rfl
theorem sum_lt {a : Nat} : ∀ l : List Int, (∀ x ∈ l, x.natAbs < 2 ^ a) → l.sum.natAbs < 2 ^ (a + l.length)
  | [], _ => by
    have := two_le (a + 0)
    show 0 < 2 ^ (a + 0)
    omega
  | x :: l, h => by
    rw [List.sum_cons]
    refine add_lt (h x (List.mem_cons_self ..)) (sum_lt l fun y hy => h y (List.mem_cons_of_mem _ hy)) ?_ ?_ <;> (rw [List.length_cons]; omega)
end L

set_option Elab.async false
set_option linter.all false
set_option maxRecDepth 100000
set_option maxHeartbeats 1000000
namespace L
open PySem L2 Evl Wk
theorem fr_of_int (n : Int) : fr ((n : Int) : Rat) = (n, 1) := by
  unfold fr
  rw [Rat.num_intCast, Rat.den_intCast]
  rfl
theorem sq_int {n : Int} {a : Nat} (h : n.natAbs < 2 ^ a) (h0 : 0 < a) : Sq a ((n : Int) : Rat) := by
  unfold Sq
  rw [Rat.num_intCast, Rat.den_intCast]
  exact ⟨h, Nat.one_lt_two_pow (by omega)⟩
theorem foldM_map {α β S : Type} {f : S → β → Mm S} {g : α → β} : ∀ (l : List α) (s : S), foldM f s (l.map g) = foldM (fun s x => f s (g x)) s l
  | [], s => rfl
  | x :: l, s => by
    rw [List.map_cons]
    show (f s (g x)).bd _ = (f s (g x)).bd _
    congr 1
    funext s'
    exact foldM_map l s'
theorem fold_fr {α : Type} {f : Int × Int → α → Mm (Int × Int)} {v : α → Rat} {c : Nat} : ∀ (l : List α), (∀ x ∈ l, Sq c (v x) ∧ ∀ p a, Sq a p → a + c < 8999 → f (fr p) x = .ok (fr (p + v x))) → ∀ (p : Rat) (a : Nat), Sq a p → a + (c + 1) * l.length < 8998 →
    foldM f (fr p) l = .ok (fr (p + (l.map v).sum)) ∧ Sq (a + (c + 1) * l.length) (p + (l.map v).sum)
  | [], _, p, a, ha, _ => by
    have e : p + ([].map v).sum = p := by
      show p + 0 = p
      grind
    rw [e]
    exact ⟨rfl, ha⟩
  | x :: l, h, p, a, ha, hl => by
    have e1 : (c + 1) * (x :: l).length = (c + 1) * l.length + (c + 1) := by rw [List.length_cons, Nat.mul_succ]
    obtain ⟨sx, hx⟩ := h x (List.mem_cons_self ..)
    obtain ⟨h1, h2⟩ := fold_fr l (fun y hy => h y (List.mem_cons_of_mem _ hy)) (p + v x) (a + c + 1) (sq_add ha sx (by omega)) (by omega)
    have e2 : p + ((x :: l).map v).sum = p + v x + (l.map v).sum := by
      rw [List.map_cons, List.sum_cons]
      grind
    rw [e2]
    refine ⟨?_, h2.up (by omega)⟩
    unfold foldM
    rw [hx p a ha (by omega)]
    exact h1
theorem pair_fold {f : Int × Int → Int → Mm (Int × Int)} {hi lo : Int} {b : Nat} (h1 : hi.natAbs < 2 ^ b) (h2 : lo.natAbs < 2 ^ b) (hf : ∀ s x, f s x = (mulM s.1 hi).bd fun m => (mulM s.2 lo).bd fun n => Mm.ok (m, n)) : ∀ (l : List Int) (s : Int × Int) (a : Nat), s.1.natAbs < 2 ^ a → s.2.natAbs < 2 ^ a → a + b * (l.length + 1) ≤ 900000 →
    foldM f s l = .ok (s.1 * hi ^ l.length, s.2 * lo ^ l.length)
  | [], s, a, _, _, _ => by simp [foldM]
  | x :: l, s, a, ha, ha2, h => by
    have e : a + b + b * (l.length + 1) ≤ 900000 := by
      rw [List.length_cons] at h
      have : b * (l.length + 1 + 1) = b * (l.length + 1) + b := by rw [Nat.mul_succ]
      omega
    unfold foldM
    rw [hf, mul_ok ha h1 (by omega)]
    show Mm.bd (Mm.bd (mulM s.2 lo) _) _ = _
    rw [mul_ok ha2 h2 (by omega)]
    show foldM f (s.1 * hi, s.2 * lo) l = _
    rw [pair_fold h1 h2 hf l _ (a + b) (mul_lt ha h1 (Nat.le_refl _)) (mul_lt ha2 h2 (Nat.le_refl _)) e, List.length_cons, Int.mul_assoc, Int.mul_assoc, Int.pow_succ', Int.pow_succ']
/-! ### weightings that are right -/
structure Good (w : Wt) : Prop where
  ms : ∀ m ∈ w.1, m.1.natAbs ≤ 20 ∧ 1 ≤ m.2 ∧ m.2 ≤ 20
  ss : ∀ s ∈ w.2, s.1.natAbs ≤ 20 ∧ s.2.1.natAbs ≤ 20 ∧ 1 ≤ s.2.2 ∧ s.2.2 ≤ 20 ∧ s.1 < s.2.1
  lm : w.1.length ≤ 6
  ls : w.2.length ≤ 4
  ne : w.1 ≠ [] ∨ w.2 ≠ []
def mI (k : Nat) (m : Int × Int) : Int := m.2 * m.1 ^ k
def sI (k : Nat) (s : Int × Int × Int) : Int := s.2.2 * (s.2.1 ^ (k + 1) - s.1 ^ (k + 1))
def PS (w : Wt) (k : Nat) : Rat := (((w.1.map (mI k)).sum * ((k : Int) + 1) + (w.2.map (sI k)).sum : Int) : Rat) / (((k : Int) + 1 : Int) : Rat)
theorem pow_lt20 {x : Int} {k : Nat} (h : x.natAbs ≤ 20) (hk : k ≤ 61) : (x ^ k).natAbs < 2 ^ 306 := up_lt (pow_lt (b := 5) (by omega) k) (by omega)
theorem mI_lt {k : Nat} {m : Int × Int} (h : m.1.natAbs ≤ 20 ∧ 1 ≤ m.2 ∧ m.2 ≤ 20) (hk : k ≤ 60) : (mI k m).natAbs < 2 ^ 320 :=
  mul_lt (a := 5) (by omega) (pow_lt20 h.1 (by omega)) (by decide)
theorem sI_lt {k : Nat} {s : Int × Int × Int} (h : s.1.natAbs ≤ 20 ∧ s.2.1.natAbs ≤ 20 ∧ 1 ≤ s.2.2 ∧ s.2.2 ≤ 20 ∧ s.1 < s.2.1) (hk : k ≤ 60) : (sI k s).natAbs < 2 ^ 320 :=
  mul_lt (a := 5) (by omega) (sub_lt (n := 307) (pow_lt20 h.2.1 (by omega)) (pow_lt20 h.1 (by omega)) (by decide) (by decide)) (by decide)
theorem small_lt {k : Nat} (hk : k ≤ 60) : ((k : Int) + 1).natAbs < 2 ^ 6 := by
  have : (2 : Nat) ^ 6 = 64 := by decide
  omega
theorem sums_lt {w : Wt} (g : Good w) {k : Nat} (hk : k ≤ 60) : (w.1.map (mI k)).sum.natAbs < 2 ^ 326 ∧ (w.2.map (sI k)).sum.natAbs < 2 ^ 326 := by
  constructor
  · refine up_lt (sum_lt (a := 320) _ fun x hx => ?_) (by rw [List.length_map]; have := g.lm; omega)
    obtain ⟨m, hm, rfl⟩ := List.mem_map.mp hx
    exact mI_lt (g.ms m hm) hk
  · refine up_lt (sum_lt (a := 320) _ fun x hx => ?_) (by rw [List.length_map]; have := g.ls; omega)
    obtain ⟨m, hm, rfl⟩ := List.mem_map.mp hx
    exact sI_lt (g.ss m hm) hk
theorem sq_PS {w : Wt} (g : Good w) {k : Nat} (hk : k ≤ 60) : Sq 340 (PS w k) := by
  obtain ⟨a, b⟩ := sums_lt g hk
  refine sq_div (by omega) ?_ (up_lt (small_lt hk) (by decide))
  exact add_lt (mul_lt a (small_lt hk) (Nat.le_refl _)) b (by decide) (by decide)
theorem whole_ok {n l h : Int} (a : l ≤ n) (b : n ≤ h) : whole_within n l h = .ok true := by
  unfold whole_within
  rw [decide_eq_true a, decide_eq_true b]
  rfl
theorem power_sum_ok {w : Wt} (g : Good w) {p : Int} (h0 : 0 ≤ p) (h1 : p ≤ 60) : power_sum w p = .ok (fr (PS w p.toNat)) := by
  unfold power_sum check_within
  rw [whole_ok h0 h1]
  show (guardM _).bd _ = _
  rw [bd_guard (by have := g.lm; omega), mapMm_eq (g := mI p.toNat) _ fun x hx => ?_]
  · show (guardM _).bd _ = _
    rw [bd_guard (by have := g.ls; omega), mapMm_eq (g := sI p.toNat) _ fun x hx => ?_]
    · obtain ⟨a, b⟩ := sums_lt g (k := p.toNat) (by omega)
      have e : p + 1 = ((p.toNat : Nat) : Int) + 1 := by omega
      have sm := small_lt (k := p.toNat) (by omega)
      show (mulM (List.sum _) _).bd _ = _
      rw [e, mul_ok a sm (by decide)]
      show (lowest _ _).bd _ = _
      rw [lowest_ok (by omega) sm (by decide)]
      rfl
    · have q := g.ss x hx
      have e : (p + 1).toNat = p.toNat + 1 := by omega
      rw [power_of_ok q.2.1 (by omega) (by omega)]
      show (power_of _ _).bd _ = _
      rw [power_of_ok q.1 (by omega) (by omega)]
      show (mulM _ _).bd _ = _
      rw [e, mul_ok (a := 5) (b := 307) (by omega) (sub_lt (pow_lt20 q.2.1 (by omega)) (pow_lt20 q.1 (by omega)) (by decide) (by decide)) (by decide)]
      rfl
  · have q := g.ms x hx
    rw [power_of_ok q.1 (by omega) (by omega)]
    show (mulM _ _).bd _ = _
    rw [mul_ok (a := 5) (b := 306) (by omega) (pow_lt20 q.1 (by omega)) (by decide)]
    rfl
theorem power_sums_ok {w : Wt} (g : Good w) {c : Int} (h0 : 0 ≤ c) (h1 : c ≤ 61) : power_sums w c = .ok ((rangeL 0 c.toNat).map fun i => fr (PS w i.toNat)) := by
  unfold power_sums check_within
  rw [whole_ok h0 (by omega)]
  show (rangeM c).bd _ = _
  rw [range_ok (by omega) (by omega)]
  show (guardM _).bd _ = _
  rw [bd_guard (by rw [rangeL_len]; omega), mapMm_eq (g := fun i => fr (PS w i.toNat)) _ fun x hx => ?_]
  · rfl
  · obtain ⟨i, hi, rfl⟩ := List.mem_map.mp hx
    have := List.mem_range.mp hi
    rw [power_sum_ok g (by omega) (by omega)]
    rfl
/-! ### the law's own sums -/
theorem sum_cast {α : Type} (f : α → Int) : ∀ l : List α, (l.map fun x => ((f x : Int) : Rat)).sum = (((l.map f).sum : Int) : Rat)
  | [] => rfl
  | x :: l => by
    rw [List.map_cons, List.sum_cons, List.map_cons, List.sum_cons, sum_cast f l]
    push_cast
    rfl
theorem sum_castD {α : Type} (f : α → Int) (c : Rat) : ∀ l : List α, (l.map fun x => ((f x : Int) : Rat) / c).sum = (((l.map f).sum : Int) : Rat) / c
  | [] => by
    show (0 : Rat) = ((0 : Int) : Rat) / c
    push_cast
    grind
  | x :: l => by
    rw [List.map_cons, List.sum_cons, List.map_cons, List.sum_cons, sum_castD f c l]
    push_cast
    grind
theorem intc_ne {n : Int} (h : n ≠ 0) : ((n : Int) : Rat) ≠ 0 := fun z => h (Rat.intCast_inj.mp (show ((n : Int) : Rat) = ((0 : Int) : Rat) from z))
theorem law_sum_ok {w : Wt} (g : Good w) {p : Int} (h0 : 0 ≤ p) (h1 : p ≤ 60) : law_sum w p = .ok (fr (PS w p.toNat)) := by
  unfold law_sum
  have lm := g.lm
  have ls := g.ls
  have A := fold_fr (v := fun m => ((mI p.toNat m : Int) : Rat)) (c := 320) (f := fun (b16 : (Int × Int)) (x17 : (Int × Int)) => (rangeM p).bd fun l52 => (foldM (fun (b53 : Int) (x54 : Int) => (mulM b53 x17.1).bd fun m77 => Mm.ok m77) x17.2 (rangeL 0 p.toNat)).bd fun b70 => (law_add (b16) ((b70, (1 : Int)))).bd fun b92 => Mm.ok b92) w.1 (fun x hx => ?_) 0 1 (by unfold Sq; decide) (by omega)
  · obtain ⟨A, A2⟩ := A
    rw [show ((0 : Int), (1 : Int)) = fr 0 from fr_zero.symm, A]
    have B := fold_fr (v := fun s => ((sI p.toNat s : Int) : Rat) / (((p.toNat : Int) + 1 : Int) : Rat)) (c := 330) (f := fun (b115 : (Int × Int)) (x116 : (Int × Int × Int)) => (rangeM (p + (1 : Int))).bd fun l153 => (foldM (fun (b154 : (Int × Int)) (x155 : Int) => (mulM b154.1 x116.2.1).bd fun m176 => (mulM b154.2 x116.1).bd fun m179 => Mm.ok (m176, m179)) (x116.2.2, x116.2.2) (rangeL 0 (p + (1 : Int)).toNat)).bd fun b171 => (law_low ((b171.1 - b171.2)) ((p + (1 : Int)))).bd fun b187 => (law_add (b115) (b187)).bd fun b194 => Mm.ok b194) w.2 (fun x hx => ?_) _ _ A2 (by omega)
    · show (foldM _ _ _).bd _ = _
      rw [B.1]
      show Mm.ok (fr _) = _
      congr 2
      rw [sum_cast, sum_castD]
      unfold PS
      have k := intc_ne (n := (p.toNat : Int) + 1) (by omega)
      push_cast
      push_cast at k
      grind
    · have q := g.ss x hx
      have sm := small_lt (k := p.toNat) (by omega)
      have e : p + 1 = ((p.toNat : Nat) : Int) + 1 := by omega
      have e2 : (((p.toNat : Nat) : Int) + 1).toNat = p.toNat + 1 := by omega
      have sq : Sq 330 (((sI p.toNat x : Int) : Rat) / (((p.toNat : Int) + 1 : Int) : Rat)) := sq_div (by omega) (up_lt (sI_lt q (by omega)) (by decide)) (up_lt sm (by decide))
      refine ⟨sq, fun r a ha hl => ?_⟩
      show (rangeM (p + 1)).bd _ = _
      rw [range_ok (by omega) (by omega)]
      show (foldM _ _ _).bd _ = _
      rw [pair_fold (hi := x.2.1) (lo := x.1) (b := 5) (by omega) (by omega) (fun s x => rfl) _ _ 5 (by show x.2.2.natAbs < _; omega) (by show x.2.2.natAbs < _; omega) (by rw [rangeL_len]; omega), rangeL_len]
      show (law_low _ _).bd _ = _
      rw [e, e2, law_low_ok (by omega) sm (by decide)]
      show (law_add _ _).bd _ = _
      have e3 : x.2.2 * x.2.1 ^ (p.toNat + 1) - x.2.2 * x.1 ^ (p.toNat + 1) = sI p.toNat x := by
        unfold sI
        rw [Int.mul_sub]
      rw [show ((x.2.2, x.2.2) : Int × Int).1 = x.2.2 from rfl, show ((x.2.2, x.2.2) : Int × Int).2 = x.2.2 from rfl, e3, law_add_ok ha sq hl]
      rfl
  · have q := g.ms x hx
    refine ⟨sq_int (mI_lt q (by omega)) (by decide), fun r a ha hl => ?_⟩
    show (rangeM p).bd _ = _
    rw [range_ok (by omega) (by omega)]
    show (foldM _ _ _).bd _ = _
    rw [pow_fold (base := x.1) (b := 5) (by omega) (fun s x => rfl) _ _ 5 (by omega) (by rw [rangeL_len]; omega), rangeL_len]
    show (law_add _ _).bd _ = _
    rw [← fr_of_int]
    show (law_add (fr r) (fr ((mI p.toNat x : Int) : Rat))).bd _ = _
    rw [law_add_ok ha (sq_int (mI_lt q (by omega)) (by decide)) hl]
    rfl
end L

set_option Elab.async false
set_option linter.all false
set_option maxRecDepth 100000
set_option maxHeartbeats 1000000
set_option exponentiation.threshold 100
namespace L
open PySem L2 Evl Wk
/-! ### numbered lists -/
def numL {α : Type} : Int → List α → List (Int × α)
  | _, [] => []
  | k, x :: l => (k, x) :: numL (k + 1) l
theorem rangeL_succ (k : Int) (n : Nat) : rangeL k (n + 1) = k :: rangeL (k + 1) n := by
  unfold rangeL
  rw [List.range_succ_eq_map, List.map_cons, List.map_map]
  congr 1
  · omega
  · refine List.map_congr_left fun i _ => ?_
    show k + ((i + 1 : Nat) : Int) = k + 1 + (i : Int)
    omega
theorem enum_num {α : Type} : ∀ (l : List α) (k : Int), (rangeL k l.length).zip l = numL k l
  | [], k => rfl
  | x :: l, k => by
    rw [List.length_cons, rangeL_succ, List.zip_cons_cons, enum_num l]
    rfl
theorem enumL_eq {α : Type} (l : List α) : enumL l = numL 0 l := enum_num l 0
theorem numL_len {α : Type} : ∀ (l : List α) (k : Int), (numL k l).length = l.length
  | [], k => rfl
  | x :: l, k => by
    unfold numL
    rw [List.length_cons, numL_len l, List.length_cons]
theorem numL_mem {α : Type} : ∀ (l : List α) (k : Int) (x : Int × α), x ∈ numL k l → k ≤ x.1 ∧ x.1 < k + l.length ∧ x.2 ∈ l
  | [], k, x, h => by cases h
  | y :: l, k, x, h => by
    rcases List.mem_cons.mp h with rfl | h
    · refine ⟨Int.le_refl _, ?_, List.mem_cons_self ..⟩
      show k < k + ((l.length + 1 : Nat) : Int)
      omega
    · obtain ⟨a, b, c⟩ := numL_mem l (k + 1) x h
      refine ⟨by omega, ?_, List.mem_cons_of_mem _ c⟩
      show x.1 < k + ((l.length + 1 : Nat) : Int)
      omega
theorem numL_map {α β : Type} (f : α → β) : ∀ (l : List α) (k : Int), numL k (l.map f) = (numL k l).map fun x => (x.1, f x.2)
  | [], k => rfl
  | x :: l, k => by
    rw [List.map_cons]
    unfold numL
    rw [numL_map f l, List.map_cons]
theorem getM_mid {α : Type} (l r : List α) (x : α) : getM (l ++ x :: r) (l.length : Int) = .ok x := by
  unfold getM
  rw [atI_nat (j := l.length) (v := x) (by simp)]
theorem fold_get {α S : Type} {h : S → Int → α → Mm S} (L : List α) : ∀ (l pre : List α) (s : S), L = pre ++ l → foldM (fun s i => (getM L i).bd fun v => h s i v) s (rangeL (pre.length : Int) l.length) = foldM (fun s (x : Int × α) => h s x.1 x.2) s (numL (pre.length : Int) l)
  | [], pre, s, _ => rfl
  | x :: l, pre, s, e => by
    rw [List.length_cons, rangeL_succ]
    unfold foldM numL
    rw [e, getM_mid, ← e]
    show (h s _ x).bd _ = (h s _ x).bd _
    congr 1
    funext s'
    have := fold_get (h := h) L l (pre ++ [x]) s' (by rw [e]; simp)
    rw [List.length_append, List.length_singleton] at this
    have e2 : ((pre.length + 1 : Nat) : Int) = (pre.length : Int) + 1 := by omega
    rw [e2] at this
    exact this
/-! ### totals -/
def tV (w : Wt) (x : Int × Int) : Rat := ((x.2 : Int) : Rat) * PS w x.1.toNat
def TS (w : Wt) (l : List Int) : Rat := ((numL 0 l).map (tV w)).sum
theorem tV_sq {w : Wt} (g : Good w) {l : List Int} (hl : l.length ≤ 13) (hc : ∀ c ∈ l, c.natAbs ≤ 10) {x : Int × Int} (hx : x ∈ numL 0 l) : (0 ≤ x.1 ∧ x.1 ≤ 12) ∧ Sq 4 ((x.2 : Int) : Rat) ∧ Sq 344 (tV w x) := by
  obtain ⟨a, b, c⟩ := numL_mem l 0 x hx
  have := hc _ c
  have s1 : Sq 4 ((x.2 : Int) : Rat) := sq_int (by omega) (by decide)
  exact ⟨by omega, s1, sq_mul s1 (sq_PS g (by omega)) (by decide)⟩
theorem zero_sq : Sq 1 0 := by unfold Sq; decide
theorem zero_add' (q : Rat) : 0 + q = q := by grind
theorem total_ok {w : Wt} (g : Good w) {l : List Int} (hl : l.length ≤ 13) (hc : ∀ c ∈ l, c.natAbs ≤ 10) : total w l = .ok (fr (TS w l)) ∧ Sq 5000 (TS w l) := by
  have A := fold_fr (f := fun (b5 : (Int × Int)) (x6 : Rat) => (plus (b5) (fr x6)).bd fun b26 => Mm.ok b26) (v := id) (c := 344) ((numL 0 l).map (tV w)) (fun x hx => ?_) 0 1 zero_sq (by rw [List.length_map, numL_len]; omega)
  · rw [List.map_id, zero_add'] at A
    obtain ⟨A, A2⟩ := A
    refine ⟨?_, A2.up (by rw [List.length_map, numL_len]; omega)⟩
    unfold total checked_polynomial
    rw [decide_eq_false (show ¬ ((l.length : Int) > 13) by omega)]
    show Mm.bd (Mm.bd (guardM _) _) _ = _
    rw [bd_guard (by omega), mapMm_eq (g := fun x => (x, (1 : Int))) _ fun x hx => rfl]
    show (weighed w _).bd _ = _
    unfold weighed
    rw [enumL_eq, numL_map, bd_guard (by rw [List.length_map, numL_len]; omega), mapMm_eq (g := fun x => fr (((x.2.1 : Int) : Rat) * PS w x.1.toNat)) _ fun x hx => ?_]
    · show Mm.bd (Mm.bd (added_up _) _) _ = _
      unfold added_up
      have e : ((numL 0 l).map fun (x : Int × Int) => ((x.1, (x.2, (1 : Int))) : Int × Int × Int)).map (fun x => fr (((x.2.1 : Int) : Rat) * PS w x.1.toNat)) = ((numL 0 l).map (tV w)).map fr := by
        rw [List.map_map, List.map_map]
        rfl
      rw [e, foldM_map, show ((0, 1) : Int × Int) = fr 0 from fr_zero.symm, A]
      rfl
    · obtain ⟨y, hy, rfl⟩ := List.mem_map.mp hx
      obtain ⟨a, b, c⟩ := tV_sq g hl hc hy
      show (power_sum w y.1).bd _ = _
      rw [power_sum_ok g a.1 (by omega)]
      show (times (y.2, 1) _).bd _ = _
      rw [← fr_of_int, times_ok b (sq_PS g (by omega)) (by decide)]
      rfl
  · obtain ⟨y, hy, rfl⟩ := List.mem_map.mp hx
    obtain ⟨a, b, c⟩ := tV_sq g hl hc hy
    refine ⟨c, fun p a ha h => ?_⟩
    show (plus (fr p) (fr (tV w y))).bd _ = _
    rw [plus_ok ha c h]
    rfl
theorem law_total_ok {w : Wt} (g : Good w) {l : List Int} (hl : l.length ≤ 13) (hc : ∀ c ∈ l, c.natAbs ≤ 10) : law_total w (l.map fun x => (x, (1 : Int))) = .ok (fr (TS w l)) := by
  unfold law_total
  rw [range_ok (by omega) (by rw [List.length_map]; omega)]
  show (foldM _ _ _).bd _ = _
  rw [Int.toNat_natCast]
  have G := fold_get (h := fun (b12 : Int × Int) (x13 : Int) (i33 : Int × Int) => (law_sum w x13).bd fun b38 => (law_mul (i33) (b38)).bd fun b45 => (law_add (b12) (b45)).bd fun b52 => Mm.ok b52) (l.map fun x => (x, (1 : Int))) (l.map fun x => (x, (1 : Int))) [] (fr 0) rfl
  have A := fold_fr (f := fun (b12 : Int × Int) (x : Int × Int × Int) => (law_sum w x.1).bd fun b38 => (law_mul (x.2) (b38)).bd fun b45 => (law_add (b12) (b45)).bd fun b52 => Mm.ok b52) (v := fun x => ((x.2.1 : Int) : Rat) * PS w x.1.toNat) (c := 344) (numL 0 (l.map fun x => (x, (1 : Int)))) (fun x hx => ?_) 0 1 zero_sq (by rw [numL_len, List.length_map]; omega)
  · rw [show ((0 : Int), (1 : Int)) = fr 0 from fr_zero.symm]
    refine (congrArg (fun m => Mm.bd m _) (G.trans A.1)).trans ?_
    show Mm.ok (fr _) = _
    congr 2
    rw [zero_add', numL_map, List.map_map]
    rfl
  · rw [numL_map] at hx
    obtain ⟨y, hy, rfl⟩ := List.mem_map.mp hx
    obtain ⟨a, b, c⟩ := tV_sq g hl hc hy
    refine ⟨c, fun p a' ha h => ?_⟩
    show (law_sum w y.1).bd _ = _
    rw [law_sum_ok g a.1 (by omega)]
    show (law_mul (y.2, 1) _).bd _ = _
    rw [← fr_of_int, law_mul_ok b (sq_PS g (by omega)) (by decide)]
    show (law_add _ _).bd _ = _
    have c' : Sq 344 (((y.2 : Int) : Rat) * PS w y.1.toNat) := c
    rw [law_add_ok ha c' h]
    rfl
theorem sum_nn : ∀ l : List Int, (∀ x ∈ l, 0 < x) → 0 ≤ l.sum ∧ (l ≠ [] → 0 < l.sum)
  | [], _ => ⟨by decide, fun h => absurd rfl h⟩
  | x :: l, h => by
    have a := (sum_nn l fun y hy => h y (List.mem_cons_of_mem _ hy)).1
    have b := h x (List.mem_cons_self ..)
    rw [List.sum_cons]
    exact ⟨by omega, fun _ => by omega⟩
theorem PS0_pos {w : Wt} (g : Good w) : 0 < PS w 0 := by
  have a := sum_nn (w.1.map (mI 0)) fun x hx => by
    obtain ⟨m, hm, rfl⟩ := List.mem_map.mp hx
    have := g.ms m hm
    unfold mI
    rw [Int.pow_zero]
    omega
  have b := sum_nn (w.2.map (sI 0)) fun x hx => by
    obtain ⟨s, hs, rfl⟩ := List.mem_map.mp hx
    have := g.ss s hs
    unfold sI
    rw [Int.pow_succ, Int.pow_zero, Int.pow_succ, Int.pow_zero, Int.one_mul, Int.one_mul]
    exact Int.mul_pos (by omega) (by omega)
  have c : 0 < (w.1.map (mI 0)).sum + (w.2.map (sI 0)).sum := by
    rcases g.ne with h | h
    · have := a.2 (by simpa using h)
      omega
    · have := b.2 (by simpa using h)
      omega
  unfold PS
  have e : (((w.1.map (mI 0)).sum * (((0 : Nat) : Int) + 1) + (w.2.map (sI 0)).sum : Int) : Rat) / (((((0 : Nat) : Int) + 1 : Int)) : Rat) = (((w.1.map (mI 0)).sum + (w.2.map (sI 0)).sum : Int) : Rat) := by
    push_cast
    grind
  rw [e]
  exact Rat.intCast_pos.mpr c
theorem mean_ok {w : Wt} (g : Good w) {l : List Int} (hl : l.length ≤ 13) (hc : ∀ c ∈ l, c.natAbs ≤ 10) : mean w l = .ok (fr (TS w l / PS w 0)) := by
  unfold mean
  obtain ⟨a, b⟩ := total_ok g hl hc
  rw [a]
  show (power_sum w 0).bd _ = _
  rw [power_sum_ok g (by decide) (by decide)]
  show (over _ _).bd _ = _
  rw [show (0 : Int).toNat = 0 from rfl, over_ok b (sq_PS g (by decide)) (PS0_pos g) (by decide)]
  rfl
end L

set_option Elab.async false
set_option linter.all false
set_option maxRecDepth 100000
set_option maxHeartbeats 1000000
set_option exponentiation.threshold 100
namespace L
open PySem L2 Evl Wk
theorem bdo {α β : Type} {a : α} {f : α → Mm β} : (Mm.ok a).bd f = f a := rfl
/-! ### draws -/
def Rk (N : Nat) (st : Rw) : Prop := 0 ≤ st.seed ∧ st.seed < 2147483647 ∧ 0 ≤ st.pos ∧ st.pos ≤ N
theorem seedN_ok (s c : Int) : 0 ≤ seedN s c ∧ seedN s c < 2147483647 := by
  unfold seedN
  omega
theorem taken_ok {scr : List Int} {st : Rw} {many : Int} {N : Nat} (r : Rk N st) (h0 : 0 < many) (h1 : many < 1073741824) (hN : N < 999999) : Yes (takenA scr st many) fun r => (0 ≤ r.1 ∧ r.1 < many) ∧ Rk (N + 1) r.2 := by
  obtain ⟨r1, r2, r3, r4⟩ := r
  unfold takenA
  rw [if_pos ⟨h0, h1, r1, r2, r3, by omega⟩]
  split
  · refine ⟨_, rfl, ⟨Int.emod_nonneg _ (by omega), Int.emod_lt_of_pos _ h0⟩, r1, r2, r3, ?_⟩
    show st.pos ≤ _
    omega
  · split
    · obtain ⟨s1, s2⟩ := seedN_ok st.seed 0
      refine ⟨_, rfl, ⟨Int.emod_nonneg _ (by omega), Int.emod_lt_of_pos _ h0⟩, s1, s2, ?_, ?_⟩
      · show 0 ≤ st.pos + 1
        omega
      · show st.pos + 1 ≤ _
        omega
    · rename_i c _
      obtain ⟨s1, s2⟩ := seedN_ok st.seed c
      refine ⟨_, rfl, ⟨Int.emod_nonneg _ (by omega), Int.emod_lt_of_pos _ h0⟩, s1, s2, ?_, ?_⟩
      · show 0 ≤ st.pos + 1
        omega
      · show st.pos + 1 ≤ _
        omega
theorem pick_ok {α : Type} {scr : List Int} {st : Rw} {l : List α} {N : Nat} (r : Rk N st) (h0 : 0 < l.length) (h1 : l.length < 1000) (hN : N < 999999) : Yes (pickM takenA scr st l) fun r => r.1 ∈ l ∧ Rk (N + 1) r.2 := by
  unfold pickM
  refine (taken_ok r (by omega) (by omega) hN).bd fun b hb => ?_
  obtain ⟨⟨b0, b1⟩, rb⟩ := hb
  have e : b.1 = ((b.1.toNat : Nat) : Int) := by omega
  have lt : b.1.toNat < l.length := by omega
  unfold getM
  rw [e, atI_nat (j := b.1.toNat) (v := l[b.1.toNat]) (List.getElem?_eq_getElem lt)]
  exact .ok ⟨List.getElem_mem lt, rb⟩
theorem yes_mapS {α γ S : Type} {f : S → α → Mm (γ × S)} (I : S → Nat → Prop) (p : α → γ → Prop) : ∀ (l : List α) (s : S), I s l.length → (∀ s x n, x ∈ l → I s (n + 1) → Yes (f s x) fun y => p x y.1 ∧ I y.2 n) → Yes (mapSt f s l) fun r => All2 p l r.1 ∧ I r.2 0
  | [], s, h, _ => ⟨_, rfl, .nil, h⟩
  | x :: l, s, h, k => by
    obtain ⟨y, e, h1, h2⟩ := k s x l.length (List.mem_cons_self ..) h
    obtain ⟨r, e2, h3, h4⟩ := yes_mapS I p l y.2 h2 fun s z n hz => k s z n (List.mem_cons_of_mem _ hz)
    unfold mapSt
    rw [e]
    show Yes ((mapSt f y.2 l).bd _) _
    rw [e2]
    exact ⟨_, rfl, .cons h1 h3, h4⟩
theorem insU_len (x : Int) : ∀ l : List Int, (insU x l).length ≤ l.length + 1
  | [] => by simp [insU]
  | y :: l => by
    have := insU_len x l
    unfold insU
    split
    · simp
    · split
      · simp
      · simp only [List.length_cons]; omega
theorem sortedSet_len : ∀ l : List Int, (sortedSet l).length ≤ l.length
  | [] => by simp [sortedSet]
  | x :: l => by
    have := sortedSet_len l
    have := insU_len x (sortedSet l)
    show (insU x (sortedSet l)).length ≤ l.length + 1
    omega
/-! ### parts -/
structure MsOk (ms : Ms) : Prop where
  each : ∀ m ∈ ms, m.1.natAbs ≤ 20 ∧ 1 ≤ m.2 ∧ m.2 ≤ 20
  asc : (ms.map (·.1)).Pairwise (· < ·)
  len : ms.length ≤ 6
theorem zeroW : MsOk [(0, 1)] := ⟨by decide, by decide, by decide⟩
def SsTo : Int → Ss → Int → Prop
  | a, [], z => a ≤ z
  | a, s :: l, z => a ≤ s.1 ∧ s.1 < s.2.1 ∧ 1 ≤ s.2.2 ∧ s.2.2 ≤ 20 ∧ SsTo s.2.1 l z
theorem SsTo.le : ∀ {l : Ss} {a z : Int}, SsTo a l z → a ≤ z
  | [], _, _, h => h
  | s :: l, a, z, h => by
    have := SsTo.le h.2.2.2.2
    have := h.1
    have := h.2.1
    omega
theorem SsTo.up : ∀ {l : Ss} {a z z' : Int}, SsTo a l z → z ≤ z' → SsTo a l z'
  | [], _, _, _, h, k => Int.le_trans h k
  | s :: l, _, _, _, ⟨a, b, c, d, e⟩, k => ⟨a, b, c, d, SsTo.up e k⟩
theorem SsTo.low : ∀ {l : Ss} {a a' z : Int}, SsTo a l z → a' ≤ a → SsTo a' l z
  | [], _, _, _, h, k => Int.le_trans k h
  | s :: l, _, _, _, ⟨a, b, c, d, e⟩, k => ⟨Int.le_trans k a, b, c, d, e⟩
theorem SsTo.app {lo hi h : Int} : ∀ {l : Ss} {a y : Int}, SsTo a l y → y ≤ lo → lo < hi → 1 ≤ h → h ≤ 20 → SsTo a (l ++ [(lo, hi, h)]) hi
  | [], a, y, h1, h2, h3, h4, h5 => ⟨Int.le_trans h1 h2, h3, h4, h5, Int.le_refl _⟩
  | s :: l, a, y, ⟨a1, b, c, d, e⟩, h2, h3, h4, h5 => ⟨a1, b, c, d, SsTo.app e h2 h3 h4 h5⟩
theorem SsTo.each : ∀ {l : Ss} {a z : Int}, SsTo a l z → -20 ≤ a → z ≤ 20 → ∀ s ∈ l, s.1.natAbs ≤ 20 ∧ s.2.1.natAbs ≤ 20 ∧ 1 ≤ s.2.2 ∧ s.2.2 ≤ 20 ∧ s.1 < s.2.1
  | [], _, _, _, _, _, _, h => by cases h
  | t :: l, a, z, ⟨a1, b, c, d, e⟩, ha, hz, s, h => by
    have := SsTo.le e
    rcases List.mem_cons.mp h with rfl | h
    · omega
    · exact SsTo.each e (by omega) hz s h
theorem is_place_ok {n : Int} (h : n.natAbs ≤ 20) : is_place n = .ok true := by
  unfold is_place
  rw [whole_ok (by omega) (by omega)]
  rfl
theorem is_mass_ok {n : Int} (h : 1 ≤ n) (h2 : n ≤ 20) : is_mass n = .ok true := by
  unfold is_mass
  rw [whole_ok h h2]
  rfl
theorem check_masses_ok {ms : Ms} (g : MsOk ms) : check_masses ms = .ok () := by
  unfold check_masses
  rw [enumL_eq]
  have k : ∀ (l : Ms) (k a : Int), 0 ≤ k → k + l.length ≤ 6 → (∀ m ∈ l, m.1.natAbs ≤ 20 ∧ 1 ≤ m.2 ∧ m.2 ≤ 20) → (l.map (·.1)).Pairwise (· < ·) → (∀ m ∈ l, a < m.1) →
      ∃ r, foldM (fun (b5 : Int) (x6 : (Int × (Int × Int))) => (cond (decide (x6.1 = (6 : Int))) (Mm.ok true) ((is_place (x6.2.1)).bd fun b42 => (cond (!b42) (Mm.ok true) ((is_mass (x6.2.2)).bd fun b53 => Mm.ok ((!b53) || (decide (x6.2.1 ≤ b5))))).bd fun b49 => Mm.ok b49)).bd fun b38 => cond b38 (Mm.bad) (Mm.ok x6.2.1)) a (numL k l) = .ok r := by
    intro l
    induction l with
    | nil => intro k a _ _ _ _ _; exact ⟨a, rfl⟩
    | cons m l ih =>
      intro k a h0 h1 h2 h3 h4
      obtain ⟨q1, q2⟩ := List.pairwise_cons.mp (show (m.1 :: l.map (·.1)).Pairwise (· < ·) from h3)
      obtain ⟨r, hr⟩ := ih (k + 1) m.1 (by omega) (by rw [List.length_cons] at h1; omega) (fun x hx => h2 x (List.mem_cons_of_mem _ hx)) q2 (fun x hx => q1 x.1 (List.mem_map_of_mem hx))
      refine ⟨r, ?_⟩
      have hm := h2 m (List.mem_cons_self ..)
      have ha := h4 m (List.mem_cons_self ..)
      unfold numL foldM
      rw [show decide ((k, m).1 = 6) = false from decide_eq_false (by show ¬ k = 6; rw [List.length_cons] at h1; omega)]
      simp only [bdo, cond_false, cond_true, Bool.not_true, Bool.false_or, is_place_ok hm.1, is_mass_ok hm.2.1 hm.2.2, decide_eq_false (show ¬ m.1 ≤ a by omega)]
      exact hr
  obtain ⟨r, hr⟩ := k ms 0 (-20 - 1) (by decide) (by have := g.len; omega) g.each g.asc (fun m hm => by have := g.each m hm; omega)
  rw [hr]
  rfl
theorem check_stretches_ok {ss : Ss} {z : Int} (g : SsTo (-20) ss z) (hz : z ≤ 20) (hl : ss.length ≤ 4) : check_stretches ss = .ok () := by
  unfold check_stretches
  rw [enumL_eq]
  have k : ∀ (l : Ss) (k a : Int), 0 ≤ k → k + l.length ≤ 4 → -20 ≤ a → SsTo a l z →
      ∃ r, foldM (fun (b5 : Int) (x6 : (Int × (Int × Int × Int))) => (cond (decide (x6.1 = (4 : Int))) (Mm.ok true) ((is_place (x6.2.1)).bd fun b45 => (cond (!b45) (Mm.ok true) ((is_place (x6.2.2.1)).bd fun b56 => (cond (!b56) (Mm.ok true) ((is_mass (x6.2.2.2)).bd fun b67 => Mm.ok (!b67))).bd fun b63 => Mm.ok b63)).bd fun b52 => Mm.ok b52)).bd fun b41 => cond b41 (Mm.bad) (cond ((decide (x6.2.1 < b5)) || (decide (x6.2.2.1 ≤ x6.2.1))) (Mm.bad) (Mm.ok x6.2.2.1))) a (numL k l) = .ok r := by
    intro l
    induction l with
    | nil => intro k a _ _ _ _; exact ⟨a, rfl⟩
    | cons m l ih =>
      intro k a h0 h1 h2 h3
      obtain ⟨q1, q2, q3, q4, q5⟩ := h3
      have q6 := q5.le
      obtain ⟨r, hr⟩ := ih (k + 1) m.2.1 (by omega) (by rw [List.length_cons] at h1; omega) (by omega) q5
      refine ⟨r, ?_⟩
      unfold numL foldM
      rw [show decide ((k, m).1 = 4) = false from decide_eq_false (by show ¬ k = 4; rw [List.length_cons] at h1; omega)]
      simp only [bdo, cond_false, cond_true, Bool.not_true, Bool.false_or, is_place_ok (show m.1.natAbs ≤ 20 by omega), is_place_ok (show m.2.1.natAbs ≤ 20 by omega), is_mass_ok q3 q4, decide_eq_false (show ¬ m.1 < a by omega), decide_eq_false (show ¬ m.2.1 ≤ m.1 by omega)]
      exact hr
  obtain ⟨r, hr⟩ := k ss 0 (-20) (by decide) (by omega) (by decide) g
  rw [hr]
  rfl
structure WOk (w : Wt) : Prop where
  ms : MsOk w.1
  ss : SsTo (-20) w.2 20
  ls : w.2.length ≤ 4
  ne : w.1 ≠ [] ∨ w.2 ≠ []
theorem WOk.good {w : Wt} (h : WOk w) : Good w := ⟨h.ms.each, h.ss.each (by decide) (by decide), h.ms.len, h.ls, h.ne⟩
theorem map_id3 (l : Ss) : l.map (fun x => (x.1, x.2.1, x.2.2)) = l := by
  conv => rhs; rw [← List.map_id l]
  rfl
theorem map_id2 (l : Ms) : l.map (fun x => (x.1, x.2)) = l := by
  conv => rhs; rw [← List.map_id l]
  rfl
theorem init_ok {w : Wt} (h : WOk w) : Weighting_init w.1 w.2 = .ok w := by
  have hm := h.ms.len
  have hs := h.ls
  unfold Weighting_init
  rw [check_masses_ok h.ms]
  show (check_stretches w.2).bd _ = _
  rw [check_stretches_ok h.ss (by decide) h.ls]
  have e : cond (decide ((w.1.length : Int) = 0)) (Mm.ok (decide ((w.2.length : Int) = 0))) (Mm.ok false) = Mm.ok false := by
    by_cases q : (w.1.length : Int) = 0
    · rw [decide_eq_true q]
      rcases h.ne with n | n
      · exact absurd (List.length_eq_zero_iff.mp (by omega)) n
      · rw [decide_eq_false (show ¬ (w.2.length : Int) = 0 from fun z => n (List.length_eq_zero_iff.mp (by omega)))]
        rfl
    · rw [decide_eq_false q]
      rfl
  show Mm.bd (cond (decide ((w.1.length : Int) = 0)) (Mm.ok (decide ((w.2.length : Int) = 0))) (Mm.ok false)) _ = _
  rw [e]
  show (guardM _).bd _ = _
  rw [bd_guard (by omega), mapMm_eq (f := fun (x28 : Int × Int) => Mm.ok (x28.1, x28.2)) (g := fun x => (x.1, x.2)) _ fun x hx => rfl, map_id2]
  show (guardM _).bd _ = _
  rw [bd_guard (by omega), mapMm_eq (f := fun (x75 : Int × Int × Int) => Mm.ok (x75.1, x75.2.1, x75.2.2)) (g := fun x => (x.1, x.2.1, x.2.2)) _ fun x hx => rfl, map_id3]
  rfl
/-! ### what the law draws -/
theorem law_masses_ok {scr : List Int} {st : Rw} {most far : Int} {N : Nat} (r : Rk N st) (h0 : 0 ≤ most) (h1 : most ≤ 6) (f0 : 0 ≤ far) (f1 : far ≤ 20) (hN : N < 9000) : Yes (law_masses scr st most far) fun r => MsOk r.1 ∧ Rk (N + 30) r.2 := by
  unfold law_masses
  refine (taken_ok r (by omega) (by omega) (by omega)).bd fun b hb => ?_
  obtain ⟨⟨b0, b1⟩, rb⟩ := hb
  rw [range_ok (by omega) (by omega)]
  refine .guard (by rw [rangeL_len]; omega) ?_
  refine (yes_mapS (fun s n => ∃ k, Rk k s ∧ k + n ≤ N + 7) (fun _ y => y.natAbs ≤ 20) _ _ ⟨N + 1, rb, by rw [rangeL_len]; omega⟩ fun s x n hx hs => ?_).bd fun c hc => ?_
  · obtain ⟨k, rk, hk⟩ := hs
    refine .eq (mul_ok (a := 2) (b := 5) (by decide) (by omega) (by decide)) ?_
    refine (taken_ok rk (by omega) (by omega) (by omega)).bd fun d hd => ?_
    exact .ok ⟨by show (d.1 - far).natAbs ≤ 20; omega, k + 1, hd.2, by omega⟩
  · obtain ⟨hc, k, rk, hk⟩ := hc
    have l1 := hc.len
    rw [rangeL_len] at l1
    have l2 := sortedSet_len c.1
    have hp := hc.right fun x y h => h
    refine .guard (by omega) (.guard (by omega) ?_)
    refine (yes_mapS (fun s n => ∃ k, Rk k s ∧ k + 3 * n ≤ N + 30) (fun (x : Int) (y : Int × Int) => y.1 = x ∧ 1 ≤ y.2 ∧ y.2 ≤ 20) (sortedSet c.1) c.2 ⟨k, rk, by omega⟩ fun s x n hx hs => ?_).bd fun d hd => ?_
    · obtain ⟨k, rk, hk⟩ := hs
      refine (taken_ok rk (by decide) (by decide) (by omega)).bd fun e he => ?_
      refine (taken_ok he.2 (by decide) (by decide) (by omega)).bd fun f hf => ?_
      refine (pick_ok hf.2 (by simp) (by simp) (by omega)).bd fun g hg => ?_
      refine .ok ⟨⟨rfl, ?_⟩, k + 3, hg.2, by omega⟩
      have m := hg.1
      simp only [List.mem_cons, List.not_mem_nil, or_false] at m
      show 1 ≤ 1 + g.1 ∧ 1 + g.1 ≤ 20
      omega
    · obtain ⟨hd, k2, rk2, hk2⟩ := hd
      have l3 := hd.len
      have hf := hd.fst (g := (·.1)) fun x y h => h.1
      refine .ok ⟨⟨fun m hm => ⟨?_, hd.right (fun x y h => h.2) m hm⟩, by rw [hf]; exact asc_sortedSet _, by show d.1.length ≤ 6; omega⟩, rk2.1, rk2.2.1, rk2.2.2.1, by have := rk2.2.2.2; show d.2.pos ≤ _; omega⟩
      have : m.1 ∈ sortedSet c.1 := by
        rw [← hf]
        exact List.mem_map_of_mem hm
      exact hp _ ((mem_sortedSet _ _).mp this)
theorem law_stretches_ok {scr : List Int} {st : Rw} {far : Int} {N : Nat} (r : Rk N st) (f0 : 1 ≤ far) (f1 : far ≤ 20) (hN : N < 9000) : Yes (law_stretches scr st 3 far) fun r => (SsTo (-20) r.1 20 ∧ r.1.length ≤ 3) ∧ Rk (N + 10) r.2 := by
  unfold law_stretches
  refine (taken_ok r (by omega) (by omega) (by omega)).bd fun b hb => ?_
  obtain ⟨⟨b0, b1⟩, rb⟩ := hb
  rw [range_ok (by omega) (by omega)]
  refine (yes_fold (fun (s : Int × Ss × Rw) (l : List Int) => s.2.1.length + l.length ≤ 3 ∧ (∃ y, y ≤ s.1 ∧ y ≤ far ∧ SsTo (-far) s.2.1 y) ∧ ∃ k, Rk k s.2.2 ∧ k + 3 * l.length ≤ N + 10) _ _ ⟨by rw [rangeL_len]; show 0 + b.1.toNat ≤ 3; omega, ⟨-far, by show -far ≤ 0 - far; omega, by omega, Int.le_refl _⟩, N + 1, rb, by rw [rangeL_len]; omega⟩ fun s x l hs => ?_).bd fun c hc => ?_
  · obtain ⟨hl, ⟨y, y1, y2, hy⟩, k, rk, hk⟩ := hs
    rw [List.length_cons] at hl hk
    refine (taken_ok rk (by omega) (by omega) (by omega)).bd fun d hd => ?_
    refine (taken_ok hd.2 (by omega) (by omega) (by omega)).bd fun e he => ?_
    have d0 := hd.1.1
    have e0 := he.1.1
    by_cases q : s.1 + d.1 + 1 + e.1 ≤ far
    · rw [decide_eq_true q]
      refine (taken_ok he.2 (by omega) (by omega) (by omega)).bd fun f hf => ?_
      refine .guard (by omega) (.ok ⟨?_, ⟨s.1 + d.1 + 1 + e.1, Int.le_refl _, q, ?_⟩, k + 3, hf.2, by omega⟩)
      · show (s.2.1 ++ [_]).length + l.length ≤ 3
        rw [List.length_append, List.length_singleton]
        omega
      · exact hy.app (by omega) (by omega) (by omega) (by omega)
    · rw [decide_eq_false q]
      refine .ok ⟨by show s.2.1.length + l.length ≤ 3; omega, ⟨y, by show y ≤ s.1 + d.1; omega, y2, hy⟩, k + 2, he.2, by omega⟩
  · obtain ⟨hl, ⟨y, y1, y2, hy⟩, k, rk, hk⟩ := hc
    refine .ok ⟨⟨(hy.low (by omega)).up (by omega), by simpa using hl⟩, rk.1, rk.2.1, rk.2.2.1, by have := rk.2.2.2; show c.2.2.pos ≤ _; omega⟩
theorem law_parts_ok {scr : List Int} : Yes (law_parts scr (Rw.mk 0 0 0)) fun r => (WOk r.1 ∧ r.1.2.length ≤ 3) ∧ Rk 60 r.2 := by
  unfold law_parts
  refine (pick_ok (N := 0) ⟨by decide, by decide, by decide, by decide⟩ (by decide) (by decide) (by decide)).bd fun a ha => ?_
  have m1 := ha.1
  simp only [List.mem_cons, List.not_mem_nil, or_false] at m1
  refine (pick_ok ha.2 (by decide) (by decide) (by decide)).bd fun b hb => ?_
  have m2 := hb.1
  simp only [List.mem_cons, List.not_mem_nil, or_false] at m2
  refine (law_masses_ok hb.2 (by omega) (by omega) (by omega) (by omega) (by decide)).bd fun c hc => ?_
  refine (law_stretches_ok hc.2 (by omega) (by omega) (by decide)).bd fun d hd => ?_
  have l1 := hc.1.len
  have l2 := hd.1.2
  refine .guard (by omega) ?_
  by_cases q : c.1 = [] ∧ d.1 = []
  · rw [q.1, q.2]
    refine .ok ⟨⟨⟨zeroW, ?_, Nat.zero_le 4, .inl (by simp)⟩, Nat.zero_le 3⟩, hd.2.1, hd.2.2.1, hd.2.2.2.1, by have := hd.2.2.2.2; show d.2.pos ≤ 60; omega⟩
    show (-20 : Int) ≤ 20
    decide
  · have e : (c.1.isEmpty && d.1.isEmpty) = false := by
      cases h1 : c.1 with
      | nil => cases h2 : d.1 with
        | nil => exact absurd ⟨h1, h2⟩ q
        | cons _ _ => rfl
      | cons _ _ => rfl
    rw [e]
    refine .ok ⟨⟨⟨hc.1, hd.1.1, by show d.1.length ≤ 4; omega, ?_⟩, hd.1.2⟩, hd.2.1, hd.2.2.1, hd.2.2.2.1, by have := hd.2.2.2.2; show d.2.pos ≤ 60; omega⟩
    by_cases z : c.1 = []
    · exact .inr fun z2 => q ⟨z, z2⟩
    · exact .inl z
end L

set_option Elab.async false
set_option linter.all false
set_option maxRecDepth 100000
set_option maxHeartbeats 2000000
set_option exponentiation.threshold 100
namespace L
open PySem L2 Evl Wk
def sS (k : Nat) (l : Ss) : Int := (l.map (sI k)).sum
theorem sS_app (k : Nat) (l r : Ss) : sS k (l ++ r) = sS k l + sS k r := by
  unfold sS
  rw [List.map_append, List.sum_append]
theorem sS_cons (k : Nat) (s : Int × Int × Int) (r : Ss) : sS k (s :: r) = sI k s + sS k r := by
  unfold sS
  rw [List.map_cons, List.sum_cons]
theorem sS_nil (k : Nat) : sS k [] = 0 := rfl
theorem sI_cut (k : Nat) (a b c h : Int) : sI k (a, b, h) + sI k (b, c, h) = sI k (a, c, h) := by
  unfold sI
  grind
theorem PS_eq {w w' : Wt} (h : w.1 = w'.1) (h2 : ∀ k, sS k w.2 = sS k w'.2) (k : Nat) : PS w k = PS w' k := by
  unfold PS
  have := h2 k
  unfold sS at this
  rw [h, this]
theorem guard_eq {c : Prop} [Decidable c] {β : Type} {f : Unit → Mm β} (h : c) : (guardM c).bd f = f () := bd_guard h
theorem law_true (scr : List Int) (hl : scr.length ≤ 63) : law scr = .ok true := by
  suffices h : Yes (law scr) fun b => b = true by
    obtain ⟨b, e, rfl⟩ := h
    exact e
  unfold law
  refine law_parts_ok.bd fun w hw => ?_
  obtain ⟨⟨ok, l3⟩, rk⟩ := hw
  have g := ok.good
  refine .eq (a := w.1) (by unfold law_weighting; rw [init_ok ok]; rfl) ?_
  refine (pick_ok rk (by decide) (by decide) (by decide)).bd fun c hc => ?_
  have m := hc.1
  simp only [List.mem_cons, List.not_mem_nil, or_false] at m
  refine .eq (power_sums_ok g (by omega) (by omega)) ?_
  rw [range_ok (by omega) (by omega)]
  refine .guard (by rw [rangeL_len]; omega) ?_
  refine .eq (mapMm_eq (g := fun i => fr (PS w.1 i.toNat)) _ fun x hx => ?_) ?_
  · obtain ⟨i, hi, rfl⟩ := List.mem_map.mp hx
    have := List.mem_range.mp hi
    rw [law_sum_ok g (by omega) (by omega)]
    rfl
  rw [decide_eq_true rfl]
  refine (taken_ok hc.2 (by decide) (by decide) (by decide)).bd fun d hd => ?_
  refine .eq (power_sum_ok g hd.1.1 (by omega)) (.eq (law_sum_ok g hd.1.1 (by omega)) ?_)
  rw [decide_eq_true rfl]
  refine (taken_ok hd.2 (by decide) (by decide) (by decide)).bd fun e he => ?_
  rw [range_ok (by omega) (by omega)]
  refine .guard (by rw [rangeL_len]; omega) ?_
  refine (yes_mapS (fun s n => ∃ k, Rk k s ∧ k + n ≤ 100) (fun _ y => y.natAbs ≤ 10) _ _ ⟨63, he.2, by rw [rangeL_len]; omega⟩ fun s x n hx hs => ?_).bd fun f hf => ?_
  · obtain ⟨k, rk, hk⟩ := hs
    refine (taken_ok rk (by decide) (by decide) (by omega)).bd fun d hd => ?_
    exact .ok ⟨by show (d.1 - 10).natAbs ≤ 10; omega, k + 1, hd.2, by omega⟩
  obtain ⟨hf, k0, rk0, hk0⟩ := hf
  have fl := hf.len
  rw [rangeL_len] at fl
  have fe := hf.right fun x y h => h
  have fl13 : f.1.length ≤ 13 := by omega
  refine .guard (by omega) ?_
  refine .eq (mapMm_eq (g := fun x => (x, (1 : Int))) _ fun x hx => rfl) ?_
  refine .eq (law_total_ok g fl13 fe) ?_
  obtain ⟨t1, t2⟩ := total_ok g fl13 fe
  refine .eq t1 ?_
  rw [decide_eq_true rfl]
  refine .eq (mean_ok g fl13 fe) (.eq (law_sum_ok g (by decide) (by decide)) ?_)
  refine .eq (law_over_ok t2 (sq_PS g (by decide)) (PS0_pos g) (by decide)) ?_
  rw [show (0 : Int).toNat = 0 from rfl, decide_eq_true rfl]
  refine (yes_fold (fun (s : Bool × Ss × Rw) (l : Ss) => (∃ y, SsTo (-20) s.2.1 y ∧ SsTo y l 20) ∧ (∀ k, sS k s.2.1 + sS k l = sS k w.1.2) ∧ s.2.1.length + l.length ≤ w.1.2.length + cond s.1 1 0 ∧ w.1.2.length ≤ s.2.1.length + l.length ∧ ∃ k, Rk k s.2.2 ∧ k + l.length ≤ 200) w.1.2 (false, [], f.2) ⟨⟨-20, Int.le_refl _, ok.ss⟩, fun k => by rw [sS_nil, Int.zero_add], by show 0 + w.1.2.length ≤ w.1.2.length + 0; omega, by show w.1.2.length ≤ 0 + w.1.2.length; omega, k0, rk0, by omega⟩ fun s x l hs => ?_).bd fun z hz => ?_
  · obtain ⟨⟨y, h1, h2⟩, h3, h4, h5, k, rk, hk⟩ := hs
    obtain ⟨q1, q2, q3, q4, q5⟩ := h2
    rw [List.length_cons] at h4 h5 hk
    have same : Yes ((guardM (s.2.1.length < 100000)).bd fun _ => Mm.ok (s.1, (s.2.1 ++ [(x.1, x.2.1, x.2.2)]), s.2.2)) fun s' => (∃ y, SsTo (-20) s'.2.1 y ∧ SsTo y l 20) ∧ (∀ k, sS k s'.2.1 + sS k l = sS k w.1.2) ∧ s'.2.1.length + l.length ≤ w.1.2.length + cond s'.1 1 0 ∧ w.1.2.length ≤ s'.2.1.length + l.length ∧ ∃ k, Rk k s'.2.2 ∧ k + l.length ≤ 200 := by
      have c1 : cond s.1 1 0 ≤ 1 := by cases s.1 <;> decide
      refine .guard (by omega) (.ok ⟨⟨x.2.1, h1.app q1 q2 q3 q4, q5⟩, fun k => ?_, ?_, ?_, k, rk, by omega⟩)
      · have := h3 k
        show sS k (s.2.1 ++ [x]) + sS k l = _
        rw [sS_app, sS_cons, sS_nil]
        rw [sS_cons] at this
        omega
      · show (s.2.1 ++ [_]).length + l.length ≤ _
        rw [List.length_append, List.length_singleton]
        show _ ≤ w.1.2.length + cond s.1 1 0
        omega
      · show _ ≤ (s.2.1 ++ [_]).length + l.length
        rw [List.length_append, List.length_singleton]
        omega
    have cut : x.2.1 - x.1 > 1 → s.1 = false → Yes ((takenA scr s.2.2 (((x.2.1 - x.1) - (1 : Int)))).bd fun b258 => (guardM (s.2.1.length + [(x.1, ((x.1 + (1 : Int)) + b258.1), x.2.2), (((x.1 + (1 : Int)) + b258.1), x.2.1, x.2.2)].length ≤ 100000)).bd fun _ => Mm.ok (true, (s.2.1 ++ [(x.1, ((x.1 + (1 : Int)) + b258.1), x.2.2), (((x.1 + (1 : Int)) + b258.1), x.2.1, x.2.2)]), b258.2)) fun s' => (∃ y, SsTo (-20) s'.2.1 y ∧ SsTo y l 20) ∧ (∀ k, sS k s'.2.1 + sS k l = sS k w.1.2) ∧ s'.2.1.length + l.length ≤ w.1.2.length + cond s'.1 1 0 ∧ w.1.2.length ≤ s'.2.1.length + l.length ∧ ∃ k, Rk k s'.2.2 ∧ k + l.length ≤ 200 := by
      intro a b
      have q6 := q5.le
      have q7 := h1.le
      rw [b] at h4
      simp only [cond_false] at h4
      refine (taken_ok rk (by omega) (by omega) (by omega)).bd fun d hd => ?_
      refine .guard (by simp only [List.length_cons, List.length_nil]; omega) (.ok ⟨⟨x.2.1, ?_, q5⟩, fun k => ?_, ?_, ?_, k + 1, hd.2, by omega⟩)
      · have e : s.2.1 ++ [(x.1, x.1 + 1 + d.1, x.2.2), (x.1 + 1 + d.1, x.2.1, x.2.2)] = (s.2.1 ++ [(x.1, x.1 + 1 + d.1, x.2.2)]) ++ [(x.1 + 1 + d.1, x.2.1, x.2.2)] := by simp
        show SsTo (-20) (s.2.1 ++ [(x.1, x.1 + 1 + d.1, x.2.2), (x.1 + 1 + d.1, x.2.1, x.2.2)]) x.2.1
        rw [e]
        exact (h1.app q1 (by omega) q3 q4).app (Int.le_refl _) (by omega) q3 q4
      · have := h3 k
        show sS k (s.2.1 ++ [(x.1, x.1 + 1 + d.1, x.2.2), (x.1 + 1 + d.1, x.2.1, x.2.2)]) + sS k l = _
        have c := sI_cut k x.1 (x.1 + 1 + d.1) x.2.1 x.2.2
        have c2 : sI k (x.1, x.2.1, x.2.2) = sI k x := rfl
        rw [sS_app, sS_cons, sS_cons, sS_nil]
        rw [sS_cons] at this
        omega
      · show (s.2.1 ++ [_, _]).length + l.length ≤ w.1.2.length + 1
        rw [List.length_append, List.length_cons, List.length_singleton]
        omega
      · show _ ≤ (s.2.1 ++ [_, _]).length + l.length
        rw [List.length_append, List.length_cons, List.length_singleton]
        omega
    by_cases a : x.2.1 - x.1 > 1
    · rw [decide_eq_true a]
      cases b : s.1 with
      | true =>
        rw [b] at same
        exact same
      | false =>
        by_cases c : (w.1.2.length : Int) < 4
        · simp only [cond_true, Bool.not_false, bdo]
          rw [decide_eq_true c]
          exact cut a b
        · rw [b] at same
          simp only [cond_true, Bool.not_false, bdo]
          rw [decide_eq_false c]
          exact same
    · rw [decide_eq_false a]
      exact same
  · obtain ⟨⟨y, h1, h2⟩, h3, h4, h5, k, rk, hk⟩ := hz
    have c1 : cond z.1 1 0 ≤ 1 := by cases z.1 <;> decide
    have l4 : z.2.1.length ≤ 4 := by simp only [List.length_nil] at h4; omega
    have ok' : WOk (w.1.1, z.2.1) := ⟨ok.ms, h1.up h2, l4, by
      rcases ok.ne with h | h
      · exact .inl h
      · refine .inr fun e => h (List.length_eq_zero_iff.mp ?_)
        have e' : z.2.1 = [] := e
        rw [e'] at h5
        simp only [List.length_nil] at h5
        omega⟩
    have g' := ok'.good
    refine .eq (init_ok ok') (.eq (power_sums_ok g' (by decide) (by decide)) (.eq (power_sums_ok g (by decide) (by decide)) ?_))
    have e : (fun i : Int => fr (PS (w.1.1, z.2.1) i.toNat)) = fun i => fr (PS w.1 i.toNat) := by
      funext i
      rw [PS_eq (w := (w.1.1, z.2.1)) (w' := w.1) rfl fun k => by have := h3 k; rw [sS_nil] at this; show sS k z.2.1 = _; omega]
    rw [e, decide_eq_true rfl]
    simp only [cond_true]
    refine .eq (total_ok g (l := []) (by decide) (by intro c h; cases h)).1 (.ok ?_)
    rw [show TS w.1 [] = 0 from rfl, fr_zero]
    exact decide_eq_true rfl
end L

theorem PySem.Challenge.cw_fewreadings_k03_whole_sums_by_own_adding_holds : PySem.Challenge.rw_fewreadings_k03_whole_sums_by_own_adding.Holds := by
  exact L.of_law L.law_true
